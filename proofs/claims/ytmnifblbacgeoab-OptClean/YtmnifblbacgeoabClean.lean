import Derived.Test.YtmnifblbacgeoabRows
import Derived.Test.YtmnifblbacgeoabPR
import Derived.ProofKit
import Derived.OpenShut
import Derived.ShutString
import Derived.ChangeOld
import Derived.Below
import Derived.Deep.Slices
import Derived.Deep.Grids
namespace Go.Proofs.Ytmnifblbacgeoab
open Go.ChangeShapes Go.WideShapes Go.ChangeAt Go.RowKit Go.Deep
set_option linter.unusedVariables false
set_option maxRecDepth 100000
theorem cown : ownKnob Try.prog.godebug = none := by kernel_rfl
theorem claidOut : laidOutB Try.prog = true := by kernel_rfl
theorem ccellsB : Try.prog.cellsOf 25 = 4 := by kernel_rfl
theorem ccellsS : Try.prog.cellsOf 23 = 1 := by kernel_rfl
theorem ccellsO : Try.prog.cellsOf 67 = 7 := by kernel_rfl
theorem ccellsU : Try.prog.cellsOf 22 = 1 := by kernel_rfl
theorem ccellsI : Try.prog.cellsOf 3 = 1 := by kernel_rfl
theorem cbytesO : Try.prog.bytesOf 67 = 56 := by kernel_rfl
theorem lt_cell {w : World} {a : Addr} {v : Value} (h : w.cell? a = some v) : a.block < w.heap.size := World.block_lt_of_cell? w a h
/-- An operation that came in. -/
theorem op_cs {H : Type} {enc : TypeId × Value → H} {W : World} {fuel : Nat} {cs : List Value} {y : DataW H × List MemPlace}
    (hf : DataW.trod enc Try.prog W 0 (fun _ => true) true fuel 67 cs = some y) : ∃ o : OpR, cs = (opA o).toList ∧ o.k < 4294967296 := by
  obtain ⟨xs, n, _, hx, hl, hlen, hfs⟩ := DataW.trod_struct Try.underlying67 hf
  rw [ccellsO] at hl
  match cs, hl with
  | [v0, v1, v2, v3, v4, v5, v6], _ =>
    match xs, hlen with
    | [y0, y1, y2, y3, y4, y5, y6], _ =>
      have f0 := hfs 0 _ rfl
      have f1 := hfs 1 _ rfl
      have f2 := hfs 2 _ rfl
      have f3 := hfs 3 _ rfl
      have f4 := hfs 4 _ rfl
      have f5 := hfs 5 _ rfl
      have f6 := hfs 6 _ rfl
      simp [ccellsI, ccellsU] at f0 f1 f2 f3 f4 f5 f6
      obtain ⟨a0, e0, -, w0⟩ := DataW.trod_int Try.underlying3 f0
      obtain ⟨a1, e1, -, w1⟩ := DataW.trod_int Try.underlying3 f1
      obtain ⟨a2, e2, -, w2⟩ := DataW.trod_int Try.underlying3 f2
      obtain ⟨a3, e3, -, w3⟩ := DataW.trod_int Try.underlying3 f3
      obtain ⟨a4, e4, -, w4⟩ := DataW.trod_int Try.underlying3 f4
      obtain ⟨a5, e5, -, w5⟩ := DataW.trod_int Try.underlying22 f5
      obtain ⟨a6, e6, -, w6⟩ := DataW.trod_int Try.underlying3 f6
      simp only [List.cons.injEq, and_true] at e0 e1 e2 e3 e4 e5 e6
      subst e0 e1 e2 e3 e4 e5 e6
      have b5 := bounds_u32 w5
      obtain ⟨k, rfl⟩ : ∃ n : Nat, a5 = n := ⟨a5.toNat, by omega⟩
      exact ⟨⟨a0, a1, a2, a3, a4, k, a6⟩, rfl, by show k < 4294967296; omega⟩
/-- The operations that came in. -/
theorem open_ops {H : Type} {enc : TypeId × Value → H} {W : World} {fuel : Nat} {v : Value} {y : DataW H × List MemPlace}
    (hf : DataW.trod enc Try.prog W 0 (fun _ => true) true fuel 23 [v] = some y) (hsz : ∀ n ∈ y.1.weights Try.prog 23, n ≤ reachBytes) :
    ∃ (bp : Option Addr) (n cap : Nat) (f : Nat → OpR), v = .slice bp n cap ∧ OpsR W bp n f ∧ n * 56 ≤ 140737488355328 ∧ n ≤ cap ∧ ∀ v, v < n → (f v).k < 4294967296 := by
  rcases open_slice Try.underlying23 hf with ⟨hcs, _⟩ | ⟨a, len, cap, m, n, D, Pl, hcs, _, hl, hm, hmm, hx, hel⟩
  · simp only [List.cons.injEq, and_true] at hcs
    exact ⟨none, 0, 0, fun _ => ⟨0, 0, 0, 0, 0, 0, 0⟩, hcs, fun h => by omega, by omega, Nat.le_refl _, fun v h => by omega⟩
  · simp only [List.cons.injEq, and_true] at hcs
    subst hcs
    simp only [if_true] at hmm
    subst hmm
    rw [ccellsO] at hel
    have hw0 : ∀ k ∈ DataW.weights Try.prog 23 y.1, k ≤ reachBytes := hsz
    rw [hx] at hw0
    simp only [DataW.weights, Try.underlying23] at hw0
    have hr : reachBytes = 140737488351232 := by decide
    have hlen : len * 56 ≤ 140737488355328 := by
      have := hw0 _ List.mem_cons_self
      simp only [List.length_map, List.length_range, cbytesO] at this
      omega
    have hex : ∀ i, ∃ o : OpR, i < len → (∀ (b off : Nat), a = ⟨b, off, none⟩ → OpAt W b (off + i * 7) o) ∧ o.k < 4294967296 := fun i => by
      by_cases hi : i < len
      · obtain ⟨cs', h1, h2⟩ := hel i (by omega)
        obtain ⟨-, -, hc6⟩ := World.cells?_some h1
        obtain ⟨o, rfl, hk⟩ := op_cs h2
        refine ⟨o, fun _ => ⟨fun b off hab => ?_, hk⟩⟩
        subst hab
        have hc : ∀ r, r < 7 → W.cell? ⟨b, off + i * 7 + r, none⟩ = (opA o).toList[r]? := fun r hr => by
          have := hc6 r hr
          rw [Addr.add_mid, Addr.add_mid] at this
          exact this
        exact ⟨(hc 0 (by omega)).trans rfl, (hc 1 (by omega)).trans rfl, (hc 2 (by omega)).trans rfl, (hc 3 (by omega)).trans rfl, (hc 4 (by omega)).trans rfl, (hc 5 (by omega)).trans rfl, (hc 6 (by omega)).trans rfl⟩
      · exact ⟨⟨0, 0, 0, 0, 0, 0, 0⟩, fun h => absurd h hi⟩
    refine ⟨some a, len, m, fun i => (hex i).choose, rfl, fun h0 => ?_, hlen, hl, fun v hv => ((hex v).choose_spec hv).2⟩
    obtain ⟨b, off, spot⟩ := a
    have hspot : spot = none := by
      obtain ⟨cs', h1, -⟩ := hel 0 (by omega)
      obtain ⟨-, hl6, hc6⟩ := World.cells?_some h1
      have hc := hc6 0 (by omega)
      have : 0 < cs'.length := by omega
      rw [List.getElem?_eq_getElem this] at hc
      simpa [Addr.add] using World.cell?_spot hc
    subst hspot
    have hat : ∀ i, i < len → OpAt W b (off + i * 7) ((hex i).choose) := fun i hi => ((hex i).choose_spec hi).1 b off rfl
    exact ⟨b, off, rfl, lt_cell (hat 0 h0).c0, hat⟩
/-- A block that came in. -/
theorem open_bl {H : Type} {enc : TypeId × Value → H} {W : World} {r : Reach} {b0 : Nat} {v : Value} {d : DataW H} {p : List MemPlace}
    (hv : Value.okWide Try.prog W r b0 25 v) (h : DataW.Trod enc Try.prog W 0 (fun _ => true) true 25 v d p) (hsz : ∀ n ∈ d.weights Try.prog 25, n ≤ reachBytes) :
    ∃ (pc : Nat) (count bytes : Int) (bp : Option Addr) (n cap : Nat) (f : Nat → OpR), v = .agg #[.int .u32 pc, .int .i64 count, .int .i64 bytes, .slice bp n cap] ∧ OpsR W bp n f ∧ n * 56 ≤ 140737488355328 ∧ n ≤ cap ∧ (∀ v, v < n → (f v).k < 4294967296) ∧ pc < 4294967296 := by
  obtain ⟨cs, rfl, hsz2⟩ := okWide_struct Try.underlying25 hv
  obtain ⟨fuel, hf⟩ := h
  obtain ⟨xs, n, _, hx, hl, hlen, hfs⟩ := DataW.trod_struct Try.underlying25 hf
  rw [ccellsB] at hl
  have hcs : (Value.agg cs).cells.toList = cs.toList := by simp [Value.cells]
  rw [hcs] at hl hfs
  match cs, hl with
  | ⟨[v0, v1, v2, v3]⟩, _ =>
    match xs, hlen with
    | [y0, y1, y2, y3], _ =>
      have f0 := hfs 0 _ rfl
      have f1 := hfs 1 _ rfl
      have f2 := hfs 2 _ rfl
      have f3 := hfs 3 _ rfl
      simp [ccellsI, ccellsU, ccellsS] at f0 f1 f2 f3
      obtain ⟨a0, e0, -, w0⟩ := DataW.trod_int Try.underlying22 f0
      obtain ⟨a1, e1, -, w1⟩ := DataW.trod_int Try.underlying3 f1
      obtain ⟨a2, e2, -, w2⟩ := DataW.trod_int Try.underlying3 f2
      simp only [List.cons.injEq, and_true] at e0 e1 e2
      subst e0 e1 e2
      have b0 := bounds_u32 w0
      obtain ⟨k, rfl⟩ : ∃ n : Nat, a0 = n := ⟨a0.toNat, by omega⟩
      obtain ⟨bp, m, cap, f, rfl, hO, hby, hcap, hkk⟩ := open_ops f3 (fun q hq => hsz q (by
        have hx1 : d = _ := congrArg Prod.fst hx
        rw [hx1]
        simp only [DataW.weights, Try.underlying25]
        exact DataW.weights_mem_each (j := 3) (t := 23) (d := y3.1) rfl rfl q hq))
      exact ⟨k, a1, a2, bp, m, cap, f, rfl, hO, hby, hcap, hkk, by omega⟩
theorem clean_lifted (os : Os) (started : os.Started) (H : Type) (enc : TypeId × Value → H) :
    ReturnsInHanded {} Try.checked os 4 .any (Rows.optCleanSpec.pre6 enc Try.prog Try.f4 Rows.optCleanRow.domain false) (Rows.optCleanSpec.post enc Try.prog Try.f4 false true false false) := by
  refine returnsInHanded_of_change_sized (C := Try.checked) cown started (by kernel_rfl) Try.func4
    (ChangeSpec.witness6 (enc := enc) (C := Try.checked) false ⟨#[], #[.agg #[.int .u32 0, .int .i64 0, .int .i64 0, .slice none 0 0]], []⟩ 8 (by kernel_rfl) (by kernel_rfl) (by kernel_rfl) (by kernel_rfl)) ?_
  intro W base args ds gs before hval0 hW hcnd hsz0 _
  have hsz : (DataW.weightsEach Try.prog (Try.f4.params.toList ++ Rows.optCleanSpec.plain.varTypes Try.prog) (ds ++ gs)).all (· ≤ reachBytes) = true := hsz0
  clear hsz0
  have hval : ∀ (j : Nat) t v, Try.f4.params[j]? = some t → args[j]? = some v → Value.okWide Try.prog W .any base t v := hval0
  have hW' := hW
  obtain ⟨p, q, hA0, hV, rfl, hfz, hnd⟩ := hW
  have hA : DataW.TrodAll enc Try.prog W 0 (fun _ => true) true Try.f4.params.toList args.toList ds p := hA0
  rw [Try.params4] at hA hval hsz
  obtain ⟨v0, d0, rfl, rfl, h0⟩ := trodAll_one hA
  obtain ⟨rfl, rfl⟩ := trodVars_none hV
  have k0 := h0
  have lt0 : ∀ x ∈ p, x.block < W.heap.size := by obtain ⟨m, hm⟩ := k0; exact DataW.trod_lt m _ _ _ hm
  have hall : ∀ n ∈ DataW.weightsEach Try.prog ([25] ++ Rows.optCleanSpec.plain.varTypes Try.prog) ([d0] ++ []), n ≤ reachBytes := fun n hn => by
    have := List.all_eq_true.1 hsz n hn
    simpa using this
  obtain ⟨pc, count, bytes, bp, n, cap, f, rfl, hO, hby, hcap, hkk, hpc⟩ := open_bl (hval 0 25 v0 rfl rfl) h0 (fun n hn => hall n (DataW.weights_mem_each (j := 0) (t := 25) (d := d0) rfl rfl n hn))
  clear hA0 hval0
  refine (law_walk mu plain_holds pc count bytes bp n cap f W hO (by omega) hkk).mono fun e W' ⟨he, bel⟩ => ?_
  subst he
  exact ⟨_, rfl, _, _, _, [], _, [], hW', trodAll_mk1 (shut_bool Try.underlying4 _), trodAll_mk1 (Below.trod claidOut (by kernel_rfl) (of_decide_eq_true (by kernel_rfl)) k0 bel lt0), rfl, bel.frame _, fun h => by cases h⟩
theorem clean_holds : Rows.OptCleanSaid :=
  OpenClaim.holds_of_wide 4 Try.f4 rfl rfl rfl rfl rfl rfl rfl ⟨rfl, rfl, rfl, rfl, rfl⟩ rfl rfl rfl rfl rfl (by kernel_rfl) Try.func4 (by kernel_rfl)
    (of_decide_eq_true (by kernel_rfl)) (by unfold Func.isWrapper; first | (rw [if_pos (by decide +kernel)]; kernel_rfl) | (rw [if_neg (by decide +kernel)]; exact ⟨rfl, rfl⟩))
    (fun os started H enc _ => clean_lifted os started H enc)
#print axioms clean_holds
end Go.Proofs.Ytmnifblbacgeoab
