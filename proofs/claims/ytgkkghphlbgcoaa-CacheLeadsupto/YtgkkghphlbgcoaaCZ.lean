import Derived.Test.YtgkkghphlbgcoaaRows
import Derived.Test.YtgkkghphlbgcoaaLC
import Derived.ProofKit
import Derived.OpenShut
import Derived.ShutString
import Derived.ChangeOld
import Derived.Below
import Derived.Deep.Slices
import Derived.Deep.Grids
import Derived.JoinedCond
namespace Go.Proofs.Ytgkkghphlbgcoaa.Ca
open Go.ChangeShapes Go.WideShapes Go.ChangeAt Go.RowKit Go.Deep Ho
set_option linter.unusedVariables false
set_option maxRecDepth 100000
theorem own : ownKnob Try.prog.godebug = none := by kernel_rfl
theorem laidOut : laidOutB Try.prog = true := by kernel_rfl
theorem cellsS : Try.prog.cellsOf 34 = 5 := by kernel_rfl
theorem cellsI : Try.prog.cellsOf 3 = 1 := by kernel_rfl
theorem cellsU : Try.prog.cellsOf 30 = 1 := by kernel_rfl
theorem cellsSI : Try.prog.cellsOf 31 = 1 := by kernel_rfl
theorem cellsSU : Try.prog.cellsOf 32 = 1 := by kernel_rfl
theorem bulk_one {H : Type} (d : DataW H) : 1 ≤ Rows.uptoBulk d := by
  cases d with
  | lit l => cases l <;> simp [Rows.uptoBulk]
  | nil => simp [Rows.uptoBulk]
  | ptr d => simp [Rows.uptoBulk]
  | slice elems spare => simp [Rows.uptoBulk]
  | agg parts => simp [Rows.uptoBulk]
  | iface t d => simp [Rows.uptoBulk]
  | map entries => simp [Rows.uptoBulk]
  | held h => simp [Rows.uptoBulk]
theorem bulk_part {H : Type} {d : DataW H} {l : List (DataW H)} (h : d ∈ l) : Rows.uptoBulk d ≤ Rows.uptoBulkAll l := by
  induction l with
  | nil => cases h
  | cons x r ih =>
    simp only [Rows.uptoBulkAll]
    cases List.mem_cons.1 h with
    | inl e => subst e; omega
    | inr e => have := ih e; omega
theorem bulk_len {H : Type} (l : List (DataW H)) : l.length ≤ Rows.uptoBulkAll l := by
  induction l with
  | nil => simp [Rows.uptoBulkAll]
  | cons x r ih => have := bulk_one x; simp only [Rows.uptoBulkAll, List.length_cons]; omega
/-- Pages that came in. -/
theorem open_pages {H : Type} {enc : TypeId × Value → H} {W : World} {fuel : Nat} {v : Value} {y : DataW H × List MemPlace}
    (hf : DataW.trod enc Try.prog W 0 (fun _ => true) true fuel 31 [v] = some y) (hsz : Rows.uptoBulk y.1 ≤ 1048576) :
    ∃ (pa : Option Addr) (pn pcap : Nat) (pg : Nat → Int), v = .slice pa pn pcap ∧ Pg W pa pn pg := by
  rcases open_ints Try.underlying31 Try.underlying3 (by kernel_rfl) hf with ⟨hcs, _⟩ | ⟨x, l, c, zs, hcs, _, hl, hm, hz, hx, hcell, hwz⟩
  · simp only [List.cons.injEq, and_true] at hcs
    exact ⟨none, 0, 0, fun _ => 0, hcs, .inl rfl⟩
  · simp only [List.cons.injEq, and_true] at hcs
    simp only [if_true] at hz
    rw [hx] at hsz
    simp only [Rows.uptoBulk] at hsz
    have h1 := bulk_len (lits (H := H) .i64 (zs.take l))
    have hll : l ≤ 1048576 := by
      simp only [lits, List.length_map, List.length_take] at h1
      simp only [lits] at hsz
      omega
    by_cases h0 : l = 0
    · exact ⟨some x, l, c, fun i => zs.getD i 0, hcs, .inl h0⟩
    · obtain ⟨b, off, spot⟩ := x
      have hc := hcell 0 (by omega)
      have hspot : spot = none := by simpa [Addr.add] using World.cell?_spot hc
      subst hspot
      refine ⟨_, l, c, fun i => zs.getD i 0, hcs, .inr ⟨b, off, rfl, fun i hi => ?_, block_lt_of_cell (a := ⟨b, off, none⟩) (by simpa [Addr.add] using hc), by omega⟩⟩
      have := hcell i (by omega)
      rw [Addr.add_mid] at this
      exact this
/-- Code that came in. -/
theorem open_code {H : Type} {enc : TypeId × Value → H} {W : World} {fuel : Nat} {v : Value} {y : DataW H × List MemPlace}
    (hf : DataW.trod enc Try.prog W 0 (fun _ => true) true fuel 32 [v] = some y) (hsz : Rows.uptoBulk y.1 ≤ 1048576) :
    ∃ (a : Option Addr) (len cap : Nat) (cw : Nat → Nat), v = .slice a len cap ∧ Ho.Wds W a len cap cw ∧ (∀ i, cw i < 4294967296) ∧ len ≤ 1048576 := by
  rcases open_ints Try.underlying32 Try.underlying30 (by kernel_rfl) hf with ⟨hcs, _⟩ | ⟨x, l, c, zs, hcs, _, hl, hm, hz, hx, hcell, hwz⟩
  · simp only [List.cons.injEq, and_true] at hcs
    exact ⟨none, 0, 0, fun _ => 0, hcs, .inl rfl, fun _ => (by show (0 : Nat) < 4294967296; decide), by decide⟩
  · simp only [List.cons.injEq, and_true] at hcs
    simp only [if_true] at hz
    rw [hx] at hsz
    simp only [Rows.uptoBulk] at hsz
    have h1 := bulk_len (lits (H := H) .u32 (zs.take l))
    have hll : l ≤ 1048576 := by
      simp only [lits, List.length_map, List.length_take] at h1
      simp only [lits] at hsz
      omega
    have hb : ∀ i, 0 ≤ zs.getD i 0 ∧ zs.getD i 0 ≤ 4294967295 := fun i => by
      by_cases hi : i < zs.length
      · have hmem : zs.getD i 0 ∈ zs := by
          rw [List.getD_eq_getElem?_getD, List.getElem?_eq_getElem hi, Option.getD_some]; exact List.getElem_mem hi
        exact bounds_u32 (hwz _ hmem)
      · rw [List.getD_eq_getElem?_getD, List.getElem?_eq_none (by omega)]
        simp
    have hlt : ∀ i, (zs.getD i 0).toNat < 4294967296 := fun i => by have := hb i; omega
    by_cases h0 : l = 0
    · exact ⟨some x, l, c, fun i => (zs.getD i 0).toNat, hcs, .inl h0, hlt, hll⟩
    · obtain ⟨b, off, spot⟩ := x
      have hc := hcell 0 (by omega)
      have hspot : spot = none := by simpa [Addr.add] using World.cell?_spot hc
      subst hspot
      refine ⟨_, l, c, fun i => (zs.getD i 0).toNat, hcs, .inr ⟨b, off, rfl, by omega, by omega, fun i hi => ?_, hlt, block_lt_of_cell (a := ⟨b, off, none⟩) (by simpa [Addr.add] using hc)⟩, hlt, hll⟩
      have := hcell i (by omega)
      rw [Addr.add_mid] at this
      rw [this]
      have h2 := hb i
      show some (Value.int .u32 (zs.getD i 0)) = some (.int .u32 ((zs.getD i 0).toNat : Int))
      rw [Int.toNat_of_nonneg h2.1]
/-- A step that came in. -/
theorem open_step {H : Type} {enc : TypeId × Value → H} {W : World} {fuel : Nat} {cs : List Value} {y : DataW H × List MemPlace}
    (hf : DataW.trod enc Try.prog W 0 (fun _ => true) true fuel 34 cs = some y) (hsz : Rows.uptoBulk y.1 ≤ 1048576) {b o : Nat} (hc : ∀ i, i < 5 → W.cell? ⟨b, o + i, none⟩ = cs[i]?) : StR W b o := by
  obtain ⟨xs, n, _, hx, hl, hlen, hfs⟩ := DataW.trod_struct Try.underlying34 hf
  rw [cellsS] at hl
  match cs, hl with
  | [v0, v1, v2, v3, v4], _ =>
    match xs, hlen with
    | [y0, y1, y2, y3, y4], _ =>
      have f0 := hfs 0 _ rfl
      have f1 := hfs 1 _ rfl
      have f2 := hfs 2 _ rfl
      have f3 := hfs 3 _ rfl
      have f4 := hfs 4 _ rfl
      simp [cellsI, cellsU, cellsSI, cellsSU] at f0 f1 f2 f3 f4
      obtain ⟨kd, e0, -, w0⟩ := DataW.trod_int Try.underlying3 f0
      obtain ⟨pc0, e1, -, w1⟩ := DataW.trod_int Try.underlying30 f1
      obtain ⟨nn, e2, -, w2⟩ := DataW.trod_int Try.underlying3 f2
      simp only [List.cons.injEq, and_true] at e0 e1 e2
      subst e0 e1 e2
      rw [hx] at hsz
      simp [Rows.uptoBulk, Rows.uptoBulkAll] at hsz
      obtain ⟨pa, pn, pcap, pg, rfl, hpg⟩ := open_pages f3 (by omega)
      obtain ⟨a, len, cap, cw, rfl, hwd, hlt, hll⟩ := open_code f4 (by omega)
      have b1 := bounds_u32 w1
      obtain ⟨pc, rfl⟩ : ∃ k : Nat, pc0 = k := ⟨pc0.toNat, by omega⟩
      exact ⟨kd, pc, nn, pa, pn, pcap, pg, a, len, cap, cw, ⟨(hc 0 (by omega)).trans rfl, (hc 1 (by omega)).trans rfl, (hc 2 (by omega)).trans rfl, (hc 3 (by omega)).trans rfl, (hc 4 (by omega)).trans rfl⟩, by omega, w2, hpg, hwd, hlt, hll⟩
theorem open_script {H : Type} {enc : TypeId × Value → H} {W : World} {a0 : Option Addr} {len0 cap0 : Nat} {d0 : DataW H} {p0 : List MemPlace}
    (h0 : DataW.Trod enc Try.prog W 0 (fun _ => true) true 22 (.slice a0 len0 cap0) d0 p0) (hsz : Rows.uptoBulk d0 ≤ 1048576) : Sc W a0 len0 := by
  obtain ⟨fuel, hf⟩ := h0
  rcases open_slice Try.underlying22 hf with ⟨hcs, _⟩ | ⟨a, len, cap, m, n, D, Pl, hcs, _, hl, hm, hmm, hx, hel⟩
  · simp [Value.cells] at hcs
    obtain ⟨rfl, rfl, rfl⟩ := hcs
    exact ⟨by decide, .inl rfl⟩
  · simp [Value.cells] at hcs
    obtain ⟨rfl, rfl, rfl⟩ := hcs
    simp only [if_true] at hmm
    subst hmm
    rw [cellsS] at hel
    simp only [Prod.mk.injEq] at hx
    have hd0 := hx.1
    rw [hd0] at hsz
    simp only [Rows.uptoBulk] at hsz
    have hD : ∀ i, i < len0 → Rows.uptoBulk (D i) ≤ 1048576 := fun i hi => by
      have := bulk_part (d := D i) (l := (List.range len0).map D) (List.mem_map.2 ⟨i, List.mem_range.2 hi, rfl⟩)
      omega
    have hlen : len0 ≤ 1048576 := by
      have := bulk_len ((List.range len0).map D)
      simp only [List.length_map, List.length_range] at this
      omega
    refine ⟨hlen, ?_⟩
    by_cases h0 : len0 = 0
    · exact .inl h0
    · obtain ⟨b, off, spot⟩ := a
      obtain ⟨cs', h1, -⟩ := hel 0 (by omega)
      obtain ⟨-, hl6, hc6⟩ := World.cells?_some h1
      have hc := hc6 0 (by omega)
      have hcl : 0 < cs'.length := by omega
      rw [List.getElem?_eq_getElem hcl] at hc
      have hspot : spot = none := by simpa [Addr.add] using World.cell?_spot hc
      subst hspot
      refine .inr ⟨b, off, rfl, block_lt_of_cell (a := ⟨b, off, none⟩) (by simpa [Addr.add] using hc), fun i hi => ?_⟩
      obtain ⟨cs2, g1, g2⟩ := hel i (by omega)
      obtain ⟨-, -, gc6⟩ := World.cells?_some g1
      refine open_step g2 (hD i hi) (fun j hj => ?_)
      have := gc6 j hj
      rw [Addr.add_mid, Addr.add_mid] at this
      exact this
theorem contract (H : Type) (enc : TypeId × Value → H) (W : World) (base : Nat) (args : Array Value) (ds gs : List (DataW H)) (before : List MemPlace)
    (hval : ∀ (j : Nat) t v, Try.f4.params[j]? = some t → args[j]? = some v → Value.okWide Try.prog W .any base t v)
    (hW : DataW.Whole enc Try.prog Try.f4.params.toList Rows.cacheLeadsSpec.vars false W args.toList ds gs before) (hk : Rows.uptoSmall H (ds ++ gs) = true) :
    Calls Try.prog 4 args W fun e W' => ∃ v, e = .returned v ∧ Rows.cacheLeadsSpec.post enc Try.prog Try.f4 false true false false W args v W' := by
  have hW' := hW
  obtain ⟨p, q, hA0, hV, rfl, hfz, hnd⟩ := hW
  have hA : DataW.TrodAll enc Try.prog W 0 (fun _ => true) true Try.f4.params.toList args.toList ds p := hA0
  rw [Try.params4] at hA hval
  obtain ⟨v0, v1, d0, d1, p0, p1, rfl, rfl, rfl, h0, h1⟩ := trodAll_two hA
  obtain ⟨rfl, rfl⟩ := trodVars_none hV
  obtain ⟨a0, rfl, rfl, rfl, w0⟩ := open_int Try.underlying3 (hval 0 3 v0 rfl rfl) h0
  obtain ⟨sa, n, cap, rfl⟩ := okWide_slice Try.underlying22 (hval 1 22 v1 rfl rfl)
  have k1 := h1
  have lt1 : ∀ x ∈ p1, x.block < W.heap.size := by obtain ⟨m, hm⟩ := k1; exact DataW.trod_lt m _ _ _ hm
  simp only [List.append_nil] at hk
  have hbk : Rows.uptoBulkAll [DataW.lit (H := H) (.int .i64 a0), d1] ≤ 1048576 := of_decide_eq_true hk
  simp only [Rows.uptoBulkAll] at hbk
  have hsc := open_script h1 (by omega)
  clear hA0
  refine (cl_walk a0 sa n cap W hsc).mono fun e W' ⟨he, bel⟩ => ?_
  subst he
  exact ⟨_, rfl, _, _, _, [], _, [], hW', trodAll_mk1 (shut_bool Try.underlying4 _), trodAll_mk2 (shut_int Try.underlying3 w0) (Below.trod laidOut (by kernel_rfl) (of_decide_eq_true (by kernel_rfl)) k1 bel lt1), rfl, bel.frame _, fun h => by cases h⟩
theorem lifted (os : Os) (started : os.Started) (H : Type) (enc : TypeId × Value → H) (F : Stop.Interp) :
    ReturnsInHanded {} Try.checked os 4 .any ((Rows.OpenSpec.upto Rows.cacheLeadsSpec).pre6 enc Try.prog Try.f4 Rows.cacheLeadsUptoRow.domain false) (((Rows.OpenSpec.upto Rows.cacheLeadsSpec).at F).post enc Try.prog Try.f4 false true false false) := by
  refine returnsInHanded_of_cond (C := Try.checked) (s := Rows.OpenSpec.upto Rows.cacheLeadsSpec) (k := Rows.uptoSmall) rfl own started (by kernel_rfl) Try.func4
    (OpenSpec.witness (enc := enc) (C := Try.checked) (s := Rows.OpenSpec.upto Rows.cacheLeadsSpec) (k := Rows.uptoSmall) rfl false ⟨#[], #[.int .i64 0, .slice none 0 0], []⟩ 8 (by kernel_rfl) (by kernel_rfl) (by kernel_rfl)
      (x := ([.lit (.int .i64 0), .nil], [], [])) (by kernel_rfl) rfl (by kernel_rfl)) ?_
  intro W base args ds gs before hval hW _ hk _
  exact contract H enc W base args ds gs before hval hW hk
end Go.Proofs.Ytgkkghphlbgcoaa.Ca
namespace Go.Proofs.Ytgkkghphlbgcoaa
open Go.ChangeShapes Go.WideShapes Go.ChangeAt Go.RowKit
theorem leads_holds : Rows.CacheLeadsUptoSaid :=
  OpenClaim.holds_of_cond 4 Try.f4 rfl rfl rfl rfl rfl rfl rfl ⟨rfl, rfl, rfl, rfl, rfl⟩ rfl rfl rfl rfl rfl (by kernel_rfl) Try.func4 (by kernel_rfl)
    (of_decide_eq_true (by kernel_rfl)) (by unfold Func.isWrapper; first | (rw [if_pos (by decide +kernel)]; kernel_rfl) | (rw [if_neg (by decide +kernel)]; exact ⟨rfl, rfl⟩))
    (fun os started H enc _ F => Ca.lifted os started H enc F)
#print axioms leads_holds
end Go.Proofs.Ytgkkghphlbgcoaa
