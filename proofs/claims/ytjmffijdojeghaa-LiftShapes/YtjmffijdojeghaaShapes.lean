import Derived.Test.YtjmffijdojeghaaRows
import Derived.Test.YtjmffijdojeghaaLX
import Derived.ProofKit
import Derived.OpenShut
import Derived.ShutString
import Derived.ChangeOld
import Derived.Below
import Derived.Deep.Slices
import Derived.Deep.Grids
namespace Go.Proofs.Ytjmffijdojeghaa
open Go.ChangeShapes Go.WideShapes Go.ChangeAt Go.RowKit Go.Deep
set_option linter.unusedVariables false
set_option maxRecDepth 100000

theorem own : ownKnob Try.prog.godebug = none := by kernel_rfl
theorem laidOut : laidOutB Try.prog = true := by kernel_rfl
theorem bytes5 : Try.prog.bytesOf 5 = 1 := by kernel_rfl
theorem cells52 : Try.prog.cellsOf 170 = 3 := by kernel_rfl
theorem cells3 : Try.prog.cellsOf 3 = 1 := by kernel_rfl
theorem cells50 : Try.prog.cellsOf 22 = 1 := by kernel_rfl
theorem weights_all {H : Type} {P : Program} {e : TypeId} : ∀ {l : List (DataW H)} {d : DataW H}, d ∈ l → ∀ n ∈ d.weights P e, n ∈ DataW.weightsAll P e l
  | d0 :: r, d, hd, n, hn => by
    rcases List.mem_cons.1 hd with rfl | hd
    · simp only [DataW.weightsAll, List.mem_append]; exact Or.inl hn
    · simp only [DataW.weightsAll, List.mem_append]; exact Or.inr (weights_all hd n hn)

/-- The bytes of a part. -/
theorem open_bytes {H : Type} {enc : TypeId × Value → H} {W : World} {fuel : Nat} {v : Value} {y : DataW H × List MemPlace}
    (hf : DataW.trod enc Try.prog W 0 (fun _ => true) true fuel 22 [v] = some y) (hsz : ∀ n ∈ y.1.weights Try.prog 22, n ≤ reachBytes) :
    ∃ (bp : Option Addr) (n c : Nat) (z : Nat → Int), v = .slice bp n c ∧ (0 < n → ∃ b' off', bp = some ⟨b', off', none⟩ ∧ ∀ i, i < n → W.cell? ⟨b', off' + i, none⟩ = some (.int .u8 (z i))) ∧ n ≤ 140737488355328 ∧ ∀ i, i < n → 0 ≤ z i ∧ z i ≤ 255 := by
  rcases open_ints Try.underlying22 Try.underlying5 (by kernel_rfl) hf with ⟨hcs, _⟩ | ⟨x, l, c, zs, hcs, _, hl, hm, hz, hx, hcell, hwz⟩
  · simp only [List.cons.injEq, and_true] at hcs
    exact ⟨none, 0, 0, fun _ => 0, hcs, fun h => by omega, by omega, fun i hi => by omega⟩
  · simp only [List.cons.injEq, and_true] at hcs
    simp only [if_true] at hz
    have hw : zs.length ≤ reachBytes := by
      have := hsz ((zs.take l).length + (zs.drop l).length) (by
        rw [hx]
        simp only [DataW.weights, Try.underlying22, bytes5, Nat.mul_one, lits, List.length_map]
        exact List.mem_cons_self)
      rw [List.length_take, List.length_drop] at this
      omega
    have hr : reachBytes = 140737488351232 := by decide
    refine ⟨some x, l, c, fun i => zs.getD i 0, hcs, fun h0 => ?_, by omega, fun i hi => ?_⟩
    · obtain ⟨b, off, spot⟩ := x
      have hc := hcell 0 (by omega)
      have hspot : spot = none := by simpa [Addr.add] using World.cell?_spot hc
      subst hspot
      refine ⟨b, off, rfl, fun i hi => ?_⟩
      have := hcell i (by omega)
      rw [Addr.add_mid] at this
      exact this
    · have hmem : zs.getD i 0 ∈ zs := by
        rw [List.getD_eq_getElem?_getD, List.getElem?_eq_getElem (by omega), Option.getD_some]; exact List.getElem_mem _
      have := bounds_u8 (hwz _ hmem)
      show 0 ≤ zs.getD i 0 ∧ zs.getD i 0 ≤ 255
      omega

/-- A part. -/
theorem open_part {H : Type} {enc : TypeId × Value → H} {W : World} {fuel : Nat} {cs : List Value} {y : DataW H × List MemPlace}
    (hf : DataW.trod enc Try.prog W 0 (fun _ => true) true fuel 170 cs = some y) (hsz : ∀ n ∈ y.1.weights Try.prog 170, n ≤ reachBytes) {b o : Nat} (hc : ∀ i, i < 3 → W.cell? ⟨b, o + i, none⟩ = cs[i]?) :
    ∃ A bp n c R z, PartAt W b o A bp n c R z := by
  obtain ⟨xs, n, _, hx, hl, hlen, hfs⟩ := DataW.trod_struct Try.underlying170 hf
  rw [cells52] at hl
  match cs, hl with
  | [v0, v1, v2], _ =>
    match xs, hlen with
    | [y0, y1, y2], _ =>
      have f0 := hfs 0 _ rfl
      have f1 := hfs 1 _ rfl
      have f2 := hfs 2 _ rfl
      simp [cells3, cells50] at f0 f1 f2
      obtain ⟨A, e0, -, w0⟩ := DataW.trod_int Try.underlying3 f0
      obtain ⟨R, e2, -, w2⟩ := DataW.trod_int Try.underlying3 f2
      simp only [List.cons.injEq, and_true] at e0 e2
      subst e0 e2
      obtain ⟨bp, m, c, z, rfl, hrow, hle, hbd⟩ := open_bytes f1 (fun k hk => hsz k (by
        rw [hx]
        simp only [DataW.weights, Try.underlying170]
        exact DataW.weights_mem_each (j := 1) (t := 22) (d := y1.1) rfl rfl k hk))
      exact ⟨A, bp, m, c, R, z, (hc 0 (by omega)).trans rfl, (hc 1 (by omega)).trans rfl, (hc 2 (by omega)).trans rfl, bounds_i64 w0, hrow, hle, hbd⟩

theorem open_parts {H : Type} {enc : TypeId × Value → H} {W : World} {a0 : Option Addr} {len0 cap0 : Nat} {d0 : DataW H} {p0 : List MemPlace}
    (h0 : DataW.Trod enc Try.prog W 0 (fun _ => true) true 90 (.slice a0 len0 cap0) d0 p0) (hsz : ∀ n ∈ d0.weights Try.prog 90, n ≤ reachBytes) : Parts W a0 len0 := by
  obtain ⟨fuel, hf⟩ := h0
  rcases open_slice Try.underlying90 hf with ⟨hcs, _⟩ | ⟨a, len, cap, m, n, D, Pl, hcs, _, hl, hm, hmm, hx, hel⟩
  · simp [Value.cells] at hcs
    obtain ⟨rfl, rfl, rfl⟩ := hcs
    exact ⟨fun h => by omega, by omega⟩
  · simp [Value.cells] at hcs
    obtain ⟨rfl, rfl, rfl⟩ := hcs
    simp only [if_true] at hmm
    subst hmm
    rw [cells52] at hel
    simp only [Prod.mk.injEq] at hx
    have hd0 := hx.1
    have hw0 : ∀ k ∈ DataW.weights Try.prog 90 d0, k ≤ reachBytes := hsz
    rw [hd0] at hw0
    simp only [DataW.weights, Try.underlying90] at hw0
    have hr : reachBytes = 140737488351232 := by decide
    have hbE : 1 ≤ Try.prog.bytesOf 170 := of_decide_eq_true (by kernel_rfl)
    have hlen : len0 ≤ 140737488355328 := by
      have := hw0 _ List.mem_cons_self
      simp only [List.length_map, List.length_range] at this
      have h2 : (len0 + (m - len0)) * 1 ≤ (len0 + (m - len0)) * Try.prog.bytesOf 170 := Nat.mul_le_mul_left _ hbE
      omega
    refine ⟨fun h0 => ?_, hlen⟩
    obtain ⟨b, off, spot⟩ := a
    have hspot : spot = none := by
      obtain ⟨cs', h1, -⟩ := hel 0 (by omega)
      obtain ⟨-, hl6, hc6⟩ := World.cells?_some h1
      have hc := hc6 0 (by omega)
      have : 0 < cs'.length := by omega
      rw [List.getElem?_eq_getElem this] at hc
      simpa [Addr.add] using World.cell?_spot hc
    subst hspot
    refine ⟨b, off, rfl, fun i hi => ?_⟩
    obtain ⟨cs', h1, h2⟩ := hel i (by omega)
    obtain ⟨-, -, hc6⟩ := World.cells?_some h1
    refine open_part h2 (fun k hk => hw0 k ?_) (fun j hj => ?_)
    · refine List.mem_cons_of_mem _ (List.mem_append.2 (Or.inl (weights_all (d := D i) ?_ k hk)))
      exact List.mem_map.2 ⟨i, List.mem_range.2 hi, rfl⟩
    · have := hc6 j hj
      rw [Addr.add_mid, Addr.add_mid] at this
      exact this

theorem shapes_lifted (os : Os) (started : os.Started) (H : Type) (enc : TypeId × Value → H) :
    ReturnsInHanded {} Try.checked os 14 .any (Rows.liftShapesSpec.pre6 enc Try.prog Try.f14 Rows.liftShapesRow.domain false) (Rows.liftShapesSpec.post enc Try.prog Try.f14 false true false false) := by
  refine returnsInHanded_of_change_sized (C := Try.checked) own started (by kernel_rfl) Try.func14
    (ChangeSpec.witness6 (enc := enc) (C := Try.checked) false ⟨#[], #[.slice none 0 0, .int .u32 0, .int .i64 0], []⟩ 8 (by kernel_rfl) (by kernel_rfl) (by kernel_rfl) (by kernel_rfl)) ?_
  intro W base args ds gs before hval0 hW hcnd hsz0 _
  have hsz : (DataW.weightsEach Try.prog (Try.f14.params.toList ++ Rows.liftShapesSpec.plain.varTypes Try.prog) (ds ++ gs)).all (· ≤ reachBytes) = true := hsz0
  clear hsz0
  have hval : ∀ (j : Nat) t v, Try.f14.params[j]? = some t → args[j]? = some v → Value.okWide Try.prog W .any base t v := hval0
  have hW' := hW
  obtain ⟨p, q, hA0, hV, rfl, hfz, hnd⟩ := hW
  have hA : DataW.TrodAll enc Try.prog W 0 (fun _ => true) true Try.f14.params.toList args.toList ds p := hA0
  rw [Try.params14] at hA hval hsz
  obtain ⟨v0, v1, v2, d0, d1, d2, p0, p1, p2, rfl, rfl, rfl, h0, h1, h2⟩ := trodAll_three hA
  obtain ⟨rfl, rfl⟩ := trodVars_none hV
  obtain ⟨a0, len0, cap0, rfl⟩ := okWide_slice Try.underlying90 (hval 0 90 v0 rfl rfl)
  have k0 := h0
  have lt0 : ∀ x ∈ p0, x.block < W.heap.size := by obtain ⟨m, hm⟩ := k0; exact DataW.trod_lt m _ _ _ hm
  obtain ⟨a1, rfl, rfl, rfl, w1⟩ := open_int Try.underlying24 (hval 1 24 v1 rfl rfl) h1
  obtain ⟨a2, rfl, rfl, rfl, w2⟩ := open_int Try.underlying3 (hval 2 3 v2 rfl rfl) h2
  have hall : ∀ n ∈ DataW.weightsEach Try.prog ([90, 24, 3] ++ Rows.liftShapesSpec.plain.varTypes Try.prog) ([d0, _, _] ++ []), n ≤ reachBytes := fun n hn => by
    have := List.all_eq_true.1 hsz n hn
    simpa using this
  have hp := open_parts h0 (fun n hn => hall n (DataW.weights_mem_each (j := 0) (t := 90) (d := d0) rfl rfl n hn))
  have hb1 := bounds_u32 w1
  obtain ⟨pc, rfl⟩ : ∃ pc : Nat, a1 = pc := ⟨a1.toNat, by omega⟩
  clear hA0 hval0
  refine (shapes_walk a0 len0 cap0 pc a2 W (by omega) hp).mono fun e W' ⟨he, bel⟩ => ?_
  subst he
  exact ⟨_, rfl, _, _, _, [], _, [], hW', trodAll_mk1 (shut_bool Try.underlying4 _), trodAll_mk3 (Below.trod laidOut (by kernel_rfl) (of_decide_eq_true (by kernel_rfl)) k0 bel lt0) (shut_int Try.underlying24 w1) (shut_int Try.underlying3 w2), rfl, bel.frame _, fun h => by cases h⟩

theorem shapes_holds : Rows.LiftShapesSaid :=
  OpenClaim.holds_of_wide 14 Try.f14 rfl rfl rfl rfl rfl rfl rfl ⟨rfl, rfl, rfl, rfl, rfl⟩ rfl rfl rfl rfl rfl (by kernel_rfl) Try.func14 (by kernel_rfl)
    (of_decide_eq_true (by kernel_rfl)) (by unfold Func.isWrapper; first | (rw [if_pos (by decide +kernel)]; kernel_rfl) | (rw [if_neg (by decide +kernel)]; exact ⟨rfl, rfl⟩))
    (fun os started H enc _ => shapes_lifted os started H enc)
#print axioms shapes_holds
end Go.Proofs.Ytjmffijdojeghaa
