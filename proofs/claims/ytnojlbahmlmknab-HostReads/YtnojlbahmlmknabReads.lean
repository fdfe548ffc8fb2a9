import Derived.Test.YtnojlbahmlmknabRows
import Derived.Test.YtnojlbahmlmknabHV
import Derived.ProofKit
import Derived.OpenShut
import Derived.ChangeOld
import Derived.Below
import Derived.ShutString
namespace Go.Proofs.Ytnojlbahmlmknab
open Go.ChangeShapes Go.WideShapes Go.ChangeAt Go.RowKit
set_option linter.unusedVariables false

theorem ownR : ownKnob Try.prog.godebug = none := by kernel_rfl
theorem laidOutR : laidOutB Try.prog = true := by kernel_rfl
theorem bytesU32 : Try.prog.bytesOf 22 = 4 := by kernel_rfl
/-- Of an argument of type []uint32: words that came in. -/
theorem words_in {H : Type} {enc : TypeId × Value → H} {W : World} {a0 : Option Addr} {len0 cap0 : Nat} {d0 : DataW H} {p0 : List MemPlace}
    (h0 : DataW.Trod enc Try.prog W 0 (fun _ => true) true 54 (.slice a0 len0 cap0) d0 p0)
    (hsz : ∀ elems spare, d0 = .slice elems spare → (elems.length + spare.length) * Try.prog.bytesOf 22 ≤ reachBytes) : ∃ ws : Nat → Nat, Wds W a0 len0 cap0 ws ∧ (∀ i, ws i < 4294967296) ∧ len0 ≤ 35184372088832 ∧ (0 < len0 → cap0 ≤ 140737488355328) := by
  obtain ⟨fuel, hf⟩ := h0
  rcases open_ints Try.underlying54 Try.underlying22 (by kernel_rfl) hf with ⟨hcs, _⟩ | ⟨x, l, c, zs, hcs, _, hl, hm, hz, hx, hcell, hwz⟩
  · simp [Value.cells] at hcs
    obtain ⟨rfl, rfl, rfl⟩ := hcs
    exact ⟨fun _ => 0, .inl rfl, fun _ => (by show (0 : Nat) < 4294967296; decide), by decide, fun h => by omega⟩
  · simp [Value.cells] at hcs
    obtain ⟨rfl, rfl, rfl⟩ := hcs
    simp only [Prod.mk.injEq] at hx
    simp only [if_true] at hz
    have hreach := hsz _ _ hx.1
    rw [bytesU32] at hreach
    simp only [lits, List.length_map, List.length_take, List.length_drop, reachBytes] at hreach
    have hb : ∀ i, 0 ≤ zs.getD i 0 ∧ zs.getD i 0 ≤ 4294967295 := fun i => by
      by_cases hi : i < zs.length
      · have hmem : zs.getD i 0 ∈ zs := by
          rw [List.getD_eq_getElem?_getD, List.getElem?_eq_getElem hi, Option.getD_some]; exact List.getElem_mem hi
        exact bounds_u32 (hwz _ hmem)
      · rw [List.getD_eq_getElem?_getD, List.getElem?_eq_none (by omega)]
        simp
    refine ⟨fun i => (zs.getD i 0).toNat, ?_, fun i => by have := hb i; show (zs.getD i 0).toNat < _; omega, by omega, fun _ => by omega⟩
    by_cases h0 : len0 = 0
    · exact .inl h0
    · obtain ⟨b, off, spot⟩ := x
      have hc := hcell 0 (by omega)
      have hspot : spot = none := by simpa [Addr.add] using World.cell?_spot hc
      subst hspot
      refine .inr ⟨b, off, rfl, by omega, by omega, fun i hi => ?_, fun i => by have := hb i; show (zs.getD i 0).toNat < _; omega, block_lt_of_cell (a := ⟨b, off, none⟩) (by simpa [Addr.add] using hc)⟩
      have := hcell i (by omega)
      rw [Addr.add_mid] at this
      rw [this]
      have h2 := hb i
      show some (Value.int .u32 (zs.getD i 0)) = some (.int .u32 ((zs.getD i 0).toNat : Int))
      rw [Int.toNat_of_nonneg h2.1]

theorem reads_walk0 (a : Option Addr) (len cap : Nat) (at' : Int) (ws : Nat → Nat) (w : World) (hw : Wds w a len cap ws) (hlt : ∀ i, ws i < 4294967296) (hl : len ≤ 35184372088832) (hcap : 0 < len → cap ≤ 140737488355328) :
    Calls Try.prog 5 #[.slice a len cap, .int .i64 at'] w fun e w' => e = .returned (.bool true) ∧ Below w.heap.size w w' := by
  by_cases h0 : len = 0
  · refine reads_bad a len cap at' ws w hw hl _ rfl ?_
    subst h0
    intro he
    obtain ⟨m, k, -, R⟩ := decP_ok hlt he
    have hz := szN_cases (foOf k).has
    have := R.le
    omega
  · exact reads_walk a len cap at' ws w hw hlt hl (hcap (by omega))

set_option maxRecDepth 100000 in
theorem reads_lifted (os : Os) (started : os.Started) (H : Type) (enc : TypeId × Value → H) :
    ReturnsInHanded {} Try.checked os 5 .any (Rows.hostReadsSpec.pre6 enc Try.prog Try.f5 Rows.hostReadsRow.domain false) (Rows.hostReadsSpec.post enc Try.prog Try.f5 false true false false) := by
  refine returnsInHanded_of_change_sized (C := Try.checked) ownR started (by kernel_rfl) Try.func5
    (ChangeSpec.witness6 (enc := enc) (C := Try.checked) false ⟨#[], #[.slice none 0 0, .int .i64 0], []⟩ 8 (by kernel_rfl) (by kernel_rfl) (by kernel_rfl) (by kernel_rfl)) ?_
  intro W base args ds gs before hval0 hW hcnd hsz0 _
  have hsz : (DataW.weightsEach Try.prog (Try.f5.params.toList ++ Rows.hostReadsSpec.plain.varTypes Try.prog) (ds ++ gs)).all (· ≤ reachBytes) = true := hsz0
  clear hsz0
  have hval : ∀ (j : Nat) t v, Try.f5.params[j]? = some t → args[j]? = some v → Value.okWide Try.prog W .any base t v := hval0
  have hW' := hW
  obtain ⟨p, q, hA0, hV, rfl, hfz, hnd⟩ := hW
  have hA : DataW.TrodAll enc Try.prog W 0 (fun _ => true) true Try.f5.params.toList args.toList ds p := hA0
  rw [Try.params5] at hA hval hsz
  obtain ⟨v0, v1, d0, d1, p0, p1, rfl, rfl, rfl, h0, h1⟩ := trodAll_two hA
  obtain ⟨rfl, rfl⟩ := trodVars_none hV
  obtain ⟨a0, len0, cap0, rfl⟩ := okWide_slice Try.underlying54 (hval 0 54 v0 rfl rfl)
  have k0 := h0
  have lt0 : ∀ x ∈ p0, x.block < W.heap.size := by obtain ⟨m, hm⟩ := k0; exact DataW.trod_lt m _ _ _ hm
  obtain ⟨a1, rfl, rfl, rfl, w1⟩ := open_int Try.underlying3 (hval 1 3 v1 rfl rfl) h1
  obtain ⟨ws, hin, hlt, hle, hcap⟩ := words_in h0 (fun elems spare he => by
    subst he
    exact sized_slice hsz (j := 0) (t := 54) (e := 22) rfl rfl Try.underlying54)
  clear hA0 hval0
  refine (reads_walk0 a0 len0 cap0 a1 ws W hin hlt hle hcap).mono fun e W' ⟨he, bel⟩ => ?_
  subst he
  exact ⟨_, rfl, _, _, _, [], _, [], hW', trodAll_mk1 (shut_bool Try.underlying4 _), trodAll_mk2 (Below.trod laidOutR (by kernel_rfl) (of_decide_eq_true (by kernel_rfl)) k0 bel lt0) (shut_int Try.underlying3 w1), rfl, bel.frame _, fun h => by cases h⟩

theorem hostReads_holds : Rows.HostReadsSaid :=
  OpenClaim.holds_of_wide 5 Try.f5 rfl rfl rfl rfl rfl rfl rfl ⟨rfl, rfl, rfl, rfl, rfl⟩ rfl rfl rfl rfl rfl (by kernel_rfl) Try.func5 (by kernel_rfl)
    (of_decide_eq_true (by kernel_rfl)) (by unfold Func.isWrapper; first | (rw [if_pos (by decide +kernel)]; kernel_rfl) | (rw [if_neg (by decide +kernel)]; exact ⟨rfl, rfl⟩))
    (fun os started H enc _ => reads_lifted os started H enc)
#print axioms hostReads_holds
end Go.Proofs.Ytnojlbahmlmknab
