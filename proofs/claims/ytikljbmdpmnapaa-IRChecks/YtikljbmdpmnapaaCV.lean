import Derived.Test.YtikljbmdpmnapaaCW
namespace Go.Proofs.Ytikljbmdpmnapaa
open Go.RowKit
set_option maxRecDepth 100000
set_option linter.unusedVariables false
set_option linter.unusedSimpArgs false

set_option maxHeartbeats 2000000 in
theorem sameOps_any (bp bp' : Option Addr) (n cap cap' : Nat) (f : Nat → OpR) (w : World) (h : OpsR w bp n f) (h' : OpsR w bp' n f) (hn : n < 9223372036854775807) :
    Calls Try.prog 42 #[.slice bp n cap, .slice bp' n cap'] w fun e w' => e = .returned (.bool true) ∧ Below w.heap.size w w' := by
  have HH : Hid (OpsR w bp n f) := h
  have HH' : Hid (OpsR w bp' n f) := h'
  have n0 : (0 : Int) ≤ (n : Int) := by omega
  have nb : (n : Int) < 9223372036854775807 := by omega
  clear h h'
  go_enter Try.func42, Try.ntmps42
  go_wp2
  go_loopw [13] (fun i wr => ∃ j : Nat, i = .int .i64 j ∧ j ≤ n ∧ Below w.heap.size w wr) (fun i _ => n - (intOf i).toNat)
  case atStart => exact ⟨0, rfl, by omega, Below.refl _ _⟩
  case round =>
    obtain ⟨j, rfl, hj, hW⟩ := hrel
    have HWr : Hid _ := hW
    clear hW
    by_cases hlt : j < n
    · have hji : (j : Int) < (n : Int) := by omega
      have dj : decide ((j : Int) < (n : Int)) = true := decide_eq_true hji
      have j0 : (0 : Int) ≤ (j : Int) := by omega
      have HLT : Hid _ := hlt
      obtain ⟨b, off, rfl, hb, hc⟩ := HH.out (by omega)
      obtain ⟨b', off', rfl, hb', hc'⟩ := HH'.out (by omega)
      obtain ⟨o, HOO⟩ : ∃ o, Hid (f j = o) := ⟨_, rfl⟩
      obtain ⟨z0, z1, z2, z3, z4, z5, z6⟩ : OpAt wr b (off + j * 7) o := (HOO.out ▸ hc j hlt).below HWr.out hb
      obtain ⟨y0, y1, y2, y3, y4, y5, y6⟩ : OpAt wr b' (off' + j * 7) o := (HOO.out ▸ hc' j hlt).below HWr.out hb'
      clear hc hc' hlt hb hb'
      go_wp2
      go_region
      all_goals go_wp2
      all_goals go_round
      case rel => exact ⟨j + 1, by go_num, HLT.out, HWr.out.drew⟩
      case measure => have := HLT.out; simp [intOf]; omega
    · obtain rfl : j = n := by omega
      have dj : decide ((j : Int) < (j : Int)) = false := decide_eq_false (by omega)
      clear hlt hj
      go_wp2
      go_ret
      exact ⟨rfl, HWr.out⟩
end Go.Proofs.Ytikljbmdpmnapaa
