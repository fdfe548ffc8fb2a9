import Derived.Test.YtmnifblbacgeoabVJ33
import Derived.Test.YtmnifblbacgeoabVJ34
namespace Go.Proofs.Ytmnifblbacgeoab.Va
open Go.RowKit
set_option maxRecDepth 100000
set_option linter.unusedVariables false
set_option maxRecDepth 100000
theorem pholds_any (c : Int) (f : Nat) (w : World) (hf : f < 4294967296) (hc64 : c ≤ 9223372036854775807) : Calls Try.prog 202 #[.int .i64 c, .int .u32 f] w fun e w' => e = .returned (.bool (Fl.holdsF c f)) ∧ Below w.heap.size w w' := by
  by_cases hlo : c < 0
  · rw [show Fl.holdsF c f = false from by unfold Fl.holdsF Fl.holdsZ; rw [if_pos (Or.inl hlo)]]; exact ho_lo c f w hlo
  by_cases hhi : 15 < c
  · rw [show Fl.holdsF c f = false from by unfold Fl.holdsF Fl.holdsZ; rw [if_pos (Or.inr hhi)]]; exact ho_hi c f w ⟨hhi, hc64⟩
  have hc : c = 0 ∨ c = 1 ∨ c = 2 ∨ c = 3 ∨ c = 4 ∨ c = 5 ∨ c = 6 ∨ c = 7 ∨ c = 8 ∨ c = 9 ∨ c = 10 ∨ c = 11 ∨ c = 12 ∨ c = 13 ∨ c = 14 ∨ c = 15 := by omega
  rcases hc with rfl | rfl | rfl | rfl | rfl | rfl | rfl | rfl | rfl | rfl | rfl | rfl | rfl | rfl | rfl | rfl
  · exact ph0 f w hf
  · exact ph1 f w hf
  · exact ph2 f w hf
  · exact ph3 f w hf
  · exact ph4 f w hf
  · exact ph5 f w hf
  · exact ph6 f w hf
  · exact ph7 f w hf
  · exact ph8 f w hf
  · exact ph9 f w hf
  · exact ph10 f w hf
  · exact ph11 f w hf
  · exact ph12 f w hf
  · exact ph13 f w hf
  · exact ph14 f w hf
  · exact ph15 f w hf
end Go.Proofs.Ytmnifblbacgeoab.Va
