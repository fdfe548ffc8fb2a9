import Derived.Test.YtcdphcbjmpgjmaaFG0
import Derived.Test.YtcdphcbjmpgjmaaFG1
import Derived.Test.YtcdphcbjmpgjmaaFG2
import Derived.Test.YtcdphcbjmpgjmaaFG3
namespace Go.Proofs.Ytcdphcbjmpgjmaa.Fl
open Go.RowKit

theorem holds_any (c : Int) (f : Nat) (w : World) (hf : f < 4294967296) : Calls Try.prog 30 #[.int .i64 c, .int .u32 f] w fun e w' => e = .returned (.bool (holdsF c f)) ∧ Below w.heap.size w w' := by
  by_cases hc : c < 0 ∨ 15 < c
  · exact holds_no c f w hc
  · have hcc : c = 0 ∨ c = 1 ∨ c = 2 ∨ c = 3 ∨ c = 4 ∨ c = 5 ∨ c = 6 ∨ c = 7 ∨ c = 8 ∨ c = 9 ∨ c = 10 ∨ c = 11 ∨ c = 12 ∨ c = 13 ∨ c = 14 ∨ c = 15 := by omega
    rcases hcc with rfl | rfl | rfl | rfl | rfl | rfl | rfl | rfl | rfl | rfl | rfl | rfl | rfl | rfl | rfl | rfl
    · exact holds0 f w hf
    · exact holds1 f w hf
    · exact holds2 f w hf
    · exact holds3 f w hf
    · exact holds4 f w hf
    · exact holds5 f w hf
    · exact holds6 f w hf
    · exact holds7 f w hf
    · exact holds8 f w hf
    · exact holds9 f w hf
    · exact holds10 f w hf
    · exact holds11 f w hf
    · exact holds12 f w hf
    · exact holds13 f w hf
    · exact holds14 f w hf
    · exact holds15 f w hf
end Go.Proofs.Ytcdphcbjmpgjmaa.Fl
