import Derived.Test.YtcdphcbjmpgjmaaFE
namespace Go.Proofs.Ytcdphcbjmpgjmaa.Fl
open Go.RowKit
set_option maxRecDepth 100000
set_option linter.unusedVariables false

/-- The rows of conditions. -/
def rowB (q : Int) (z n y v : Bool) : Bool :=
  if q = 0 then v else if q = 1 then y else if q = 2 then z else if q = 3 then (y || z) else if q = 4 then n else if q = 5 then (n != v) else if q = 6 then (z || (n != v)) else true
def holdsZ (c : Int) (z n y v : Bool) : Bool := if c < 0 ∨ 15 < c then false else if c % 2 = 1 then !(rowB (c / 2) z n y v) else rowB (c / 2) z n y v
def holdsF (c : Int) (f : Nat) : Bool := holdsZ c ((f : Int) % 2 == 1) ((f : Int) / 2 % 2 == 1) ((f : Int) / 4 % 2 == 1) ((f : Int) / 8 % 2 == 1)

theorem holds_no (c : Int) (f : Nat) (w : World) (hc : c < 0 ∨ 15 < c) : Calls Try.prog 30 #[.int .i64 c, .int .u32 f] w fun e w' => e = .returned (.bool (holdsF c f)) ∧ Below w.heap.size w w' := by
  have e : holdsF c f = false := by unfold holdsF holdsZ; rw [if_pos hc]
  rw [e]
  rcases hc with h | h
  · have d : decide (c < 0) = true := decide_eq_true h
    go_enter Try.func30, Try.ntmps30
    go_wp2
    go_ret
    exact ⟨rfl, Below.refl _ _⟩
  · have d : decide (c < 0) = false := decide_eq_false (by omega)
    have d2 : decide (15 < c) = true := decide_eq_true h
    go_enter Try.func30, Try.ntmps30
    go_wp2
    go_ret
    exact ⟨rfl, Below.refl _ _⟩

end Go.Proofs.Ytcdphcbjmpgjmaa.Fl
