import Derived.Test.YtkgbjpdoigdjnacWJ01
import Derived.Deep.RegionLaw
import Derived.Lib.SliceRun
namespace Go.Proofs.Ytkgbjpdoigdjnac
open Go.RowKit
set_option maxRecDepth 100000
set_option linter.unusedVariables false

theorem PM.alloc {w : World} {X : Nat} {s : MS} (h : PM w X s) (o : Obj) : PM (w.alloc o) X s := h.below ((Below.refl w.heap.size w).alloc (Nat.le_refl _) o) h.lt
theorem RM.alloc {w : World} {k : RB} {s : MS} (h : RM w k s) (o : Obj) : RM (w.alloc o) k s := h.below ((Below.refl w.heap.size w).alloc (Nat.le_refl _) o) (Nat.le_refl _)

end Go.Proofs.Ytkgbjpdoigdjnac

namespace Go.Proofs.Ytkgbjpdoigdjnac
open Go.RowKit
set_option maxRecDepth 100000
set_option linter.unusedVariables false

end Go.Proofs.Ytkgbjpdoigdjnac

namespace Go.Proofs.Ytkgbjpdoigdjnac
open Go.RowKit
set_option maxRecDepth 100000
set_option linter.unusedVariables false

end Go.Proofs.Ytkgbjpdoigdjnac

namespace Go.Proofs.Ytkgbjpdoigdjnac
open Go.RowKit
set_option maxRecDepth 100000
set_option linter.unusedVariables false

def OL (w : World) (base : Nat) (v : Value) (l : List Int) : Prop := w.ownsRow base 3 1 v l.length (l.map (Value.int .i64))
theorem OL.below {w w' : World} {base : Nat} {v : Value} {l : List Int} (h : OL w base v l) (hb : ∀ g, base ≤ g → g < w.heap.size → w'.heap[g]? = w.heap[g]?) : OL w' base v l := by
  refine ⟨h.1, ?_⟩
  rcases h.2 with h | ⟨g, c, cur, rfl, hg, hh, r⟩
  · exact .inl h
  · exact .inr ⟨g, c, cur, rfl, hg, (hb g hg (Array.getElem?_eq_some_iff.1 hh).1).trans hh, r⟩
theorem OL.alloc {w : World} {base : Nat} {v : Value} {l : List Int} (h : OL w base v l) (o : Obj) : OL (w.alloc o) base v l :=
  h.below fun g _ hg => Below.heap_alloc w o g hg

end Go.Proofs.Ytkgbjpdoigdjnac
