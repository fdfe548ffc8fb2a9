import Derived.Test.YtcdphcbjmpgjmaaIE
import Derived.Deep.CutBlock
namespace Go.Proofs.Ytcdphcbjmpgjmaa
open Go.RowKit
set_option maxRecDepth 100000
set_option linter.unusedVariables false
set_option linter.unusedSimpArgs false

/-! ## The table of Reckon -/
def rkL : List Value := [.int .u8 1, .int .u8 0, .bool false, .int .u8 2, .int .u8 0, .bool false, .int .u8 3, .int .u8 0, .bool false, .int .u8 4, .int .u8 0, .bool false, .int .u8 5, .int .u8 1, .bool false, .int .u8 5, .int .u8 2, .bool false, .int .u8 5, .int .u8 3, .bool false, .int .u8 3, .int .u8 0, .bool true, .int .u8 5, .int .u8 1, .bool true, .int .u8 6, .int .u8 0, .bool false, .int .u8 7, .int .u8 0, .bool false, .int .u8 8, .int .u8 0, .bool false, .int .u8 9, .int .u8 0, .bool false, .int .u8 10, .int .u8 0, .bool false, .int .u8 5, .int .u8 4, .bool false, .int .u8 5, .int .u8 5, .bool false]
def rkC : Array Value := rkL.toArray
def rkZ : Array Value := #[.int .u8 0, .int .u8 0, .bool false, .int .u8 0, .int .u8 0, .bool false, .int .u8 0, .int .u8 0, .bool false, .int .u8 0, .int .u8 0, .bool false, .int .u8 0, .int .u8 0, .bool false, .int .u8 0, .int .u8 0, .bool false, .int .u8 0, .int .u8 0, .bool false, .int .u8 0, .int .u8 0, .bool false, .int .u8 0, .int .u8 0, .bool false, .int .u8 0, .int .u8 0, .bool false, .int .u8 0, .int .u8 0, .bool false, .int .u8 0, .int .u8 0, .bool false, .int .u8 0, .int .u8 0, .bool false, .int .u8 0, .int .u8 0, .bool false, .int .u8 0, .int .u8 0, .bool false, .int .u8 0, .int .u8 0, .bool false]
theorem rk_info : (Try.prog.info? 110).map (fun i => (i.zero, i.size)) = some (some (.agg rkZ), 48) := by kernel_rfl
theorem wk_last2 (w : World) (o1 o2 : Obj) : ((w.alloc o1).alloc o2).heap[w.heap.size + 1]? = some o2 := by
  have := heap_alloc_last (w.alloc o1) o2
  rwa [show (w.alloc o1).heap.size = w.heap.size + 1 from by simp] at this
theorem rk_row {w w1 : World} {o1 : Obj} {cs : Array Value} {t : TypeId} (h : Below ((w.alloc o1).alloc (.cells cs t)).heap.size ((w.alloc o1).alloc (.cells cs t)) w1) (i : Nat) : w1.cell? ⟨w.heap.size + 1, i, none⟩ = cs[i]? :=
  cell_of_row _ _ i _ _ (0, 0) ((h.block (w.heap.size + 1) (by simp)).trans (wk_last2 w o1 _))
theorem wk_belD {w w1 : World} {o1 o2 : Obj} (h : Below ((w.alloc o1).alloc o2).drew.heap.size ((w.alloc o1).alloc o2).drew w1) : Below ((w.alloc o1).alloc o2).heap.size ((w.alloc o1).alloc o2) w1 := ⟨h.os, h.tape, h.output, h.size, h.block⟩
theorem ret3 {a b c d : Int} {x y : Bool} (h1 : a = c) (h2 : b = d) (h3 : x = y) : Ending.returned (.tuple #[.int .u32 a, .int .u32 b, .bool x]) = .returned (.tuple #[.int .u32 c, .int .u32 d, .bool y]) := by rw [h1, h2, h3]
end Go.Proofs.Ytcdphcbjmpgjmaa
