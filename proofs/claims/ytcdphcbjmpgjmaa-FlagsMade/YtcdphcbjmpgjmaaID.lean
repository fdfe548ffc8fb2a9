import Derived.Test.YtcdphcbjmpgjmaaIB4
import Derived.Test.YtcdphcbjmpgjmaaIC
import Derived.Test.YtcdphcbjmpgjmaaGB
namespace Go.Proofs.Ytcdphcbjmpgjmaa
open Go.RowKit
set_option maxRecDepth 100000
set_option linter.unusedVariables false
set_option linter.unusedSimpArgs false

theorem and15 (x : Nat) (hx : x < 4294967296) : bits .and .u32 (x : Int) 15 = ((x % 16 : Nat) : Int) := by
  rw [show (15 : Int) = ((15 : Nat) : Int) from rfl, Go.u32_and_nat _ _ hx (by decide), Go.nat_mask4]
theorem and31 (x : Nat) (hx : x < 4294967296) : bits .and .u32 (x : Int) 31 = ((x % 32 : Nat) : Int) := by
  rw [show (31 : Int) = ((31 : Nat) : Int) from rfl, Go.u32_and_nat _ _ hx (by decide), Go.nat_mask5]
theorem keep_c : ∀ f o : Fin 16, bits .or .u32 (bits .andNot .u32 (f.val : Int) 4) (bits .and .u32 (o.val : Int) 4) = (f.val : Int) - ((f.val / 4 % 2 : Nat) : Int) * 4 + ((o.val / 4 % 2 : Nat) : Int) * 4 := by decide +kernel
theorem sum_c (V : Int) (c d : Bool) (h : 0 ≤ V ∧ V ≤ 3) : ((V + Fl.isF c 4 + Fl.isF d 8).toNat / 4 % 2 : Nat) = Fl.isF c 1 ∧ 0 ≤ V + Fl.isF c 4 + Fl.isF d 8 ∧ V + Fl.isF c 4 + Fl.isF d 8 < 16 := by
  unfold Fl.isF; cases c <;> cases d <;> simp <;> omega
theorem keep_inc (F o16 : Nat) (V : Int) (c d : Bool) (h : 0 ≤ V ∧ V ≤ 3) (e : (F : Int) = V + Fl.isF c 4 + Fl.isF d 8) (ho : o16 < 16) :
    bits .or .u32 (bits .andNot .u32 (F : Int) 4) (bits .and .u32 (o16 : Int) 4) = V + ((o16 / 4 % 2 : Nat) : Int) * 4 + Fl.isF d 8 := by
  have hs := sum_c V c d h
  have hF : F < 16 := by omega
  have := keep_c ⟨F, hF⟩ ⟨o16, ho⟩
  rw [this]
  have e2 : (V + Fl.isF c 4 + Fl.isF d 8).toNat = F := by omega
  rw [e2] at hs
  have e3 : Fl.isF c 4 = Fl.isF c 1 * 4 := (isF_one c 4).symm
  have := hs.1
  simp only at *
  omega
/-! ## The table of work -/
def wkL : List Value := [.int .u8 0, .bool false, .bool false, .int .u8 1, .bool false, .bool false, .int .u8 1, .bool true, .bool false, .int .u8 2, .bool false, .bool false, .int .u8 2, .bool true, .bool false, .int .u8 3, .bool false, .bool false, .int .u8 5, .bool false, .bool false, .int .u8 6, .bool false, .bool false, .int .u8 7, .bool false, .bool false, .int .u8 8, .bool false, .bool false, .int .u8 4, .bool false, .bool false, .int .u8 1, .bool false, .bool true, .int .u8 2, .bool false, .bool true]
def wkC : Array Value := wkL.toArray
def wkZ : Array Value := #[.int .u8 0, .bool false, .bool false, .int .u8 0, .bool false, .bool false, .int .u8 0, .bool false, .bool false, .int .u8 0, .bool false, .bool false, .int .u8 0, .bool false, .bool false, .int .u8 0, .bool false, .bool false, .int .u8 0, .bool false, .bool false, .int .u8 0, .bool false, .bool false, .int .u8 0, .bool false, .bool false, .int .u8 0, .bool false, .bool false, .int .u8 0, .bool false, .bool false, .int .u8 0, .bool false, .bool false, .int .u8 0, .bool false, .bool false]
theorem wk_info : (Try.prog.info? 147).map (fun i => (i.zero, i.size)) = some (some (.agg wkZ), 39) := by kernel_rfl
theorem wk_bel (w : World) (o1 o2 : Obj) : Below w.heap.size w ((w.alloc o1).alloc o2) := ((Below.refl _ _).alloc (Nat.le_refl _) _).alloc (by simp) _
theorem wk_bel1 (w : World) (o1 : Obj) : Below w.heap.size w (w.alloc o1) := (Below.refl _ _).alloc (Nat.le_refl _) _
theorem wk_belT {w w1 : World} {o1 o2 : Obj} (h : Below ((w.alloc o1).alloc o2).heap.size ((w.alloc o1).alloc o2) w1) : Below w.heap.size w w1 := (wk_bel w o1 o2).trans (h.mono (by simp; omega))
end Go.Proofs.Ytcdphcbjmpgjmaa
