
import Derived.Test.YtcdphcbjmpgjmaaProg
import Derived.WalkKit
import Derived.WalkSpells
import Derived.WalkLawsBesides
import Derived.Deep.QuietTactic
import Derived.BigQuiet
import Derived.KernelRfl
namespace Go.Proofs.Ytcdphcbjmpgjmaa.Gu
open Go.RowKit

def endsB (op : Int) : Bool := decide (op = 1 ∨ op = 2 ∨ (5 ≤ op ∧ op ≤ 13))

theorem ends12 (op : Int) (w : World) : Calls Try.prog 17 #[.int .i64 op] w (fun e w' => e = .returned (.bool (endsB op)) ∧ w = w') := by
  by_cases h1 : op = 1
  · subst h1; go_enter Try.func17, Try.ntmps17; go_wp2; go_ret; exact ⟨rfl, rfl⟩
  · by_cases h2 : op = 2
    · subst h2; go_enter Try.func17, Try.ntmps17; go_wp2; go_ret; exact ⟨rfl, rfl⟩
    · have e1 : (op == 1) = false := by simpa using h1
      have e2 : (op == 2) = false := by simpa using h2
      by_cases h3 : 5 ≤ op
      · by_cases h4 : op ≤ 13
        · have e : endsB op = true := by simp [endsB, h3, h4]
          rw [e]; clear h1 h2 e; go_enter Try.func17, Try.ntmps17; go_wp2; go_ret; exact ⟨rfl, rfl⟩
        · have e : endsB op = false := by simp [endsB, h1, h2]; omega
          rw [e]; clear h1 h2 e; go_enter Try.func17, Try.ntmps17; go_wp2; go_ret; exact ⟨rfl, rfl⟩
      · have e : endsB op = false := by simp [endsB, h1, h2]; omega
        rw [e]; clear h1 h2 e; go_enter Try.func17, Try.ntmps17; go_wp2; go_ret; exact ⟨rfl, rfl⟩

theorem ends13 (op : Int) (w : World) : Calls Try.prog 18 #[.int .i64 op] w (fun e w' => e = .returned (.bool (endsB op)) ∧ w = w') := by
  by_cases h1 : op = 1
  · subst h1; go_enter Try.func18, Try.ntmps18; go_wp2; go_ret; exact ⟨rfl, rfl⟩
  · by_cases h2 : op = 2
    · subst h2; go_enter Try.func18, Try.ntmps18; go_wp2; go_ret; exact ⟨rfl, rfl⟩
    · have e1 : (op == 1) = false := by simpa using h1
      have e2 : (op == 2) = false := by simpa using h2
      by_cases h3 : 5 ≤ op
      · by_cases h4 : op ≤ 13
        · have e : endsB op = true := by simp [endsB, h3, h4]
          rw [e]; clear h1 h2 e; go_enter Try.func18, Try.ntmps18; go_wp2; go_ret; exact ⟨rfl, rfl⟩
        · have e : endsB op = false := by simp [endsB, h1, h2]; omega
          rw [e]; clear h1 h2 e; go_enter Try.func18, Try.ntmps18; go_wp2; go_ret; exact ⟨rfl, rfl⟩
      · have e : endsB op = false := by simp [endsB, h1, h2]; omega
        rw [e]; clear h1 h2 e; go_enter Try.func18, Try.ntmps18; go_wp2; go_ret; exact ⟨rfl, rfl⟩

/-- rowOfByte$1 -/
theorem fits_byte (p : Nat) (x op first count field regs imm : Int) (w : World) (hx : w.cell? ⟨p, 0, none⟩ = some (.int .u8 x)) (hp : p < w.heap.size) :
    Calls Try.prog 79 #[.agg #[.int .u8 op, .int .u8 first, .int .u8 count, .int .u8 field, .int .u8 regs, .int .u8 imm], .pointer (some ⟨p, 0, none⟩)] w
      fun e w' => e = .returned (.bool (decide ((x - first) % 256 < count))) ∧ Below w.heap.size w w' := by
  go_enter Try.func79, Try.ntmps79
  go_wp2
  go_ret
  exact ⟨rfl, (Below.refl _ _).alloc (Nat.le_refl _) _⟩

/-- rowOfOp$1 -/
theorem fits_op (p : Nat) (x op first count field regs imm : Int) (w : World) (hx : w.cell? ⟨p, 0, none⟩ = some (.int .i64 x)) (hp : p < w.heap.size) (h0 : 0 ≤ op) (h1 : op ≤ 255) :
    Calls Try.prog 82 #[.agg #[.int .u8 op, .int .u8 first, .int .u8 count, .int .u8 field, .int .u8 regs, .int .u8 imm], .pointer (some ⟨p, 0, none⟩)] w
      fun e w' => e = .returned (.bool (op == x)) ∧ Below w.heap.size w w' := by
  go_enter Try.func82, Try.ntmps82
  go_wp2
  go_ret
  exact ⟨rfl, (Below.refl _ _).alloc (Nat.le_refl _) _⟩

/-- (row).size -/
def sizeN (regs imm : Int) : Int := 1 + (if imm = 0 then 0 else if imm = 3 then 4 else 1) + (if regs = 0 then 0 else 1)
theorem size_any (op first count field regs imm : Int) (w : World) (h0 : 0 ≤ imm) (h1 : imm ≤ 3) :
    Calls Try.prog 37 #[.agg #[.int .u8 op, .int .u8 first, .int .u8 count, .int .u8 field, .int .u8 regs, .int .u8 imm]] w
      fun e w' => e = .returned (.int .i64 (sizeN regs imm)) ∧ Below w.heap.size w w' := by
  have hb : ∀ (o1 o2 : Obj), Below w.heap.size w ((w.alloc o1).alloc o2) := fun o1 o2 => ((Below.refl _ _).alloc (Nat.le_refl _) _).alloc (by simp) _
  rcases (by omega : imm = 0 ∨ imm = 1 ∨ imm = 2 ∨ imm = 3) with rfl | rfl | rfl | rfl
  all_goals
    by_cases hr : regs = 0
    · subst hr
      go_enter Try.func37, Try.ntmps37
      go_wp2
      go_ret
      exact ⟨rfl, hb _ _⟩
    · have hr' : (regs == 0) = false := by simpa using hr
      have hr2 : (regs != 0) = true := by simpa using hr
      simp only [sizeN, if_neg hr]
      clear hr
      go_enter Try.func37, Try.ntmps37
      go_wp2
      go_ret
      exact ⟨rfl, hb _ _⟩

theorem byteOf_any (x : Int) (w : World) (h0 : 0 ≤ x) (h1 : x ≤ 255) :
    Calls Try.prog 41 #[.int .u8 x] w fun e w' => e = .returned (.int .u32 (if 128 ≤ x then x + 4294967040 else x)) ∧ w = w' := by
  by_cases h : 128 ≤ x
  · rw [if_pos h]
    go_enter Try.func41, Try.ntmps41
    go_wp2
    go_ret
    exact ⟨rfl, rfl⟩
  · rw [if_neg h]
    go_enter Try.func41, Try.ntmps41
    go_wp2
    go_ret
    exact ⟨rfl, rfl⟩

theorem and15_nat : ∀ n : Fin 256, bits BinOp.and IntKind.i64 ((n.val : Nat) : Int) 15 = ((n.val : Nat) : Int) % 16 := by decide +kernel
theorem and15 (x : Int) (h0 : 0 ≤ x) (h1 : x ≤ 255) : bits BinOp.and IntKind.i64 x 15 = x % 16 := by
  have := and15_nat ⟨x.toNat, by omega⟩
  simp only [Int.toNat_of_nonneg h0] at this
  exact this

theorem halves_any (x : Int) (w : World) (h0 : 0 ≤ x) (h1 : x ≤ 255) :
    Calls Try.prog 81 #[.int .i64 x] w fun e w' => e = .returned (.tuple #[.int .i64 (x / 16), .int .i64 (x % 16)]) ∧ w = w' := by
  go_enter Try.func81, Try.ntmps81
  go_wp2
  go_ret2
  refine ⟨?_, rfl⟩
  show Ending.returned (.tuple #[.int .i64 (x / 16), .int .i64 (bits BinOp.and IntKind.i64 x 15)]) = _
  rw [and15 x h0 h1]

end Go.Proofs.Ytcdphcbjmpgjmaa.Gu
