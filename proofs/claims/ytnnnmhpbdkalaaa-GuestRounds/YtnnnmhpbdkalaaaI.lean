import Derived.Test.YtnnnmhpbdkalaaaG
import Derived.Deep.Cut
import Derived.Deep.CutRange
import Derived.Deep.RegionWith
import Derived.Deep.RegionHeld3
import Derived.Laws.BitsAllLaws
namespace Go.Proofs.Ytnnnmhpbdkalaaa
open Go.RowKit

/-- read$1: the next byte. -/
theorem next_any (pb pa b off len cap p : Nat) (y : Int) (w : World) (hb : w.cell? ⟨pb, 0, none⟩ = some (.slice (some ⟨b, off, none⟩) len cap)) (ha : w.cell? ⟨pa, 0, none⟩ = some (.int .i64 p)) (hf : w.frozen? ⟨pa, 0, none⟩ = false)
    (hp : (p : Int) < len) (hl : (len : Int) ≤ 9223372036854775807) (hy : w.cell? ⟨b, off + p, none⟩ = some (.int .u8 y)) (y0 : 0 ≤ y) (y1 : y ≤ 255) :
    Calls Try.prog 26 #[.pointer (some ⟨pb, 0, none⟩), .pointer (some ⟨pa, 0, none⟩)] w fun e w' => e = .returned (.int .i64 y) ∧ w.setCell ⟨pa, 0, none⟩ (.int .i64 (p + 1 : Nat)) = w' := by
  have hp0 : (0 : Int) ≤ p := by omega
  go_enter Try.func26, Try.ntmps26
  go_wp2
  go_ret
  exact ⟨rfl, rfl⟩


/-- A byte with its sign. -/
def sx (y : Int) : Int := if 128 ≤ y then y + 4294967040 else y
/-- The blocks of a call of read, as they lie when its first byte is read. -/
theorem read_world {w W : World} {o0 o1 o2 o3 o4 : Obj} (h : ((((w.alloc o0).alloc o1).alloc o2).alloc o3).alloc o4 = W) :
    W.heap[w.heap.size]? = some o0 ∧ W.heap[w.heap.size + 1]? = some o1 ∧ W.heap[w.heap.size + 1 + 1]? = some o2 ∧ W.heap[w.heap.size + 1 + 1 + 1]? = some o3 ∧ W.heap[w.heap.size + 1 + 1 + 1 + 1]? = some o4 ∧ Below w.heap.size w W := by
  subst h
  have e : ∀ (v : World) (o : Obj) (k : Nat), k < v.heap.size → (v.alloc o).heap[k]? = v.heap[k]? := fun v o k hk => Below.heap_alloc v o k hk
  refine ⟨?_, ?_, ?_, ?_, ?_, ((((((Below.refl _ _).alloc (Nat.le_refl _) _).alloc (by simp) _).alloc (by simp; omega) _).alloc (by simp; omega) _).alloc (by simp; omega) _)⟩
  · rw [e _ _ _ (by simp only [World.size_alloc]; omega), e _ _ _ (by simp only [World.size_alloc]; omega), e _ _ _ (by simp only [World.size_alloc]; omega), e _ _ _ (by simp)]; exact heap_alloc_last _ _
  · rw [e _ _ _ (by simp only [World.size_alloc]; omega), e _ _ _ (by simp only [World.size_alloc]; omega), e _ _ _ (by simp)]; have := heap_alloc_last (w.alloc o0) o1; simpa using this
  · rw [e _ _ _ (by simp only [World.size_alloc]; omega), e _ _ _ (by simp)]; have := heap_alloc_last ((w.alloc o0).alloc o1) o2; simpa using this
  · rw [e _ _ _ (by simp)]; have := heap_alloc_last (((w.alloc o0).alloc o1).alloc o2) o3; simpa using this
  · have := heap_alloc_last ((((w.alloc o0).alloc o1).alloc o2).alloc o3) o4; simpa using this

theorem i8_sx_nat : ∀ n : Fin 256, IntKind.i8.wrap ((n.val : Nat) : Int) % 4294967296 = sx ((n.val : Nat) : Int) := by decide +kernel
theorem i8_sx (y : Int) (h0 : 0 ≤ y) (h1 : y ≤ 255) : IntKind.i8.wrap y % 4294967296 = sx y := by
  have := i8_sx_nat ⟨y.toNat, by omega⟩
  simp only [Int.toNat_of_nonneg h0] at this
  exact this
theorem or_add (a y : Int) (s : Nat) (ha : 0 ≤ a) (has : a < 2 ^ s) (hy : 0 ≤ y) (hs : y * 2 ^ s < 4294967296) (hs2 : (2 : Int) ^ s ≤ 4294967296) : bits .or .u32 a (y * 2 ^ s) = a + y * 2 ^ s := by
  have h2 : (0 : Int) < 2 ^ s := Int.pow_pos (by decide)
  rw [u32_or a (y * 2 ^ s) ha (by omega) (Int.mul_nonneg hy (by omega)) hs]
  obtain ⟨m, rfl⟩ := Int.eq_ofNat_of_zero_le ha
  obtain ⟨n, rfl⟩ := Int.eq_ofNat_of_zero_le hy
  have e1 : ((n : Int) * 2 ^ s).toNat = 2 ^ s * n := by
    have : (n : Int) * 2 ^ s = ((n * 2 ^ s : Nat) : Int) := by simp
    rw [this, Int.toNat_natCast, Nat.mul_comm]
  have hm : m < 2 ^ s := by have : ((2 ^ s : Nat) : Int) = 2 ^ s := by simp
                            omega
  rw [e1, Int.toNat_natCast, Nat.or_comm, ← Nat.two_pow_add_eq_or_of_lt hm]
  simp [Int.mul_comm, Int.add_comm]

/-! ## Writes to two blocks alone -/
structure Two (X A : Nat) (w w' : World) : Prop where
  os : w'.os = w.os
  tape : w'.tape = w.tape
  output : w'.output = w.output
  size : w'.heap.size = w.heap.size
  block : ∀ k, k ≠ X → k ≠ A → w'.heap[k]? = w.heap[k]?
  frozen : ∀ p, w'.frozen? p = w.frozen? p
theorem Two.refl (X A : Nat) (w : World) : Two X A w w := ⟨rfl, rfl, rfl, rfl, fun _ _ _ => rfl, fun _ => rfl⟩
theorem Two.drew {X A : Nat} {w w' : World} (h : Two X A w w') : Two X A w w'.drew := ⟨h.os, h.tape, h.output, h.size, h.block, h.frozen⟩
theorem Two.setX {X A : Nat} {w w' : World} (h : Two X A w w') (o : Nat) (v : Value) : Two X A w (w'.setCell ⟨X, o, none⟩ v) :=
  ⟨h.os, h.tape, h.output, by simp [World.setCell]; exact h.size, fun k hk hk' => (Below.heap_setCell _ _ _ _ hk).trans (h.block k hk hk'), fun p => by rw [← h.frozen p]; simp⟩
theorem Two.setA {X A : Nat} {w w' : World} (h : Two X A w w') (o : Nat) (v : Value) : Two X A w (w'.setCell ⟨A, o, none⟩ v) :=
  ⟨h.os, h.tape, h.output, by simp [World.setCell]; exact h.size, fun k hk hk' => (Below.heap_setCell _ _ _ _ hk').trans (h.block k hk hk'), fun p => by rw [← h.frozen p]; simp⟩
theorem Two.below {X A B : Nat} {w w' : World} (h : Two X A w w') (hX : B ≤ X) (hA : B ≤ A) : Below B w w' := ⟨h.os, h.tape, h.output, by rw [h.size]; exact Nat.le_refl _, fun k hk => h.block k (by omega) (by omega)⟩
theorem Two.cell {X A : Nat} {w w' : World} (h : Two X A w w') {b o : Nat} (hX : b ≠ X) (hA : b ≠ A) : w'.cell? ⟨b, o, none⟩ = w.cell? ⟨b, o, none⟩ := World.cell?_of_block (w := w) (h.block b hX hA)

/-- Four bytes, of which so many have been read. -/
def four (a b c d : Int) : Nat → Int
  | 0 => 0
  | 1 => a
  | 2 => a + b * 256
  | 3 => a + b * 256 + c * 65536
  | _ => a + b * 256 + c * 65536 + d * 16777216

theorem four_0 {a b c d : Int} (a0 : 0 ≤ a) (a1 : a ≤ 255) (_b0 : 0 ≤ b) (_b1 : b ≤ 255) (_c0 : 0 ≤ c) (_c1 : c ≤ 255) (_d0 : 0 ≤ d) (_d1 : d ≤ 255) : bits BinOp.or IntKind.u32 0 a = four a b c d 1 := by
  have := or_add 0 a 0 (by omega) (by simp) a0 (by simp; omega) (by simp)
  simpa [four] using this
theorem four_1 {a b c d : Int} (a0 : 0 ≤ a) (a1 : a ≤ 255) (b0 : 0 ≤ b) (b1 : b ≤ 255) (_c0 : 0 ≤ c) (_c1 : c ≤ 255) (_d0 : 0 ≤ d) (_d1 : d ≤ 255) : bits BinOp.or IntKind.u32 a (b * 256) = four a b c d 2 := by
  have := or_add a b 8 (by omega) (by simp; omega) b0 (by simp; omega) (by simp)
  simpa [four] using this
theorem four_2 {a b c d : Int} (a0 : 0 ≤ a) (a1 : a ≤ 255) (b0 : 0 ≤ b) (b1 : b ≤ 255) (c0 : 0 ≤ c) (c1 : c ≤ 255) (_d0 : 0 ≤ d) (_d1 : d ≤ 255) : bits BinOp.or IntKind.u32 (a + b * 256) (c * 65536) = four a b c d 3 := by
  have := or_add (a + b * 256) c 16 (by omega) (by simp; omega) c0 (by simp; omega) (by simp)
  simpa [four] using this
theorem four_3 {a b c d : Int} (a0 : 0 ≤ a) (a1 : a ≤ 255) (b0 : 0 ≤ b) (b1 : b ≤ 255) (c0 : 0 ≤ c) (c1 : c ≤ 255) (d0 : 0 ≤ d) (d1 : d ≤ 255) : bits BinOp.or IntKind.u32 (a + b * 256 + c * 65536) (d * 16777216) = four a b c d 4 := by
  have := or_add (a + b * 256 + c * 65536) d 24 (by omega) (by simp; omega) d0 (by simp; omega) (by simp)
  simpa [four] using this

end Go.Proofs.Ytnnnmhpbdkalaaa
