import Derived.Test.YtgkkghphlbgcoaaHC
import Derived.OwnWalk
import Derived.Below
import Derived.Deep.RegionHeld3
import Derived.Deep.CutBlock
namespace Go.Proofs.Ytgkkghphlbgcoaa.Ho
open Go.RowKit
set_option maxRecDepth 100000
set_option linter.unusedVariables false
set_option linter.unusedSimpArgs false
theorem row_cell {w : World} {X : Nat} {A : Array Value} {T : TypeId} (h : w.heap[X]? = some (.cells A T)) (o : Nat) : w.cell? ⟨X, o, none⟩ = A[o]? := cell_of_row _ _ o _ _ (0, 0) h
theorem row_fr {w : World} {X : Nat} {A : Array Value} {T : TypeId} (h : w.heap[X]? = some (.cells A T)) (o : Nat) : w.frozen? ⟨X, o, none⟩ = false := frozen_of_row _ _ o _ _ h
theorem row_lt {w : World} {X : Nat} {A : Array Value} {T : TypeId} (h : w.heap[X]? = some (.cells A T)) : X < w.heap.size := by
  rcases Nat.lt_or_ge X w.heap.size with g | g
  · exact g
  · rw [Array.getElem?_eq_none g] at h; cases h
theorem blk_set {w : World} {X o : Nat} {A : Array Value} {T : TypeId} (h : w.heap[X]? = some (.cells A T)) (v : Value) : (w.setCell ⟨X, o, none⟩ v).heap[X]? = some (.cells (A.setIfInBounds o v) T) := heap_setCell_same w X o A T v h
theorem blk_other {w : World} {X Y o : Nat} (hne : Y ≠ X) (v : Value) : (w.setCell ⟨X, o, none⟩ v).heap[Y]? = w.heap[Y]? := Below.heap_setCell w ⟨X, o, none⟩ v Y hne

structure Chg (S : List Nat) (w w' : World) : Prop where
  os : w'.os = w.os
  tape : w'.tape = w.tape
  output : w'.output = w.output
  size : w.heap.size ≤ w'.heap.size
  block : ∀ k, k < w.heap.size → k ∉ S → w'.heap[k]? = w.heap[k]?
theorem Chg.refl (S : List Nat) (w : World) : Chg S w w := ⟨rfl, rfl, rfl, Nat.le_refl _, fun _ _ _ => rfl⟩
theorem Chg.trans {S : List Nat} {a b c : World} (h : Chg S a b) (k : Chg S b c) : Chg S a c :=
  ⟨k.os.trans h.os, k.tape.trans h.tape, k.output.trans h.output, Nat.le_trans h.size k.size, fun i hi hs => (k.block i (Nat.lt_of_lt_of_le hi h.size) hs).trans (h.block i hi hs)⟩
theorem Chg.mono {S S' : List Nat} {w w' : World} (h : Chg S w w') (hs : ∀ k ∈ S, k ∈ S') : Chg S' w w' :=
  ⟨h.os, h.tape, h.output, h.size, fun k hk hn => h.block k hk (fun hm => hn (hs k hm))⟩
theorem Chg.of_below {w w' : World} (S : List Nat) (h : Below w.heap.size w w') : Chg S w w' :=
  ⟨h.os, h.tape, h.output, h.size, fun k hk _ => h.block k hk⟩
theorem Chg.below {S : List Nat} {w w' : World} {n : Nat} (h : Chg S w w') (hn : n ≤ w.heap.size) (hS : ∀ k ∈ S, n ≤ k) : Below n w w' :=
  ⟨h.os, h.tape, h.output, h.size, fun k hk => h.block k (by omega) (fun hm => by have := hS k hm; omega)⟩
theorem Chg.set {S : List Nat} {a b : World} (h : Chg S a b) {B : Nat} (hB : B ∈ S) (o : Nat) (v : Value) : Chg S a (b.setCell ⟨B, o, none⟩ v) :=
  h.trans ⟨rfl, rfl, rfl, by simp, fun k _ hs => Below.heap_setCell b ⟨B, o, none⟩ v k (fun e => hs (e ▸ hB))⟩
theorem Chg.drew {S : List Nat} {a b : World} (h : Chg S a b) : Chg S a b.drew := h.trans (Chg.of_below _ (Below.refl _ _).drew)
theorem Chg.alloc {S : List Nat} {a b : World} (h : Chg S a b) (o : Obj) : Chg S a (b.alloc o) := h.trans (Chg.of_below _ ((Below.refl _ _).alloc (Nat.le_refl _) _))
theorem Chg.keep {S : List Nat} {w w' : World} (h : Chg S w w') {k : Nat} {A : Array Value} {T : TypeId} (hb : w.heap[k]? = some (.cells A T)) (hs : k ∉ S) : w'.heap[k]? = some (.cells A T) := (h.block k (row_lt hb) hs).trans hb

/-! ## room, cut -/
theorem room8 (w : World) : Calls Try.prog 70 #[.int .i64 8] w fun e w' => e = .returned (.int .u32 255) ∧ w = w' := by
  go_enter Try.func70, Try.ntmps70; go_wp2; go_ret; exact ⟨rfl, rfl⟩
theorem mask8 (x : Nat) (hx : x < 4294967296) : bits .and .u32 (x : Int) 255 = ((x % 256 : Nat) : Int) := by
  rw [show (255 : Int) = ((255 : Nat) : Int) from rfl, Go.u32_and_nat _ _ hx (by decide)]
  exact congrArg _ (Nat.and_two_pow_sub_one_eq_mod x 8)
theorem room4 (w : World) : Calls Try.prog 70 #[.int .i64 4] w fun e w' => e = .returned (.int .u32 15) ∧ w = w' := by
  go_enter Try.func70, Try.ntmps70; go_wp2; go_ret; exact ⟨rfl, rfl⟩
theorem mask4 (x : Nat) (hx : x < 4294967296) : bits .and .u32 (x : Int) 15 = ((x % 16 : Nat) : Int) := by
  rw [show (15 : Int) = ((15 : Nat) : Int) from rfl, Go.u32_and_nat _ _ hx (by decide)]
  exact congrArg _ (Nat.and_two_pow_sub_one_eq_mod x 4)
theorem room16 (w : World) : Calls Try.prog 70 #[.int .i64 16] w fun e w' => e = .returned (.int .u32 65535) ∧ w = w' := by
  go_enter Try.func70, Try.ntmps70; go_wp2; go_ret; exact ⟨rfl, rfl⟩
theorem mask16 (x : Nat) (hx : x < 4294967296) : bits .and .u32 (x : Int) 65535 = ((x % 65536 : Nat) : Int) := by
  rw [show (65535 : Int) = ((65535 : Nat) : Int) from rfl, Go.u32_and_nat _ _ hx (by decide)]
  exact congrArg _ (Nat.and_two_pow_sub_one_eq_mod x 16)
theorem or_add_of_and : ∀ (a b : Nat), a &&& b = 0 → a ||| b = a + b := by
  intro a
  induction a using Nat.strongRecOn with
  | ind a ih =>
    intro b h
    by_cases h0 : a = 0
    · subst h0; simp
    · have hd : a / 2 &&& b / 2 = 0 := by rw [← Nat.and_div_two, h]
      have hr := ih (a / 2) (by omega) (b / 2) hd
      have hm : (a ||| b) / 2 = a / 2 ||| b / 2 := Nat.or_div_two
      have h2 : (a &&& b) % 2 = 0 := by rw [h]
      have e : (a ||| b) % 2 = (a % 2 + b % 2) := by
        have t0 : (a &&& b).testBit 0 = false := by rw [h]; simp
        have t1 : (a ||| b).testBit 0 = (a.testBit 0 || b.testBit 0) := Nat.testBit_or _ _ _
        rw [Nat.testBit_and] at t0
        simp only [Nat.testBit_zero] at t0 t1
        have := Nat.mod_two_eq_zero_or_one (a ||| b)
        have := Nat.mod_two_eq_zero_or_one a
        have := Nat.mod_two_eq_zero_or_one b
        rcases Nat.mod_two_eq_zero_or_one a with ha | ha <;> rcases Nat.mod_two_eq_zero_or_one b with hb | hb <;> rcases Nat.mod_two_eq_zero_or_one (a ||| b) with hc | hc <;> rw [ha, hb] at t0 t1 <;> rw [hc] at t1 <;> first | (exact absurd t0 (by decide)) | (exact absurd t1 (by decide)) | omega
      omega
/-- Bits that are in a number, taken out of it. -/
theorem andNot_sub (a b : Nat) (ha : a < 4294967296) (h : a &&& b = b) : a &&& (4294967295 - b) = a - b := by
  have hb : b ≤ a := by rw [← h]; exact Nat.and_le_left
  have hx : a ^^^ b = a - b := by
    have h2 : (a ^^^ b) &&& b = 0 := by
      apply Nat.eq_of_testBit_eq
      intro i
      have := congrArg (fun n => n.testBit i) h
      simp only [Nat.testBit_and] at this
      rw [Nat.testBit_and, Nat.testBit_xor, Nat.zero_testBit]
      revert this; cases a.testBit i <;> cases b.testBit i <;> simp
    have h3 := or_add_of_and (a ^^^ b) b h2
    have h4 : (a ^^^ b) ||| b = a := by
      apply Nat.eq_of_testBit_eq
      intro i
      have := congrArg (fun n => n.testBit i) h
      simp only [Nat.testBit_and] at this
      rw [Nat.testBit_or, Nat.testBit_xor]
      revert this; cases a.testBit i <;> cases b.testBit i <;> simp
    omega
  rw [← hx]
  apply Nat.eq_of_testBit_eq
  intro i
  have hab := congrArg (fun n => n.testBit i) h
  simp only [Nat.testBit_and] at hab
  rw [Nat.testBit_and, Nat.testBit_xor, show (4294967295 : Nat) - b = 2 ^ 32 - (b + 1) by omega, Nat.testBit_two_pow_sub_succ (by omega)]
  by_cases hi : i < 32
  · revert hab; simp only [hi, decide_true, Bool.true_and]; cases a.testBit i <;> cases b.testBit i <;> simp
  · have e1 : a.testBit i = false := Nat.testBit_lt_two_pow (Nat.lt_of_lt_of_le (show a < 2 ^ 32 by simpa using ha) (Nat.pow_le_pow_right (by decide) (by omega)))
    have e2 : b.testBit i = false := Nat.testBit_lt_two_pow (Nat.lt_of_lt_of_le (show b < 2 ^ 32 by omega) (Nat.pow_le_pow_right (by decide) (by omega)))
    simp [e1, e2]
theorem part_and (v l b : Nat) : v &&& (v / 2 ^ l % 2 ^ b * 2 ^ l) = v / 2 ^ l % 2 ^ b * 2 ^ l := by
  apply Nat.eq_of_testBit_eq
  intro i
  rw [Nat.testBit_and, Nat.mul_comm, Nat.testBit_two_pow_mul]
  by_cases hi : l ≤ i
  · rw [Nat.testBit_mod_two_pow, Nat.testBit_div_two_pow]
    rw [show i - l + l = i by omega]
    simp [hi]
  · simp [hi]
/-- A field of a word: so many bits behind so many. -/
def fld (c : Bool) (l b v : Nat) : Nat := if c then v / l % b else 0
/-- What is left of the word without them. -/
def rst (c : Bool) (l b v : Nat) : Nat := if c then v - v / l % b * l else v
theorem rst_lt (c : Bool) (l b v : Nat) (h : v < 4294967296) : rst c l b v < 4294967296 := by unfold rst; split <;> omega
theorem cut0_8 (B : Nat) (v : Nat) (w : World) (hB : w.heap[B]? = some (.cells #[.int .u32 v] 30)) (hv : v < 4294967296) :
    Calls Try.prog 86 #[.int .i64 0, .int .i64 8, .pointer (some ⟨B, 0, none⟩)] w fun e w' => e = .returned (.int .i64 (fld true 1 256 v)) ∧ w'.heap[B]? = some (.cells #[.int .u32 (rst true 1 256 v)] 30) ∧ Chg [B] w w' := by
  have c0 : w.cell? ⟨B, 0, none⟩ = some (.int .u32 v) := row_cell hB 0
  have f0 : w.frozen? ⟨B, 0, none⟩ = false := row_fr hB 0
  have lB := row_lt hB
  have v0 : (0 : Int) ≤ v := by omega
  have v1 : (v : Int) < 4294967296 := by omega
  have hm : bits .and .u32 ((v : Int)) 255 = ((v / 1 % 256 : Nat) : Int) := by
    have := mask8 (v / 1) (by omega)
    simpa using this
  have hn : bits .andNot .u32 (v : Int) (IntKind.u32.wrap (((v / 1 % 256 : Nat) : Int))) = ((v - v / 1 % 256 * 1 : Nat) : Int) := by
    rw [show IntKind.u32.wrap (((v / 1 % 256 : Nat) : Int)) = ((v / 1 % 256 * 1 : Nat) : Int) from by rw [IntWalk.u32_in _ (by omega)]; omega]
    rw [Go.u32_andNot_nat _ _ hv (by omega), andNot_sub _ _ hv (part_and v 0 8)]
  generalize hx : v / 1 % 256 = x at *
  have x0 : (0 : Int) ≤ x := by omega
  have x1 : (x : Int) < 256 := by omega
  go_enter Try.func86, Try.ntmps86
  go_wp2_with (fail)
  go_region_held3 (fun W' => W'.cell? ⟨B, 0, none⟩ = some (.int .u32 v)) ((simp [go_sem, c0]; done)) ((go_at_call 70; refine (room8 _).mono ?_; rintro e w1 ⟨rfl, rfl⟩))
  try rw [hm]
  go_wp2
  go_region_with (fail)
  try rw [hn]
  go_wp2
  go_ret
  exact ⟨by rw [fld, if_pos rfl, hx]; rfl, by rw [rst, if_pos rfl, hx]; first | exact blk_set (o := 0) hB _ | (rw [Nat.mul_one]; exact blk_set (o := 0) hB _), (((Chg.refl [B] w).set (by simp) _ _).drew).drew⟩
theorem cut8_4 (B : Nat) (v : Nat) (w : World) (hB : w.heap[B]? = some (.cells #[.int .u32 v] 30)) (hv : v < 4294967296) :
    Calls Try.prog 86 #[.int .i64 8, .int .i64 4, .pointer (some ⟨B, 0, none⟩)] w fun e w' => e = .returned (.int .i64 (fld true 256 16 v)) ∧ w'.heap[B]? = some (.cells #[.int .u32 (rst true 256 16 v)] 30) ∧ Chg [B] w w' := by
  have c0 : w.cell? ⟨B, 0, none⟩ = some (.int .u32 v) := row_cell hB 0
  have f0 : w.frozen? ⟨B, 0, none⟩ = false := row_fr hB 0
  have lB := row_lt hB
  have v0 : (0 : Int) ≤ v := by omega
  have v1 : (v : Int) < 4294967296 := by omega
  have hm : bits .and .u32 ((v : Int) / 256) 15 = ((v / 256 % 16 : Nat) : Int) := by
    have := mask4 (v / 256) (by omega)
    simpa using this
  have hn : bits .andNot .u32 (v : Int) (IntKind.u32.wrap (((v / 256 % 16 : Nat) : Int) * 256)) = ((v - v / 256 % 16 * 256 : Nat) : Int) := by
    rw [show IntKind.u32.wrap (((v / 256 % 16 : Nat) : Int) * 256) = ((v / 256 % 16 * 256 : Nat) : Int) from by rw [IntWalk.u32_in _ (by omega)]; omega]
    rw [Go.u32_andNot_nat _ _ hv (by omega), andNot_sub _ _ hv (part_and v 8 4)]
  generalize hx : v / 256 % 16 = x at *
  have x0 : (0 : Int) ≤ x := by omega
  have x1 : (x : Int) < 16 := by omega
  go_enter Try.func86, Try.ntmps86
  go_wp2_with (fail)
  go_region_held3 (fun W' => W'.cell? ⟨B, 0, none⟩ = some (.int .u32 v)) ((simp [go_sem, c0]; done)) ((go_at_call 70; refine (room4 _).mono ?_; rintro e w1 ⟨rfl, rfl⟩))
  try rw [hm]
  go_wp2
  go_region_with (fail)
  try rw [hn]
  go_wp2
  go_ret
  exact ⟨by rw [fld, if_pos rfl, hx]; rfl, by rw [rst, if_pos rfl, hx]; first | exact blk_set (o := 0) hB _ | (rw [Nat.mul_one]; exact blk_set (o := 0) hB _), (((Chg.refl [B] w).set (by simp) _ _).drew).drew⟩
theorem cut12_4 (B : Nat) (v : Nat) (w : World) (hB : w.heap[B]? = some (.cells #[.int .u32 v] 30)) (hv : v < 4294967296) :
    Calls Try.prog 86 #[.int .i64 12, .int .i64 4, .pointer (some ⟨B, 0, none⟩)] w fun e w' => e = .returned (.int .i64 (fld true 4096 16 v)) ∧ w'.heap[B]? = some (.cells #[.int .u32 (rst true 4096 16 v)] 30) ∧ Chg [B] w w' := by
  have c0 : w.cell? ⟨B, 0, none⟩ = some (.int .u32 v) := row_cell hB 0
  have f0 : w.frozen? ⟨B, 0, none⟩ = false := row_fr hB 0
  have lB := row_lt hB
  have v0 : (0 : Int) ≤ v := by omega
  have v1 : (v : Int) < 4294967296 := by omega
  have hm : bits .and .u32 ((v : Int) / 4096) 15 = ((v / 4096 % 16 : Nat) : Int) := by
    have := mask4 (v / 4096) (by omega)
    simpa using this
  have hn : bits .andNot .u32 (v : Int) (IntKind.u32.wrap (((v / 4096 % 16 : Nat) : Int) * 4096)) = ((v - v / 4096 % 16 * 4096 : Nat) : Int) := by
    rw [show IntKind.u32.wrap (((v / 4096 % 16 : Nat) : Int) * 4096) = ((v / 4096 % 16 * 4096 : Nat) : Int) from by rw [IntWalk.u32_in _ (by omega)]; omega]
    rw [Go.u32_andNot_nat _ _ hv (by omega), andNot_sub _ _ hv (part_and v 12 4)]
  generalize hx : v / 4096 % 16 = x at *
  have x0 : (0 : Int) ≤ x := by omega
  have x1 : (x : Int) < 16 := by omega
  go_enter Try.func86, Try.ntmps86
  go_wp2_with (fail)
  go_region_held3 (fun W' => W'.cell? ⟨B, 0, none⟩ = some (.int .u32 v)) ((simp [go_sem, c0]; done)) ((go_at_call 70; refine (room4 _).mono ?_; rintro e w1 ⟨rfl, rfl⟩))
  try rw [hm]
  go_wp2
  go_region_with (fail)
  try rw [hn]
  go_wp2
  go_ret
  exact ⟨by rw [fld, if_pos rfl, hx]; rfl, by rw [rst, if_pos rfl, hx]; first | exact blk_set (o := 0) hB _ | (rw [Nat.mul_one]; exact blk_set (o := 0) hB _), (((Chg.refl [B] w).set (by simp) _ _).drew).drew⟩
theorem cut16_4 (B : Nat) (v : Nat) (w : World) (hB : w.heap[B]? = some (.cells #[.int .u32 v] 30)) (hv : v < 4294967296) :
    Calls Try.prog 86 #[.int .i64 16, .int .i64 4, .pointer (some ⟨B, 0, none⟩)] w fun e w' => e = .returned (.int .i64 (fld true 65536 16 v)) ∧ w'.heap[B]? = some (.cells #[.int .u32 (rst true 65536 16 v)] 30) ∧ Chg [B] w w' := by
  have c0 : w.cell? ⟨B, 0, none⟩ = some (.int .u32 v) := row_cell hB 0
  have f0 : w.frozen? ⟨B, 0, none⟩ = false := row_fr hB 0
  have lB := row_lt hB
  have v0 : (0 : Int) ≤ v := by omega
  have v1 : (v : Int) < 4294967296 := by omega
  have hm : bits .and .u32 ((v : Int) / 65536) 15 = ((v / 65536 % 16 : Nat) : Int) := by
    have := mask4 (v / 65536) (by omega)
    simpa using this
  have hn : bits .andNot .u32 (v : Int) (IntKind.u32.wrap (((v / 65536 % 16 : Nat) : Int) * 65536)) = ((v - v / 65536 % 16 * 65536 : Nat) : Int) := by
    rw [show IntKind.u32.wrap (((v / 65536 % 16 : Nat) : Int) * 65536) = ((v / 65536 % 16 * 65536 : Nat) : Int) from by rw [IntWalk.u32_in _ (by omega)]; omega]
    rw [Go.u32_andNot_nat _ _ hv (by omega), andNot_sub _ _ hv (part_and v 16 4)]
  generalize hx : v / 65536 % 16 = x at *
  have x0 : (0 : Int) ≤ x := by omega
  have x1 : (x : Int) < 16 := by omega
  go_enter Try.func86, Try.ntmps86
  go_wp2_with (fail)
  go_region_held3 (fun W' => W'.cell? ⟨B, 0, none⟩ = some (.int .u32 v)) ((simp [go_sem, c0]; done)) ((go_at_call 70; refine (room4 _).mono ?_; rintro e w1 ⟨rfl, rfl⟩))
  try rw [hm]
  go_wp2
  go_region_with (fail)
  try rw [hn]
  go_wp2
  go_ret
  exact ⟨by rw [fld, if_pos rfl, hx]; rfl, by rw [rst, if_pos rfl, hx]; first | exact blk_set (o := 0) hB _ | (rw [Nat.mul_one]; exact blk_set (o := 0) hB _), (((Chg.refl [B] w).set (by simp) _ _).drew).drew⟩
theorem cut20_4 (B : Nat) (v : Nat) (w : World) (hB : w.heap[B]? = some (.cells #[.int .u32 v] 30)) (hv : v < 4294967296) :
    Calls Try.prog 86 #[.int .i64 20, .int .i64 4, .pointer (some ⟨B, 0, none⟩)] w fun e w' => e = .returned (.int .i64 (fld true 1048576 16 v)) ∧ w'.heap[B]? = some (.cells #[.int .u32 (rst true 1048576 16 v)] 30) ∧ Chg [B] w w' := by
  have c0 : w.cell? ⟨B, 0, none⟩ = some (.int .u32 v) := row_cell hB 0
  have f0 : w.frozen? ⟨B, 0, none⟩ = false := row_fr hB 0
  have lB := row_lt hB
  have v0 : (0 : Int) ≤ v := by omega
  have v1 : (v : Int) < 4294967296 := by omega
  have hm : bits .and .u32 ((v : Int) / 1048576) 15 = ((v / 1048576 % 16 : Nat) : Int) := by
    have := mask4 (v / 1048576) (by omega)
    simpa using this
  have hn : bits .andNot .u32 (v : Int) (IntKind.u32.wrap (((v / 1048576 % 16 : Nat) : Int) * 1048576)) = ((v - v / 1048576 % 16 * 1048576 : Nat) : Int) := by
    rw [show IntKind.u32.wrap (((v / 1048576 % 16 : Nat) : Int) * 1048576) = ((v / 1048576 % 16 * 1048576 : Nat) : Int) from by rw [IntWalk.u32_in _ (by omega)]; omega]
    rw [Go.u32_andNot_nat _ _ hv (by omega), andNot_sub _ _ hv (part_and v 20 4)]
  generalize hx : v / 1048576 % 16 = x at *
  have x0 : (0 : Int) ≤ x := by omega
  have x1 : (x : Int) < 16 := by omega
  go_enter Try.func86, Try.ntmps86
  go_wp2_with (fail)
  go_region_held3 (fun W' => W'.cell? ⟨B, 0, none⟩ = some (.int .u32 v)) ((simp [go_sem, c0]; done)) ((go_at_call 70; refine (room4 _).mono ?_; rintro e w1 ⟨rfl, rfl⟩))
  try rw [hm]
  go_wp2
  go_region_with (fail)
  try rw [hn]
  go_wp2
  go_ret
  exact ⟨by rw [fld, if_pos rfl, hx]; rfl, by rw [rst, if_pos rfl, hx]; first | exact blk_set (o := 0) hB _ | (rw [Nat.mul_one]; exact blk_set (o := 0) hB _), (((Chg.refl [B] w).set (by simp) _ _).drew).drew⟩
theorem cut16_16 (B : Nat) (v : Nat) (w : World) (hB : w.heap[B]? = some (.cells #[.int .u32 v] 30)) (hv : v < 4294967296) :
    Calls Try.prog 86 #[.int .i64 16, .int .i64 16, .pointer (some ⟨B, 0, none⟩)] w fun e w' => e = .returned (.int .i64 (fld true 65536 65536 v)) ∧ w'.heap[B]? = some (.cells #[.int .u32 (rst true 65536 65536 v)] 30) ∧ Chg [B] w w' := by
  have c0 : w.cell? ⟨B, 0, none⟩ = some (.int .u32 v) := row_cell hB 0
  have f0 : w.frozen? ⟨B, 0, none⟩ = false := row_fr hB 0
  have lB := row_lt hB
  have v0 : (0 : Int) ≤ v := by omega
  have v1 : (v : Int) < 4294967296 := by omega
  have hm : bits .and .u32 ((v : Int) / 65536) 65535 = ((v / 65536 % 65536 : Nat) : Int) := by
    have := mask16 (v / 65536) (by omega)
    simpa using this
  have hn : bits .andNot .u32 (v : Int) (IntKind.u32.wrap (((v / 65536 % 65536 : Nat) : Int) * 65536)) = ((v - v / 65536 % 65536 * 65536 : Nat) : Int) := by
    rw [show IntKind.u32.wrap (((v / 65536 % 65536 : Nat) : Int) * 65536) = ((v / 65536 % 65536 * 65536 : Nat) : Int) from by rw [IntWalk.u32_in _ (by omega)]; omega]
    rw [Go.u32_andNot_nat _ _ hv (by omega), andNot_sub _ _ hv (part_and v 16 16)]
  generalize hx : v / 65536 % 65536 = x at *
  have x0 : (0 : Int) ≤ x := by omega
  have x1 : (x : Int) < 65536 := by omega
  go_enter Try.func86, Try.ntmps86
  go_wp2_with (fail)
  go_region_held3 (fun W' => W'.cell? ⟨B, 0, none⟩ = some (.int .u32 v)) ((simp [go_sem, c0]; done)) ((go_at_call 70; refine (room16 _).mono ?_; rintro e w1 ⟨rfl, rfl⟩))
  try rw [hm]
  go_wp2
  go_region_with (fail)
  try rw [hn]
  go_wp2
  go_ret
  exact ⟨by rw [fld, if_pos rfl, hx]; rfl, by rw [rst, if_pos rfl, hx]; first | exact blk_set (o := 0) hB _ | (rw [Nat.mul_one]; exact blk_set (o := 0) hB _), (((Chg.refl [B] w).set (by simp) _ _).drew).drew⟩
structure FW (w : World) (BI BC R I : Nat) (v : Nat) (h : Int) : Prop where
  bi : w.heap[BI]? = some (.cells #[.pointer (some ⟨I, 0, none⟩)] 128)
  bc : w.heap[BC]? = some (.cells #[.func (Fn.func 86) #[] #[.pointer (some ⟨R, 0, none⟩)]] 145)
  br : w.heap[R]? = some (.cells #[.int .u32 v] 30)
  ch : w.cell? ⟨I, 11, none⟩ = some (.int .u16 h)
  lI : I < w.heap.size
theorem field_d (BI BC R I v : Nat) (h : Int) (c : Bool) (w : World) (hW : FW w BI BC R I v h) (hv : v < 4294967296) (hc : bits .and .u16 h 448 = 0 ↔ c = false) :
    Calls Try.prog 87 #[.int .u16 448, .int .i64 8, .int .i64 4, .pointer (some ⟨BI, 0, none⟩), .pointer (some ⟨BC, 0, none⟩)] w fun e w' => e = .returned (.int .i64 (fld c 256 16 v)) ∧ w'.heap[R]? = some (.cells #[.int .u32 (rst c 256 16 v)] 30) ∧ Chg [R] w w' := by
  have c0 : w.cell? ⟨BI, 0, none⟩ = some (.pointer (some ⟨I, 0, none⟩)) := row_cell hW.bi 0
  have c1 : w.cell? ⟨BC, 0, none⟩ = some (.func (Fn.func 86) #[] #[.pointer (some ⟨R, 0, none⟩)]) := row_cell hW.bc 0
  have c2 := hW.ch
  have l0 := row_lt hW.bi
  have l1 := row_lt hW.bc
  have l2 := hW.lI
  have HB : Hid _ := hW.br
  have HV : Hid _ := hv
  cases c
  · have hz := hc.2 rfl
    clear hW hv hc
    go_enter Try.func87, Try.ntmps87
    go_wp2_with (fail)
    go_ret
    exact ⟨rfl, HB.out, Chg.refl _ _⟩
  · have hz : (bits .and .u16 h 448 == 0) = false := by
      cases hh : (bits .and .u16 h 448 == 0) with
      | false => rfl
      | true => exact absurd (hc.1 (by simpa using hh)) (by simp)
    clear hW hv hc
    go_enter Try.func87, Try.ntmps87
    go_wp2_with (go_at_call 86; refine (cut8_4 R v _ HB.out HV.out).mono ?_; rintro e w1 ⟨rfl, hb1, hc1⟩)
    go_ret
    exact ⟨rfl, hb1, hc1⟩
theorem field_a (BI BC R I v : Nat) (h : Int) (c : Bool) (w : World) (hW : FW w BI BC R I v h) (hv : v < 4294967296) (hc : bits .and .u16 h 1 = 0 ↔ c = false) :
    Calls Try.prog 87 #[.int .u16 1, .int .i64 12, .int .i64 4, .pointer (some ⟨BI, 0, none⟩), .pointer (some ⟨BC, 0, none⟩)] w fun e w' => e = .returned (.int .i64 (fld c 4096 16 v)) ∧ w'.heap[R]? = some (.cells #[.int .u32 (rst c 4096 16 v)] 30) ∧ Chg [R] w w' := by
  have c0 : w.cell? ⟨BI, 0, none⟩ = some (.pointer (some ⟨I, 0, none⟩)) := row_cell hW.bi 0
  have c1 : w.cell? ⟨BC, 0, none⟩ = some (.func (Fn.func 86) #[] #[.pointer (some ⟨R, 0, none⟩)]) := row_cell hW.bc 0
  have c2 := hW.ch
  have l0 := row_lt hW.bi
  have l1 := row_lt hW.bc
  have l2 := hW.lI
  have HB : Hid _ := hW.br
  have HV : Hid _ := hv
  cases c
  · have hz := hc.2 rfl
    clear hW hv hc
    go_enter Try.func87, Try.ntmps87
    go_wp2_with (fail)
    go_ret
    exact ⟨rfl, HB.out, Chg.refl _ _⟩
  · have hz : (bits .and .u16 h 1 == 0) = false := by
      cases hh : (bits .and .u16 h 1 == 0) with
      | false => rfl
      | true => exact absurd (hc.1 (by simpa using hh)) (by simp)
    clear hW hv hc
    go_enter Try.func87, Try.ntmps87
    go_wp2_with (go_at_call 86; refine (cut12_4 R v _ HB.out HV.out).mono ?_; rintro e w1 ⟨rfl, hb1, hc1⟩)
    go_ret
    exact ⟨rfl, hb1, hc1⟩
theorem field_b (BI BC R I v : Nat) (h : Int) (c : Bool) (w : World) (hW : FW w BI BC R I v h) (hv : v < 4294967296) (hc : bits .and .u16 h 2 = 0 ↔ c = false) :
    Calls Try.prog 87 #[.int .u16 2, .int .i64 16, .int .i64 4, .pointer (some ⟨BI, 0, none⟩), .pointer (some ⟨BC, 0, none⟩)] w fun e w' => e = .returned (.int .i64 (fld c 65536 16 v)) ∧ w'.heap[R]? = some (.cells #[.int .u32 (rst c 65536 16 v)] 30) ∧ Chg [R] w w' := by
  have c0 : w.cell? ⟨BI, 0, none⟩ = some (.pointer (some ⟨I, 0, none⟩)) := row_cell hW.bi 0
  have c1 : w.cell? ⟨BC, 0, none⟩ = some (.func (Fn.func 86) #[] #[.pointer (some ⟨R, 0, none⟩)]) := row_cell hW.bc 0
  have c2 := hW.ch
  have l0 := row_lt hW.bi
  have l1 := row_lt hW.bc
  have l2 := hW.lI
  have HB : Hid _ := hW.br
  have HV : Hid _ := hv
  cases c
  · have hz := hc.2 rfl
    clear hW hv hc
    go_enter Try.func87, Try.ntmps87
    go_wp2_with (fail)
    go_ret
    exact ⟨rfl, HB.out, Chg.refl _ _⟩
  · have hz : (bits .and .u16 h 2 == 0) = false := by
      cases hh : (bits .and .u16 h 2 == 0) with
      | false => rfl
      | true => exact absurd (hc.1 (by simpa using hh)) (by simp)
    clear hW hv hc
    go_enter Try.func87, Try.ntmps87
    go_wp2_with (go_at_call 86; refine (cut16_4 R v _ HB.out HV.out).mono ?_; rintro e w1 ⟨rfl, hb1, hc1⟩)
    go_ret
    exact ⟨rfl, hb1, hc1⟩
theorem field_c (BI BC R I v : Nat) (h : Int) (c : Bool) (w : World) (hW : FW w BI BC R I v h) (hv : v < 4294967296) (hc : bits .and .u16 h 4 = 0 ↔ c = false) :
    Calls Try.prog 87 #[.int .u16 4, .int .i64 20, .int .i64 4, .pointer (some ⟨BI, 0, none⟩), .pointer (some ⟨BC, 0, none⟩)] w fun e w' => e = .returned (.int .i64 (fld c 1048576 16 v)) ∧ w'.heap[R]? = some (.cells #[.int .u32 (rst c 1048576 16 v)] 30) ∧ Chg [R] w w' := by
  have c0 : w.cell? ⟨BI, 0, none⟩ = some (.pointer (some ⟨I, 0, none⟩)) := row_cell hW.bi 0
  have c1 : w.cell? ⟨BC, 0, none⟩ = some (.func (Fn.func 86) #[] #[.pointer (some ⟨R, 0, none⟩)]) := row_cell hW.bc 0
  have c2 := hW.ch
  have l0 := row_lt hW.bi
  have l1 := row_lt hW.bc
  have l2 := hW.lI
  have HB : Hid _ := hW.br
  have HV : Hid _ := hv
  cases c
  · have hz := hc.2 rfl
    clear hW hv hc
    go_enter Try.func87, Try.ntmps87
    go_wp2_with (fail)
    go_ret
    exact ⟨rfl, HB.out, Chg.refl _ _⟩
  · have hz : (bits .and .u16 h 4 == 0) = false := by
      cases hh : (bits .and .u16 h 4 == 0) with
      | false => rfl
      | true => exact absurd (hc.1 (by simpa using hh)) (by simp)
    clear hW hv hc
    go_enter Try.func87, Try.ntmps87
    go_wp2_with (go_at_call 86; refine (cut20_4 R v _ HB.out HV.out).mono ?_; rintro e w1 ⟨rfl, hb1, hc1⟩)
    go_ret
    exact ⟨rfl, hb1, hc1⟩
theorem field_n (BI BC R I v : Nat) (h : Int) (c : Bool) (w : World) (hW : FW w BI BC R I v h) (hv : v < 4294967296) (hc : bits .and .u16 h 8 = 0 ↔ c = false) :
    Calls Try.prog 87 #[.int .u16 8, .int .i64 16, .int .i64 16, .pointer (some ⟨BI, 0, none⟩), .pointer (some ⟨BC, 0, none⟩)] w fun e w' => e = .returned (.int .i64 (fld c 65536 65536 v)) ∧ w'.heap[R]? = some (.cells #[.int .u32 (rst c 65536 65536 v)] 30) ∧ Chg [R] w w' := by
  have c0 : w.cell? ⟨BI, 0, none⟩ = some (.pointer (some ⟨I, 0, none⟩)) := row_cell hW.bi 0
  have c1 : w.cell? ⟨BC, 0, none⟩ = some (.func (Fn.func 86) #[] #[.pointer (some ⟨R, 0, none⟩)]) := row_cell hW.bc 0
  have c2 := hW.ch
  have l0 := row_lt hW.bi
  have l1 := row_lt hW.bc
  have l2 := hW.lI
  have HB : Hid _ := hW.br
  have HV : Hid _ := hv
  cases c
  · have hz := hc.2 rfl
    clear hW hv hc
    go_enter Try.func87, Try.ntmps87
    go_wp2_with (fail)
    go_ret
    exact ⟨rfl, HB.out, Chg.refl _ _⟩
  · have hz : (bits .and .u16 h 8 == 0) = false := by
      cases hh : (bits .and .u16 h 8 == 0) with
      | false => rfl
      | true => exact absurd (hc.1 (by simpa using hh)) (by simp)
    clear hW hv hc
    go_enter Try.func87, Try.ntmps87
    go_wp2_with (go_at_call 86; refine (cut16_16 R v _ HB.out HV.out).mono ?_; rintro e w1 ⟨rfl, hb1, hc1⟩)
    go_ret
    exact ⟨rfl, hb1, hc1⟩
end Go.Proofs.Ytgkkghphlbgcoaa.Ho
