import Derived.Test.YtnnnmhpbdkalaaaF
import Derived.BigRegion
namespace Go.Proofs.Ytnnnmhpbdkalaaa
open Go.RowKit

/-! ## Writes to one block alone -/
structure Only (X : Nat) (w w' : World) : Prop where
  os : w'.os = w.os
  tape : w'.tape = w.tape
  output : w'.output = w.output
  size : w'.heap.size = w.heap.size
  block : ∀ k, k ≠ X → w'.heap[k]? = w.heap[k]?

theorem Only.refl (X : Nat) (w : World) : Only X w w := ⟨rfl, rfl, rfl, rfl, fun _ _ => rfl⟩
theorem Only.drew {X : Nat} {w w' : World} (h : Only X w w') : Only X w w'.drew := ⟨h.os, h.tape, h.output, h.size, h.block⟩
theorem Only.setCell {X : Nat} {w w' : World} (h : Only X w w') (o : Nat) (v : Value) : Only X w (w'.setCell ⟨X, o, none⟩ v) :=
  ⟨h.os, h.tape, h.output, by simp [World.setCell]; exact h.size, fun k hk => (Below.heap_setCell _ _ _ _ hk).trans (h.block k hk)⟩
theorem Only.trans {X : Nat} {a b c : World} (h : Only X a b) (k : Only X b c) : Only X a c :=
  ⟨k.os.trans h.os, k.tape.trans h.tape, k.output.trans h.output, k.size.trans h.size, fun i hi => (k.block i hi).trans (h.block i hi)⟩
theorem Only.below {X B : Nat} {w w' : World} (h : Only X w w') (hB : B ≤ X) : Below B w w' := ⟨h.os, h.tape, h.output, by rw [h.size]; exact Nat.le_refl _, fun k hk => h.block k (by omega)⟩
theorem Only.cell {X : Nat} {w w' : World} (h : Only X w w') {b o : Nat} (hb : b ≠ X) : w'.cell? ⟨b, o, none⟩ = w.cell? ⟨b, o, none⟩ := World.cell?_of_block (w := w) (h.block b hb)
theorem Only.frozen {X : Nat} {w w' : World} (h : Only X w w') {b o : Nat} (hb : b ≠ X) : w'.frozen? ⟨b, o, none⟩ = w.frozen? ⟨b, o, none⟩ := World.frozen?_of_block (w := w) (h.block b hb)

/-! ## What an instruction is, behind its first byte -/
structure St where
  at' : Nat
  D : Int
  S : Int
  O : Int
  imm : Int

def stp (zs : List Int) (st : St) (c : Int) : St :=
  let y := zs.getD st.at' 0
  if c = 98 then { st with imm := y, at' := st.at' + 1 }
  else if c = 115 then { st with imm := if 128 ≤ y then y + 4294967040 else y, at' := st.at' + 1 }
  else if c = 119 then { st with imm := y + zs.getD (st.at' + 1) 0 * 256 + zs.getD (st.at' + 2) 0 * 65536 + zs.getD (st.at' + 3) 0 * 16777216, at' := st.at' + 4 }
  else if c = 100 then { st with D := y, at' := st.at' + 1 }
  else if c = 101 then { st with S := y, at' := st.at' + 1 }
  else if c = 112 then { st with D := y / 16, S := y % 16, at' := st.at' + 1 }
  else if c = 99 then { st with O := y / 16, D := y % 16, at' := st.at' + 1 }
  else { st with at' := st.at' + 1 }

structure DecR where
  op : Int
  D : Int
  S : Int
  O : Int
  imm : Int
  n : Int
  e : Int
abbrev decV (r : DecR) : Value := .tuple #[.agg #[.int .i64 r.op, .int .i64 r.D, .int .i64 r.S, .int .i64 r.O, .int .u32 r.imm], .int .i64 r.n, .int .i64 r.e]
def decErr (e : Int) : DecR := ⟨0, 0, 0, 0, 0, 0, e⟩

def st0 (k : Nat) (y : Int) : St :=
  let low := y - formI k 0
  if formS k 2 = ⟨#[68]⟩ then ⟨1, low, 0, 0, 0⟩ else if formS k 2 = ⟨#[83]⟩ then ⟨1, 0, low, 0, 0⟩ else if formS k 2 = ⟨#[79]⟩ then ⟨1, 0, 0, low, 0⟩ else ⟨1, 0, 0, 0, 0⟩
def stF (zs : List Int) (k : Nat) : St := (formB k).foldl (stp zs) (st0 k (zs.getD 0 0))
def refDec (zs : List Int) (len : Nat) : DecR :=
  if len = 0 then decErr 1 else
    match hitF (zs.getD 0 0) with
    | none => decErr 2
    | some k =>
      if (len : Int) < 1 + szL (formB k) then decErr 1
      else if 7 < (stF zs k).D ∨ 7 < (stF zs k).S then decErr 3
      else ⟨k, (stF zs k).D, (stF zs k).S, (stF zs k).O, (stF zs k).imm, 1 + szL (formB k), 0⟩

/-- The bytes that came in. -/
structure Row (w : World) (b off len cap : Nat) (zs : List Int) : Prop where
  le : len ≤ cap
  max : cap ≤ maxLen
  cell : ∀ i, i < len → w.cell? ⟨b, off + i, none⟩ = some (.int .u8 (zs.getD i 0))
  bd : ∀ i, 0 ≤ zs.getD i 0 ∧ zs.getD i 0 ≤ 255
  lt : b < w.heap.size


theorem formS2 : ∀ k : Fin 32, formS k.val 2 = ⟨#[]⟩ ∨ formS k.val 2 = ⟨#[68]⟩ ∨ formS k.val 2 = ⟨#[83]⟩ ∨ formS k.val 2 = ⟨#[79]⟩ := by decide +kernel
theorem formB_ch : ∀ k : Fin 32, ∀ c ∈ formB k.val, c = 98 ∨ c = 115 ∨ c = 119 ∨ c = 100 ∨ c = 101 ∨ c = 112 ∨ c = 99 := by decide +kernel
theorem szL_take (l : List Int) (j : Nat) : szL (l.take j) ≤ szL l := by
  induction l generalizing j with
  | nil => simp
  | cons c l ih =>
    cases j with
    | zero => have := (szL_bd (c :: l)).1; simpa [szL] using this
    | succ j => have := ih j; simp only [List.take_succ_cons, szL]; omega
theorem stp_at (zs : List Int) (st : St) (c : Int) : ((stp zs st c).at' : Int) = st.at' + (if c = 119 then 4 else 1) := by
  unfold stp
  by_cases h1 : c = 98
  · subst h1; simp
  by_cases h2 : c = 115
  · subst h2; simp
  by_cases h3 : c = 119
  · subst h3; simp
  by_cases h4 : c = 100
  · subst h4; simp
  by_cases h5 : c = 101
  · subst h5; simp
  by_cases h6 : c = 112
  · subst h6; simp
  by_cases h7 : c = 99
  · subst h7; simp
  simp [h1, h2, h3, h4, h5, h6, h7]
theorem fold_at (zs : List Int) (l : List Int) (st : St) : ((l.foldl (stp zs) st).at' : Int) = st.at' + szL l := by
  induction l generalizing st with
  | nil => simp [szL]
  | cons c l ih => rw [List.foldl_cons, ih, stp_at, szL]; omega
def stJ (zs : List Int) (k : Nat) (j : Nat) : St := ((formB k).take j).foldl (stp zs) (st0 k (zs.getD 0 0))
theorem st0_at (k : Nat) (y : Int) : (st0 k y).at' = 1 := by
  unfold st0
  split
  · rfl
  split
  · rfl
  split <;> rfl
theorem stJ_at (zs : List Int) (k j : Nat) : ((stJ zs k j).at' : Int) = 1 + szL ((formB k).take j) := by
  unfold stJ; rw [fold_at, st0_at]; simp
theorem stJ_next (zs : List Int) (k j : Nat) (h : j < (formB k).length) : stJ zs k (j + 1) = stp zs (stJ zs k j) ((formB k).getD j 0) := by
  unfold stJ; rw [take_next _ _ h, List.foldl_append]; rfl
theorem stJ_all (zs : List Int) (k j : Nat) (h : (formB k).length ≤ j) : stJ zs k j = stF zs k := by
  unfold stJ stF; rw [List.take_of_length_le h]


theorem digest {w w1 w2 w4 : World} {o0 o1 o2 o3 : Obj} (hb1 : Below (w.alloc o0).heap.size (w.alloc o0) w1) (hb2 : Below w1.heap.size w1 w2)
    (hb4 : Below (((w2.alloc o1).alloc o2).alloc o3).drew.heap.size (((w2.alloc o1).alloc o2).alloc o3).drew w4) :
    w4.heap[w2.heap.size + 1 + 1]? = some o3 ∧ w4.heap[w.heap.size]? = some o0 ∧ Below w.heap.size w w4 ∧ w.heap.size < w2.heap.size := by
  have s1 := hb1.size
  have s2 := hb2.size
  simp only [World.size_alloc] at s1
  have hz : (((w2.alloc o1).alloc o2).alloc o3).drew.heap.size = w2.heap.size + 3 := by show (((w2.alloc o1).alloc o2).alloc o3).heap.size = _; simp
  rw [hz] at hb4
  have hW : Below w2.heap.size w2 (((w2.alloc o1).alloc o2).alloc o3).drew := ((((Below.refl _ _).alloc (Nat.le_refl _) _).alloc (by simp) _).alloc (by simp; omega) _).drew
  have h2 : Below w.heap.size w w2 := (((Below.refl _ _).alloc (Nat.le_refl _) _).trans (hb1.mono (by simp))).trans (hb2.mono (by omega))
  refine ⟨?_, ?_, ?_, by omega⟩
  · rw [hb4.block _ (by omega)]
    have := heap_alloc_last ((w2.alloc o1).alloc o2) o3
    simp only [World.size_alloc] at this
    exact this
  · rw [hb4.block _ (by omega), hW.block _ (by omega), hb2.block _ (by omega), hb1.block _ (by simp)]
    exact heap_alloc_last w o0
  · exact h2.trans ((hW.mono (by omega)).trans (hb4.mono (by omega)))

theorem st0_n {k : Nat} (y : Int) (h : formS k 2 = ⟨#[]⟩) : st0 k y = ⟨1, 0, 0, 0, 0⟩ := by
  unfold st0; rw [if_neg (by rw [h]; decide), if_neg (by rw [h]; decide), if_neg (by rw [h]; decide)]
theorem st0_D {k : Nat} (y : Int) (h : formS k 2 = ⟨#[68]⟩) : st0 k y = ⟨1, y - formI k 0, 0, 0, 0⟩ := by
  unfold st0; rw [if_pos h]
theorem st0_S {k : Nat} (y : Int) (h : formS k 2 = ⟨#[83]⟩) : st0 k y = ⟨1, 0, y - formI k 0, 0, 0⟩ := by
  unfold st0; rw [if_neg (by rw [h]; decide), if_pos h]
theorem st0_O {k : Nat} (y : Int) (h : formS k 2 = ⟨#[79]⟩) : st0 k y = ⟨1, 0, 0, y - formI k 0, 0⟩ := by
  unfold st0; rw [if_neg (by rw [h]; decide), if_neg (by rw [h]; decide), if_pos h]

theorem stp_b (zs : List Int) (a : Nat) (D S O im : Int) : stp zs ⟨a, D, S, O, im⟩ 98 = ⟨a + 1, D, S, O, zs.getD a 0⟩ := rfl
theorem stp_s (zs : List Int) (a : Nat) (D S O im : Int) : stp zs ⟨a, D, S, O, im⟩ 115 = ⟨a + 1, D, S, O, if 128 ≤ zs.getD a 0 then zs.getD a 0 + 4294967040 else zs.getD a 0⟩ := rfl
theorem stp_w (zs : List Int) (a : Nat) (D S O im : Int) : stp zs ⟨a, D, S, O, im⟩ 119 = ⟨a + 4, D, S, O, zs.getD a 0 + zs.getD (a + 1) 0 * 256 + zs.getD (a + 2) 0 * 65536 + zs.getD (a + 3) 0 * 16777216⟩ := rfl
theorem stp_d (zs : List Int) (a : Nat) (D S O im : Int) : stp zs ⟨a, D, S, O, im⟩ 100 = ⟨a + 1, zs.getD a 0, S, O, im⟩ := rfl
theorem stp_e (zs : List Int) (a : Nat) (D S O im : Int) : stp zs ⟨a, D, S, O, im⟩ 101 = ⟨a + 1, D, zs.getD a 0, O, im⟩ := rfl
theorem stp_p (zs : List Int) (a : Nat) (D S O im : Int) : stp zs ⟨a, D, S, O, im⟩ 112 = ⟨a + 1, zs.getD a 0 / 16, zs.getD a 0 % 16, O, im⟩ := rfl
theorem stp_c (zs : List Int) (a : Nat) (D S O im : Int) : stp zs ⟨a, D, S, O, im⟩ 99 = ⟨a + 1, zs.getD a 0 % 16, S, zs.getD a 0 / 16, im⟩ := rfl

/-- The five cells of an instruction, as they lie. -/
abbrev insB (op D S O im : Int) : Obj := .cells #[.int .i64 op, .int .i64 D, .int .i64 S, .int .i64 O, .int .u32 im] 26
theorem ins_cells {w : World} {X : Nat} {op D S O im : Int} (h : w.heap[X]? = some (insB op D S O im)) :
    w.cell? ⟨X, 0, none⟩ = some (.int .i64 op) ∧ w.cell? ⟨X, 1, none⟩ = some (.int .i64 D) ∧ w.cell? ⟨X, 2, none⟩ = some (.int .i64 S) ∧ w.cell? ⟨X, 3, none⟩ = some (.int .i64 O) ∧ w.cell? ⟨X, 4, none⟩ = some (.int .u32 im) :=
  ⟨cell_of_row _ _ 0 _ _ _ h, cell_of_row _ _ 1 _ _ _ h, cell_of_row _ _ 2 _ _ _ h, cell_of_row _ _ 3 _ _ _ h, cell_of_row _ _ 4 _ _ _ h⟩
theorem ins_frozen {w : World} {X : Nat} {op D S O im : Int} (h : w.heap[X]? = some (insB op D S O im)) :
    w.frozen? ⟨X, 0, none⟩ = false ∧ w.frozen? ⟨X, 1, none⟩ = false ∧ w.frozen? ⟨X, 2, none⟩ = false ∧ w.frozen? ⟨X, 3, none⟩ = false ∧ w.frozen? ⟨X, 4, none⟩ = false :=
  ⟨frozen_of_row _ _ 0 _ _ h, frozen_of_row _ _ 1 _ _ h, frozen_of_row _ _ 2 _ _ h, frozen_of_row _ _ 3 _ _ h, frozen_of_row _ _ 4 _ _ h⟩
theorem ins_set1 {w : World} {X : Nat} {op D S O im : Int} (h : w.heap[X]? = some (insB op D S O im)) (v : Int) : (w.setCell ⟨X, 1, none⟩ (.int .i64 v)).heap[X]? = some (insB op v S O im) := heap_setCell_same w X 1 _ 26 _ h
theorem ins_set2 {w : World} {X : Nat} {op D S O im : Int} (h : w.heap[X]? = some (insB op D S O im)) (v : Int) : (w.setCell ⟨X, 2, none⟩ (.int .i64 v)).heap[X]? = some (insB op D v O im) := heap_setCell_same w X 2 _ 26 _ h
theorem ins_set3 {w : World} {X : Nat} {op D S O im : Int} (h : w.heap[X]? = some (insB op D S O im)) (v : Int) : (w.setCell ⟨X, 3, none⟩ (.int .i64 v)).heap[X]? = some (insB op D S v im) := heap_setCell_same w X 3 _ 26 _ h
theorem ins_set4 {w : World} {X : Nat} {op D S O im : Int} (h : w.heap[X]? = some (insB op D S O im)) (v : Int) : (w.setCell ⟨X, 4, none⟩ (.int .u32 v)).heap[X]? = some (insB op D S O v) := heap_setCell_same w X 4 _ 26 _ h
theorem ret_int {k : IntKind} {a b : Int} (h : a = b) : Value.int k a = Value.int k b := by rw [h]

end Go.Proofs.Ytnnnmhpbdkalaaa
