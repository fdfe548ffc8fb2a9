import Derived.Test.YtkhaajbhgenicaaProg
import Derived.WalkKit
import Derived.WalkSpells
import Derived.WalkLawsBesides
import Derived.Deep.QuietTactic
import Derived.BigQuiet
import Derived.BigRegion
import Derived.KernelRfl
import Derived.Laws.IdiomCopy
namespace Go.Proofs.Ytkhaajbhgenicaa
open Go.RowKit

/-! ## Writes to one block alone -/
structure Only (X : Nat) (w w' : World) : Prop where
  os : w'.os = w.os
  tape : w'.tape = w.tape
  output : w'.output = w.output
  size : w'.heap.size = w.heap.size
  block : ∀ k, k ≠ X → w'.heap[k]? = w.heap[k]?

theorem Only.refl (X : Nat) (w : World) : Only X w w := ⟨rfl, rfl, rfl, rfl, fun _ _ => rfl⟩
theorem Only.drew {X : Nat} {w w' : World} (h : Only X w w') : Only X w w'.drew := ⟨h.os, h.tape, h.output, h.size, h.block⟩
theorem Only.setCell {X : Nat} {w w' : World} (h : Only X w w') (o : Nat) (v : Value) : Only X w (w'.setCell ⟨X, o, none⟩ v) :=
  ⟨h.os, h.tape, h.output, by simp [World.setCell]; exact h.size, fun k hk => (Below.heap_setCell _ _ _ _ hk).trans (h.block k hk)⟩
theorem Only.trans {X : Nat} {a b c : World} (h : Only X a b) (k : Only X b c) : Only X a c :=
  ⟨k.os.trans h.os, k.tape.trans h.tape, k.output.trans h.output, k.size.trans h.size, fun i hi => (k.block i hi).trans (h.block i hi)⟩
theorem Only.setCells {X : Nat} {w : World} (vs : List Value) : ∀ (o : Nat) (w' : World), Only X w w' → Only X w (w'.setCells X o vs) := by
  induction vs with
  | nil => exact fun _ _ h => h
  | cons v r ih => exact fun o w' h => ih (o + 1) _ (h.setCell o v)

/-! ## Blocks that may change: those of a list; all else that was there stays -/
structure Chg (S : List Nat) (w w' : World) : Prop where
  os : w'.os = w.os
  tape : w'.tape = w.tape
  output : w'.output = w.output
  size : w.heap.size ≤ w'.heap.size
  block : ∀ k, k < w.heap.size → k ∉ S → w'.heap[k]? = w.heap[k]?

theorem Chg.refl (S : List Nat) (w : World) : Chg S w w := ⟨rfl, rfl, rfl, Nat.le_refl _, fun _ _ _ => rfl⟩
theorem Chg.trans {S : List Nat} {a b c : World} (h : Chg S a b) (k : Chg S b c) : Chg S a c :=
  ⟨k.os.trans h.os, k.tape.trans h.tape, k.output.trans h.output, Nat.le_trans h.size k.size, fun i hi hs => (k.block i (Nat.lt_of_lt_of_le hi h.size) hs).trans (h.block i hi hs)⟩
theorem Chg.mono {S S' : List Nat} {w w' : World} (h : Chg S w w') (hs : ∀ k ∈ S, k ∈ S') : Chg S' w w' :=
  ⟨h.os, h.tape, h.output, h.size, fun k hk hn => h.block k hk (fun hm => hn (hs k hm))⟩
theorem Chg.of_only {X : Nat} {w w' : World} (h : Only X w w') : Chg [X] w w' :=
  ⟨h.os, h.tape, h.output, by rw [h.size]; exact Nat.le_refl _, fun k _ hs => h.block k (by simpa using hs)⟩
theorem Chg.of_below {w w' : World} (S : List Nat) (h : Below w.heap.size w w') : Chg S w w' :=
  ⟨h.os, h.tape, h.output, h.size, fun k hk _ => h.block k hk⟩
/-- What is new may change too. -/
theorem Chg.new {S : List Nat} {w w' w2 : World} {X : Nat} (h : Chg S w w') (hX : w.heap.size ≤ X) (k : Only X w' w2) : Chg S w w2 :=
  ⟨k.os.trans h.os, k.tape.trans h.tape, k.output.trans h.output, by rw [k.size]; exact h.size, fun i hi hs => (k.block i (by omega)).trans (h.block i hi hs)⟩
theorem Chg.below {S : List Nat} {w w' : World} {n : Nat} (h : Chg S w w') (hn : n ≤ w.heap.size) (hS : ∀ k ∈ S, n ≤ k) : Below n w w' :=
  ⟨h.os, h.tape, h.output, h.size, fun k hk => h.block k (by omega) (fun hm => by have := hS k hm; omega)⟩
theorem Chg.cell {S : List Nat} {w w' : World} (h : Chg S w w') {b o : Nat} (hb : b < w.heap.size) (hs : b ∉ S) : w'.cell? ⟨b, o, none⟩ = w.cell? ⟨b, o, none⟩ := World.cell?_of_block (w := w) (h.block b hb hs)

/-! ## What a memory is -/
structure MS where
  B : Nat → Int
  R : Nat → Int
  M : Nat → Bool
  T : Nat → Bool

def upd {α : Type} (f : Nat → α) (i : Nat) (v : α) : Nat → α := fun j => if j = i then v else f j
theorem upd_same {α : Type} (f : Nat → α) (i : Nat) (v : α) : upd f i v i = v := by simp [upd]
theorem upd_other {α : Type} (f : Nat → α) (i : Nat) (v : α) (j : Nat) (h : j ≠ i) : upd f i v j = f j := by simp [upd, h]
theorem upd_self {α : Type} (f : Nat → α) (i : Nat) (v : α) (h : f i = v) : upd f i v = f := by
  funext j; by_cases e : j = i
  · subst e; rw [upd_same, h]
  · rw [upd_other _ _ _ _ e]

/-- How many of the first n. -/
def cnt (T : Nat → Bool) : Nat → Nat
  | 0 => 0
  | n + 1 => cnt T n + if T n then 1 else 0
theorem cnt_le (T : Nat → Bool) (n : Nat) : cnt T n ≤ n := by
  induction n with
  | zero => simp [cnt]
  | succ n ih => simp only [cnt]; split <;> omega
theorem cnt_upd_out (T : Nat → Bool) (n p : Nat) (v : Bool) (h : n ≤ p) : cnt (upd T p v) n = cnt T n := by
  induction n with
  | zero => rfl
  | succ n ih => simp only [cnt]; rw [ih (by omega), upd_other _ _ _ _ (by omega)]
theorem cnt_up (T : Nat → Bool) (n p : Nat) (h : p < n) (hT : T p = false) : cnt (upd T p true) n = cnt T n + 1 := by
  induction n with
  | zero => omega
  | succ n ih =>
    simp only [cnt]
    by_cases e : n = p
    · subst e; rw [cnt_upd_out _ _ _ _ (Nat.le_refl _), upd_same, hT]; simp
    · rw [ih (by omega), upd_other _ _ _ _ e]; omega
theorem cnt_down (T : Nat → Bool) (n p : Nat) (h : p < n) (hT : T p = true) : cnt (upd T p false) n + 1 = cnt T n := by
  induction n with
  | zero => omega
  | succ n ih =>
    simp only [cnt]
    by_cases e : n = p
    · subst e; rw [cnt_upd_out _ _ _ _ (Nat.le_refl _), upd_same, hT]; simp
    · have := ih (by omega); rw [upd_other _ _ _ _ e]; omega
theorem cnt_pos (T : Nat → Bool) (n p : Nat) (h : p < n) (hT : T p = true) : 0 < cnt T n := by
  have := cnt_down T n p h hT; omega
theorem cnt_none (T : Nat → Bool) (n : Nat) (h : ∀ p, p < n → T p = false) : cnt T n = 0 := by
  induction n with
  | zero => rfl
  | succ n ih => simp only [cnt]; rw [ih (fun p hp => h p (by omega)), h n (by omega)]; simp

structure MS.Ok (s : MS) : Prop where
  by_ : ∀ i, 0 ≤ s.B i ∧ s.B i ≤ 255
  ri : ∀ p, 0 ≤ s.R p ∧ s.R p ≤ 7

/-- The program's memory, in block X. -/
structure PM (w : World) (X : Nat) (s : MS) : Prop where
  by_ : ∀ i, i < 65536 → w.cell? ⟨X, i, none⟩ = some (.int .u8 (s.B i))
  ri : ∀ p, p < 256 → w.cell? ⟨X, 65536 + p, none⟩ = some (.int .i64 (s.R p))
  wa : ∀ p, p < 256 → w.cell? ⟨X, 65792 + p, none⟩ = some (.bool (s.M p))
  to : ∀ p, p < 256 → w.cell? ⟨X, 66048 + p, none⟩ = some (.bool (s.T p))
  te : w.cell? ⟨X, 66304, none⟩ = some (.int .i64 (cnt s.T 256))
  fr : ∀ o, w.frozen? ⟨X, o, none⟩ = false

theorem lt_of_cell {w : World} {a : Addr} {v : Value} (h : w.cell? a = some v) : a.block < w.heap.size := by
  rcases Nat.lt_or_ge a.block w.heap.size with h' | h'
  · exact h'
  · simp [World.cell?, Array.getElem?_eq_none h'] at h
theorem PM.lt {w : World} {X : Nat} {s : MS} (h : PM w X s) : X < w.heap.size := lt_of_cell h.te
theorem PM.of_block {w w' : World} {X : Nat} {s : MS} (h : PM w X s) (hb : w'.heap[X]? = w.heap[X]?) : PM w' X s := by
  have hc : ∀ o, w'.cell? ⟨X, o, none⟩ = w.cell? ⟨X, o, none⟩ := fun o => World.cell?_of_block (w := w) hb
  have hf : ∀ o, w'.frozen? ⟨X, o, none⟩ = w.frozen? ⟨X, o, none⟩ := fun o => World.frozen?_of_block (w := w) hb
  exact ⟨fun i hi => (hc _).trans (h.by_ i hi), fun i hi => (hc _).trans (h.ri i hi), fun i hi => (hc _).trans (h.wa i hi), fun i hi => (hc _).trans (h.to i hi), (hc _).trans h.te, fun o => (hf o).trans (h.fr o)⟩
theorem PM.keep {S : List Nat} {w w' : World} {X : Nat} {s : MS} (h : PM w X s) (hc : Chg S w w') (hs : X ∉ S) : PM w' X s := h.of_block (hc.block X h.lt hs)
theorem PM.below {w w' : World} {X n : Nat} {s : MS} (h : PM w X s) (hc : Below n w w') (hs : X < n) : PM w' X s := h.of_block (hc.block X hs)
theorem PM.drew {w : World} {X : Nat} {s : MS} (h : PM w X s) : PM w.drew X s := h.of_block rfl

theorem cell_setCell {w : World} {X o : Nat} {u : Value} (v : Value) (hu : w.cell? ⟨X, o, none⟩ = some u) (o' : Nat) :
    (w.setCell ⟨X, o, none⟩ v).cell? ⟨X, o', none⟩ = if o' = o then some v else w.cell? ⟨X, o', none⟩ := by
  by_cases e : o' = o
  · subst e; rw [if_pos rfl]; exact World.cell?_setCell_same _ _ _ hu
  · rw [if_neg e]; exact World.cell?_setCell_other _ _ _ _ (by intro h; cases h; exact e rfl)

theorem PM.setByte {w : World} {X : Nat} {s : MS} (h : PM w X s) (i : Nat) (hi : i < 65536) (v : Int) : PM (w.setCell ⟨X, i, none⟩ (.int .u8 v)) X { s with B := upd s.B i v } := by
  have hc := cell_setCell (.int .u8 v) (h.by_ i hi)
  refine ⟨fun j hj => ?_, fun j hj => ?_, fun j hj => ?_, fun j hj => ?_, ?_, fun o => ?_⟩
  · rw [hc]; by_cases e : j = i
    · subst e; rw [if_pos rfl]; simp [upd]
    · rw [if_neg e, h.by_ j hj]; simp [upd, e]
  · rw [hc, if_neg (by omega)]; exact h.ri j hj
  · rw [hc, if_neg (by omega)]; exact h.wa j hj
  · rw [hc, if_neg (by omega)]; exact h.to j hj
  · rw [hc, if_neg (by omega)]; exact h.te
  · rw [World.frozen?_setCell]; exact h.fr o
theorem PM.setRight {w : World} {X : Nat} {s : MS} (h : PM w X s) (p : Nat) (hp : p < 256) (v : Int) : PM (w.setCell ⟨X, 65536 + p, none⟩ (.int .i64 v)) X { s with R := upd s.R p v } := by
  have hc := cell_setCell (.int .i64 v) (h.ri p hp)
  refine ⟨fun j hj => ?_, fun j hj => ?_, fun j hj => ?_, fun j hj => ?_, ?_, fun o => ?_⟩
  · rw [hc, if_neg (by omega)]; exact h.by_ j hj
  · rw [hc]; by_cases e : j = p
    · subst e; rw [if_pos rfl]; simp [upd]
    · rw [if_neg (by omega), h.ri j hj]; simp [upd, e]
  · rw [hc, if_neg (by omega)]; exact h.wa j hj
  · rw [hc, if_neg (by omega)]; exact h.to j hj
  · rw [hc, if_neg (by omega)]; exact h.te
  · rw [World.frozen?_setCell]; exact h.fr o
theorem PM.setWatch {w : World} {X : Nat} {s : MS} (h : PM w X s) (p : Nat) (hp : p < 256) (v : Bool) : PM (w.setCell ⟨X, 65792 + p, none⟩ (.bool v)) X { s with M := upd s.M p v } := by
  have hc := cell_setCell (.bool v) (h.wa p hp)
  refine ⟨fun j hj => ?_, fun j hj => ?_, fun j hj => ?_, fun j hj => ?_, ?_, fun o => ?_⟩
  · rw [hc, if_neg (by omega)]; exact h.by_ j hj
  · rw [hc, if_neg (by omega)]; exact h.ri j hj
  · rw [hc]; by_cases e : j = p
    · subst e; rw [if_pos rfl]; simp [upd]
    · rw [if_neg (by omega), h.wa j hj]; simp [upd, e]
  · rw [hc, if_neg (by omega)]; exact h.to j hj
  · rw [hc, if_neg (by omega)]; exact h.te
  · rw [World.frozen?_setCell]; exact h.fr o
theorem PM.setTold {w : World} {X : Nat} {s : MS} (h : PM w X s) (p : Nat) (hp : p < 256) (v : Bool) (n : Int) (hn : n = cnt (upd s.T p v) 256) :
    PM ((w.setCell ⟨X, 66048 + p, none⟩ (.bool v)).setCell ⟨X, 66304, none⟩ (.int .i64 n)) X { s with T := upd s.T p v } := by
  subst hn
  have hc := cell_setCell (.bool v) (h.to p hp)
  have hd := cell_setCell (w := w.setCell ⟨X, 66048 + p, none⟩ (.bool v)) (.int .i64 (cnt (upd s.T p v) 256)) (((hc 66304).trans (if_neg (by omega))).trans h.te)
  refine ⟨fun j hj => ?_, fun j hj => ?_, fun j hj => ?_, fun j hj => ?_, ?_, fun o => ?_⟩
  · rw [hd, if_neg (by omega), hc, if_neg (by omega)]; exact h.by_ j hj
  · rw [hd, if_neg (by omega), hc, if_neg (by omega)]; exact h.ri j hj
  · rw [hd, if_neg (by omega), hc, if_neg (by omega)]; exact h.wa j hj
  · rw [hd, if_neg (by omega), hc]; by_cases e : j = p
    · subst e; rw [if_pos rfl]; simp [upd]
    · rw [if_neg (by omega), h.to j hj]; simp [upd, e]
  · rw [hd, if_pos rfl]
  · rw [World.frozen?_setCell, World.frozen?_setCell]; exact h.fr o

/-- The reference's memory. -/
structure RB where
  y : Nat
  b : Nat
  r : Nat
  m : Nat
  t : Nat
def RB.all (k : RB) : List Nat := [k.b, k.r, k.m, k.t]

structure RM (w : World) (k : RB) (s : MS) : Prop where
  c0 : w.cell? ⟨k.y, 0, none⟩ = some (.slice (some ⟨k.b, 0, none⟩) 65536 65536)
  c1 : w.cell? ⟨k.y, 1, none⟩ = some (.slice (some ⟨k.r, 0, none⟩) 256 256)
  c2 : w.cell? ⟨k.y, 2, none⟩ = some (.slice (some ⟨k.m, 0, none⟩) 256 256)
  c3 : w.cell? ⟨k.y, 3, none⟩ = some (.slice (some ⟨k.t, 0, none⟩) 256 256)
  by_ : ∀ i, i < 65536 → w.cell? ⟨k.b, i, none⟩ = some (.int .u8 (s.B i))
  ri : ∀ p, p < 256 → w.cell? ⟨k.r, p, none⟩ = some (.int .i64 (s.R p))
  wa : ∀ p, p < 256 → w.cell? ⟨k.m, p, none⟩ = some (.bool (s.M p))
  to : ∀ p, p < 256 → w.cell? ⟨k.t, p, none⟩ = some (.bool (s.T p))
  fb : ∀ o, w.frozen? ⟨k.b, o, none⟩ = false
  fr : ∀ o, w.frozen? ⟨k.r, o, none⟩ = false
  fm : ∀ o, w.frozen? ⟨k.m, o, none⟩ = false
  ft : ∀ o, w.frozen? ⟨k.t, o, none⟩ = false
  ne : k.y ≠ k.b ∧ k.y ≠ k.r ∧ k.y ≠ k.m ∧ k.y ≠ k.t ∧ k.b ≠ k.r ∧ k.b ≠ k.m ∧ k.b ≠ k.t ∧ k.r ≠ k.m ∧ k.r ≠ k.t ∧ k.m ≠ k.t

theorem RM.lty {w : World} {k : RB} {s : MS} (h : RM w k s) : k.y < w.heap.size := lt_of_cell h.c0
theorem RM.ltb {w : World} {k : RB} {s : MS} (h : RM w k s) : k.b < w.heap.size := lt_of_cell (h.by_ 0 (by omega))
theorem RM.ltr {w : World} {k : RB} {s : MS} (h : RM w k s) : k.r < w.heap.size := lt_of_cell (h.ri 0 (by omega))
theorem RM.ltm {w : World} {k : RB} {s : MS} (h : RM w k s) : k.m < w.heap.size := lt_of_cell (h.wa 0 (by omega))
theorem RM.ltt {w : World} {k : RB} {s : MS} (h : RM w k s) : k.t < w.heap.size := lt_of_cell (h.to 0 (by omega))
theorem RM.of_blocks {w w' : World} {k : RB} {s : MS} (h : RM w k s) (hb : ∀ x ∈ k.y :: k.all, w'.heap[x]? = w.heap[x]?) : RM w' k s := by
  have hc : ∀ x ∈ k.y :: k.all, ∀ o, w'.cell? ⟨x, o, none⟩ = w.cell? ⟨x, o, none⟩ := fun x hx o => World.cell?_of_block (w := w) (hb x hx)
  have hf : ∀ x ∈ k.y :: k.all, ∀ o, w'.frozen? ⟨x, o, none⟩ = w.frozen? ⟨x, o, none⟩ := fun x hx o => World.frozen?_of_block (w := w) (hb x hx)
  have ey : k.y ∈ k.y :: k.all := by simp
  have eb : k.b ∈ k.y :: k.all := by simp [RB.all]
  have er : k.r ∈ k.y :: k.all := by simp [RB.all]
  have em : k.m ∈ k.y :: k.all := by simp [RB.all]
  have et : k.t ∈ k.y :: k.all := by simp [RB.all]
  exact ⟨(hc _ ey _).trans h.c0, (hc _ ey _).trans h.c1, (hc _ ey _).trans h.c2, (hc _ ey _).trans h.c3, fun i hi => (hc _ eb _).trans (h.by_ i hi), fun i hi => (hc _ er _).trans (h.ri i hi), fun i hi => (hc _ em _).trans (h.wa i hi), fun i hi => (hc _ et _).trans (h.to i hi),
    fun o => (hf _ eb o).trans (h.fb o), fun o => (hf _ er o).trans (h.fr o), fun o => (hf _ em o).trans (h.fm o), fun o => (hf _ et o).trans (h.ft o), h.ne⟩
theorem RM.lt {w : World} {k : RB} {s : MS} (h : RM w k s) : ∀ x ∈ k.y :: k.all, x < w.heap.size := by
  intro x hx
  simp [RB.all] at hx
  rcases hx with rfl | rfl | rfl | rfl | rfl
  · exact h.lty
  · exact h.ltb
  · exact h.ltr
  · exact h.ltm
  · exact h.ltt
theorem RM.keep {S : List Nat} {w w' : World} {k : RB} {s : MS} (h : RM w k s) (hc : Chg S w w') (hs : ∀ x ∈ k.y :: k.all, x ∉ S) : RM w' k s :=
  h.of_blocks fun x hx => hc.block x (h.lt x hx) (hs x hx)
theorem RM.below {n : Nat} {w w' : World} {k : RB} {s : MS} (h : RM w k s) (hc : Below n w w') (hn : w.heap.size ≤ n) : RM w' k s :=
  h.of_blocks fun x hx => hc.block x (by have := h.lt x hx; omega)
theorem RM.drew {w : World} {k : RB} {s : MS} (h : RM w k s) : RM w.drew k s := h.of_blocks fun _ _ => rfl

theorem cell_setOther {w : World} {X Y o : Nat} (v : Value) (h : Y ≠ X) (o' : Nat) : (w.setCell ⟨X, o, none⟩ v).cell? ⟨Y, o', none⟩ = w.cell? ⟨Y, o', none⟩ :=
  World.cell?_setCell_other _ _ _ _ (by intro e; cases e; exact h rfl)

theorem RM.setByte {w : World} {k : RB} {s : MS} (h : RM w k s) (i : Nat) (hi : i < 65536) (v : Int) : RM (w.setCell ⟨k.b, i, none⟩ (.int .u8 v)) k { s with B := upd s.B i v } := by
  obtain ⟨n1, n2, n3, n4, n5, n6, n7, n8, n9, n10⟩ := h.ne
  have hc := cell_setCell (.int .u8 v) (h.by_ i hi)
  have ho : ∀ Y, Y ≠ k.b → ∀ o', (w.setCell ⟨k.b, i, none⟩ (.int .u8 v)).cell? ⟨Y, o', none⟩ = w.cell? ⟨Y, o', none⟩ := fun Y hY o' => cell_setOther _ hY o'
  refine ⟨?_, ?_, ?_, ?_, fun j hj => ?_, fun j hj => ?_, fun j hj => ?_, fun j hj => ?_, fun o => ?_, fun o => ?_, fun o => ?_, fun o => ?_, h.ne⟩
  · rw [ho _ (by omega)]; exact h.c0
  · rw [ho _ (by omega)]; exact h.c1
  · rw [ho _ (by omega)]; exact h.c2
  · rw [ho _ (by omega)]; exact h.c3
  · rw [hc]; by_cases e : j = i
    · subst e; rw [if_pos rfl]; simp [upd]
    · rw [if_neg e, h.by_ j hj]; simp [upd, e]
  · rw [ho _ (by omega)]; exact h.ri j hj
  · rw [ho _ (by omega)]; exact h.wa j hj
  · rw [ho _ (by omega)]; exact h.to j hj
  · rw [World.frozen?_setCell]; exact h.fb o
  · rw [World.frozen?_setCell]; exact h.fr o
  · rw [World.frozen?_setCell]; exact h.fm o
  · rw [World.frozen?_setCell]; exact h.ft o
theorem RM.setRight {w : World} {k : RB} {s : MS} (h : RM w k s) (p : Nat) (hp : p < 256) (v : Int) : RM (w.setCell ⟨k.r, p, none⟩ (.int .i64 v)) k { s with R := upd s.R p v } := by
  obtain ⟨n1, n2, n3, n4, n5, n6, n7, n8, n9, n10⟩ := h.ne
  have hc := cell_setCell (.int .i64 v) (h.ri p hp)
  have ho : ∀ Y, Y ≠ k.r → ∀ o', (w.setCell ⟨k.r, p, none⟩ (.int .i64 v)).cell? ⟨Y, o', none⟩ = w.cell? ⟨Y, o', none⟩ := fun Y hY o' => cell_setOther _ hY o'
  refine ⟨?_, ?_, ?_, ?_, fun j hj => ?_, fun j hj => ?_, fun j hj => ?_, fun j hj => ?_, fun o => ?_, fun o => ?_, fun o => ?_, fun o => ?_, h.ne⟩
  · rw [ho _ (by omega)]; exact h.c0
  · rw [ho _ (by omega)]; exact h.c1
  · rw [ho _ (by omega)]; exact h.c2
  · rw [ho _ (by omega)]; exact h.c3
  · rw [ho _ (by omega)]; exact h.by_ j hj
  · rw [hc]; by_cases e : j = p
    · subst e; rw [if_pos rfl]; simp [upd]
    · rw [if_neg e, h.ri j hj]; simp [upd, e]
  · rw [ho _ (by omega)]; exact h.wa j hj
  · rw [ho _ (by omega)]; exact h.to j hj
  · rw [World.frozen?_setCell]; exact h.fb o
  · rw [World.frozen?_setCell]; exact h.fr o
  · rw [World.frozen?_setCell]; exact h.fm o
  · rw [World.frozen?_setCell]; exact h.ft o
theorem RM.setWatch {w : World} {k : RB} {s : MS} (h : RM w k s) (p : Nat) (hp : p < 256) (v : Bool) : RM (w.setCell ⟨k.m, p, none⟩ (.bool v)) k { s with M := upd s.M p v } := by
  obtain ⟨n1, n2, n3, n4, n5, n6, n7, n8, n9, n10⟩ := h.ne
  have hc := cell_setCell (.bool v) (h.wa p hp)
  have ho : ∀ Y, Y ≠ k.m → ∀ o', (w.setCell ⟨k.m, p, none⟩ (.bool v)).cell? ⟨Y, o', none⟩ = w.cell? ⟨Y, o', none⟩ := fun Y hY o' => cell_setOther _ hY o'
  refine ⟨?_, ?_, ?_, ?_, fun j hj => ?_, fun j hj => ?_, fun j hj => ?_, fun j hj => ?_, fun o => ?_, fun o => ?_, fun o => ?_, fun o => ?_, h.ne⟩
  · rw [ho _ (by omega)]; exact h.c0
  · rw [ho _ (by omega)]; exact h.c1
  · rw [ho _ (by omega)]; exact h.c2
  · rw [ho _ (by omega)]; exact h.c3
  · rw [ho _ (by omega)]; exact h.by_ j hj
  · rw [ho _ (by omega)]; exact h.ri j hj
  · rw [hc]; by_cases e : j = p
    · subst e; rw [if_pos rfl]; simp [upd]
    · rw [if_neg e, h.wa j hj]; simp [upd, e]
  · rw [ho _ (by omega)]; exact h.to j hj
  · rw [World.frozen?_setCell]; exact h.fb o
  · rw [World.frozen?_setCell]; exact h.fr o
  · rw [World.frozen?_setCell]; exact h.fm o
  · rw [World.frozen?_setCell]; exact h.ft o
theorem RM.setTold {w : World} {k : RB} {s : MS} (h : RM w k s) (p : Nat) (hp : p < 256) (v : Bool) : RM (w.setCell ⟨k.t, p, none⟩ (.bool v)) k { s with T := upd s.T p v } := by
  obtain ⟨n1, n2, n3, n4, n5, n6, n7, n8, n9, n10⟩ := h.ne
  have hc := cell_setCell (.bool v) (h.to p hp)
  have ho : ∀ Y, Y ≠ k.t → ∀ o', (w.setCell ⟨k.t, p, none⟩ (.bool v)).cell? ⟨Y, o', none⟩ = w.cell? ⟨Y, o', none⟩ := fun Y hY o' => cell_setOther _ hY o'
  refine ⟨?_, ?_, ?_, ?_, fun j hj => ?_, fun j hj => ?_, fun j hj => ?_, fun j hj => ?_, fun o => ?_, fun o => ?_, fun o => ?_, fun o => ?_, h.ne⟩
  · rw [ho _ (by omega)]; exact h.c0
  · rw [ho _ (by omega)]; exact h.c1
  · rw [ho _ (by omega)]; exact h.c2
  · rw [ho _ (by omega)]; exact h.c3
  · rw [ho _ (by omega)]; exact h.by_ j hj
  · rw [ho _ (by omega)]; exact h.ri j hj
  · rw [ho _ (by omega)]; exact h.wa j hj
  · rw [hc]; by_cases e : j = p
    · subst e; rw [if_pos rfl]; simp [upd]
    · rw [if_neg e, h.to j hj]; simp [upd, e]
  · rw [World.frozen?_setCell]; exact h.fb o
  · rw [World.frozen?_setCell]; exact h.fr o
  · rw [World.frozen?_setCell]; exact h.fm o
  · rw [World.frozen?_setCell]; exact h.ft o

/-! ## What the calls do to it -/
def tellS (s : MS) (p : Nat) : MS := if s.M p then { s with T := upd s.T p true } else s
def tells (s : MS) : Nat → Nat → MS
  | _, 0 => s
  | p, n + 1 => tells (tellS s p) (p + 1) n

end Go.Proofs.Ytkhaajbhgenicaa
