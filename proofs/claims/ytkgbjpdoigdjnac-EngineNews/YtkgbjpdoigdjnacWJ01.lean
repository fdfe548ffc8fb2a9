import Derived.Test.YtkgbjpdoigdjnacProg
import Derived.WalkKit
import Derived.WalkSpells
import Derived.WalkLawsBesides
import Derived.Deep.QuietTactic
import Derived.BigQuiet
import Derived.BigRegion
import Derived.KernelRfl
import Derived.Laws.IdiomCopy
import Derived.Laws.BitsAllLaws
import Derived.LoopN
import Derived.Laws.CopyOwn
import Derived.Laws.MakeOwn
import Derived.Deep.MidRow
import Derived.Deep.AppendLies
import Derived.Deep.WholeRow
namespace Go.Proofs.Ytkgbjpdoigdjnac
open Go.RowKit

structure Only (X : Nat) (w w' : World) : Prop where
  os : w'.os = w.os
  tape : w'.tape = w.tape
  output : w'.output = w.output
  size : w'.heap.size = w.heap.size
  block : ∀ k, k ≠ X → w'.heap[k]? = w.heap[k]?

theorem Only.refl (X : Nat) (w : World) : Only X w w := ⟨rfl, rfl, rfl, rfl, fun _ _ => rfl⟩
theorem Only.setCell {X : Nat} {w w' : World} (h : Only X w w') (o : Nat) (v : Value) : Only X w (w'.setCell ⟨X, o, none⟩ v) :=
  ⟨h.os, h.tape, h.output, by simp [World.setCell]; exact h.size, fun k hk => (Below.heap_setCell _ _ _ _ hk).trans (h.block k hk)⟩
theorem Only.trans {X : Nat} {a b c : World} (h : Only X a b) (k : Only X b c) : Only X a c :=
  ⟨k.os.trans h.os, k.tape.trans h.tape, k.output.trans h.output, k.size.trans h.size, fun i hi => (k.block i hi).trans (h.block i hi)⟩
structure Chg (S : List Nat) (w w' : World) : Prop where
  os : w'.os = w.os
  tape : w'.tape = w.tape
  output : w'.output = w.output
  size : w.heap.size ≤ w'.heap.size
  block : ∀ k, k < w.heap.size → k ∉ S → w'.heap[k]? = w.heap[k]?

theorem Chg.refl (S : List Nat) (w : World) : Chg S w w := ⟨rfl, rfl, rfl, Nat.le_refl _, fun _ _ _ => rfl⟩
theorem Chg.trans {S : List Nat} {a b c : World} (h : Chg S a b) (k : Chg S b c) : Chg S a c :=
  ⟨k.os.trans h.os, k.tape.trans h.tape, k.output.trans h.output, Nat.le_trans h.size k.size, fun i hi hs => (k.block i (Nat.lt_of_lt_of_le hi h.size) hs).trans (h.block i hi hs)⟩
theorem Chg.mono {S S' : List Nat} {w w' : World} (h : Chg S w w') (hs : ∀ k ∈ S, k ∈ S') : Chg S' w w' :=
  ⟨h.os, h.tape, h.output, h.size, fun k hk hn => h.block k hk (fun hm => hn (hs k hm))⟩
theorem Chg.of_only {X : Nat} {w w' : World} (h : Only X w w') : Chg [X] w w' :=
  ⟨h.os, h.tape, h.output, by rw [h.size]; exact Nat.le_refl _, fun k _ hs => h.block k (by simpa using hs)⟩
theorem Chg.below {S : List Nat} {w w' : World} {n : Nat} (h : Chg S w w') (hn : n ≤ w.heap.size) (hS : ∀ k ∈ S, n ≤ k) : Below n w w' :=
  ⟨h.os, h.tape, h.output, h.size, fun k hk => h.block k (by omega) (fun hm => by have := hS k hm; omega)⟩
theorem Chg.cell {S : List Nat} {w w' : World} (h : Chg S w w') {b o : Nat} (hb : b < w.heap.size) (hs : b ∉ S) : w'.cell? ⟨b, o, none⟩ = w.cell? ⟨b, o, none⟩ := World.cell?_of_block (w := w) (h.block b hb hs)

structure MS where
  B : Nat → Int
  R : Nat → Int
  M : Nat → Bool
  T : Nat → Bool

def upd {α : Type} (f : Nat → α) (i : Nat) (v : α) : Nat → α := fun j => if j = i then v else f j
theorem upd_same {α : Type} (f : Nat → α) (i : Nat) (v : α) : upd f i v i = v := by simp [upd]
theorem upd_other {α : Type} (f : Nat → α) (i : Nat) (v : α) (j : Nat) (h : j ≠ i) : upd f i v j = f j := by simp [upd, h]
theorem upd_self {α : Type} (f : Nat → α) (i : Nat) (v : α) (h : f i = v) : upd f i v = f := by
  funext j; by_cases e : j = i
  · subst e; rw [upd_same, h]
  · rw [upd_other _ _ _ _ e]

/-- How many of the first n. -/
def cnt (T : Nat → Bool) : Nat → Nat
  | 0 => 0
  | n + 1 => cnt T n + if T n then 1 else 0
theorem cnt_le (T : Nat → Bool) (n : Nat) : cnt T n ≤ n := by
  induction n with
  | zero => simp [cnt]
  | succ n ih => simp only [cnt]; split <;> omega
theorem cnt_upd_out (T : Nat → Bool) (n p : Nat) (v : Bool) (h : n ≤ p) : cnt (upd T p v) n = cnt T n := by
  induction n with
  | zero => rfl
  | succ n ih => simp only [cnt]; rw [ih (by omega), upd_other _ _ _ _ (by omega)]
theorem cnt_none (T : Nat → Bool) (n : Nat) (h : ∀ p, p < n → T p = false) : cnt T n = 0 := by
  induction n with
  | zero => rfl
  | succ n ih => simp only [cnt]; rw [ih (fun p hp => h p (by omega)), h n (by omega)]; simp

structure MS.Ok (s : MS) : Prop where
  by_ : ∀ i, 0 ≤ s.B i ∧ s.B i ≤ 255
  ri : ∀ p, 0 ≤ s.R p ∧ s.R p ≤ 7

/-- The program's memory, in block X. -/
structure PM (w : World) (X : Nat) (s : MS) : Prop where
  by_ : ∀ i, i < 65536 → w.cell? ⟨X, i, none⟩ = some (.int .u8 (s.B i))
  ri : ∀ p, p < 256 → w.cell? ⟨X, 65536 + p, none⟩ = some (.int .i64 (s.R p))
  wa : ∀ p, p < 256 → w.cell? ⟨X, 65792 + p, none⟩ = some (.bool (s.M p))
  to : ∀ p, p < 256 → w.cell? ⟨X, 66048 + p, none⟩ = some (.bool (s.T p))
  te : w.cell? ⟨X, 66304, none⟩ = some (.int .i64 (cnt s.T 256))
  fr : ∀ o, w.frozen? ⟨X, o, none⟩ = false

theorem lt_of_cell {w : World} {a : Addr} {v : Value} (h : w.cell? a = some v) : a.block < w.heap.size := by
  rcases Nat.lt_or_ge a.block w.heap.size with h' | h'
  · exact h'
  · simp [World.cell?, Array.getElem?_eq_none h'] at h
theorem PM.lt {w : World} {X : Nat} {s : MS} (h : PM w X s) : X < w.heap.size := lt_of_cell h.te
theorem PM.of_block {w w' : World} {X : Nat} {s : MS} (h : PM w X s) (hb : w'.heap[X]? = w.heap[X]?) : PM w' X s := by
  have hc : ∀ o, w'.cell? ⟨X, o, none⟩ = w.cell? ⟨X, o, none⟩ := fun o => World.cell?_of_block (w := w) hb
  have hf : ∀ o, w'.frozen? ⟨X, o, none⟩ = w.frozen? ⟨X, o, none⟩ := fun o => World.frozen?_of_block (w := w) hb
  exact ⟨fun i hi => (hc _).trans (h.by_ i hi), fun i hi => (hc _).trans (h.ri i hi), fun i hi => (hc _).trans (h.wa i hi), fun i hi => (hc _).trans (h.to i hi), (hc _).trans h.te, fun o => (hf o).trans (h.fr o)⟩
theorem PM.below {w w' : World} {X n : Nat} {s : MS} (h : PM w X s) (hc : Below n w w') (hs : X < n) : PM w' X s := h.of_block (hc.block X hs)
theorem cell_setCell {w : World} {X o : Nat} {u : Value} (v : Value) (hu : w.cell? ⟨X, o, none⟩ = some u) (o' : Nat) :
    (w.setCell ⟨X, o, none⟩ v).cell? ⟨X, o', none⟩ = if o' = o then some v else w.cell? ⟨X, o', none⟩ := by
  by_cases e : o' = o
  · subst e; rw [if_pos rfl]; exact World.cell?_setCell_same _ _ _ hu
  · rw [if_neg e]; exact World.cell?_setCell_other _ _ _ _ (by intro h; cases h; exact e rfl)

theorem PM.setTold {w : World} {X : Nat} {s : MS} (h : PM w X s) (p : Nat) (hp : p < 256) (v : Bool) (n : Int) (hn : n = cnt (upd s.T p v) 256) :
    PM ((w.setCell ⟨X, 66048 + p, none⟩ (.bool v)).setCell ⟨X, 66304, none⟩ (.int .i64 n)) X { s with T := upd s.T p v } := by
  subst hn
  have hc := cell_setCell (.bool v) (h.to p hp)
  have hd := cell_setCell (w := w.setCell ⟨X, 66048 + p, none⟩ (.bool v)) (.int .i64 (cnt (upd s.T p v) 256)) (((hc 66304).trans (if_neg (by omega))).trans h.te)
  refine ⟨fun j hj => ?_, fun j hj => ?_, fun j hj => ?_, fun j hj => ?_, ?_, fun o => ?_⟩
  · rw [hd, if_neg (by omega), hc, if_neg (by omega)]; exact h.by_ j hj
  · rw [hd, if_neg (by omega), hc, if_neg (by omega)]; exact h.ri j hj
  · rw [hd, if_neg (by omega), hc, if_neg (by omega)]; exact h.wa j hj
  · rw [hd, if_neg (by omega), hc]; by_cases e : j = p
    · subst e; rw [if_pos rfl]; simp [upd]
    · rw [if_neg (by omega), h.to j hj]; simp [upd, e]
  · rw [hd, if_pos rfl]
  · rw [World.frozen?_setCell, World.frozen?_setCell]; exact h.fr o

/-- The reference's memory. -/
structure RB where
  y : Nat
  b : Nat
  r : Nat
  m : Nat
  t : Nat
  cb : Nat
  cr : Nat
  cm : Nat
  ct : Nat
  hcb : 65536 ≤ cb
def RB.all (k : RB) : List Nat := [k.b, k.r, k.m, k.t]

structure RM (w : World) (k : RB) (s : MS) : Prop where
  c0 : w.cell? ⟨k.y, 0, none⟩ = some (.slice (some ⟨k.b, 0, none⟩) 65536 k.cb)
  c1 : w.cell? ⟨k.y, 1, none⟩ = some (.slice (some ⟨k.r, 0, none⟩) 256 k.cr)
  c2 : w.cell? ⟨k.y, 2, none⟩ = some (.slice (some ⟨k.m, 0, none⟩) 256 k.cm)
  c3 : w.cell? ⟨k.y, 3, none⟩ = some (.slice (some ⟨k.t, 0, none⟩) 256 k.ct)
  by_ : ∀ i, i < 65536 → w.cell? ⟨k.b, i, none⟩ = some (.int .u8 (s.B i))
  ri : ∀ p, p < 256 → w.cell? ⟨k.r, p, none⟩ = some (.int .i64 (s.R p))
  wa : ∀ p, p < 256 → w.cell? ⟨k.m, p, none⟩ = some (.bool (s.M p))
  to : ∀ p, p < 256 → w.cell? ⟨k.t, p, none⟩ = some (.bool (s.T p))
  fb : ∀ o, w.frozen? ⟨k.b, o, none⟩ = false
  fr : ∀ o, w.frozen? ⟨k.r, o, none⟩ = false
  fm : ∀ o, w.frozen? ⟨k.m, o, none⟩ = false
  ft : ∀ o, w.frozen? ⟨k.t, o, none⟩ = false
  ne : k.y ≠ k.b ∧ k.y ≠ k.r ∧ k.y ≠ k.m ∧ k.y ≠ k.t ∧ k.b ≠ k.r ∧ k.b ≠ k.m ∧ k.b ≠ k.t ∧ k.r ≠ k.m ∧ k.r ≠ k.t ∧ k.m ≠ k.t

theorem RM.lty {w : World} {k : RB} {s : MS} (h : RM w k s) : k.y < w.heap.size := lt_of_cell h.c0
theorem RM.ltb {w : World} {k : RB} {s : MS} (h : RM w k s) : k.b < w.heap.size := lt_of_cell (h.by_ 0 (by omega))
theorem RM.ltr {w : World} {k : RB} {s : MS} (h : RM w k s) : k.r < w.heap.size := lt_of_cell (h.ri 0 (by omega))
theorem RM.ltm {w : World} {k : RB} {s : MS} (h : RM w k s) : k.m < w.heap.size := lt_of_cell (h.wa 0 (by omega))
theorem RM.ltt {w : World} {k : RB} {s : MS} (h : RM w k s) : k.t < w.heap.size := lt_of_cell (h.to 0 (by omega))
theorem RM.of_blocks {w w' : World} {k : RB} {s : MS} (h : RM w k s) (hb : ∀ x ∈ k.y :: k.all, w'.heap[x]? = w.heap[x]?) : RM w' k s := by
  have hc : ∀ x ∈ k.y :: k.all, ∀ o, w'.cell? ⟨x, o, none⟩ = w.cell? ⟨x, o, none⟩ := fun x hx o => World.cell?_of_block (w := w) (hb x hx)
  have hf : ∀ x ∈ k.y :: k.all, ∀ o, w'.frozen? ⟨x, o, none⟩ = w.frozen? ⟨x, o, none⟩ := fun x hx o => World.frozen?_of_block (w := w) (hb x hx)
  have ey : k.y ∈ k.y :: k.all := by simp
  have eb : k.b ∈ k.y :: k.all := by simp [RB.all]
  have er : k.r ∈ k.y :: k.all := by simp [RB.all]
  have em : k.m ∈ k.y :: k.all := by simp [RB.all]
  have et : k.t ∈ k.y :: k.all := by simp [RB.all]
  exact ⟨(hc _ ey _).trans h.c0, (hc _ ey _).trans h.c1, (hc _ ey _).trans h.c2, (hc _ ey _).trans h.c3, fun i hi => (hc _ eb _).trans (h.by_ i hi), fun i hi => (hc _ er _).trans (h.ri i hi), fun i hi => (hc _ em _).trans (h.wa i hi), fun i hi => (hc _ et _).trans (h.to i hi),
    fun o => (hf _ eb o).trans (h.fb o), fun o => (hf _ er o).trans (h.fr o), fun o => (hf _ em o).trans (h.fm o), fun o => (hf _ et o).trans (h.ft o), h.ne⟩
theorem RM.lt {w : World} {k : RB} {s : MS} (h : RM w k s) : ∀ x ∈ k.y :: k.all, x < w.heap.size := by
  intro x hx
  simp [RB.all] at hx
  rcases hx with rfl | rfl | rfl | rfl | rfl
  · exact h.lty
  · exact h.ltb
  · exact h.ltr
  · exact h.ltm
  · exact h.ltt
theorem RM.below {n : Nat} {w w' : World} {k : RB} {s : MS} (h : RM w k s) (hc : Below n w w') (hn : w.heap.size ≤ n) : RM w' k s :=
  h.of_blocks fun x hx => hc.block x (by have := h.lt x hx; omega)
theorem cell_setOther {w : World} {X Y o : Nat} (v : Value) (h : Y ≠ X) (o' : Nat) : (w.setCell ⟨X, o, none⟩ v).cell? ⟨Y, o', none⟩ = w.cell? ⟨Y, o', none⟩ :=
  World.cell?_setCell_other _ _ _ _ (by intro e; cases e; exact h rfl)

theorem RM.setTold {w : World} {k : RB} {s : MS} (h : RM w k s) (p : Nat) (hp : p < 256) (v : Bool) : RM (w.setCell ⟨k.t, p, none⟩ (.bool v)) k { s with T := upd s.T p v } := by
  obtain ⟨n1, n2, n3, n4, n5, n6, n7, n8, n9, n10⟩ := h.ne
  have hc := cell_setCell (.bool v) (h.to p hp)
  have ho : ∀ Y, Y ≠ k.t → ∀ o', (w.setCell ⟨k.t, p, none⟩ (.bool v)).cell? ⟨Y, o', none⟩ = w.cell? ⟨Y, o', none⟩ := fun Y hY o' => cell_setOther _ hY o'
  refine ⟨?_, ?_, ?_, ?_, fun j hj => ?_, fun j hj => ?_, fun j hj => ?_, fun j hj => ?_, fun o => ?_, fun o => ?_, fun o => ?_, fun o => ?_, h.ne⟩
  · rw [ho _ (by omega)]; exact h.c0
  · rw [ho _ (by omega)]; exact h.c1
  · rw [ho _ (by omega)]; exact h.c2
  · rw [ho _ (by omega)]; exact h.c3
  · rw [ho _ (by omega)]; exact h.by_ j hj
  · rw [ho _ (by omega)]; exact h.ri j hj
  · rw [ho _ (by omega)]; exact h.wa j hj
  · rw [hc]; by_cases e : j = p
    · subst e; rw [if_pos rfl]; simp [upd]
    · rw [if_neg e, h.to j hj]; simp [upd, e]
  · rw [World.frozen?_setCell]; exact h.fb o
  · rw [World.frozen?_setCell]; exact h.fr o
  · rw [World.frozen?_setCell]; exact h.fm o
  · rw [World.frozen?_setCell]; exact h.ft o

end Go.Proofs.Ytkgbjpdoigdjnac

namespace Go.Proofs.Ytkgbjpdoigdjnac
open Go.RowKit

theorem isPage_yes (p : Nat) (w : World) (hp : p < 256) : Calls Try.prog 25 #[.int .i64 p] w (fun e w' => e = .returned (.bool true) ∧ w = w') := by
  have h0 : (0 : Int) ≤ p := by omega
  have h1 : (p : Int) < 256 := by omega
  go_enter Try.func25, Try.ntmps25; go_wp2; go_ret; exact ⟨rfl, rfl⟩
theorem Chg.set {X o : Nat} {v : Value} {w w' : World} (h : Chg [X] w w') : Chg [X] w (w'.setCell ⟨X, o, none⟩ v) := h.trans (Chg.of_only ((Only.refl X w').setCell o v))
end Go.Proofs.Ytkgbjpdoigdjnac

namespace Go.Proofs.Ytkgbjpdoigdjnac
open Go.RowKit
set_option maxRecDepth 100000

end Go.Proofs.Ytkgbjpdoigdjnac

namespace Go.Proofs.Ytkgbjpdoigdjnac
open Go.RowKit
set_option maxRecDepth 100000

end Go.Proofs.Ytkgbjpdoigdjnac

namespace Go.Proofs.Ytkgbjpdoigdjnac
open Go.RowKit
set_option maxRecDepth 100000

end Go.Proofs.Ytkgbjpdoigdjnac

namespace Go.Proofs.Ytkgbjpdoigdjnac
open Go.RowKit
set_option maxRecDepth 100000
set_option linter.unusedVariables false

end Go.Proofs.Ytkgbjpdoigdjnac

namespace Go.Proofs.Ytkgbjpdoigdjnac
open Go.RowKit
set_option maxRecDepth 100000
set_option linter.unusedVariables false

theorem info_parts {P : Program} {t : TypeId} {z : Value} {n b : Nat} (h : (P.info? t).map (fun i => (i.zero, i.size, i.bytes)) = some (some z, n, b)) : ∃ i, P.info? t = some i ∧ i.zero = some z ∧ i.size = n ∧ i.bytes = b := by
  cases hq : P.info? t with
  | none => simp [hq] at h
  | some i => simp [hq] at h; exact ⟨i, rfl, h.1, h.2.1, h.2.2⟩

theorem wpList_make_as {P : Program} {w : World} {ops : Array Oper} {rest : List Oper} {o : Oper} {a : Act} {Q : Exit → Act → World → Prop} (hg : o.guard = none) (l c : Operand) (t : TypeId) (hop : o.op = Op.makeSlice t l c)
    (e : TypeId) (i : TypeInfo) (z : Value) (h1 : P.underlying t = some (.slice e)) (h2 : P.info? e = some i) (h3 : i.zero = some z) (h4 : i.size = 1) (h5 : i.bytes ≤ 8)
    (n : Nat) (hl : a.eval l = .int .i64 n) (hc : a.eval c = .int .i64 n) (b2 : n ≤ 65536) (H : Nat) (hH : w.heap.size = H)
    (hK : wpList P ops Q rest (a.put o.dst (.slice (some ⟨H, 0, none⟩) n n)) (w.alloc (.cells (madeCells z.cells n) e))) :
    wpList P ops Q (o :: rest) a w := by
  subst hH
  refine wpList_plain hg fun K hK' => ?_
  have hb : (i.bytes : Int) * (n : Int) ≤ 281474976710656 := by
    have : (i.bytes : Int) * (n : Int) ≤ 8 * 65536 := Int.mul_le_mul (by omega) (by omega) (by omega) (by omega)
    omega
  have hrun := run_make (P := P) w t e i z h1 h2 h3 .i64 .i64 n n (by omega) (Int.le_refl _) hb (by omega)
  simp only [Int.toNat_natCast, h4, Nat.mul_one] at hrun
  unfold Oper.wp
  simp only [execOp, hop, hl, hc, Sem.run_bind, hrun, Result.andThen_ok, Sem.run_pure]
  exact hK' _ _ hK
theorem made_at (z : Value) (n i : Nat) (h : i < n) : (madeCells #[z] n)[i]? = some z := by
  simp [madeCells, h, Nat.mod_one]

/-- A new row of bytes. -/
structure NR (w : World) (H n : Nat) (z : Nat → Int) : Prop where
  cell : ∀ i, i < n → w.cell? ⟨H, i, none⟩ = some (.int .u8 (z i))
  fr : ∀ i, w.frozen? ⟨H, i, none⟩ = false
theorem NR.of_block {w w' : World} {H n : Nat} {z : Nat → Int} (h : NR w H n z) (hb : w'.heap[H]? = w.heap[H]?) : NR w' H n z :=
  ⟨fun i hi => (World.cell?_of_block (w := w) hb).trans (h.cell i hi), fun i => (World.frozen?_of_block (w := w) hb).trans (h.fr i)⟩

theorem made_row (w : World) (n : Nat) (i : Nat) (h : i < n) : (w.alloc (.cells (madeCells #[.int .u8 0] n) 5)).cell? ⟨w.heap.size, i, none⟩ = some (.int .u8 0) := by
  rw [cell_of_row _ _ i _ 5 (0, 0) (heap_alloc_last w _)]; exact made_at _ _ _ h
theorem made_fr (w : World) (n : Nat) (i : Nat) : (w.alloc (.cells (madeCells #[.int .u8 0] n) 5)).frozen? ⟨w.heap.size, i, none⟩ = false := by
  have := heap_alloc_last w (.cells (madeCells #[.int .u8 0] n) 5)
  simp only [World.frozen?, this]; simp

end Go.Proofs.Ytkgbjpdoigdjnac

namespace Go.Proofs.Ytkgbjpdoigdjnac
open Go.RowKit
set_option maxRecDepth 100000
set_option linter.unusedVariables false

end Go.Proofs.Ytkgbjpdoigdjnac
