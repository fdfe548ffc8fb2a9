import Derived.Test.YtkgbjpdoigdjnabWEL
import Derived.Deep.CutRange
import Derived.Test.YtkgbjpdoigdjnabWEE
set_option linter.unusedVariables false
set_option linter.unusedSimpArgs false
namespace Go.Proofs.Ytkgbjpdoigdjnab.Va
open Go.RowKit
set_option maxRecDepth 100000
theorem PM.setX {w : World} {X B o : Nat} {s : MS} (h : PM w X s) (hX : X ≠ B) (u : Value) : PM (w.setCell ⟨B, o, none⟩ u) X s := h.of_block (blk_other hX u)
theorem info24 : (Try.prog.info? 22).map (fun i => (i.zero, i.size, i.bytes)) = some (some (.int .u32 0), 1, 4) := by kernel_rfl
theorem made24_cell (w : World) (n i : Nat) (h : i < n) : (w.alloc (.cells (madeCells #[.int .u32 0] n) 22)).cell? ⟨w.heap.size, i, none⟩ = some (.int .u32 0) := by
 rw [row_cell (heap_alloc_last w _)]; exact made_at _ _ _ h
theorem al5 (w : World) (o1 o2 o3 o4 o5 : Obj) : (((((w.alloc o1).alloc o2).alloc o3).alloc o4).alloc o5).heap[w.heap.size + 1]? = some o2 ∧ (((((w.alloc o1).alloc o2).alloc o3).alloc o4).alloc o5).heap[w.heap.size + 1 + 1]? = some o3 ∧ (((((w.alloc o1).alloc o2).alloc o3).alloc o4).alloc o5).heap[w.heap.size + 1 + 1 + 1]? = some o4 ∧ (((((w.alloc o1).alloc o2).alloc o3).alloc o4).alloc o5).heap[w.heap.size + 1 + 1 + 1 + 1]? = some o5 := by
 have l1 := heap_alloc_last (w.alloc o1) o2
 have l2 := heap_alloc_last ((w.alloc o1).alloc o2) o3
 have l3 := heap_alloc_last (((w.alloc o1).alloc o2).alloc o3) o4
 have l4 := heap_alloc_last ((((w.alloc o1).alloc o2).alloc o3).alloc o4) o5
 rw [show (w.alloc o1).heap.size = w.heap.size + 1 by simp] at l1
 rw [show ((w.alloc o1).alloc o2).heap.size = w.heap.size + 1 + 1 by simp] at l2
 rw [show (((w.alloc o1).alloc o2).alloc o3).heap.size = w.heap.size + 1 + 1 + 1 by simp] at l3
 rw [show ((((w.alloc o1).alloc o2).alloc o3).alloc o4).heap.size = w.heap.size + 1 + 1 + 1 + 1 by simp] at l4
 exact ⟨(al_old _ _ _ (by simp <;> omega)).trans ((al_old _ _ _ (by simp <;> omega)).trans ((al_old _ _ _ (by simp)).trans l1)), (al_old _ _ _ (by simp <;> omega)).trans ((al_old _ _ _ (by simp)).trans l2), (al_old _ _ _ (by simp)).trans l3, l4⟩
theorem sx_f (c : Nat → Nat) (pc : Nat) (F : Int) (w : World) : (Instr.field 48 (sxV c pc F) 2).run Try.prog w = .ok (.int .u32 F) w := by
 simp [Instr.field, Try.underlying48, go_sem, part, asAgg]
theorem lvStart (w : World) (B : Array Value) (c : Nat → Nat) (s : MS) (k : RB) (n : Nat) (n0 : 0 < n) (h : RM w k s) :
  LvA w (((((w.alloc (.cells B 25)).alloc (.cells (cxA c) 27)).alloc (.cells #[.int .u32 0, .int .u32 0, .int .u32 0, .int .u32 0, .int .u32 0, .int .u32 0, .int .u32 0, .int .u32 0, .int .u32 0, .int .u32 0, .int .u32 0, .int .u32 0] 27)).alloc (.cells #[.int .i64 0, .int .u32 0, .int .u32 0, .int .i64 0] 43)).alloc (.cells (madeCells #[.int .u32 0] n) 22)) (w.heap.size + 1) (w.heap.size + 1 + 1 + 1 + 1) n k ⟨c, s, fun _ => 0⟩ := by
 have e := al5 w (.cells B 25) (.cells (cxA c) 27) (.cells #[.int .u32 0, .int .u32 0, .int .u32 0, .int .u32 0, .int .u32 0, .int .u32 0, .int .u32 0, .int .u32 0, .int .u32 0, .int .u32 0, .int .u32 0, .int .u32 0] 27) (.cells #[.int .i64 0, .int .u32 0, .int .u32 0, .int .i64 0] 43) (.cells (madeCells #[.int .u32 0] n) 22)
 have b : Below w.heap.size w (((((w.alloc (.cells B 25)).alloc (.cells (cxA c) 27)).alloc (.cells #[.int .u32 0, .int .u32 0, .int .u32 0, .int .u32 0, .int .u32 0, .int .u32 0, .int .u32 0, .int .u32 0, .int .u32 0, .int .u32 0, .int .u32 0, .int .u32 0] 27)).alloc (.cells #[.int .i64 0, .int .u32 0, .int .u32 0, .int .i64 0] 43)).alloc (.cells (madeCells #[.int .u32 0] n) 22)) := (((((Below.refl w.heap.size w).alloc (Nat.le_refl _) _).alloc (by simp) _).alloc (by simp; omega) _).alloc (by simp; omega) _).alloc (by simp; omega) _
 have hs : ((((w.alloc (.cells B 25)).alloc (.cells (cxA c) 27)).alloc (.cells #[.int .u32 0, .int .u32 0, .int .u32 0, .int .u32 0, .int .u32 0, .int .u32 0, .int .u32 0, .int .u32 0, .int .u32 0, .int .u32 0, .int .u32 0, .int .u32 0] 27)).alloc (.cells #[.int .i64 0, .int .u32 0, .int .u32 0, .int .i64 0] 43)).heap.size = w.heap.size + 1 + 1 + 1 + 1 := by simp
 refine ⟨⟨e.1, fun i hi => ?_, ⟨fun j => row_fr e.2.2.2 j⟩, h.below b (Nat.le_refl _), n0, by omega, fun x hx => by have := h.lt x hx; omega⟩, e.2.1, e.2.2.1, Chg.of_below _ b, h.lt, by omega, by omega⟩
 have := made24_cell ((((w.alloc (.cells B 25)).alloc (.cells (cxA c) 27)).alloc (.cells #[.int .u32 0, .int .u32 0, .int .u32 0, .int .u32 0, .int .u32 0, .int .u32 0, .int .u32 0, .int .u32 0, .int .u32 0, .int .u32 0, .int .u32 0, .int .u32 0] 27)).alloc (.cells #[.int .i64 0, .int .u32 0, .int .u32 0, .int .i64 0] 43)) n i hi
 rw [hs] at this
 exact this
theorem RM.setN {w : World} {k : RB} {s : MS} {B o : Nat} (h : RM w k s) (hk : ∀ x ∈ k.y :: k.all, x ≠ B) (u : Value) : RM (w.setCell ⟨B, o, none⟩ u) k s := h.of_blocks (fun x hx => blk_other (hk x hx) u)
theorem lvB (w wr : World) (C V n : Nat) (k : RB) (q : Sq) (o : OpR) (h : LvA w wr C V n k q) : LvB w ((wr.alloc (.cells #[.int .i64 o.kind, .int .i64 o.w, .int .i64 o.a, .int .i64 o.b, .int .i64 o.c, .int .u32 o.k, .int .i64 o.n] 67)).alloc (.cells #[.int .i64 0, .int .u32 0, .int .u32 o.k, .int .i64 o.n] 43)) C V wr.heap.size n k q o ⟨0, 0, o.k, o.n⟩ :=
 ⟨h.below (((Below.refl _ _).alloc (Nat.le_refl _) _).alloc (by simp) _), (al_old _ _ _ (by simp)).trans (heap_alloc_last wr _), by
  have := heap_alloc_last (wr.alloc (.cells #[.int .i64 o.kind, .int .i64 o.w, .int .i64 o.a, .int .i64 o.b, .int .i64 o.c, .int .u32 o.k, .int .i64 o.n] 67)) (.cells #[.int .i64 0, .int .u32 0, .int .u32 o.k, .int .i64 o.n] 43)
  rwa [show (wr.alloc (.cells #[.int .i64 o.kind, .int .i64 o.w, .int .i64 o.a, .int .i64 o.b, .int .i64 o.c, .int .u32 o.k, .int .i64 o.n] 67)).heap.size = wr.heap.size + 1 by simp] at this, h.r.lV⟩
structure PvA (w wx : World) (P V X n : Nat) (q : Sq) : Prop where
 r : WkW wx P V X n q
 b4 : wx.heap[w.heap.size]? = some (.cells #[.int .i64 0, .int .u32 0, .int .u32 0, .int .i64 0] 43)
 chg : Chg [P, V, X] w wx
 lk : P < w.heap.size ∧ V < w.heap.size ∧ X < w.heap.size
theorem PvA.below {w wx w' : World} {P V X n : Nat} {q : Sq} (h : PvA w wx P V X n q) (b : Below wx.heap.size wx w') : PvA w w' P V X n q :=
 ⟨h.r.below b, (b.block _ (row_lt h.b4)).trans h.b4, h.chg.trans (Chg.of_below _ b), h.lk⟩
theorem PvA.next {w wx w' : World} {P V X n : Nat} {q q' : Sq} (h : PvA w wx P V X n q) (c : Chg [P, V, X] wx w') (k : WkW w' P V X n q') : PvA w w' P V X n q' := by
 obtain ⟨h1, h2, h3⟩ := h.lk
 exact ⟨k, (c.block _ (row_lt h.b4) (by simp; omega)).trans h.b4, h.chg.trans c, h.lk⟩
theorem WkW.setN {w : World} {P V X n B o : Nat} {q : Sq} (h : WkW w P V X n q) (hP : P ≠ B) (hV : V ≠ B) (hX : X ≠ B) (u : Value) : WkW (w.setCell ⟨B, o, none⟩ u) P V X n q :=
 ⟨h.k.set hP hV u trivial, h.fP.set _ _, h.fV.set _ _, h.m.of_block (blk_other hX u), h.n0, h.pv, h.px, h.vx⟩
theorem WkW.drew {w : World} {P V X n : Nat} {q : Sq} (h : WkW w P V X n q) : WkW w.drew P V X n q := h.below (Below.refl _ _).drew
theorem WkW.alloc {w : World} {P V X n : Nat} {q : Sq} (h : WkW w P V X n q) (x : Obj) : WkW (w.alloc x) P V X n q := h.below ((Below.refl _ _).alloc (Nat.le_refl _) _)
theorem opLess_of (count : Int) (n : Nat) (f : Nat → OpR) (i : Nat) (h : opErr count n f i = 0) (h9 : (f i).kind = 9) : (f i).a < i := by
 unfold opErr at h
 by_cases e1 : eOp (f i) = true
 ·rw [if_pos e1] at h; omega
 rw [if_neg e1] at h
 by_cases e2 : fieldBad (flT (f i).kind.toNat) (f i) count = true
 ·rw [if_pos e2] at h; omega
 rw [if_neg e2] at h
 by_cases e3 : takenBad (flT (f i).kind.toNat) (f i) f i = true
 ·rw [if_pos e3] at h; omega
 have hx : (flT (f i).kind.toNat).ha = true := by rw [h9]; rfl
 generalize flT (f i).kind.toNat = x at e3 hx
 simp only [takenBad, tk, gvn, hx, Bool.true_and, Bool.or_eq_true, Bool.not_eq_true', Bool.and_eq_false_iff, decide_eq_false_iff_not, not_or, Classical.not_not, Bool.not_eq_false] at e3
 have := e3.1.1.1
 omega
theorem check_less (count bytes : Int) (n : Nat) (f : Nat → OpR) (h : (checkF count bytes n f).1 = 0) : ∀ j, j < n → (f j).kind = 9 → (f j).a < j := by
 unfold checkF at h
 by_cases e : 2048 < n
 ·rw [if_pos e] at h; simp at h
 rw [if_neg e] at h
 by_cases e2 : (0 ≤ count ∧ count ≤ 64) ∧ (0 ≤ bytes ∧ bytes ≤ 384)
 ·rw [if_pos e2] at h
  have := scan_ok count n f n 0 (by omega) h
  exact fun j hj => opLess_of count n f j (this.1 j (by omega) hj)
 ·rw [if_neg e2] at h; simp at h
structure E4 (w wx : World) (S : List Nat) (pc : Nat) (count bytes : Int) (bp : Option Addr) (n cap : Nat) (c : Nat → Nat) : Prop where
 b3 : wx.heap[w.heap.size]? = some (.cells #[.int .u32 pc, .int .i64 count, .int .i64 bytes, .slice bp n cap] 25)
 b4 : wx.heap[w.heap.size + 1]? = some (.cells (cxA c) 27)
 b6 : wx.heap[w.heap.size + 1 + 1]? = some (.cells #[.int .u32 0, .int .u32 0, .int .u32 0, .int .u32 0, .int .u32 0, .int .u32 0, .int .u32 0, .int .u32 0, .int .u32 0, .int .u32 0, .int .u32 0, .int .u32 0] 27)
 b7 : wx.heap[w.heap.size + 1 + 1 + 1]? = some (.cells #[.int .i64 0, .int .u32 0, .int .u32 0, .int .i64 0] 43)
 chg : Chg S w wx
theorem E4.below {w wx w' : World} {S : List Nat} {pc : Nat} {count bytes : Int} {bp : Option Addr} {n cap : Nat} {c : Nat → Nat} (h : E4 w wx S pc count bytes bp n cap c) (b : Below wx.heap.size wx w') : E4 w w' S pc count bytes bp n cap c :=
 ⟨(b.block _ (row_lt h.b3)).trans h.b3, (b.block _ (row_lt h.b4)).trans h.b4, (b.block _ (row_lt h.b6)).trans h.b6, (b.block _ (row_lt h.b7)).trans h.b7, h.chg.trans (Chg.of_below S b)⟩
theorem E4.next {w wx w' : World} {S T : List Nat} {pc : Nat} {count bytes : Int} {bp : Option Addr} {n cap : Nat} {c : Nat → Nat} (h : E4 w wx S pc count bytes bp n cap c) (b : Chg T wx w') (hT : ∀ x ∈ T, x ∈ S ∧ x < w.heap.size ∨ w.heap.size + 1 + 1 + 1 < x) : E4 w w' S pc count bytes bp n cap c := by
 have k : ∀ j, w.heap.size ≤ j → j ≤ w.heap.size + 1 + 1 + 1 → j ∉ T := fun j h1 h2 hm => by have := hT j hm; omega
 refine ⟨(b.block _ (row_lt h.b3) (k _ (by omega) (by omega))).trans h.b3, (b.block _ (row_lt h.b4) (k _ (by omega) (by omega))).trans h.b4, (b.block _ (row_lt h.b6) (k _ (by omega) (by omega))).trans h.b6, (b.block _ (row_lt h.b7) (k _ (by omega) (by omega))).trans h.b7, ⟨b.os.trans h.chg.os, b.tape.trans h.chg.tape, b.output.trans h.chg.output, Nat.le_trans h.chg.size b.size, fun j hj hs => ?_⟩⟩
 have hj2 : j ∉ T := fun hm => by
  rcases hT j hm with ⟨h1, _⟩ | h1
  ·exact hs h1
  ·omega
 exact (b.block j (Nat.lt_of_lt_of_le hj h.chg.size) hj2).trans (h.chg.block j hj hs)
theorem e4Start (w : World) (S : List Nat) (pc : Nat) (count bytes : Int) (bp : Option Addr) (n cap : Nat) (c : Nat → Nat) : E4 w ((((w.alloc (.cells #[.int .u32 pc, .int .i64 count, .int .i64 bytes, .slice bp n cap] 25)).alloc (.cells (cxA c) 27)).alloc (.cells #[.int .u32 0, .int .u32 0, .int .u32 0, .int .u32 0, .int .u32 0, .int .u32 0, .int .u32 0, .int .u32 0, .int .u32 0, .int .u32 0, .int .u32 0, .int .u32 0] 27)).alloc (.cells #[.int .i64 0, .int .u32 0, .int .u32 0, .int .i64 0] 43)) S pc count bytes bp n cap c := by
 have l0 := heap_alloc_last w (.cells #[.int .u32 pc, .int .i64 count, .int .i64 bytes, .slice bp n cap] 25)
 have l1 := heap_alloc_last (w.alloc (.cells #[.int .u32 pc, .int .i64 count, .int .i64 bytes, .slice bp n cap] 25)) (.cells (cxA c) 27)
 have l2 := heap_alloc_last ((w.alloc (.cells #[.int .u32 pc, .int .i64 count, .int .i64 bytes, .slice bp n cap] 25)).alloc (.cells (cxA c) 27)) (.cells #[.int .u32 0, .int .u32 0, .int .u32 0, .int .u32 0, .int .u32 0, .int .u32 0, .int .u32 0, .int .u32 0, .int .u32 0, .int .u32 0, .int .u32 0, .int .u32 0] 27)
 have l3 := heap_alloc_last (((w.alloc (.cells #[.int .u32 pc, .int .i64 count, .int .i64 bytes, .slice bp n cap] 25)).alloc (.cells (cxA c) 27)).alloc (.cells #[.int .u32 0, .int .u32 0, .int .u32 0, .int .u32 0, .int .u32 0, .int .u32 0, .int .u32 0, .int .u32 0, .int .u32 0, .int .u32 0, .int .u32 0, .int .u32 0] 27)) (.cells #[.int .i64 0, .int .u32 0, .int .u32 0, .int .i64 0] 43)
 rw [show (w.alloc (.cells #[.int .u32 pc, .int .i64 count, .int .i64 bytes, .slice bp n cap] 25)).heap.size = w.heap.size + 1 by simp] at l1
 rw [show ((w.alloc (.cells #[.int .u32 pc, .int .i64 count, .int .i64 bytes, .slice bp n cap] 25)).alloc (.cells (cxA c) 27)).heap.size = w.heap.size + 1 + 1 by simp] at l2
 rw [show (((w.alloc (.cells #[.int .u32 pc, .int .i64 count, .int .i64 bytes, .slice bp n cap] 25)).alloc (.cells (cxA c) 27)).alloc (.cells #[.int .u32 0, .int .u32 0, .int .u32 0, .int .u32 0, .int .u32 0, .int .u32 0, .int .u32 0, .int .u32 0, .int .u32 0, .int .u32 0, .int .u32 0, .int .u32 0] 27)).heap.size = w.heap.size + 1 + 1 + 1 by simp] at l3
 exact ⟨(al_old _ _ _ (by simp <;> omega)).trans ((al_old _ _ _ (by simp <;> omega)).trans ((al_old _ _ _ (by simp)).trans l0)), (al_old _ _ _ (by simp <;> omega)).trans ((al_old _ _ _ (by simp)).trans l1), (al_old _ _ _ (by simp)).trans l2, l3, Chg.of_below S ((((Below.refl w.heap.size w).alloc (Nat.le_refl _) _).alloc (by simp) _).alloc (by simp; omega) _ |>.alloc (by simp; omega) _)⟩
end Go.Proofs.Ytkgbjpdoigdjnab.Va
