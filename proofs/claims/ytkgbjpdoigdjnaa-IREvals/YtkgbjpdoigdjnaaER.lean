import Derived.Test.YtkgbjpdoigdjnaaEN
import Derived.Test.YtkgbjpdoigdjnaaC1
import Derived.Laws.Rows
namespace Go.Proofs.Ytkgbjpdoigdjnaa
open Go.RowKit
set_option maxRecDepth 100000
set_option linter.unusedVariables false
set_option linter.unusedSimpArgs false
/-! ## The reference's walk -/
theorem cxA_set (c : Nat → Nat) (i x : Nat) (hi : i < 12) : (cxA c).setIfInBounds i (.int .u32 x) = cxA (updC c i x) := by
  have : i = 0 ∨ i = 1 ∨ i = 2 ∨ i = 3 ∨ i = 4 ∨ i = 5 ∨ i = 6 ∨ i = 7 ∨ i = 8 ∨ i = 9 ∨ i = 10 ∨ i = 11 := by omega
  rcases this with rfl | rfl | rfl | rfl | rfl | rfl | rfl | rfl | rfl | rfl | rfl | rfl <;> rfl
theorem cxA_get (c : Nat → Nat) (i : Nat) (hi : i < 12) : (cxA c)[i]? = some (.int .u32 (c i)) := by
  have : i = 0 ∨ i = 1 ∨ i = 2 ∨ i = 3 ∨ i = 4 ∨ i = 5 ∨ i = 6 ∨ i = 7 ∨ i = 8 ∨ i = 9 ∨ i = 10 ∨ i = 11 := by omega
  rcases this with rfl | rfl | rfl | rfl | rfl | rfl | rfl | rfl | rfl | rfl | rfl | rfl <;> rfl
structure RvC (w : World) (C V n : Nat) (k : RB) (q : Sq) : Prop where
  cb : w.heap[C]? = some (.cells (cxA q.c) 89)
  cv : ∀ i, i < n → w.cell? ⟨V, i, none⟩ = some (.int .u32 (q.v i))
  fv : Fz w V
  m : RM w k q.s
  n0 : 0 < n
  ne : C ≠ V
  kc : ∀ x ∈ k.y :: k.all, x ≠ C ∧ x ≠ V
theorem RvC.lV {w : World} {C V n : Nat} {k : RB} {q : Sq} (h : RvC w C V n k q) : V < w.heap.size := lt_of_cell (h.cv 0 h.n0)
theorem RvC.below {w w' : World} {C V n : Nat} {k : RB} {q : Sq} (h : RvC w C V n k q) (b : Below w.heap.size w w') : RvC w' C V n k q :=
  ⟨(b.block _ (row_lt h.cb)).trans h.cb, fun i hi => (b.cell (p := ⟨V, i, none⟩) h.lV).trans (h.cv i hi), h.fv.below b h.lV, h.m.below b (Nat.le_refl _), h.n0, h.ne, h.kc⟩
theorem RvC.stored {w w' : World} {C V n : Nat} {k : RB} {q : Sq} {s : MS} (h : RvC w C V n k q) (b : Chg k.all w w') (m : RM w' k s) : RvC w' C V n k ⟨q.c, s, q.v⟩ := by
  have hC : C ∉ k.all := fun hm => (h.kc C (List.mem_cons_of_mem _ hm)).1 rfl
  have hV : V ∉ k.all := fun hm => (h.kc V (List.mem_cons_of_mem _ hm)).2 rfl
  exact ⟨(b.block _ (row_lt h.cb) hC).trans h.cb, fun i hi => (b.cell h.lV hV).trans (h.cv i hi), h.fv.chg b h.lV hV, m, h.n0, h.ne, h.kc⟩
theorem RvC.set {w : World} {C V n B o : Nat} {k : RB} {q : Sq} (h : RvC w C V n k q) (hC : C ≠ B) (hV : V ≠ B) (hk : ∀ x ∈ k.y :: k.all, x ≠ B) (u : Value) : RvC (w.setCell ⟨B, o, none⟩ u) C V n k q :=
  ⟨(blk_other hC u).trans h.cb, fun i hi => (cell_setOther u hV _).trans (h.cv i hi), h.fv.set _ _, h.m.of_blocks (fun x hx => blk_other (hk x hx) u), h.n0, h.ne, h.kc⟩
theorem RvC.putV {w : World} {C V n i : Nat} {k : RB} {q : Sq} (h : RvC w C V n k q) (hi : i < n) (x : Nat) : RvC (w.setCell ⟨V, i, none⟩ (.int .u32 x)) C V n k ⟨q.c, q.s, updC q.v i x⟩ := by
  refine ⟨(blk_other h.ne _).trans h.cb, fun j hj => ?_, h.fv.set _ _, h.m.of_blocks (fun x hx => blk_other (h.kc x hx).2 _), h.n0, h.ne, h.kc⟩
  rw [cell_setCell _ (h.cv i hi)]
  show _ = some (Value.int .u32 (updC q.v i x j))
  unfold updC
  by_cases e : j = i
  · simp [e]
  · simp [e, h.cv j hj]
theorem RvC.putC {w : World} {C V n i : Nat} {k : RB} {q : Sq} (h : RvC w C V n k q) (hi : i < 12) (x : Nat) : RvC (w.setCell ⟨C, i, none⟩ (.int .u32 x)) C V n k ⟨updC q.c i x, q.s, q.v⟩ :=
  ⟨by rw [blk_set h.cb, cxA_set _ _ _ hi], fun j hj => (cell_setOther _ h.ne.symm _).trans (h.cv j hj), h.fv.set _ _, h.m.of_blocks (fun x hx => blk_other (h.kc x hx).1 _), h.n0, h.ne, h.kc⟩
/-- Ahead of an operation. -/
structure LvA (w wx : World) (C V n : Nat) (k : RB) (q : Sq) : Prop where
  r : RvC wx C V n k q
  b6 : wx.heap[C + 1]? = some (.cells #[.int .u32 0, .int .u32 0, .int .u32 0, .int .u32 0, .int .u32 0, .int .u32 0, .int .u32 0, .int .u32 0, .int .u32 0, .int .u32 0, .int .u32 0, .int .u32 0] 89)
  b7 : wx.heap[C + 1 + 1]? = some (.cells #[.int .i64 0, .int .u32 0, .int .u32 0, .int .i64 0] 93)
  chg : Chg k.all w wx
  lk : ∀ x ∈ k.y :: k.all, x < w.heap.size
  lC : w.heap.size ≤ C
  lV : C + 1 + 1 < V
/-- At an operation. -/
structure LvB (w wx : World) (C V D n : Nat) (k : RB) (q : Sq) (o : OpR) (x : ExR) : Prop where
  a : LvA w wx C V n k q
  b11 : wx.heap[D]? = some (.cells (opA o) 163)
  b12 : wx.heap[D + 1]? = some (.cells (exA x) 93)
  lD : V < D
theorem LvA.k_ne {w wx : World} {C V n : Nat} {k : RB} {q : Sq} (h : LvA w wx C V n k q) {B : Nat} (hB : w.heap.size ≤ B) : ∀ x ∈ k.y :: k.all, x ≠ B := fun x hx e => by have := h.lk x hx; omega
theorem LvA.not {w wx : World} {C V n : Nat} {k : RB} {q : Sq} (h : LvA w wx C V n k q) {B : Nat} (hB : w.heap.size ≤ B) : B ∉ k.all := fun hm => h.k_ne hB B (List.mem_cons_of_mem _ hm) rfl
theorem LvA.below {w wx w' : World} {C V n : Nat} {k : RB} {q : Sq} (h : LvA w wx C V n k q) (b : Below wx.heap.size wx w') : LvA w w' C V n k q :=
  ⟨h.r.below b, (b.block _ (row_lt h.b6)).trans h.b6, (b.block _ (row_lt h.b7)).trans h.b7, h.chg.trans (Chg.of_below _ b), h.lk, h.lC, h.lV⟩
theorem LvA.stored {w wx w' : World} {C V n : Nat} {k : RB} {q : Sq} {s : MS} (h : LvA w wx C V n k q) (b : Chg k.all wx w') (m : RM w' k s) : LvA w w' C V n k ⟨q.c, s, q.v⟩ := by
  have := h.lC
  exact ⟨h.r.stored b m, (b.block _ (row_lt h.b6) (h.not (by omega))).trans h.b6, (b.block _ (row_lt h.b7) (h.not (by omega))).trans h.b7, h.chg.trans b, h.lk, h.lC, h.lV⟩
theorem LvA.set {w wx : World} {C V n B o : Nat} {k : RB} {q : Sq} (h : LvA w wx C V n k q) (hB : V < B) (u : Value) : LvA w (wx.setCell ⟨B, o, none⟩ u) C V n k q := by
  have h1 := h.lC
  have h2 := h.lV
  exact ⟨h.r.set (by omega) (by omega) (h.k_ne (by omega)) u, (blk_other (by omega) u).trans h.b6, (blk_other (by omega) u).trans h.b7, h.chg.new (by omega) ((Only.refl B wx).setCell o u), h.lk, h.lC, h.lV⟩
theorem LvA.putV {w wx : World} {C V n i : Nat} {k : RB} {q : Sq} (h : LvA w wx C V n k q) (hi : i < n) (x : Nat) : LvA w (wx.setCell ⟨V, i, none⟩ (.int .u32 x)) C V n k ⟨q.c, q.s, updC q.v i x⟩ := by
  have h1 := h.lC
  have h2 := h.lV
  exact ⟨h.r.putV hi x, (blk_other (by omega) _).trans h.b6, (blk_other (by omega) _).trans h.b7, h.chg.new (by omega) ((Only.refl V wx).setCell i _), h.lk, h.lC, h.lV⟩
theorem LvA.putC {w wx : World} {C V n i : Nat} {k : RB} {q : Sq} (h : LvA w wx C V n k q) (hi : i < 12) (x : Nat) : LvA w (wx.setCell ⟨C, i, none⟩ (.int .u32 x)) C V n k ⟨updC q.c i x, q.s, q.v⟩ := by
  have h1 := h.lC
  have h2 := h.lV
  exact ⟨h.r.putC hi x, (blk_other (by omega) _).trans h.b6, (blk_other (by omega) _).trans h.b7, h.chg.new (by omega) ((Only.refl C wx).setCell i _), h.lk, h.lC, h.lV⟩
theorem LvB.below {w wx w' : World} {C V D n : Nat} {k : RB} {q : Sq} {o : OpR} {x : ExR} (h : LvB w wx C V D n k q o x) (b : Below wx.heap.size wx w') : LvB w w' C V D n k q o x :=
  ⟨h.a.below b, (b.block _ (row_lt h.b11)).trans h.b11, (b.block _ (row_lt h.b12)).trans h.b12, h.lD⟩
theorem LvB.drew {w wx : World} {C V D n : Nat} {k : RB} {q : Sq} {o : OpR} {x : ExR} (h : LvB w wx C V D n k q o x) : LvB w wx.drew C V D n k q o x := h.below (Below.refl _ _).drew
theorem LvB.drewN {w wx : World} {C V D n : Nat} {k : RB} {q : Sq} {o : OpR} {x : ExR} (h : LvB w wx C V D n k q o x) (r : Nat) : LvB w (wx.drewN r) C V D n k q o x := h.below (belN (Below.refl _ _) r)
theorem LvB.stored {w wx w' : World} {C V D n : Nat} {k : RB} {q : Sq} {o : OpR} {x : ExR} {s : MS} (h : LvB w wx C V D n k q o x) (b : Chg k.all wx w') (m : RM w' k s) : LvB w w' C V D n k ⟨q.c, s, q.v⟩ o x := by
  have h1 := h.a.lC
  have h2 := h.a.lV
  have h3 := h.lD
  exact ⟨h.a.stored b m, (b.block _ (row_lt h.b11) (h.a.not (by omega))).trans h.b11, (b.block _ (row_lt h.b12) (h.a.not (by omega))).trans h.b12, h.lD⟩
theorem LvB.putV {w wx : World} {C V D n i : Nat} {k : RB} {q : Sq} {o : OpR} {x : ExR} (h : LvB w wx C V D n k q o x) (hi : i < n) (y : Nat) : LvB w (wx.setCell ⟨V, i, none⟩ (.int .u32 y)) C V D n k ⟨q.c, q.s, updC q.v i y⟩ o x := by
  have h3 := h.lD
  exact ⟨h.a.putV hi y, (blk_other (by omega) _).trans h.b11, (blk_other (by omega) _).trans h.b12, h.lD⟩
theorem LvB.putC {w wx : World} {C V D n i : Nat} {k : RB} {q : Sq} {o : OpR} {x : ExR} (h : LvB w wx C V D n k q o x) (hi : i < 12) (y : Nat) : LvB w (wx.setCell ⟨C, i, none⟩ (.int .u32 y)) C V D n k ⟨updC q.c i y, q.s, q.v⟩ o x := by
  have h2 := h.a.lV
  have h3 := h.lD
  exact ⟨h.a.putC hi y, (blk_other (by omega) _).trans h.b11, (blk_other (by omega) _).trans h.b12, h.lD⟩
theorem LvB.ex0 {w wx : World} {C V D n : Nat} {k : RB} {q : Sq} {o : OpR} {x : ExR} (h : LvB w wx C V D n k q o x) (z : Int) : LvB w (wx.setCell ⟨D + 1, 0, none⟩ (.int .i64 z)) C V D n k q o ⟨z, x.a, x.pc, x.n⟩ := by
  have h3 := h.lD
  exact ⟨h.a.set (by omega) _, (blk_other (by omega) _).trans h.b11, (blk_set h.b12 _).trans rfl, h.lD⟩
theorem LvB.ex1 {w wx : World} {C V D n : Nat} {k : RB} {q : Sq} {o : OpR} {x : ExR} (h : LvB w wx C V D n k q o x) (z : Int) : LvB w (wx.setCell ⟨D + 1, 1, none⟩ (.int .u32 z)) C V D n k q o ⟨x.k, z, x.pc, x.n⟩ := by
  have h3 := h.lD
  exact ⟨h.a.set (by omega) _, (blk_other (by omega) _).trans h.b11, (blk_set h.b12 _).trans rfl, h.lD⟩
theorem LvB.ex2 {w wx : World} {C V D n : Nat} {k : RB} {q : Sq} {o : OpR} {x : ExR} (h : LvB w wx C V D n k q o x) (z : Int) : LvB w (wx.setCell ⟨D + 1, 2, none⟩ (.int .u32 z)) C V D n k q o ⟨x.k, x.a, z, x.n⟩ := by
  have h3 := h.lD
  exact ⟨h.a.set (by omega) _, (blk_other (by omega) _).trans h.b11, (blk_set h.b12 _).trans rfl, h.lD⟩
theorem LvB.ex3 {w wx : World} {C V D n : Nat} {k : RB} {q : Sq} {o : OpR} {x : ExR} (h : LvB w wx C V D n k q o x) (z : Int) : LvB w (wx.setCell ⟨D + 1, 3, none⟩ (.int .i64 z)) C V D n k q o ⟨x.k, x.a, x.pc, z⟩ := by
  have h3 := h.lD
  exact ⟨h.a.set (by omega) _, (blk_other (by omega) _).trans h.b11, (blk_set h.b12 _).trans rfl, h.lD⟩
theorem OpsR.chg {w w' : World} {S : List Nat} {bp : Option Addr} {n : Nat} {f : Nat → OpR} (h : OpsR w bp n f) (hb : ∀ b off, bp = some ⟨b, off, none⟩ → b ∉ S) (c : Chg S w w') : OpsR w' bp n f := fun h0 => by
  obtain ⟨b, off, e, hl, hc⟩ := h h0
  have hn := hb b off e
  exact ⟨b, off, e, Nat.lt_of_lt_of_le hl c.size, fun i hi => opAt_of fun r hr => (c.cell hl hn).trans ((hc i hi).cells r hr)⟩
end Go.Proofs.Ytkgbjpdoigdjnaa
