import Derived.Test.YtkgbjpdoigdjnabWEE
import Derived.Test.YtkgbjpdoigdjnabWEF
import Derived.Laws.Rows
import Derived.Test.YtkgbjpdoigdjnabC1
set_option linter.unusedVariables false
set_option linter.unusedSimpArgs false
namespace Go.Proofs.Ytkgbjpdoigdjnab.Va
open Go.RowKit
set_option maxRecDepth 100000
theorem upto4 {k : Int} (h : 0 ≤ k ∧ k ≤ 4) : k = 0 ∨ k = 1 ∨ k = 2 ∨ k = 3 ∨ k = 4 := by omega
theorem upto2 {k : Int} (h : 0 ≤ k ∧ k ≤ 2) : k = 0 ∨ k = 1 ∨ k = 2 := by omega
theorem rld_any (k : RB) (a : Nat) (g : Int) (s : MS) (w : World) (ha : a < 4294967296) (hs : s.Ok) (h : RM w k s) (hg : 0 ≤ g ∧ g ≤ 4) :
  Calls Try.prog 78 #[.pointer (some ⟨k.y, 0, none⟩), .int .i64 g, .int .u32 a] w fun e w' => e = .returned (.tuple #[.int .u32 (ldWo s g a : Nat), .agg #[.int .i64 (stK 5 (badN s 1 a (ldNo g).toNat)), .int .u32 (stA (badN s 1 a (ldNo g).toNat))]]) ∧ Below w.heap.size w w' := by
 rcases upto4 hg with rfl | rfl | rfl | rfl | rfl
 ·obtain ⟨v, e, hv⟩ := ldX_nat s a 1 hs (by omega)
  have c := rld0 k a v s w _ ha hs h e hv rfl
  rw [show ldWo s 0 a = v by simp [ldWo, ldNo, e]]
  exact c
 ·obtain ⟨v, e, hv⟩ := ldX_nat s a 1 hs (by omega)
  have c := rld1 k a v s w _ ha hs h e hv rfl
  rw [show ldWo s 1 a = unF 2 v by simp [ldWo, ldNo, e]]
  exact c
 ·obtain ⟨v, e, hv⟩ := ldX_nat s a 2 hs (by omega)
  have c := rld2 k a v s w _ ha hs h e hv rfl
  rw [show ldWo s 2 a = v by simp [ldWo, ldNo, e]]
  exact c
 ·obtain ⟨v, e, hv⟩ := ldX_nat s a 2 hs (by omega)
  have c := rld3 k a v s w _ ha hs h e hv rfl
  rw [show ldWo s 3 a = unF 3 v by simp [ldWo, ldNo, e]]
  exact c
 ·obtain ⟨v, e, hv⟩ := ldX_nat s a 4 hs (by omega)
  have c := rld4 k a v s w _ ha hs h e hv rfl
  rw [show ldWo s 4 a = v by simp [ldWo, ldNo, e]]
  exact c
theorem rst_any (k : RB) (a v : Nat) (g : Int) (s : MS) (w : World) (ha : a < 4294967296) (hv : v < 4294967296) (hs : s.Ok) (h : RM w k s) (hg : 0 ≤ g ∧ g ≤ 2) :
  Calls Try.prog 79 #[.pointer (some ⟨k.y, 0, none⟩), .int .i64 g, .int .u32 a, .int .u32 v] w fun e w' => e = .returned (.agg #[.int .i64 (stK 6 (sto s a (stN g))), .int .u32 (stA (sto s a (stN g)))]) ∧ RM w' k (storeT s a (stN g) v) ∧ Chg k.all w w' := by
 rcases upto2 hg with rfl | rfl | rfl
 ·exact rst0 k a v s w _ ha hv hs h rfl
 ·exact rst1 k a v s w _ ha hv hs h rfl
 ·exact rst2 k a v s w _ ha hv hs h rfl
theorem opWf_of {n : Nat} {o : OpR} (h : OpGood n o) : OpWf o :=
 ⟨fun e => by have h1 := h.lo; have h2 := h.hi; rw [e] at h1 h2; exact ⟨h1, h2⟩, fun e => by have h1 := h.lo; have h2 := h.hi; rw [e] at h1 h2; exact ⟨h1, h2⟩⟩
theorem rval_any (n : Nat) (o : OpR) (a b c : Nat) (w : World) (ha : a < 4294967296) (hb : b < 4294967296) (hc : c < 4294967296) (hk : o.kind = 1 ∨ o.kind = 4 ∨ o.kind = 5 ∨ o.kind = 6 ∨ o.kind = 7 ∨ o.kind = 8) (hw : OpGood n o) :
  Calls Try.prog 81 #[.agg #[.int .i64 o.kind, .int .i64 o.w, .int .i64 o.a, .int .i64 o.b, .int .i64 o.c, .int .u32 o.k, .int .i64 o.n], .int .u32 a, .int .u32 b, .int .u32 c] w fun e w' => e = .returned (.int .u32 (valF o a b c)) ∧ Below w.heap.size w w' := by
 rcases hk with h | h | h | h | h | h
 ·exact rval1 o a b c w ha hb hc h (opWf_of hw)
 ·exact rval4 o a b c w ha hb hc h (opWf_of hw)
 ·exact rval5 o a b c w ha hb hc h (opWf_of hw)
 ·exact rval6 o a b c w ha hb hc h (opWf_of hw)
 ·exact rval7 o a b c w ha hb hc h (opWf_of hw)
 ·exact rval8 o a b c w ha hb hc h (opWf_of hw)
structure Fz (w : World) (X : Nat) : Prop where
 fr : ∀ j, w.frozen? ⟨X, j, none⟩ = false
theorem Fz.drew {w : World} {X : Nat} (h : Fz w X) : Fz w.drew X := ⟨h.fr⟩
theorem Fz.drewN {w : World} {X : Nat} (h : Fz w X) : ∀ n, Fz (w.drewN n) X
 | 0 => h
 | n + 1 => (Fz.drewN h n).drew
theorem Fz.alloc {w : World} {X : Nat} (h : Fz w X) (A : Array Value) (T : TypeId) : Fz (w.alloc (.cells A T)) X := ⟨fun j => (frozen?_alloc_cells w A T _).trans (h.fr j)⟩
theorem Fz.set {w : World} {X : Nat} (h : Fz w X) (a : Addr) (v : Value) : Fz (w.setCell a v) X := ⟨fun j => by rw [World.frozen?_setCell]; exact h.fr j⟩
theorem Fz.below {w w' : World} {X n : Nat} (h : Fz w X) (k : Below n w w') (hX : X < n) : Fz w' X := ⟨fun j => (k.frozen (p := ⟨X, j, none⟩) hX).trans (h.fr j)⟩
theorem Fz.chg {w w' : World} {S : List Nat} {X : Nat} (h : Fz w X) (k : Chg S w w') (hX : X < w.heap.size) (hs : X ∉ S) : Fz w' X := ⟨fun j => (World.frozen?_of_block (w := w) (k.block X hX hs)).trans (h.fr j)⟩
theorem WkC.below {w w' : World} {P V X n : Nat} {c v : Nat → Nat} (h : WkC w P V X n c v) (k : Below w.heap.size w w') (hn : 0 < n) : WkC w' P V X n c v := by
 have lP := lt_of_cell h.cs
 have lV := lt_of_cell (h.cv 0 hn)
 exact h.of (fun o => k.cell (p := ⟨P, o, none⟩) lP) (fun o => k.cell (p := ⟨V, o, none⟩) lV)
theorem WkC.putV {w : World} {P V X n i : Nat} {c v : Nat → Nat} (h : WkC w P V X n c v) (hi : i < n) (hV : P ≠ V) (x : Nat) : WkC (w.setCell ⟨V, i, none⟩ (.int .u32 x)) P V X n c (updC v i x) := by
 have hu := h.cv i hi
 refine ⟨fun j hj => (cell_setOther _ hV _).trans (h.cc j hj), (cell_setOther _ hV _).trans h.cm, (cell_setOther _ hV _).trans h.cs, fun j hj => ?_⟩
 rw [cell_setCell _ hu]
 unfold updC
 by_cases e : j = i
 ·simp [e]
 ·simp [e, h.cv j hj]
structure WkW (w : World) (P V X n : Nat) (q : Sq) : Prop where
 k : WkC w P V X n q.c q.v
 fP : Fz w P
 fV : Fz w V
 m : PM w X q.s
 n0 : 0 < n
 pv : P ≠ V
 px : P ≠ X
 vx : V ≠ X
theorem WkW.lP {w : World} {P V X n : Nat} {q : Sq} (h : WkW w P V X n q) : P < w.heap.size := lt_of_cell h.k.cs
theorem WkW.lV {w : World} {P V X n : Nat} {q : Sq} (h : WkW w P V X n q) : V < w.heap.size := lt_of_cell (h.k.cv 0 h.n0)
theorem WkW.below {w w' : World} {P V X n : Nat} {q : Sq} (h : WkW w P V X n q) (b : Below w.heap.size w w') : WkW w' P V X n q :=
 ⟨h.k.below b h.n0, h.fP.below b h.lP, h.fV.below b h.lV, h.m.below b h.m.lt, h.n0, h.pv, h.px, h.vx⟩
abbrev exA (x : ExR) : Array Value := #[.int .i64 x.k, .int .u32 x.a, .int .u32 x.pc, .int .i64 x.n]
theorem blk_set {w : World} {X o : Nat} {A : Array Value} {T : TypeId} (h : w.heap[X]? = some (.cells A T)) (v : Value) : (w.setCell ⟨X, o, none⟩ v).heap[X]? = some (.cells (A.setIfInBounds o v) T) := heap_setCell_same w X o A T v h
theorem blk_other {w : World} {X Y o : Nat} (hne : Y ≠ X) (v : Value) : (w.setCell ⟨X, o, none⟩ v).heap[Y]? = w.heap[Y]? := Below.heap_setCell w ⟨X, o, none⟩ v Y hne
structure D3 (w wx : World) (P V X n : Nat) (S : List Nat) (c v : Nat → Nat) (o : OpR) (x : ExR) : Prop where
 k : WkC wx P V X n c v
 f : Fz wx V
 b5 : wx.heap[w.heap.size]? = some (.cells #[.int .i64 o.kind, .int .i64 o.w, .int .i64 o.a, .int .i64 o.b, .int .i64 o.c, .int .u32 o.k, .int .i64 o.n] 67)
 b6 : wx.heap[w.heap.size + 1]? = some (.cells #[.int .i64 0, .int .u32 0, .int .u32 0, .int .i64 0] 43)
 b8 : wx.heap[w.heap.size + 1 + 1]? = some (.cells (exA x) 43)
 chg : Chg S w wx
 n0 : 0 < n
 lP : P < w.heap.size
 lV : V < w.heap.size
 pv : P ≠ V
theorem D3.next {w wx : World} {P V X n : Nat} {S : List Nat} {c v : Nat → Nat} {o : OpR} {x : ExR} {w' : World} (h : D3 w wx P V X n S c v o x) (b : Below wx.heap.size wx w') : D3 w w' P V X n S c v o x :=
 ⟨h.k.below b h.n0, h.f.below b (lt_of_cell (h.k.cv 0 h.n0)), (b.block _ (row_lt h.b5)).trans h.b5, (b.block _ (row_lt h.b6)).trans h.b6, (b.block _ (row_lt h.b8)).trans h.b8, h.chg.trans (Chg.of_below S b), h.n0, h.lP, h.lV, h.pv⟩
theorem D3.drew {w wx : World} {P V X n : Nat} {S : List Nat} {c v : Nat → Nat} {o : OpR} {x : ExR} (h : D3 w wx P V X n S c v o x) : D3 w wx.drew P V X n S c v o x := ⟨h.k.drew, h.f.drew, h.b5, h.b6, h.b8, h.chg.drewC, h.n0, h.lP, h.lV, h.pv⟩
theorem D3.stored {w wx : World} {P V X n : Nat} {S : List Nat} {c v : Nat → Nat} {o : OpR} {x : ExR} {w' : World} (h : D3 w wx P V X n S c v o x) (b : Chg [X] wx w') (hX : X < w.heap.size) (hS : X ∈ S) (hP : P ≠ X) (hV : V ≠ X) : D3 w w' P V X n S c v o x := by
 have b5 := row_lt h.b5
 have b6 := row_lt h.b6
 have b8 := row_lt h.b8
 have lV := lt_of_cell (h.k.cv 0 h.n0)
 have lP := lt_of_cell h.k.cs
 exact ⟨h.k.of (fun o => b.cell lP (by simpa using hP)) (fun o => b.cell lV (by simpa using hV)), h.f.chg b lV (by simpa using hV), (b.block _ b5 (by simp; omega)).trans h.b5, (b.block _ b6 (by simp; omega)).trans h.b6, (b.block _ b8 (by simp; omega)).trans h.b8, h.chg.trans (b.mono (by intro y hy; simp at hy; rw [hy]; exact hS)), h.n0, h.lP, h.lV, h.pv⟩
theorem D3.putV {w wx : World} {P V X n : Nat} {S : List Nat} {c v : Nat → Nat} {o : OpR} {x : ExR} {i : Nat} (h : D3 w wx P V X n S c v o x) (hi : i < n) (hS : V ∈ S) (y : Nat) : D3 w (wx.setCell ⟨V, i, none⟩ (.int .u32 y)) P V X n S c (updC v i y) o x := by
 have lV := h.lV
 exact ⟨h.k.putV hi h.pv y, h.f.set _ _, (blk_other (by omega) _).trans h.b5, (blk_other (by omega) _).trans h.b6, (blk_other (by omega) _).trans h.b8, h.chg.setIn hS, h.n0, h.lP, h.lV, h.pv⟩
theorem D3.ex0 {w wx : World} {P V X n : Nat} {S : List Nat} {c v : Nat → Nat} {o : OpR} {x : ExR} (h : D3 w wx P V X n S c v o x) (z : Int) : D3 w (wx.setCell ⟨w.heap.size + 1 + 1, 0, none⟩ (.int .i64 z)) P V X n S c v o ⟨z, x.a, x.pc, x.n⟩ := by
 have lV := h.lV
 have lP := h.lP
 exact ⟨h.k.set (by omega) (by omega) _ trivial, h.f.set _ _, (blk_other (by omega) _).trans h.b5, (blk_other (by omega) _).trans h.b6, (blk_set h.b8 _).trans rfl, h.chg.setN (by omega), h.n0, h.lP, h.lV, h.pv⟩
theorem D3.ex1 {w wx : World} {P V X n : Nat} {S : List Nat} {c v : Nat → Nat} {o : OpR} {x : ExR} (h : D3 w wx P V X n S c v o x) (z : Int) : D3 w (wx.setCell ⟨w.heap.size + 1 + 1, 1, none⟩ (.int .u32 z)) P V X n S c v o ⟨x.k, z, x.pc, x.n⟩ := by
 have lV := h.lV
 have lP := h.lP
 exact ⟨h.k.set (by omega) (by omega) _ trivial, h.f.set _ _, (blk_other (by omega) _).trans h.b5, (blk_other (by omega) _).trans h.b6, (blk_set h.b8 _).trans rfl, h.chg.setN (by omega), h.n0, h.lP, h.lV, h.pv⟩
theorem D3.start (w : World) (P V X n : Nat) (S : List Nat) (c v : Nat → Nat) (o : OpR) (h : WkC w P V X n c v) (f : Fz w V) (hn : 0 < n) (hpv : P ≠ V) (r : Nat) : D3 w ((((w.alloc (.cells #[.int .i64 o.kind, .int .i64 o.w, .int .i64 o.a, .int .i64 o.b, .int .i64 o.c, .int .u32 o.k, .int .i64 o.n] 67)).alloc (.cells #[.int .i64 0, .int .u32 0, .int .u32 0, .int .i64 0] 43)).alloc (.cells #[.int .i64 0, .int .u32 0, .int .u32 o.k, .int .i64 o.n] 43)).drewN r) P V X n S c v o ⟨0, 0, o.k, o.n⟩ := by
 have e := al3 w (.cells #[.int .i64 o.kind, .int .i64 o.w, .int .i64 o.a, .int .i64 o.b, .int .i64 o.c, .int .u32 o.k, .int .i64 o.n] 67) (.cells #[.int .i64 0, .int .u32 0, .int .u32 0, .int .i64 0] 43) (.cells #[.int .i64 0, .int .u32 0, .int .u32 o.k, .int .i64 o.n] 43)
 have b : Below w.heap.size w ((((w.alloc (.cells #[.int .i64 o.kind, .int .i64 o.w, .int .i64 o.a, .int .i64 o.b, .int .i64 o.c, .int .u32 o.k, .int .i64 o.n] 67)).alloc (.cells #[.int .i64 0, .int .u32 0, .int .u32 0, .int .i64 0] 43)).alloc (.cells #[.int .i64 0, .int .u32 0, .int .u32 o.k, .int .i64 o.n] 43)).drewN r) := belN ((((Below.refl w.heap.size w).alloc (Nat.le_refl _) _).alloc (by simp) _).alloc (by simp; omega) _) r
 exact ⟨h.below b hn, f.below b (lt_of_cell (h.cv 0 hn)), e.1, e.2.1, e.2.2, Chg.of_below S b, hn, lt_of_cell h.cs, lt_of_cell (h.cv 0 hn), hpv⟩
theorem cxA_set (c : Nat → Nat) (i x : Nat) (hi : i < 12) : (cxA c).setIfInBounds i (.int .u32 x) = cxA (updC c i x) := by
 have : i = 0 ∨ i = 1 ∨ i = 2 ∨ i = 3 ∨ i = 4 ∨ i = 5 ∨ i = 6 ∨ i = 7 ∨ i = 8 ∨ i = 9 ∨ i = 10 ∨ i = 11 := by omega
 rcases this with rfl | rfl | rfl | rfl | rfl | rfl | rfl | rfl | rfl | rfl | rfl | rfl <;> rfl
theorem cxA_get (c : Nat → Nat) (i : Nat) (hi : i < 12) : (cxA c)[i]? = some (.int .u32 (c i)) := by
 have : i = 0 ∨ i = 1 ∨ i = 2 ∨ i = 3 ∨ i = 4 ∨ i = 5 ∨ i = 6 ∨ i = 7 ∨ i = 8 ∨ i = 9 ∨ i = 10 ∨ i = 11 := by omega
 rcases this with rfl | rfl | rfl | rfl | rfl | rfl | rfl | rfl | rfl | rfl | rfl | rfl <;> rfl
structure RvC (w : World) (C V n : Nat) (k : RB) (q : Sq) : Prop where
 cb : w.heap[C]? = some (.cells (cxA q.c) 27)
 cv : ∀ i, i < n → w.cell? ⟨V, i, none⟩ = some (.int .u32 (q.v i))
 fv : Fz w V
 m : RM w k q.s
 n0 : 0 < n
 ne : C ≠ V
 kc : ∀ x ∈ k.y :: k.all, x ≠ C ∧ x ≠ V
theorem RvC.lV {w : World} {C V n : Nat} {k : RB} {q : Sq} (h : RvC w C V n k q) : V < w.heap.size := lt_of_cell (h.cv 0 h.n0)
theorem RvC.below {w w' : World} {C V n : Nat} {k : RB} {q : Sq} (h : RvC w C V n k q) (b : Below w.heap.size w w') : RvC w' C V n k q :=
 ⟨(b.block _ (row_lt h.cb)).trans h.cb, fun i hi => (b.cell (p := ⟨V, i, none⟩) h.lV).trans (h.cv i hi), h.fv.below b h.lV, h.m.below b (Nat.le_refl _), h.n0, h.ne, h.kc⟩
theorem RvC.stored {w w' : World} {C V n : Nat} {k : RB} {q : Sq} {s : MS} (h : RvC w C V n k q) (b : Chg k.all w w') (m : RM w' k s) : RvC w' C V n k ⟨q.c, s, q.v⟩ := by
 have hC : C ∉ k.all := fun hm => (h.kc C (List.mem_cons_of_mem _ hm)).1 rfl
 have hV : V ∉ k.all := fun hm => (h.kc V (List.mem_cons_of_mem _ hm)).2 rfl
 exact ⟨(b.block _ (row_lt h.cb) hC).trans h.cb, fun i hi => (b.cell h.lV hV).trans (h.cv i hi), h.fv.chg b h.lV hV, m, h.n0, h.ne, h.kc⟩
theorem RvC.set {w : World} {C V n B o : Nat} {k : RB} {q : Sq} (h : RvC w C V n k q) (hC : C ≠ B) (hV : V ≠ B) (hk : ∀ x ∈ k.y :: k.all, x ≠ B) (u : Value) : RvC (w.setCell ⟨B, o, none⟩ u) C V n k q :=
 ⟨(blk_other hC u).trans h.cb, fun i hi => (cell_setOther u hV _).trans (h.cv i hi), h.fv.set _ _, h.m.of_blocks (fun x hx => blk_other (hk x hx) u), h.n0, h.ne, h.kc⟩
theorem RvC.putV {w : World} {C V n i : Nat} {k : RB} {q : Sq} (h : RvC w C V n k q) (hi : i < n) (x : Nat) : RvC (w.setCell ⟨V, i, none⟩ (.int .u32 x)) C V n k ⟨q.c, q.s, updC q.v i x⟩ := by
 refine ⟨(blk_other h.ne _).trans h.cb, fun j hj => ?_, h.fv.set _ _, h.m.of_blocks (fun x hx => blk_other (h.kc x hx).2 _), h.n0, h.ne, h.kc⟩
 rw [cell_setCell _ (h.cv i hi)]
 show _ = some (Value.int .u32 (updC q.v i x j))
 unfold updC
 by_cases e : j = i
 ·simp [e]
 ·simp [e, h.cv j hj]
theorem RvC.putC {w : World} {C V n i : Nat} {k : RB} {q : Sq} (h : RvC w C V n k q) (hi : i < 12) (x : Nat) : RvC (w.setCell ⟨C, i, none⟩ (.int .u32 x)) C V n k ⟨updC q.c i x, q.s, q.v⟩ :=
 ⟨by rw [blk_set h.cb, cxA_set _ _ _ hi], fun j hj => (cell_setOther _ h.ne.symm _).trans (h.cv j hj), h.fv.set _ _, h.m.of_blocks (fun x hx => blk_other (h.kc x hx).1 _), h.n0, h.ne, h.kc⟩
structure LvA (w wx : World) (C V n : Nat) (k : RB) (q : Sq) : Prop where
 r : RvC wx C V n k q
 b6 : wx.heap[C + 1]? = some (.cells #[.int .u32 0, .int .u32 0, .int .u32 0, .int .u32 0, .int .u32 0, .int .u32 0, .int .u32 0, .int .u32 0, .int .u32 0, .int .u32 0, .int .u32 0, .int .u32 0] 27)
 b7 : wx.heap[C + 1 + 1]? = some (.cells #[.int .i64 0, .int .u32 0, .int .u32 0, .int .i64 0] 43)
 chg : Chg k.all w wx
 lk : ∀ x ∈ k.y :: k.all, x < w.heap.size
 lC : w.heap.size ≤ C
 lV : C + 1 + 1 < V
structure LvB (w wx : World) (C V D n : Nat) (k : RB) (q : Sq) (o : OpR) (x : ExR) : Prop where
 a : LvA w wx C V n k q
 b11 : wx.heap[D]? = some (.cells (opA o) 67)
 b12 : wx.heap[D + 1]? = some (.cells (exA x) 43)
 lD : V < D
theorem LvA.k_ne {w wx : World} {C V n : Nat} {k : RB} {q : Sq} (h : LvA w wx C V n k q) {B : Nat} (hB : w.heap.size ≤ B) : ∀ x ∈ k.y :: k.all, x ≠ B := fun x hx e => by have := h.lk x hx; omega
theorem LvA.not {w wx : World} {C V n : Nat} {k : RB} {q : Sq} (h : LvA w wx C V n k q) {B : Nat} (hB : w.heap.size ≤ B) : B ∉ k.all := fun hm => h.k_ne hB B (List.mem_cons_of_mem _ hm) rfl
theorem LvA.below {w wx w' : World} {C V n : Nat} {k : RB} {q : Sq} (h : LvA w wx C V n k q) (b : Below wx.heap.size wx w') : LvA w w' C V n k q :=
 ⟨h.r.below b, (b.block _ (row_lt h.b6)).trans h.b6, (b.block _ (row_lt h.b7)).trans h.b7, h.chg.trans (Chg.of_below _ b), h.lk, h.lC, h.lV⟩
theorem LvA.stored {w wx w' : World} {C V n : Nat} {k : RB} {q : Sq} {s : MS} (h : LvA w wx C V n k q) (b : Chg k.all wx w') (m : RM w' k s) : LvA w w' C V n k ⟨q.c, s, q.v⟩ := by
 have := h.lC
 exact ⟨h.r.stored b m, (b.block _ (row_lt h.b6) (h.not (by omega))).trans h.b6, (b.block _ (row_lt h.b7) (h.not (by omega))).trans h.b7, h.chg.trans b, h.lk, h.lC, h.lV⟩
theorem LvA.set {w wx : World} {C V n B o : Nat} {k : RB} {q : Sq} (h : LvA w wx C V n k q) (hB : V < B) (u : Value) : LvA w (wx.setCell ⟨B, o, none⟩ u) C V n k q := by
 have h1 := h.lC
 have h2 := h.lV
 exact ⟨h.r.set (by omega) (by omega) (h.k_ne (by omega)) u, (blk_other (by omega) u).trans h.b6, (blk_other (by omega) u).trans h.b7, h.chg.new (by omega) ((Only.refl B wx).setCell o u), h.lk, h.lC, h.lV⟩
theorem LvA.putV {w wx : World} {C V n i : Nat} {k : RB} {q : Sq} (h : LvA w wx C V n k q) (hi : i < n) (x : Nat) : LvA w (wx.setCell ⟨V, i, none⟩ (.int .u32 x)) C V n k ⟨q.c, q.s, updC q.v i x⟩ := by
 have h1 := h.lC
 have h2 := h.lV
 exact ⟨h.r.putV hi x, (blk_other (by omega) _).trans h.b6, (blk_other (by omega) _).trans h.b7, h.chg.new (by omega) ((Only.refl V wx).setCell i _), h.lk, h.lC, h.lV⟩
theorem LvA.putC {w wx : World} {C V n i : Nat} {k : RB} {q : Sq} (h : LvA w wx C V n k q) (hi : i < 12) (x : Nat) : LvA w (wx.setCell ⟨C, i, none⟩ (.int .u32 x)) C V n k ⟨updC q.c i x, q.s, q.v⟩ := by
 have h1 := h.lC
 have h2 := h.lV
 exact ⟨h.r.putC hi x, (blk_other (by omega) _).trans h.b6, (blk_other (by omega) _).trans h.b7, h.chg.new (by omega) ((Only.refl C wx).setCell i _), h.lk, h.lC, h.lV⟩
theorem LvB.below {w wx w' : World} {C V D n : Nat} {k : RB} {q : Sq} {o : OpR} {x : ExR} (h : LvB w wx C V D n k q o x) (b : Below wx.heap.size wx w') : LvB w w' C V D n k q o x :=
 ⟨h.a.below b, (b.block _ (row_lt h.b11)).trans h.b11, (b.block _ (row_lt h.b12)).trans h.b12, h.lD⟩
theorem LvB.drew {w wx : World} {C V D n : Nat} {k : RB} {q : Sq} {o : OpR} {x : ExR} (h : LvB w wx C V D n k q o x) : LvB w wx.drew C V D n k q o x := h.below (Below.refl _ _).drew
theorem LvB.drewN {w wx : World} {C V D n : Nat} {k : RB} {q : Sq} {o : OpR} {x : ExR} (h : LvB w wx C V D n k q o x) (r : Nat) : LvB w (wx.drewN r) C V D n k q o x := h.below (belN (Below.refl _ _) r)
theorem LvB.stored {w wx w' : World} {C V D n : Nat} {k : RB} {q : Sq} {o : OpR} {x : ExR} {s : MS} (h : LvB w wx C V D n k q o x) (b : Chg k.all wx w') (m : RM w' k s) : LvB w w' C V D n k ⟨q.c, s, q.v⟩ o x := by
 have h1 := h.a.lC
 have h2 := h.a.lV
 have h3 := h.lD
 exact ⟨h.a.stored b m, (b.block _ (row_lt h.b11) (h.a.not (by omega))).trans h.b11, (b.block _ (row_lt h.b12) (h.a.not (by omega))).trans h.b12, h.lD⟩
theorem LvB.putV {w wx : World} {C V D n i : Nat} {k : RB} {q : Sq} {o : OpR} {x : ExR} (h : LvB w wx C V D n k q o x) (hi : i < n) (y : Nat) : LvB w (wx.setCell ⟨V, i, none⟩ (.int .u32 y)) C V D n k ⟨q.c, q.s, updC q.v i y⟩ o x := by
 have h3 := h.lD
 exact ⟨h.a.putV hi y, (blk_other (by omega) _).trans h.b11, (blk_other (by omega) _).trans h.b12, h.lD⟩
theorem LvB.putC {w wx : World} {C V D n i : Nat} {k : RB} {q : Sq} {o : OpR} {x : ExR} (h : LvB w wx C V D n k q o x) (hi : i < 12) (y : Nat) : LvB w (wx.setCell ⟨C, i, none⟩ (.int .u32 y)) C V D n k ⟨updC q.c i y, q.s, q.v⟩ o x := by
 have h2 := h.a.lV
 have h3 := h.lD
 exact ⟨h.a.putC hi y, (blk_other (by omega) _).trans h.b11, (blk_other (by omega) _).trans h.b12, h.lD⟩
theorem LvB.ex0 {w wx : World} {C V D n : Nat} {k : RB} {q : Sq} {o : OpR} {x : ExR} (h : LvB w wx C V D n k q o x) (z : Int) : LvB w (wx.setCell ⟨D + 1, 0, none⟩ (.int .i64 z)) C V D n k q o ⟨z, x.a, x.pc, x.n⟩ := by
 have h3 := h.lD
 exact ⟨h.a.set (by omega) _, (blk_other (by omega) _).trans h.b11, (blk_set h.b12 _).trans rfl, h.lD⟩
theorem LvB.ex1 {w wx : World} {C V D n : Nat} {k : RB} {q : Sq} {o : OpR} {x : ExR} (h : LvB w wx C V D n k q o x) (z : Int) : LvB w (wx.setCell ⟨D + 1, 1, none⟩ (.int .u32 z)) C V D n k q o ⟨x.k, z, x.pc, x.n⟩ := by
 have h3 := h.lD
 exact ⟨h.a.set (by omega) _, (blk_other (by omega) _).trans h.b11, (blk_set h.b12 _).trans rfl, h.lD⟩
theorem LvB.ex2 {w wx : World} {C V D n : Nat} {k : RB} {q : Sq} {o : OpR} {x : ExR} (h : LvB w wx C V D n k q o x) (z : Int) : LvB w (wx.setCell ⟨D + 1, 2, none⟩ (.int .u32 z)) C V D n k q o ⟨x.k, x.a, z, x.n⟩ := by
 have h3 := h.lD
 exact ⟨h.a.set (by omega) _, (blk_other (by omega) _).trans h.b11, (blk_set h.b12 _).trans rfl, h.lD⟩
theorem OpsR.chg {w w' : World} {S : List Nat} {bp : Option Addr} {n : Nat} {f : Nat → OpR} (h : OpsR w bp n f) (hb : ∀ b off, bp = some ⟨b, off, none⟩ → b ∉ S) (c : Chg S w w') : OpsR w' bp n f := fun h0 => by
 obtain ⟨b, off, e, hl, hc⟩ := h h0
 have hn := hb b off e
 exact ⟨b, off, e, Nat.lt_of_lt_of_le hl c.size, fun i hi => opAt_of fun r hr => (c.cell hl hn).trans ((hc i hi).cells r hr)⟩
end Go.Proofs.Ytkgbjpdoigdjnab.Va
