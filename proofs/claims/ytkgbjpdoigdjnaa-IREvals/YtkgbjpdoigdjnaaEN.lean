import Derived.Test.YtkgbjpdoigdjnaaEL
import Derived.Laws.Rows
namespace Go.Proofs.Ytkgbjpdoigdjnaa
open Go.RowKit
set_option maxRecDepth 100000
set_option linter.unusedVariables false
set_option linter.unusedSimpArgs false
/-! ## Blocks that may be written -/
structure Fz (w : World) (X : Nat) : Prop where
  fr : ∀ j, w.frozen? ⟨X, j, none⟩ = false
theorem Fz.drew {w : World} {X : Nat} (h : Fz w X) : Fz w.drew X := ⟨h.fr⟩
theorem Fz.drewN {w : World} {X : Nat} (h : Fz w X) : ∀ n, Fz (w.drewN n) X
  | 0 => h
  | n + 1 => (Fz.drewN h n).drew
theorem Fz.alloc {w : World} {X : Nat} (h : Fz w X) (A : Array Value) (T : TypeId) : Fz (w.alloc (.cells A T)) X := ⟨fun j => (frozen?_alloc_cells w A T _).trans (h.fr j)⟩
theorem Fz.set {w : World} {X : Nat} (h : Fz w X) (a : Addr) (v : Value) : Fz (w.setCell a v) X := ⟨fun j => by rw [World.frozen?_setCell]; exact h.fr j⟩
theorem Fz.below {w w' : World} {X n : Nat} (h : Fz w X) (k : Below n w w') (hX : X < n) : Fz w' X := ⟨fun j => (k.frozen (p := ⟨X, j, none⟩) hX).trans (h.fr j)⟩
theorem Fz.chg {w w' : World} {S : List Nat} {X : Nat} (h : Fz w X) (k : Chg S w w') (hX : X < w.heap.size) (hs : X ∉ S) : Fz w' X := ⟨fun j => (World.frozen?_of_block (w := w) (k.block X hX hs)).trans (h.fr j)⟩
theorem WkC.below {w w' : World} {P V X n : Nat} {c v : Nat → Nat} (h : WkC w P V X n c v) (k : Below w.heap.size w w') (hn : 0 < n) : WkC w' P V X n c v := by
  have lP := lt_of_cell h.cs
  have lV := lt_of_cell (h.cv 0 hn)
  exact h.of (fun o => k.cell (p := ⟨P, o, none⟩) lP) (fun o => k.cell (p := ⟨V, o, none⟩) lV)
theorem WkC.putV {w : World} {P V X n i : Nat} {c v : Nat → Nat} (h : WkC w P V X n c v) (hi : i < n) (hV : P ≠ V) (x : Nat) : WkC (w.setCell ⟨V, i, none⟩ (.int .u32 x)) P V X n c (updC v i x) := by
  have hu := h.cv i hi
  refine ⟨fun j hj => (cell_setOther _ hV _).trans (h.cc j hj), (cell_setOther _ hV _).trans h.cm, (cell_setOther _ hV _).trans h.cs, fun j hj => ?_⟩
  rw [cell_setCell _ hu]
  unfold updC
  by_cases e : j = i
  · simp [e]
  · simp [e, h.cv j hj]
/-- A walk under way. -/
structure WkW (w : World) (P V X n : Nat) (q : Sq) : Prop where
  k : WkC w P V X n q.c q.v
  fP : Fz w P
  fV : Fz w V
  m : PM w X q.s
  n0 : 0 < n
  pv : P ≠ V
  px : P ≠ X
  vx : V ≠ X
theorem WkW.lP {w : World} {P V X n : Nat} {q : Sq} (h : WkW w P V X n q) : P < w.heap.size := lt_of_cell h.k.cs
theorem WkW.lV {w : World} {P V X n : Nat} {q : Sq} (h : WkW w P V X n q) : V < w.heap.size := lt_of_cell (h.k.cv 0 h.n0)
theorem WkW.below {w w' : World} {P V X n : Nat} {q : Sq} (h : WkW w P V X n q) (b : Below w.heap.size w w') : WkW w' P V X n q :=
  ⟨h.k.below b h.n0, h.fP.below b h.lP, h.fV.below b h.lV, h.m.below b h.m.lt, h.n0, h.pv, h.px, h.vx⟩
theorem WkW.chgX {w w' : World} {P V X n : Nat} {q : Sq} {s : MS} (h : WkW w P V X n q) (b : Chg [X] w w') (m : PM w' X s) : WkW w' P V X n ⟨q.c, s, q.v⟩ :=
  ⟨h.k.of (fun o => b.cell h.lP (by simpa using h.px)) (fun o => b.cell h.lV (by simpa using h.vx)), h.fP.chg b h.lP (by simpa using h.px), h.fV.chg b h.lV (by simpa using h.vx), m, h.n0, h.pv, h.px, h.vx⟩
theorem WkW.chgP {w w' : World} {P V X n : Nat} {q : Sq} {c : Nat → Nat} (h : WkW w P V X n q) (b : Chg [P] w w') (k : WkC w' P V X n c q.v) (f : Fz w' P) : WkW w' P V X n ⟨c, q.s, q.v⟩ :=
  ⟨k, f, h.fV.chg b h.lV (by simpa using h.pv.symm), h.m.keep b (by simpa using h.px.symm), h.n0, h.pv, h.px, h.vx⟩
theorem WkW.chgV {w w' : World} {P V X n : Nat} {q : Sq} {v : Nat → Nat} (h : WkW w P V X n q) (b : Chg [V] w w') (k : WkC w' P V X n q.c v) (f : Fz w' V) : WkW w' P V X n ⟨q.c, q.s, v⟩ :=
  ⟨k, h.fP.chg b h.lP (by simpa using h.pv), f, h.m.keep b (by simpa using h.vx.symm), h.n0, h.pv, h.px, h.vx⟩
set_option maxHeartbeats 2000000 in
theorem pdo3f (P V X n i : Nat) (c v : Nat → Nat) (o : OpR) (w : World) (hP : WkC w P V X n c v) (hfr : Fz w P) (hv : cxOk v) (hn : n ≤ 2048) (hk : o.kind = 3) (ha : 0 ≤ o.a ∧ o.a < n) (hw : 0 ≤ o.w ∧ o.w ≤ 11) (hPV : V ≠ P) :
    Calls Try.prog 142 #[.pointer (some ⟨P, 0, none⟩), .int .i64 i, .agg #[.int .i64 o.kind, .int .i64 o.w, .int .i64 o.a, .int .i64 o.b, .int .i64 o.c, .int .u32 o.k, .int .i64 o.n]] w fun e w' => e = .returned (.tuple #[exV 0 0 o.k o.n, .bool false]) ∧ WkC w' P V X n (updC c o.w.toNat (v o.a.toNat)) v ∧ Chg [P] w w' ∧ Fz w' P := by
  have HV : Hid (cxOk v) := hv
  obtain ⟨a0, a1⟩ := ha
  have xs := hP.cs
  have xm := hP.cm
  have xa := hP.cv o.a.toNat (by omega)
  have lP := lt_of_cell xs
  have lV := lt_of_cell xa
  simp only at lP lV
  have lP1 : P < w.heap.size + 1 := Nat.lt_succ_of_lt lP
  have lP2 : P < w.heap.size + 1 + 1 := Nat.lt_succ_of_lt lP1
  have lV1 : V < w.heap.size + 1 := Nat.lt_succ_of_lt lV
  have lV2 : V < w.heap.size + 1 + 1 := Nat.lt_succ_of_lt lV1
  have n1 : (n : Int) ≤ 2048 := by omega
  obtain ⟨w0, w1⟩ := hw
  have w12 : o.w < 12 := by omega
  have xc := hP.cc o.w.toNat (by omega)
  have HP : Hid _ := hP
  have HF : Hid _ := hfr
  have xf := hfr.fr o.w.toNat
  clear hv hP hfr
  go_enter Try.func142, Try.ntmps142
  go_wp2
  go_quiet (fail)
  go_wp2
  go_region
  all_goals go_wp2
  all_goals exact bodyPost_ret (v := .tuple #[exV 0 0 o.k o.n, .bool false]) (by simp [results, Try.results142, go_sem, lP, lP1, lP2]) rfl ⟨rfl, by
    have hB := HP.out
    (repeat first | with_reducible exact hB | with_reducible refine WkC.drewN ?_ _ | with_reducible refine WkC.drew ?_ | with_reducible refine WkC.alloc ?_ _ (by omega) | with_reducible refine WkC.set ?_ (by omega) (by omega) _ trivial | with_reducible refine WkC.put ?_ (by omega) (by omega) _), by
    have hC := Chg.refl [P] w
    (repeat first | with_reducible exact hC | with_reducible refine Chg.drewN ?_ _ | with_reducible refine Chg.drewC ?_ | with_reducible refine Chg.allocC ?_ _ | with_reducible refine Chg.setIn ?_ List.mem_cons_self | with_reducible refine Chg.setN ?_ (by omega)), by
    have hF := HF.out
    (repeat first | with_reducible exact hF | with_reducible refine Fz.drewN ?_ _ | with_reducible refine Fz.drew ?_ | with_reducible refine Fz.alloc ?_ _ _ | with_reducible refine Fz.set ?_ _ _)⟩

abbrev exA (x : ExR) : Array Value := #[.int .i64 x.k, .int .u32 x.a, .int .u32 x.pc, .int .i64 x.n]
theorem blk_set {w : World} {X o : Nat} {A : Array Value} {T : TypeId} (h : w.heap[X]? = some (.cells A T)) (v : Value) : (w.setCell ⟨X, o, none⟩ v).heap[X]? = some (.cells (A.setIfInBounds o v) T) := heap_setCell_same w X o A T v h
theorem blk_other {w : World} {X Y o : Nat} (hne : Y ≠ X) (v : Value) : (w.setCell ⟨X, o, none⟩ v).heap[Y]? = w.heap[Y]? := Below.heap_setCell w ⟨X, o, none⟩ v Y hne
/-- do, under way: its three blocks. -/
structure D3 (w wx : World) (P V X n : Nat) (S : List Nat) (c v : Nat → Nat) (o : OpR) (x : ExR) : Prop where
  k : WkC wx P V X n c v
  f : Fz wx V
  b5 : wx.heap[w.heap.size]? = some (.cells #[.int .i64 o.kind, .int .i64 o.w, .int .i64 o.a, .int .i64 o.b, .int .i64 o.c, .int .u32 o.k, .int .i64 o.n] 163)
  b6 : wx.heap[w.heap.size + 1]? = some (.cells #[.int .i64 0, .int .u32 0, .int .u32 0, .int .i64 0] 93)
  b8 : wx.heap[w.heap.size + 1 + 1]? = some (.cells (exA x) 93)
  chg : Chg S w wx
  n0 : 0 < n
  lP : P < w.heap.size
  lV : V < w.heap.size
  pv : P ≠ V
theorem D3.next {w wx : World} {P V X n : Nat} {S : List Nat} {c v : Nat → Nat} {o : OpR} {x : ExR} {w' : World} (h : D3 w wx P V X n S c v o x) (b : Below wx.heap.size wx w') : D3 w w' P V X n S c v o x :=
  ⟨h.k.below b h.n0, h.f.below b (lt_of_cell (h.k.cv 0 h.n0)), (b.block _ (row_lt h.b5)).trans h.b5, (b.block _ (row_lt h.b6)).trans h.b6, (b.block _ (row_lt h.b8)).trans h.b8, h.chg.trans (Chg.of_below S b), h.n0, h.lP, h.lV, h.pv⟩
theorem D3.drew {w wx : World} {P V X n : Nat} {S : List Nat} {c v : Nat → Nat} {o : OpR} {x : ExR} (h : D3 w wx P V X n S c v o x) : D3 w wx.drew P V X n S c v o x := ⟨h.k.drew, h.f.drew, h.b5, h.b6, h.b8, h.chg.drewC, h.n0, h.lP, h.lV, h.pv⟩
theorem D3.stored {w wx : World} {P V X n : Nat} {S : List Nat} {c v : Nat → Nat} {o : OpR} {x : ExR} {w' : World} (h : D3 w wx P V X n S c v o x) (b : Chg [X] wx w') (hX : X < w.heap.size) (hS : X ∈ S) (hP : P ≠ X) (hV : V ≠ X) : D3 w w' P V X n S c v o x := by
  have b5 := row_lt h.b5
  have b6 := row_lt h.b6
  have b8 := row_lt h.b8
  have lV := lt_of_cell (h.k.cv 0 h.n0)
  have lP := lt_of_cell h.k.cs
  exact ⟨h.k.of (fun o => b.cell lP (by simpa using hP)) (fun o => b.cell lV (by simpa using hV)), h.f.chg b lV (by simpa using hV), (b.block _ b5 (by simp; omega)).trans h.b5, (b.block _ b6 (by simp; omega)).trans h.b6, (b.block _ b8 (by simp; omega)).trans h.b8, h.chg.trans (b.mono (by intro y hy; simp at hy; rw [hy]; exact hS)), h.n0, h.lP, h.lV, h.pv⟩
theorem D3.putV {w wx : World} {P V X n : Nat} {S : List Nat} {c v : Nat → Nat} {o : OpR} {x : ExR} {i : Nat} (h : D3 w wx P V X n S c v o x) (hi : i < n) (hS : V ∈ S) (y : Nat) : D3 w (wx.setCell ⟨V, i, none⟩ (.int .u32 y)) P V X n S c (updC v i y) o x := by
  have lV := h.lV
  exact ⟨h.k.putV hi h.pv y, h.f.set _ _, (blk_other (by omega) _).trans h.b5, (blk_other (by omega) _).trans h.b6, (blk_other (by omega) _).trans h.b8, h.chg.setIn hS, h.n0, h.lP, h.lV, h.pv⟩
theorem D3.ex0 {w wx : World} {P V X n : Nat} {S : List Nat} {c v : Nat → Nat} {o : OpR} {x : ExR} (h : D3 w wx P V X n S c v o x) (z : Int) : D3 w (wx.setCell ⟨w.heap.size + 1 + 1, 0, none⟩ (.int .i64 z)) P V X n S c v o ⟨z, x.a, x.pc, x.n⟩ := by
  have lV := h.lV
  have lP := h.lP
  exact ⟨h.k.set (by omega) (by omega) _ trivial, h.f.set _ _, (blk_other (by omega) _).trans h.b5, (blk_other (by omega) _).trans h.b6, (blk_set h.b8 _).trans rfl, h.chg.setN (by omega), h.n0, h.lP, h.lV, h.pv⟩
theorem D3.ex1 {w wx : World} {P V X n : Nat} {S : List Nat} {c v : Nat → Nat} {o : OpR} {x : ExR} (h : D3 w wx P V X n S c v o x) (z : Int) : D3 w (wx.setCell ⟨w.heap.size + 1 + 1, 1, none⟩ (.int .u32 z)) P V X n S c v o ⟨x.k, z, x.pc, x.n⟩ := by
  have lV := h.lV
  have lP := h.lP
  exact ⟨h.k.set (by omega) (by omega) _ trivial, h.f.set _ _, (blk_other (by omega) _).trans h.b5, (blk_other (by omega) _).trans h.b6, (blk_set h.b8 _).trans rfl, h.chg.setN (by omega), h.n0, h.lP, h.lV, h.pv⟩
theorem D3.start (w : World) (P V X n : Nat) (S : List Nat) (c v : Nat → Nat) (o : OpR) (h : WkC w P V X n c v) (f : Fz w V) (hn : 0 < n) (hpv : P ≠ V) (r : Nat) : D3 w ((((w.alloc (.cells #[.int .i64 o.kind, .int .i64 o.w, .int .i64 o.a, .int .i64 o.b, .int .i64 o.c, .int .u32 o.k, .int .i64 o.n] 163)).alloc (.cells #[.int .i64 0, .int .u32 0, .int .u32 0, .int .i64 0] 93)).alloc (.cells #[.int .i64 0, .int .u32 0, .int .u32 o.k, .int .i64 o.n] 93)).drewN r) P V X n S c v o ⟨0, 0, o.k, o.n⟩ := by
  have e := al3 w (.cells #[.int .i64 o.kind, .int .i64 o.w, .int .i64 o.a, .int .i64 o.b, .int .i64 o.c, .int .u32 o.k, .int .i64 o.n] 163) (.cells #[.int .i64 0, .int .u32 0, .int .u32 0, .int .i64 0] 93) (.cells #[.int .i64 0, .int .u32 0, .int .u32 o.k, .int .i64 o.n] 93)
  have b : Below w.heap.size w ((((w.alloc (.cells #[.int .i64 o.kind, .int .i64 o.w, .int .i64 o.a, .int .i64 o.b, .int .i64 o.c, .int .u32 o.k, .int .i64 o.n] 163)).alloc (.cells #[.int .i64 0, .int .u32 0, .int .u32 0, .int .i64 0] 93)).alloc (.cells #[.int .i64 0, .int .u32 0, .int .u32 o.k, .int .i64 o.n] 93)).drewN r) := belN ((((Below.refl w.heap.size w).alloc (Nat.le_refl _) _).alloc (by simp) _).alloc (by simp; omega) _) r
  exact ⟨h.below b hn, f.below b (lt_of_cell (h.cv 0 hn)), e.1, e.2.1, e.2.2, Chg.of_below S b, hn, lt_of_cell h.cs, lt_of_cell (h.cv 0 hn), hpv⟩
end Go.Proofs.Ytkgbjpdoigdjnaa
