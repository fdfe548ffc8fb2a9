import Derived.Test.YtgkkghphlbgcoaaHE
import Derived.Laws.EntriesVeiled
namespace Go.Proofs.Ytgkkghphlbgcoaa.Ho
open Go.RowKit
set_option maxRecDepth 100000
set_option linter.unusedVariables false
set_option linter.unusedSimpArgs false
/-- Has a format one of these fields? -/
def hb (h m : Int) : Bool := !(bits .and .u16 h m == 0)
theorem hb_iff (h m : Int) : bits .and .u16 h m = 0 ↔ hb h m = false := by unfold hb; simp
structure Fo where
  first : Int
  last : Int
  kind : Int
  has : Int
  most : Int
abbrev foA (f : Fo) : Array Value := #[.int .u8 f.first, .int .u8 f.last, .int .u8 f.kind, .int .u16 f.has, .int .u16 f.most]
/-- An instruction as it lies in words: its block. -/
abbrev fdA (x : Cd) (f : Fo) (n : Int) : Array Value := #[.int .i64 x.op, .int .i64 x.d, .int .i64 x.a, .int .i64 x.b, .int .i64 x.c, .int .i64 x.n, .int .u32 x.k, .int .u32 x.x, .int .u8 f.first, .int .u8 f.last, .int .u8 f.kind, .int .u16 f.has, .int .u16 f.most, .int .i64 n]
theorem wp_gen {P : Program} {c : Code} {Q : Exit → Act → World → Prop} {a : Act} {W : World} (p : World → Prop) (h : p W) (k : ∀ w', p w' → Code.wp P c Q a w') : Code.wp P c Q a W := k W h
/-- read, under way. -/
structure RD (w wx : World) (I R BI BC : Nat) (x : Cd) (f : Fo) (n : Int) (v : Nat) : Prop where
  b : wx.heap[I]? = some (.cells (fdA x f n) 119)
  bi : wx.heap[BI]? = some (.cells #[.pointer (some ⟨I, 0, none⟩)] 128)
  bc : wx.heap[BC]? = some (.cells #[.func (Fn.func 86) #[] #[.pointer (some ⟨R, 0, none⟩)]] 145)
  br : wx.heap[R]? = some (.cells #[.int .u32 v] 30)
  nBI : BI ≠ I
  nBC : BC ≠ I
  nR : R ≠ I
  nRB : R ≠ BI
  nRC : R ≠ BC
  gBI : w.heap.size ≤ BI
  gBC : w.heap.size ≤ BC
  gR : w.heap.size ≤ R
  ch : Chg [I] w wx
theorem RD.fw {w wx : World} {I R BI BC : Nat} {x : Cd} {f : Fo} {n : Int} {v : Nat} (h : RD w wx I R BI BC x f n v) : FW wx BI BC R I v f.has :=
  ⟨h.bi, h.bc, h.br, row_cell h.b 11, row_lt h.b⟩
theorem RD.drw {w wx : World} {I R BI BC : Nat} {x : Cd} {f : Fo} {n : Int} {v : Nat} (h : RD w wx I R BI BC x f n v) : RD w wx.drew I R BI BC x f n v :=
  ⟨h.b, h.bi, h.bc, h.br, h.nBI, h.nBC, h.nR, h.nRB, h.nRC, h.gBI, h.gBC, h.gR, h.ch.drew⟩
theorem RD.put {w wx : World} {I R BI BC : Nat} {x : Cd} {f : Fo} {n : Int} {v : Nat} (h : RD w wx I R BI BC x f n v) (x' : Cd) (o : Nat) (u : Value) (e : (fdA x f n).setIfInBounds o u = fdA x' f n) : RD w (wx.setCell ⟨I, o, none⟩ u) I R BI BC x' f n v :=
  ⟨by rw [blk_set h.b, e], (blk_other h.nBI _).trans h.bi, (blk_other h.nBC _).trans h.bc, (blk_other h.nR _).trans h.br, h.nBI, h.nBC, h.nR, h.nRB, h.nRC, h.gBI, h.gBC, h.gR, h.ch.set (by simp) _ _⟩
theorem RD.rest {w wx w1 : World} {I R BI BC : Nat} {x : Cd} {f : Fo} {n : Int} {v v' : Nat} (h : RD w wx I R BI BC x f n v) (c : Chg [R] wx w1) (b : w1.heap[R]? = some (.cells #[.int .u32 v'] 30)) : RD w w1 I R BI BC x f n v' :=
  ⟨c.keep h.b (by simpa using h.nR.symm), c.keep h.bi (by simpa using h.nRB.symm), c.keep h.bc (by simpa using h.nRC.symm), b, h.nBI, h.nBC, h.nR, h.nRB, h.nRC, h.gBI, h.gBC, h.gR,
   ⟨c.os.trans h.ch.os, c.tape.trans h.ch.tape, c.output.trans h.ch.output, Nat.le_trans h.ch.size c.size, fun k hk hs => (c.block k (Nat.lt_of_lt_of_le hk h.ch.size) (by have := h.gR; simp; omega)).trans (h.ch.block k hk hs)⟩⟩
theorem RD.put8 {w wx : World} {I R BI BC : Nat} {x : Cd} {f : Fo} {n : Int} {v : Nat} (h : RD w wx I R BI BC x f n v) (x' : Cd) : RD w ((((((((wx.setCell ⟨I, 0, none⟩ (.int .i64 x'.op)).setCell ⟨I, 1, none⟩ (.int .i64 x'.d)).setCell ⟨I, 2, none⟩ (.int .i64 x'.a)).setCell ⟨I, 3, none⟩ (.int .i64 x'.b)).setCell ⟨I, 4, none⟩ (.int .i64 x'.c)).setCell ⟨I, 5, none⟩ (.int .i64 x'.n)).setCell ⟨I, 6, none⟩ (.int .u32 x'.k)).setCell ⟨I, 7, none⟩ (.int .u32 x'.x)) I R BI BC x' f n v := ((((((((h.put ⟨x'.op, x.d, x.a, x.b, x.c, x.n, x.k, x.x⟩ 0 _ rfl).put ⟨x'.op, x'.d, x.a, x.b, x.c, x.n, x.k, x.x⟩ 1 _ rfl).put ⟨x'.op, x'.d, x'.a, x.b, x.c, x.n, x.k, x.x⟩ 2 _ rfl).put ⟨x'.op, x'.d, x'.a, x'.b, x.c, x.n, x.k, x.x⟩ 3 _ rfl).put ⟨x'.op, x'.d, x'.a, x'.b, x'.c, x.n, x.k, x.x⟩ 4 _ rfl).put ⟨x'.op, x'.d, x'.a, x'.b, x'.c, x'.n, x.k, x.x⟩ 5 _ rfl).put ⟨x'.op, x'.d, x'.a, x'.b, x'.c, x'.n, x'.k, x.x⟩ 6 _ rfl).put ⟨x'.op, x'.d, x'.a, x'.b, x'.c, x'.n, x'.k, x'.x⟩ 7 _ rfl)
/-- The fields of a word, one behind the other. -/
def rd1 (v : Nat) : Nat := rst true 1 256 v
def rd2 (h : Int) (v : Nat) : Nat := rst (hb h 448) 256 16 (rd1 v)
def rd3 (h : Int) (v : Nat) : Nat := rst (hb h 1) 4096 16 (rd2 h v)
def rd4 (h : Int) (v : Nat) : Nat := rst (hb h 2) 65536 16 (rd3 h v)
def rd5 (h : Int) (v : Nat) : Nat := rst (hb h 4) 1048576 16 (rd4 h v)
def rd6 (h : Int) (v : Nat) : Nat := rst (hb h 8) 65536 65536 (rd5 h v)
def rdX (h : Int) (v : Nat) (k x : Nat) : Cd := ⟨fld true 1 256 v, fld (hb h 448) 256 16 (rd1 v), fld (hb h 1) 4096 16 (rd2 h v), fld (hb h 2) 65536 16 (rd3 h v), fld (hb h 4) 1048576 16 (rd4 h v), fld (hb h 8) 65536 65536 (rd5 h v), k, x⟩
theorem rd1_lt {v : Nat} (hv : v < 4294967296) : rd1 v < 4294967296 := rst_lt _ _ _ _ hv
theorem rd2_lt (h : Int) {v : Nat} (hv : v < 4294967296) : rd2 h v < 4294967296 := rst_lt _ _ _ _ (rd1_lt hv)
theorem rd3_lt (h : Int) {v : Nat} (hv : v < 4294967296) : rd3 h v < 4294967296 := rst_lt _ _ _ _ (rd2_lt h hv)
theorem rd4_lt (h : Int) {v : Nat} (hv : v < 4294967296) : rd4 h v < 4294967296 := rst_lt _ _ _ _ (rd3_lt h hv)
theorem rd5_lt (h : Int) {v : Nat} (hv : v < 4294967296) : rd5 h v < 4294967296 := rst_lt _ _ _ _ (rd4_lt h hv)
/-- Words that lie one behind the other. -/
structure WR (w : World) (b off n : Nat) (ws : Nat → Nat) : Prop where
  cell : ∀ i, i < n → w.cell? ⟨b, off + i, none⟩ = some (.int .u32 (ws i))
  lt : ∀ i, ws i < 4294967296
  lb : b < w.heap.size
theorem rd_start (w : World) (I u0 : Nat) (x0 : Cd) (f : Fo) (nn : Int) (hI : w.heap[I]? = some (.cells (fdA x0 f nn) 119)) :
    RD w (((w.alloc (.cells #[.pointer (some ⟨I, 0, none⟩)] 128)).alloc (.cells #[.int .u32 u0] 30)).alloc (.cells #[.func (Fn.func 86) #[] #[.pointer (some ⟨w.heap.size + 1, 0, none⟩)]] 145)) I (w.heap.size + 1) w.heap.size (w.heap.size + 1 + 1) x0 f nn u0 := by
  have lI := row_lt hI
  have e1 := heap_alloc_last w (.cells #[.pointer (some ⟨I, 0, none⟩)] 128)
  have e2 := heap_alloc_last (w.alloc (.cells #[.pointer (some ⟨I, 0, none⟩)] 128)) (.cells #[.int .u32 u0] 30)
  have e3 := heap_alloc_last ((w.alloc (.cells #[.pointer (some ⟨I, 0, none⟩)] 128)).alloc (.cells #[.int .u32 u0] 30)) (.cells #[.func (Fn.func 86) #[] #[.pointer (some ⟨w.heap.size + 1, 0, none⟩)]] 145)
  simp only [World.size_alloc] at e2 e3
  refine ⟨?_, ?_, e3, ?_, by omega, by omega, by omega, by omega, by omega, by omega, by omega, by omega, (((Chg.refl [I] w).alloc _).alloc _).alloc _⟩
  · rw [Below.heap_alloc _ _ _ (by simp; omega), Below.heap_alloc _ _ _ (by simp; omega), Below.heap_alloc _ _ _ lI]; exact hI
  · rw [Below.heap_alloc _ _ _ (by simp; omega), Below.heap_alloc _ _ _ (by simp)]; exact e1
  · rw [Below.heap_alloc _ _ _ (by simp)]; exact e2
def kOf (n : Nat) (u : Nat) : Nat := if 1 < n then u else 0
def xOf (n : Nat) (u : Nat) : Nat := if 2 < n then u else 0
end Go.Proofs.Ytgkkghphlbgcoaa.Ho
