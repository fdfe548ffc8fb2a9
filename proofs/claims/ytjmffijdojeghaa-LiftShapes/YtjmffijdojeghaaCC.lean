import Derived.Test.YtjmffijdojeghaaCX
namespace Go.Proofs.Ytjmffijdojeghaa
open Go.RowKit
set_option maxRecDepth 100000
set_option linter.unusedVariables false
set_option linter.unusedSimpArgs false

def eOp (o : OpR) : Bool := !(isK o.kind) || decide (o.w < (rr o.kind).lo) || decide ((rr o.kind).hi < o.w)
def opErr (count : Int) (n : Nat) (f : Nat → OpR) (i : Nat) : Int :=
  if eOp (f i) then 2 else if fieldBad (flT (f i).kind.toNat) (f i) count then 3 else if takenBad (flT (f i).kind.toNat) (f i) f i then 6
  else if (rr (f i).kind).ends && decide (i + 1 ≠ n) then 7 else 0
theorem isK_iff (k : Int) : isK k = true ↔ 1 ≤ k ∧ k ≤ 17 := by simp [isK]

structure KW (w wx : World) (V pc : Nat) (count bytes : Int) (bp : Option Addr) (n cap : Nat) (o : OpR) (R : RR) : Prop where
  b2 : wx.heap[w.heap.size]? = some (.cells #[.int .u32 pc, .int .i64 count, .int .i64 bytes, .slice bp n cap] 82)
  b5 : wx.heap[w.heap.size + 1]? = some (.cells #[.int .i64 o.kind, .int .i64 o.w, .int .i64 o.a, .int .i64 o.b, .int .i64 o.c, .int .u32 o.k, .int .i64 o.n] 163)
  b6 : wx.heap[V]? = some (.cells #[.int .u8 R.lo, .int .u8 R.hi, .int .u8 R.m, .bool R.gives, .bool R.ends] 160)
  bel : Below w.heap.size w wx
  lt : w.heap.size + 1 < V
theorem KW.next {w wx w' : World} {V pc : Nat} {count bytes : Int} {bp : Option Addr} {n cap : Nat} {o : OpR} {R : RR} (h : KW w wx V pc count bytes bp n cap o R) (k : Below wx.heap.size wx w') : KW w w' V pc count bytes bp n cap o R :=
  ⟨(k.block _ (row_lt h.b2)).trans h.b2, (k.block _ (row_lt h.b5)).trans h.b5, (k.block _ (row_lt h.b6)).trans h.b6, h.bel.trans (k.mono (Nat.le_of_lt (row_lt h.b2))), h.lt⟩
theorem KW.drew {w wx : World} {V pc : Nat} {count bytes : Int} {bp : Option Addr} {n cap : Nat} {o : OpR} {R : RR} (h : KW w wx V pc count bytes bp n cap o R) : KW w wx.drew V pc count bytes bp n cap o R := ⟨h.b2, h.b5, h.b6, h.bel.drew, h.lt⟩

end Go.Proofs.Ytjmffijdojeghaa
namespace Go.Proofs.Ytjmffijdojeghaa
open Go.RowKit
set_option maxRecDepth 100000
set_option linter.unusedVariables false
set_option linter.unusedSimpArgs false

def endR (n : Nat) (f : Nat → OpR) : Int × Int := if n = 0 ∨ (rr (f (n - 1)).kind).ends = false then (7, n) else (0, 0)
def scan (count : Int) (n : Nat) (f : Nat → OpR) : Nat → Nat → Int × Int
  | 0, _ => endR n f
  | m + 1, i => if opErr count n f i = 0 then scan count n f m (i + 1) else (opErr count n f i, i)
def checkF (count bytes : Int) (n : Nat) (f : Nat → OpR) : Int × Int :=
  if 2048 < n then (5, -1) else if (0 ≤ count ∧ count ≤ 64) ∧ (0 ≤ bytes ∧ bytes ≤ 384) then scan count n f n 0 else (4, -1)

structure CW (w wr : World) (pc : Nat) (count bytes : Int) (bp : Option Addr) (n cap : Nat) : Prop where
  b1 : wr.heap[w.heap.size]? = some (.cells #[.int .u32 pc, .int .i64 count, .int .i64 bytes, .slice bp n cap] 82)
  bel : Below w.heap.size w wr
theorem CW.next {w wr w' : World} {pc : Nat} {count bytes : Int} {bp : Option Addr} {n cap : Nat} (h : CW w wr pc count bytes bp n cap) (k : Below wr.heap.size wr w') : CW w w' pc count bytes bp n cap :=
  ⟨(k.block _ (row_lt h.b1)).trans h.b1, h.bel.trans (k.mono (Nat.le_of_lt (row_lt h.b1)))⟩
end Go.Proofs.Ytjmffijdojeghaa
