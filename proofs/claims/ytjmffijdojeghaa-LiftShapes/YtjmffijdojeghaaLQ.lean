import Derived.Test.YtjmffijdojeghaaLB
import Derived.Test.YtjmffijdojeghaaCC
import Derived.Test.YtjmffijdojeghaaJ47
namespace Go.Proofs.Ytjmffijdojeghaa
open Go.RowKit
/-- What alu lays, by its sort. -/
def reckOps (O : Nat) (D b : Int) (pc : Nat) (done m : Int) : List OpR :=
  match O with
  | 0 => [⟨2, D, 0, 0, 0, 0, 0⟩, ⟨4, 0, m, b, 0, 0, 0⟩, ⟨3, D, m + 1, 0, 0, 0, 0⟩, ⟨1, 0, 0, 0, 0, 1, 0⟩, ⟨3, 8, m + 1 + 1 + 1, 0, 0, 0, 0⟩, ⟨3, 9, m, 0, 0, 0, 0⟩, ⟨3, 10, b, 0, 0, 0, 0⟩]
  | 1 => [⟨2, D, 0, 0, 0, 0, 0⟩, ⟨4, 0, m, b, 0, 0, 0⟩, ⟨17, 0, 0, 0, 0, 0, 0⟩, ⟨8, 2, m + 1 + 1, 0, 0, 0, 0⟩, ⟨4, 0, m + 1, m + 1 + 1 + 1, 0, 0, 0⟩, ⟨3, D, m + 1 + 1 + 1 + 1, 0, 0, 0, 0⟩, ⟨1, 0, 0, 0, 0, 2, 0⟩, ⟨3, 8, m + 1 + 1 + 1 + 1 + 1 + 1, 0, 0, 0, 0⟩, ⟨3, 9, m, 0, 0, 0, 0⟩, ⟨3, 10, b, 0, 0, 0, 0⟩, ⟨3, 11, m + 1 + 1, 0, 0, 0, 0⟩]
  | 2 => [⟨2, D, 0, 0, 0, 0, 0⟩, ⟨4, 1, m, b, 0, 0, 0⟩, ⟨3, D, m + 1, 0, 0, 0, 0⟩, ⟨1, 0, 0, 0, 0, 3, 0⟩, ⟨3, 8, m + 1 + 1 + 1, 0, 0, 0, 0⟩, ⟨3, 9, m, 0, 0, 0, 0⟩, ⟨3, 10, b, 0, 0, 0, 0⟩]
  | 3 => [⟨2, D, 0, 0, 0, 0, 0⟩, ⟨4, 1, m, b, 0, 0, 0⟩, ⟨17, 0, 0, 0, 0, 0, 0⟩, ⟨8, 2, m + 1 + 1, 0, 0, 0, 0⟩, ⟨4, 1, m + 1, m + 1 + 1 + 1, 0, 0, 0⟩, ⟨3, D, m + 1 + 1 + 1 + 1, 0, 0, 0, 0⟩, ⟨1, 0, 0, 0, 0, 4, 0⟩, ⟨3, 8, m + 1 + 1 + 1 + 1 + 1 + 1, 0, 0, 0, 0⟩, ⟨3, 9, m, 0, 0, 0, 0⟩, ⟨3, 10, b, 0, 0, 0, 0⟩, ⟨3, 11, m + 1 + 1, 0, 0, 0, 0⟩]
  | 4 => [⟨2, D, 0, 0, 0, 0, 0⟩, ⟨4, 2, m, b, 0, 0, 0⟩, ⟨3, D, m + 1, 0, 0, 0, 0⟩, ⟨1, 0, 0, 0, 0, 5, 0⟩, ⟨3, 8, m + 1 + 1 + 1, 0, 0, 0, 0⟩, ⟨3, 9, m + 1, 0, 0, 0, 0⟩]
  | 5 => [⟨2, D, 0, 0, 0, 0, 0⟩, ⟨4, 3, m, b, 0, 0, 0⟩, ⟨3, D, m + 1, 0, 0, 0, 0⟩, ⟨1, 0, 0, 0, 0, 5, 0⟩, ⟨3, 8, m + 1 + 1 + 1, 0, 0, 0, 0⟩, ⟨3, 9, m + 1, 0, 0, 0, 0⟩]
  | 6 => [⟨2, D, 0, 0, 0, 0, 0⟩, ⟨4, 4, m, b, 0, 0, 0⟩, ⟨3, D, m + 1, 0, 0, 0, 0⟩, ⟨1, 0, 0, 0, 0, 5, 0⟩, ⟨3, 8, m + 1 + 1 + 1, 0, 0, 0, 0⟩, ⟨3, 9, m + 1, 0, 0, 0, 0⟩]
  | 7 => [⟨2, D, 0, 0, 0, 0, 0⟩, ⟨1, 0, 0, 0, 0, 3, 0⟩, ⟨3, 8, m + 1, 0, 0, 0, 0⟩, ⟨3, 9, m, 0, 0, 0, 0⟩, ⟨3, 10, b, 0, 0, 0, 0⟩]
  | 8 => [⟨2, D, 0, 0, 0, 0, 0⟩, ⟨4, 2, m, b, 0, 0, 0⟩, ⟨1, 0, 0, 0, 0, 5, 0⟩, ⟨3, 8, m + 1 + 1, 0, 0, 0, 0⟩, ⟨3, 9, m + 1, 0, 0, 0, 0⟩]
  | 9 => [⟨2, D, 0, 0, 0, 0, 0⟩, ⟨4, 5, m, b, 0, 0, 0⟩, ⟨17, 0, 0, 0, 0, 0, 0⟩, ⟨3, D, m + 1, 0, 0, 0, 0⟩, ⟨1, 0, 0, 0, 0, 6, 0⟩, ⟨3, 8, m + 1 + 1 + 1 + 1, 0, 0, 0, 0⟩, ⟨3, 9, m, 0, 0, 0, 0⟩, ⟨3, 10, b, 0, 0, 0, 0⟩, ⟨3, 11, m + 1 + 1, 0, 0, 0, 0⟩]
  | 10 => [⟨2, D, 0, 0, 0, 0, 0⟩, ⟨4, 6, m, b, 0, 0, 0⟩, ⟨17, 0, 0, 0, 0, 0, 0⟩, ⟨3, D, m + 1, 0, 0, 0, 0⟩, ⟨1, 0, 0, 0, 0, 7, 0⟩, ⟨3, 8, m + 1 + 1 + 1 + 1, 0, 0, 0, 0⟩, ⟨3, 9, m, 0, 0, 0, 0⟩, ⟨3, 10, b, 0, 0, 0, 0⟩, ⟨3, 11, m + 1 + 1, 0, 0, 0, 0⟩]
  | 11 => [⟨2, D, 0, 0, 0, 0, 0⟩, ⟨4, 7, m, b, 0, 0, 0⟩, ⟨17, 0, 0, 0, 0, 0, 0⟩, ⟨3, D, m + 1, 0, 0, 0, 0⟩, ⟨1, 0, 0, 0, 0, 8, 0⟩, ⟨3, 8, m + 1 + 1 + 1 + 1, 0, 0, 0, 0⟩, ⟨3, 9, m, 0, 0, 0, 0⟩, ⟨3, 10, b, 0, 0, 0, 0⟩, ⟨3, 11, m + 1 + 1, 0, 0, 0, 0⟩]
  | 12 => [⟨2, D, 0, 0, 0, 0, 0⟩, ⟨4, 8, m, b, 0, 0, 0⟩, ⟨17, 0, 0, 0, 0, 0, 0⟩, ⟨3, D, m + 1, 0, 0, 0, 0⟩, ⟨1, 0, 0, 0, 0, 9, 0⟩, ⟨3, 8, m + 1 + 1 + 1 + 1, 0, 0, 0, 0⟩, ⟨3, 9, m, 0, 0, 0, 0⟩, ⟨3, 10, b, 0, 0, 0, 0⟩, ⟨3, 11, m + 1 + 1, 0, 0, 0, 0⟩]
  | 13 => [⟨2, D, 0, 0, 0, 0, 0⟩, ⟨4, 9, m, b, 0, 0, 0⟩, ⟨3, D, m + 1, 0, 0, 0, 0⟩, ⟨1, 0, 0, 0, 0, 10, 0⟩, ⟨3, 8, m + 1 + 1 + 1, 0, 0, 0, 0⟩, ⟨3, 9, m, 0, 0, 0, 0⟩, ⟨3, 10, b, 0, 0, 0, 0⟩]
  | 14 => [⟨2, D, 0, 0, 0, 0, 0⟩, ⟨5, 6, b, 0, 0, 0, 0⟩, ⟨13, 7, m + 1, 0, 0, pc, done⟩, ⟨4, 11, m, b, 0, 0, 0⟩, ⟨3, D, m + 1 + 1 + 1, 0, 0, 0, 0⟩, ⟨1, 0, 0, 0, 0, 5, 0⟩, ⟨3, 8, m + 1 + 1 + 1 + 1 + 1, 0, 0, 0, 0⟩, ⟨3, 9, m + 1 + 1 + 1, 0, 0, 0, 0⟩]
  | 15 => [⟨2, D, 0, 0, 0, 0, 0⟩, ⟨5, 6, b, 0, 0, 0, 0⟩, ⟨13, 7, m + 1, 0, 0, pc, done⟩, ⟨4, 12, m, b, 0, 0, 0⟩, ⟨3, D, m + 1 + 1 + 1, 0, 0, 0, 0⟩, ⟨1, 0, 0, 0, 0, 5, 0⟩, ⟨3, 8, m + 1 + 1 + 1 + 1 + 1, 0, 0, 0, 0⟩, ⟨3, 9, m + 1 + 1 + 1, 0, 0, 0, 0⟩]
  | _ => []
/-- What an instruction lays behind m operations. -/
def liftF (x : XI) (m : Int) : List OpR :=
  match x.op.toNat with
  | 0 => []
  | 1 => [⟨14, 2, 0, 0, 0, x.pc, x.done⟩]
  | 2 => [⟨2, 7, 0, 0, 0, 0, 0⟩, ⟨9, 4, m, 0, 0, x.pc, x.done⟩, ⟨1, 0, 0, 0, 0, 4, 0⟩, ⟨4, 0, m, m + 1 + 1, 0, 0, 0⟩, ⟨3, 7, m + 1 + 1 + 1, 0, 0, 0, 0⟩, ⟨16, 0, m + 1, 0, 0, 0, x.done + 1⟩]
  | 3 => [⟨17, 0, 0, 0, 0, 0, 0⟩, ⟨2, 7, 0, 0, 0, 0, 0⟩, ⟨1, 0, 0, 0, 0, 4, 0⟩, ⟨4, 1, m + 1, m + 1 + 1, 0, 0, 0⟩, ⟨10, 2, m + 1 + 1 + 1, m, 0, x.pc, x.done⟩, ⟨3, 7, m + 1 + 1 + 1, 0, 0, 0, 0⟩, ⟨11, 0, 0, 0, 0, x.next, x.done + 1⟩]
  | 4 => [⟨2, 7, 0, 0, 0, 0, 0⟩, ⟨9, 4, m, 0, 0, x.pc, x.done⟩, ⟨1, 0, 0, 0, 0, 4, 0⟩, ⟨4, 0, m, m + 1 + 1, 0, 0, 0⟩, ⟨3, 7, m + 1 + 1 + 1, 0, 0, 0, 0⟩, ⟨1, 0, 0, 0, 0, 0, 0⟩, ⟨3, 8, m + 1 + 1 + 1 + 1 + 1, 0, 0, 0, 0⟩, ⟨3, 11, m + 1, 0, 0, 0, 0⟩]
  | 5 => [⟨14, 1, 0, x.im, 0, x.next, x.done + 1⟩]
  | 6 => [⟨15, 0, 0, 0, 0, ((x.next + x.im) % 4294967296), x.done + 1⟩]
  | 7 => [⟨15, 0, 0, 0, 0, ((x.next + x.im) % 4294967296), x.done + 1⟩]
  | 8 => [⟨1, 0, 0, 0, 0, x.next, 0⟩, ⟨2, 7, 0, 0, 0, 0, 0⟩, ⟨1, 0, 0, 0, 0, 4, 0⟩, ⟨4, 1, m + 1, m + 1 + 1, 0, 0, 0⟩, ⟨10, 2, m + 1 + 1 + 1, m, 0, x.pc, x.done⟩, ⟨3, 7, m + 1 + 1 + 1, 0, 0, 0, 0⟩, ⟨15, 0, 0, 0, 0, ((x.next + x.im) % 4294967296), x.done + 1⟩]
  | 9 => [⟨2, x.S, 0, 0, 0, 0, 0⟩, ⟨16, 0, m, 0, 0, 0, x.done + 1⟩]
  | 10 => [⟨2, x.S, 0, 0, 0, 0, 0⟩, ⟨1, 0, 0, 0, 0, x.next, 0⟩, ⟨2, 7, 0, 0, 0, 0, 0⟩, ⟨1, 0, 0, 0, 0, 4, 0⟩, ⟨4, 1, m + 1 + 1, m + 1 + 1 + 1, 0, 0, 0⟩, ⟨10, 2, m + 1 + 1 + 1 + 1, m + 1, 0, x.pc, x.done⟩, ⟨3, 7, m + 1 + 1 + 1 + 1, 0, 0, 0, 0⟩, ⟨16, 0, m, 0, 0, 0, x.done + 1⟩]
  | 11 => [⟨2, x.S, 0, 0, 0, 0, 0⟩, ⟨1, 0, 0, 0, 0, x.im, 0⟩, ⟨4, 0, m, m + 1, 0, 0, 0⟩, ⟨9, 4, m + 1 + 1, 0, 0, x.pc, x.done⟩, ⟨16, 0, m + 1 + 1 + 1, 0, 0, 0, x.done + 1⟩]
  | 12 => [⟨17, 0, 0, 0, 0, 0, 0⟩, ⟨8, x.O, m, 0, 0, 0, 0⟩, ⟨12, 0, m + 1, 0, 0, ((x.next + x.im) % 4294967296), x.done + 1⟩, ⟨15, 0, 0, 0, 0, x.next, x.done + 1⟩]
  | 13 => [⟨17, 0, 0, 0, 0, 0, 0⟩, ⟨8, x.O, m, 0, 0, 0, 0⟩, ⟨12, 0, m + 1, 0, 0, ((x.next + x.im) % 4294967296), x.done + 1⟩, ⟨15, 0, 0, 0, 0, x.next, x.done + 1⟩]
  | 14 => [⟨2, x.S, 0, 0, 0, 0, 0⟩, ⟨2, 7, 0, 0, 0, 0, 0⟩, ⟨1, 0, 0, 0, 0, 4, 0⟩, ⟨4, 1, m + 1, m + 1 + 1, 0, 0, 0⟩, ⟨10, 2, m + 1 + 1 + 1, m, 0, x.pc, x.done⟩, ⟨3, 7, m + 1 + 1 + 1, 0, 0, 0, 0⟩, ⟨11, 0, 0, 0, 0, x.next, x.done + 1⟩]
  | 15 => [⟨2, 7, 0, 0, 0, 0, 0⟩, ⟨9, 4, m, 0, 0, x.pc, x.done⟩, ⟨1, 0, 0, 0, 0, 4, 0⟩, ⟨4, 0, m, m + 1 + 1, 0, 0, 0⟩, ⟨3, 7, m + 1 + 1 + 1, 0, 0, 0, 0⟩, ⟨3, x.D, m + 1, 0, 0, 0, 0⟩]
  | 16 => [⟨1, 0, 0, 0, 0, x.im, 0⟩, ⟨3, x.D, m, 0, 0, 0, 0⟩]
  | 17 => [⟨2, x.D, 0, 0, 0, 0, 0⟩, ⟨1, 0, 0, 0, 0, 1, 0⟩, ⟨17, 0, 0, 0, 0, 0, 0⟩, ⟨4, 0, m, m + 1, 0, 0, 0⟩, ⟨3, x.D, m + 1 + 1 + 1, 0, 0, 0, 0⟩, ⟨1, 0, 0, 0, 0, 11, 0⟩, ⟨3, 8, m + 1 + 1 + 1 + 1 + 1, 0, 0, 0, 0⟩, ⟨3, 9, m, 0, 0, 0, 0⟩, ⟨3, 10, m + 1, 0, 0, 0, 0⟩, ⟨3, 11, m + 1 + 1, 0, 0, 0, 0⟩]
  | 18 => [⟨2, x.D, 0, 0, 0, 0, 0⟩, ⟨1, 0, 0, 0, 0, 1, 0⟩, ⟨17, 0, 0, 0, 0, 0, 0⟩, ⟨4, 1, m, m + 1, 0, 0, 0⟩, ⟨3, x.D, m + 1 + 1 + 1, 0, 0, 0, 0⟩, ⟨1, 0, 0, 0, 0, 12, 0⟩, ⟨3, 8, m + 1 + 1 + 1 + 1 + 1, 0, 0, 0, 0⟩, ⟨3, 9, m, 0, 0, 0, 0⟩, ⟨3, 10, m + 1, 0, 0, 0, 0⟩, ⟨3, 11, m + 1 + 1, 0, 0, 0, 0⟩]
  | 19 => [⟨1, 0, 0, 0, 0, 0, 0⟩, ⟨2, x.D, 0, 0, 0, 0, 0⟩, ⟨4, 1, m, m + 1, 0, 0, 0⟩, ⟨3, x.D, m + 1 + 1, 0, 0, 0, 0⟩, ⟨1, 0, 0, 0, 0, 3, 0⟩, ⟨3, 8, m + 1 + 1 + 1 + 1, 0, 0, 0, 0⟩, ⟨3, 9, m, 0, 0, 0, 0⟩, ⟨3, 10, m + 1, 0, 0, 0, 0⟩]
  | 20 => [⟨2, x.D, 0, 0, 0, 0, 0⟩, ⟨5, 0, m, 0, 0, 0, 0⟩, ⟨3, x.D, m + 1, 0, 0, 0, 0⟩]
  | 21 => [⟨17, 0, 0, 0, 0, 0, 0⟩, ⟨8, x.O, m, 0, 0, 0, 0⟩, ⟨3, x.D, m + 1, 0, 0, 0, 0⟩]
  | 22 => [⟨2, x.S, 0, 0, 0, 0, 0⟩, ⟨3, x.D, m, 0, 0, 0, 0⟩]
  | 23 => [⟨2, x.S, 0, 0, 0, 0, 0⟩, ⟨1, 0, 0, 0, 0, x.im, 0⟩, ⟨4, 0, m, m + 1, 0, 0, 0⟩, ⟨3, x.D, m + 1 + 1, 0, 0, 0, 0⟩]
  | 24 => [⟨2, x.S, 0, 0, 0, 0, 0⟩, ⟨1, 0, 0, 0, 0, x.im, 0⟩, ⟨4, 0, m, m + 1, 0, 0, 0⟩, ⟨9, 4, m + 1 + 1, 0, 0, x.pc, x.done⟩, ⟨2, x.D, 0, 0, 0, 0, 0⟩, ⟨10, 2, m + 1 + 1, m + 1 + 1 + 1 + 1, 0, x.pc, x.done⟩, ⟨3, x.D, m + 1 + 1 + 1, 0, 0, 0, 0⟩, ⟨11, 0, 0, 0, 0, x.next, x.done + 1⟩]
  | 25 => [⟨2, x.S, 0, 0, 0, 0, 0⟩, ⟨1, 0, 0, 0, 0, x.im, 0⟩, ⟨4, 0, m, m + 1, 0, 0, 0⟩, ⟨9, 4, m + 1 + 1, 0, 0, x.pc, x.done⟩, ⟨2, x.D, 0, 0, 0, 0, 0⟩, ⟨4, 0, m + 1 + 1 + 1, m + 1 + 1 + 1 + 1, 0, 0, 0⟩, ⟨10, 2, m + 1 + 1, m + 1 + 1 + 1 + 1 + 1, 0, x.pc, x.done⟩, ⟨3, x.D, m + 1 + 1 + 1, 0, 0, 0, 0⟩, ⟨1, 0, 0, 0, 0, 1, 0⟩, ⟨3, 8, m + 1 + 1 + 1 + 1 + 1 + 1 + 1 + 1, 0, 0, 0, 0⟩, ⟨3, 9, m + 1 + 1 + 1, 0, 0, 0, 0⟩, ⟨3, 10, m + 1 + 1 + 1 + 1, 0, 0, 0, 0⟩, ⟨11, 0, 0, 0, 0, x.next, x.done + 1⟩]
  | 26 => [⟨2, x.S, 0, 0, 0, 0, 0⟩, ⟨1, 0, 0, 0, 0, x.im, 0⟩, ⟨4, 0, m, m + 1, 0, 0, 0⟩, ⟨9, 4, m + 1 + 1, 0, 0, x.pc, x.done⟩, ⟨2, x.D, 0, 0, 0, 0, 0⟩, ⟨2, 0, 0, 0, 0, 0, 0⟩, ⟨4, 13, m + 1 + 1 + 1 + 1 + 1, m + 1 + 1 + 1, 0, 0, 0⟩, ⟨6, 0, m + 1 + 1 + 1 + 1 + 1 + 1, m + 1 + 1 + 1 + 1, m + 1 + 1 + 1, 0, 0⟩, ⟨10, 2, m + 1 + 1, m + 1 + 1 + 1 + 1 + 1 + 1 + 1, 0, x.pc, x.done⟩, ⟨3, 0, m + 1 + 1 + 1, 0, 0, 0, 0⟩, ⟨1, 0, 0, 0, 0, 3, 0⟩, ⟨3, 8, m + 1 + 1 + 1 + 1 + 1 + 1 + 1 + 1 + 1 + 1, 0, 0, 0, 0⟩, ⟨3, 9, m + 1 + 1 + 1 + 1 + 1, 0, 0, 0, 0⟩, ⟨3, 10, m + 1 + 1 + 1, 0, 0, 0, 0⟩, ⟨11, 0, 0, 0, 0, x.next, x.done + 1⟩]
  | 30 => [⟨2, x.S, 0, 0, 0, 0, 0⟩, ⟨1, 0, 0, 0, 0, x.im, 0⟩, ⟨4, 0, m, m + 1, 0, 0, 0⟩, ⟨9, x.O, m + 1 + 1, 0, 0, x.pc, x.done⟩, ⟨3, x.D, m + 1 + 1 + 1, 0, 0, 0, 0⟩]
  | 31 => [⟨2, x.S, 0, 0, 0, 0, 0⟩, ⟨1, 0, 0, 0, 0, x.im, 0⟩, ⟨4, 0, m, m + 1, 0, 0, 0⟩, ⟨2, x.D, 0, 0, 0, 0, 0⟩, ⟨10, x.O, m + 1 + 1, m + 1 + 1 + 1, 0, x.pc, x.done⟩, ⟨11, 0, 0, 0, 0, x.next, x.done + 1⟩]
  | 27 => ⟨2, x.S, 0, 0, 0, 0, 0⟩ :: reckOps x.O.toNat x.D m x.pc x.done (m + 1)
  | 28 => ⟨1, 0, 0, 0, 0, x.im, 0⟩ :: reckOps x.O.toNat x.D m x.pc x.done (m + 1)
  | 29 => ⟨1, 0, 0, 0, 0, x.im, 0⟩ :: reckOps x.O.toNat x.D m x.pc x.done (m + 1)
  | _ => []
/-- The fields of an instruction, as they are decoded. -/
structure XOk (x : XI) : Prop where
  op : 0 ≤ x.op ∧ x.op < 32
  im : x.im < 4294967296
  O : 0 ≤ x.O ∧ x.O < 16
end Go.Proofs.Ytjmffijdojeghaa
namespace Go.Proofs.Ytjmffijdojeghaa
open Go.RowKit
set_option maxRecDepth 100000
set_option linter.unusedVariables false
set_option linter.unusedSimpArgs false
def gvL (l : List OpR) (t : Int) : Bool := decide (0 ≤ t ∧ t < l.length) && (rr (l.getD t.toNat ⟨0, 0, 0, 0, 0, 0, 0⟩).kind).gives
def tkL (x : FL) (o : OpR) (l : List OpR) : Bool := (x.ha && !gvL l o.a) || (x.hb && !gvL l o.b) || (x.hc && !gvL l o.c)
structure StO (c : Int) (l : List OpR) (o : OpR) : Prop where
  e : eOp o = false
  f : fieldBad (flT o.kind.toNat) o c = false
  t : tkL (flT o.kind.toNat) o l = false
def OkR (c : Int) (l : List OpR) : List OpR → List OpR → Prop
  | _, [] => True
  | r, o :: q => StO c (l ++ r) o ∧ (rr o.kind).ends = false ∧ OkR c l (r ++ [o]) q
theorem gvAt (l r : List OpR) (M : Int) (hl : (l.length : Int) = M) (j : Nat) (t : Int) (ht : t = M + j) (o : OpR) (h : r[j]? = some o) (hg : (rr o.kind).gives = true) : gvL (l ++ r) t = true := by
  have hj : j < r.length := by
    rcases Nat.lt_or_ge j r.length with g | g
    · exact g
    · rw [List.getElem?_eq_none g] at h; cases h
  have e1 : t.toNat = l.length + j := by omega
  unfold gvL
  rw [List.getD_eq_getElem?_getD, e1, List.getElem?_append_right (by omega), Nat.add_sub_cancel_left, h]
  simp only [Option.getD_some, hg, Bool.and_true, decide_eq_true_eq, List.length_append]
  omega
section
variable {c : Int} {l : List OpR}
theorem so1 {k : Nat} (hc : 0 ≤ c) : StO c l ⟨1, 0, 0, 0, 0, k, 0⟩ := ⟨rfl, by simp [fieldBad, bd, bg, flT, hc], by simp [tkL, flT]⟩
theorem so2 {w : Int} (hc : 0 ≤ c) (hw : 0 ≤ w ∧ w ≤ 11) : StO c l ⟨2, w, 0, 0, 0, 0, 0⟩ := ⟨by simp [eOp, isK, rr, rrT]; omega, by simp [fieldBad, bd, bg, flT, hc], by simp [tkL, flT]⟩
theorem so3 {w a : Int} (hc : 0 ≤ c) (hw : 0 ≤ w ∧ w ≤ 11) (ha : gvL l a = true) : StO c l ⟨3, w, a, 0, 0, 0, 0⟩ := ⟨by simp [eOp, isK, rr, rrT]; omega, by simp [fieldBad, bd, bg, flT, hc], by simp [tkL, flT, ha]⟩
theorem so4 {g a b : Int} (hc : 0 ≤ c) (hw : 0 ≤ g ∧ g ≤ 15) (ha : gvL l a = true) (hb : gvL l b = true) : StO c l ⟨4, g, a, b, 0, 0, 0⟩ := ⟨by simp [eOp, isK, rr, rrT]; omega, by simp [fieldBad, bd, bg, flT, hc], by simp [tkL, flT, ha, hb]⟩
theorem so5 {g a : Int} (hc : 0 ≤ c) (hw : 0 ≤ g ∧ g ≤ 6) (ha : gvL l a = true) : StO c l ⟨5, g, a, 0, 0, 0, 0⟩ := ⟨by simp [eOp, isK, rr, rrT]; omega, by simp [fieldBad, bd, bg, flT, hc], by simp [tkL, flT, ha]⟩
theorem so6 {a b d : Int} (hc : 0 ≤ c) (ha : gvL l a = true) (hb : gvL l b = true) (hd : gvL l d = true) : StO c l ⟨6, 0, a, b, d, 0, 0⟩ := ⟨rfl, by simp [fieldBad, bd, bg, flT, hc], by simp [tkL, flT, ha, hb, hd]⟩
theorem so8 {w a : Int} (hc : 0 ≤ c) (hw : 0 ≤ w ∧ w ≤ 15) (ha : gvL l a = true) : StO c l ⟨8, w, a, 0, 0, 0, 0⟩ := ⟨by simp [eOp, isK, rr, rrT]; omega, by simp [fieldBad, bd, bg, flT, hc], by simp [tkL, flT, ha]⟩
theorem so9 {w a n : Int} {k : Nat} (hw : 0 ≤ w ∧ w ≤ 4) (ha : gvL l a = true) (hn : 0 ≤ n ∧ n ≤ c) : StO c l ⟨9, w, a, 0, 0, k, n⟩ := ⟨by simp [eOp, isK, rr, rrT]; omega, by simp [fieldBad, bd, bg, flT]; omega, by simp [tkL, flT, ha]⟩
theorem so10 {w a b n : Int} {k : Nat} (hw : 0 ≤ w ∧ w ≤ 2) (ha : gvL l a = true) (hb : gvL l b = true) (hn : 0 ≤ n ∧ n ≤ c) : StO c l ⟨10, w, a, b, 0, k, n⟩ := ⟨by simp [eOp, isK, rr, rrT]; omega, by simp [fieldBad, bd, bg, flT]; omega, by simp [tkL, flT, ha, hb]⟩
theorem so11 {n : Int} {k : Nat} (hn : 0 ≤ n ∧ n ≤ c) : StO c l ⟨11, 0, 0, 0, 0, k, n⟩ := ⟨rfl, by simp [fieldBad, bd, bg, flT]; omega, by simp [tkL, flT]⟩
theorem so12 {a n : Int} {k : Nat} (ha : gvL l a = true) (hn : 0 ≤ n ∧ n ≤ c) : StO c l ⟨12, 0, a, 0, 0, k, n⟩ := ⟨rfl, by simp [fieldBad, bd, bg, flT]; omega, by simp [tkL, flT, ha]⟩
theorem so13 {w a n : Int} {k : Nat} (hw : 1 ≤ w ∧ w ≤ 7) (ha : gvL l a = true) (hn : 0 ≤ n ∧ n ≤ c) : StO c l ⟨13, w, a, 0, 0, k, n⟩ := ⟨by simp [eOp, isK, rr, rrT]; omega, by simp [fieldBad, bd, bg, flT]; omega, by simp [tkL, flT, ha]⟩
theorem so14 {w b n : Int} {k : Nat} (hw : 1 ≤ w ∧ w ≤ 7) (hb : 0 ≤ b ∧ b ≤ 4294967295) (hn : 0 ≤ n ∧ n ≤ c) : StO c l ⟨14, w, 0, b, 0, k, n⟩ := ⟨by simp [eOp, isK, rr, rrT]; omega, by simp [fieldBad, bd, bg, flT]; omega, by simp [tkL, flT]⟩
theorem so15 {n : Int} {k : Nat} (hn : 0 ≤ n ∧ n ≤ c) : StO c l ⟨15, 0, 0, 0, 0, k, n⟩ := ⟨rfl, by simp [fieldBad, bd, bg, flT]; omega, by simp [tkL, flT]⟩
theorem so16 {a n : Int} (ha : gvL l a = true) (hn : 0 ≤ n ∧ n ≤ c) : StO c l ⟨16, 0, a, 0, 0, 0, n⟩ := ⟨rfl, by simp [fieldBad, bd, bg, flT]; omega, by simp [tkL, flT, ha]⟩
theorem so17 (hc : 0 ≤ c) : StO c l ⟨17, 0, 0, 0, 0, 0, 0⟩ := ⟨rfl, by simp [fieldBad, bd, bg, flT, hc], by simp [tkL, flT]⟩
end
def endsF (op : Int) : Bool := decide (op = 1 ∨ op = 2 ∨ (5 ≤ op ∧ op ≤ 13))
structure XGood (x : XI) (c : Int) : Prop where
  op : 0 ≤ x.op ∧ x.op < 32
  D : 0 ≤ x.D ∧ x.D ≤ 7
  S : 0 ≤ x.S ∧ x.S ≤ 7
  O : 0 ≤ x.O ∧ x.O < 16
  im : x.im < 4294967296
  ld : x.op = 30 → x.O ≤ 4
  st : x.op = 31 → x.O ≤ 2
  n0 : 0 ≤ x.done
  n1 : x.done + 1 ≤ c
theorem reck_ok (c : Int) (l : List OpR) (m : Int) (hm : (l.length : Int) = m) (f : OpR) (hf : (rr f.kind).gives = true) (O : Nat) (hO : O < 16) (D : Int) (hD : 0 ≤ D ∧ D ≤ 7) (pc : Nat) (done : Int) (h0 : 0 ≤ done) (h1 : done + 1 ≤ c) :
    OkR c l [f] (reckOps O D m pc done (m + 1)) := by
  have hc : 0 ≤ c := by omega
  match O, hO with
  | 0, _ => exact ⟨so2 (by omega) (by omega), rfl, ⟨so4 (by omega) (by omega) (gvAt l _ m hm 1 _ (by omega) _ rfl (by first | exact hf | rfl)) (gvAt l _ m hm 0 _ (by omega) _ rfl (by first | exact hf | rfl)), rfl, ⟨so3 (by omega) (by omega) (gvAt l _ m hm 2 _ (by omega) _ rfl (by first | exact hf | rfl)), rfl, ⟨so1 (by omega), rfl, ⟨so3 (by omega) (by omega) (gvAt l _ m hm 4 _ (by omega) _ rfl (by first | exact hf | rfl)), rfl, ⟨so3 (by omega) (by omega) (gvAt l _ m hm 1 _ (by omega) _ rfl (by first | exact hf | rfl)), rfl, ⟨so3 (by omega) (by omega) (gvAt l _ m hm 0 _ (by omega) _ rfl (by first | exact hf | rfl)), rfl, trivial⟩⟩⟩⟩⟩⟩⟩
  | 1, _ => exact ⟨so2 (by omega) (by omega), rfl, ⟨so4 (by omega) (by omega) (gvAt l _ m hm 1 _ (by omega) _ rfl (by first | exact hf | rfl)) (gvAt l _ m hm 0 _ (by omega) _ rfl (by first | exact hf | rfl)), rfl, ⟨so17 (by omega), rfl, ⟨so8 (by omega) (by omega) (gvAt l _ m hm 3 _ (by omega) _ rfl (by first | exact hf | rfl)), rfl, ⟨so4 (by omega) (by omega) (gvAt l _ m hm 2 _ (by omega) _ rfl (by first | exact hf | rfl)) (gvAt l _ m hm 4 _ (by omega) _ rfl (by first | exact hf | rfl)), rfl, ⟨so3 (by omega) (by omega) (gvAt l _ m hm 5 _ (by omega) _ rfl (by first | exact hf | rfl)), rfl, ⟨so1 (by omega), rfl, ⟨so3 (by omega) (by omega) (gvAt l _ m hm 7 _ (by omega) _ rfl (by first | exact hf | rfl)), rfl, ⟨so3 (by omega) (by omega) (gvAt l _ m hm 1 _ (by omega) _ rfl (by first | exact hf | rfl)), rfl, ⟨so3 (by omega) (by omega) (gvAt l _ m hm 0 _ (by omega) _ rfl (by first | exact hf | rfl)), rfl, ⟨so3 (by omega) (by omega) (gvAt l _ m hm 3 _ (by omega) _ rfl (by first | exact hf | rfl)), rfl, trivial⟩⟩⟩⟩⟩⟩⟩⟩⟩⟩⟩
  | 2, _ => exact ⟨so2 (by omega) (by omega), rfl, ⟨so4 (by omega) (by omega) (gvAt l _ m hm 1 _ (by omega) _ rfl (by first | exact hf | rfl)) (gvAt l _ m hm 0 _ (by omega) _ rfl (by first | exact hf | rfl)), rfl, ⟨so3 (by omega) (by omega) (gvAt l _ m hm 2 _ (by omega) _ rfl (by first | exact hf | rfl)), rfl, ⟨so1 (by omega), rfl, ⟨so3 (by omega) (by omega) (gvAt l _ m hm 4 _ (by omega) _ rfl (by first | exact hf | rfl)), rfl, ⟨so3 (by omega) (by omega) (gvAt l _ m hm 1 _ (by omega) _ rfl (by first | exact hf | rfl)), rfl, ⟨so3 (by omega) (by omega) (gvAt l _ m hm 0 _ (by omega) _ rfl (by first | exact hf | rfl)), rfl, trivial⟩⟩⟩⟩⟩⟩⟩
  | 3, _ => exact ⟨so2 (by omega) (by omega), rfl, ⟨so4 (by omega) (by omega) (gvAt l _ m hm 1 _ (by omega) _ rfl (by first | exact hf | rfl)) (gvAt l _ m hm 0 _ (by omega) _ rfl (by first | exact hf | rfl)), rfl, ⟨so17 (by omega), rfl, ⟨so8 (by omega) (by omega) (gvAt l _ m hm 3 _ (by omega) _ rfl (by first | exact hf | rfl)), rfl, ⟨so4 (by omega) (by omega) (gvAt l _ m hm 2 _ (by omega) _ rfl (by first | exact hf | rfl)) (gvAt l _ m hm 4 _ (by omega) _ rfl (by first | exact hf | rfl)), rfl, ⟨so3 (by omega) (by omega) (gvAt l _ m hm 5 _ (by omega) _ rfl (by first | exact hf | rfl)), rfl, ⟨so1 (by omega), rfl, ⟨so3 (by omega) (by omega) (gvAt l _ m hm 7 _ (by omega) _ rfl (by first | exact hf | rfl)), rfl, ⟨so3 (by omega) (by omega) (gvAt l _ m hm 1 _ (by omega) _ rfl (by first | exact hf | rfl)), rfl, ⟨so3 (by omega) (by omega) (gvAt l _ m hm 0 _ (by omega) _ rfl (by first | exact hf | rfl)), rfl, ⟨so3 (by omega) (by omega) (gvAt l _ m hm 3 _ (by omega) _ rfl (by first | exact hf | rfl)), rfl, trivial⟩⟩⟩⟩⟩⟩⟩⟩⟩⟩⟩
  | 4, _ => exact ⟨so2 (by omega) (by omega), rfl, ⟨so4 (by omega) (by omega) (gvAt l _ m hm 1 _ (by omega) _ rfl (by first | exact hf | rfl)) (gvAt l _ m hm 0 _ (by omega) _ rfl (by first | exact hf | rfl)), rfl, ⟨so3 (by omega) (by omega) (gvAt l _ m hm 2 _ (by omega) _ rfl (by first | exact hf | rfl)), rfl, ⟨so1 (by omega), rfl, ⟨so3 (by omega) (by omega) (gvAt l _ m hm 4 _ (by omega) _ rfl (by first | exact hf | rfl)), rfl, ⟨so3 (by omega) (by omega) (gvAt l _ m hm 2 _ (by omega) _ rfl (by first | exact hf | rfl)), rfl, trivial⟩⟩⟩⟩⟩⟩
  | 5, _ => exact ⟨so2 (by omega) (by omega), rfl, ⟨so4 (by omega) (by omega) (gvAt l _ m hm 1 _ (by omega) _ rfl (by first | exact hf | rfl)) (gvAt l _ m hm 0 _ (by omega) _ rfl (by first | exact hf | rfl)), rfl, ⟨so3 (by omega) (by omega) (gvAt l _ m hm 2 _ (by omega) _ rfl (by first | exact hf | rfl)), rfl, ⟨so1 (by omega), rfl, ⟨so3 (by omega) (by omega) (gvAt l _ m hm 4 _ (by omega) _ rfl (by first | exact hf | rfl)), rfl, ⟨so3 (by omega) (by omega) (gvAt l _ m hm 2 _ (by omega) _ rfl (by first | exact hf | rfl)), rfl, trivial⟩⟩⟩⟩⟩⟩
  | 6, _ => exact ⟨so2 (by omega) (by omega), rfl, ⟨so4 (by omega) (by omega) (gvAt l _ m hm 1 _ (by omega) _ rfl (by first | exact hf | rfl)) (gvAt l _ m hm 0 _ (by omega) _ rfl (by first | exact hf | rfl)), rfl, ⟨so3 (by omega) (by omega) (gvAt l _ m hm 2 _ (by omega) _ rfl (by first | exact hf | rfl)), rfl, ⟨so1 (by omega), rfl, ⟨so3 (by omega) (by omega) (gvAt l _ m hm 4 _ (by omega) _ rfl (by first | exact hf | rfl)), rfl, ⟨so3 (by omega) (by omega) (gvAt l _ m hm 2 _ (by omega) _ rfl (by first | exact hf | rfl)), rfl, trivial⟩⟩⟩⟩⟩⟩
  | 7, _ => exact ⟨so2 (by omega) (by omega), rfl, ⟨so1 (by omega), rfl, ⟨so3 (by omega) (by omega) (gvAt l _ m hm 2 _ (by omega) _ rfl (by first | exact hf | rfl)), rfl, ⟨so3 (by omega) (by omega) (gvAt l _ m hm 1 _ (by omega) _ rfl (by first | exact hf | rfl)), rfl, ⟨so3 (by omega) (by omega) (gvAt l _ m hm 0 _ (by omega) _ rfl (by first | exact hf | rfl)), rfl, trivial⟩⟩⟩⟩⟩
  | 8, _ => exact ⟨so2 (by omega) (by omega), rfl, ⟨so4 (by omega) (by omega) (gvAt l _ m hm 1 _ (by omega) _ rfl (by first | exact hf | rfl)) (gvAt l _ m hm 0 _ (by omega) _ rfl (by first | exact hf | rfl)), rfl, ⟨so1 (by omega), rfl, ⟨so3 (by omega) (by omega) (gvAt l _ m hm 3 _ (by omega) _ rfl (by first | exact hf | rfl)), rfl, ⟨so3 (by omega) (by omega) (gvAt l _ m hm 2 _ (by omega) _ rfl (by first | exact hf | rfl)), rfl, trivial⟩⟩⟩⟩⟩
  | 9, _ => exact ⟨so2 (by omega) (by omega), rfl, ⟨so4 (by omega) (by omega) (gvAt l _ m hm 1 _ (by omega) _ rfl (by first | exact hf | rfl)) (gvAt l _ m hm 0 _ (by omega) _ rfl (by first | exact hf | rfl)), rfl, ⟨so17 (by omega), rfl, ⟨so3 (by omega) (by omega) (gvAt l _ m hm 2 _ (by omega) _ rfl (by first | exact hf | rfl)), rfl, ⟨so1 (by omega), rfl, ⟨so3 (by omega) (by omega) (gvAt l _ m hm 5 _ (by omega) _ rfl (by first | exact hf | rfl)), rfl, ⟨so3 (by omega) (by omega) (gvAt l _ m hm 1 _ (by omega) _ rfl (by first | exact hf | rfl)), rfl, ⟨so3 (by omega) (by omega) (gvAt l _ m hm 0 _ (by omega) _ rfl (by first | exact hf | rfl)), rfl, ⟨so3 (by omega) (by omega) (gvAt l _ m hm 3 _ (by omega) _ rfl (by first | exact hf | rfl)), rfl, trivial⟩⟩⟩⟩⟩⟩⟩⟩⟩
  | 10, _ => exact ⟨so2 (by omega) (by omega), rfl, ⟨so4 (by omega) (by omega) (gvAt l _ m hm 1 _ (by omega) _ rfl (by first | exact hf | rfl)) (gvAt l _ m hm 0 _ (by omega) _ rfl (by first | exact hf | rfl)), rfl, ⟨so17 (by omega), rfl, ⟨so3 (by omega) (by omega) (gvAt l _ m hm 2 _ (by omega) _ rfl (by first | exact hf | rfl)), rfl, ⟨so1 (by omega), rfl, ⟨so3 (by omega) (by omega) (gvAt l _ m hm 5 _ (by omega) _ rfl (by first | exact hf | rfl)), rfl, ⟨so3 (by omega) (by omega) (gvAt l _ m hm 1 _ (by omega) _ rfl (by first | exact hf | rfl)), rfl, ⟨so3 (by omega) (by omega) (gvAt l _ m hm 0 _ (by omega) _ rfl (by first | exact hf | rfl)), rfl, ⟨so3 (by omega) (by omega) (gvAt l _ m hm 3 _ (by omega) _ rfl (by first | exact hf | rfl)), rfl, trivial⟩⟩⟩⟩⟩⟩⟩⟩⟩
  | 11, _ => exact ⟨so2 (by omega) (by omega), rfl, ⟨so4 (by omega) (by omega) (gvAt l _ m hm 1 _ (by omega) _ rfl (by first | exact hf | rfl)) (gvAt l _ m hm 0 _ (by omega) _ rfl (by first | exact hf | rfl)), rfl, ⟨so17 (by omega), rfl, ⟨so3 (by omega) (by omega) (gvAt l _ m hm 2 _ (by omega) _ rfl (by first | exact hf | rfl)), rfl, ⟨so1 (by omega), rfl, ⟨so3 (by omega) (by omega) (gvAt l _ m hm 5 _ (by omega) _ rfl (by first | exact hf | rfl)), rfl, ⟨so3 (by omega) (by omega) (gvAt l _ m hm 1 _ (by omega) _ rfl (by first | exact hf | rfl)), rfl, ⟨so3 (by omega) (by omega) (gvAt l _ m hm 0 _ (by omega) _ rfl (by first | exact hf | rfl)), rfl, ⟨so3 (by omega) (by omega) (gvAt l _ m hm 3 _ (by omega) _ rfl (by first | exact hf | rfl)), rfl, trivial⟩⟩⟩⟩⟩⟩⟩⟩⟩
  | 12, _ => exact ⟨so2 (by omega) (by omega), rfl, ⟨so4 (by omega) (by omega) (gvAt l _ m hm 1 _ (by omega) _ rfl (by first | exact hf | rfl)) (gvAt l _ m hm 0 _ (by omega) _ rfl (by first | exact hf | rfl)), rfl, ⟨so17 (by omega), rfl, ⟨so3 (by omega) (by omega) (gvAt l _ m hm 2 _ (by omega) _ rfl (by first | exact hf | rfl)), rfl, ⟨so1 (by omega), rfl, ⟨so3 (by omega) (by omega) (gvAt l _ m hm 5 _ (by omega) _ rfl (by first | exact hf | rfl)), rfl, ⟨so3 (by omega) (by omega) (gvAt l _ m hm 1 _ (by omega) _ rfl (by first | exact hf | rfl)), rfl, ⟨so3 (by omega) (by omega) (gvAt l _ m hm 0 _ (by omega) _ rfl (by first | exact hf | rfl)), rfl, ⟨so3 (by omega) (by omega) (gvAt l _ m hm 3 _ (by omega) _ rfl (by first | exact hf | rfl)), rfl, trivial⟩⟩⟩⟩⟩⟩⟩⟩⟩
  | 13, _ => exact ⟨so2 (by omega) (by omega), rfl, ⟨so4 (by omega) (by omega) (gvAt l _ m hm 1 _ (by omega) _ rfl (by first | exact hf | rfl)) (gvAt l _ m hm 0 _ (by omega) _ rfl (by first | exact hf | rfl)), rfl, ⟨so3 (by omega) (by omega) (gvAt l _ m hm 2 _ (by omega) _ rfl (by first | exact hf | rfl)), rfl, ⟨so1 (by omega), rfl, ⟨so3 (by omega) (by omega) (gvAt l _ m hm 4 _ (by omega) _ rfl (by first | exact hf | rfl)), rfl, ⟨so3 (by omega) (by omega) (gvAt l _ m hm 1 _ (by omega) _ rfl (by first | exact hf | rfl)), rfl, ⟨so3 (by omega) (by omega) (gvAt l _ m hm 0 _ (by omega) _ rfl (by first | exact hf | rfl)), rfl, trivial⟩⟩⟩⟩⟩⟩⟩
  | 14, _ => exact ⟨so2 (by omega) (by omega), rfl, ⟨so5 (by omega) (by omega) (gvAt l _ m hm 0 _ (by omega) _ rfl (by first | exact hf | rfl)), rfl, ⟨so13 (by omega) (gvAt l _ m hm 2 _ (by omega) _ rfl (by first | exact hf | rfl)) (by omega), rfl, ⟨so4 (by omega) (by omega) (gvAt l _ m hm 1 _ (by omega) _ rfl (by first | exact hf | rfl)) (gvAt l _ m hm 0 _ (by omega) _ rfl (by first | exact hf | rfl)), rfl, ⟨so3 (by omega) (by omega) (gvAt l _ m hm 4 _ (by omega) _ rfl (by first | exact hf | rfl)), rfl, ⟨so1 (by omega), rfl, ⟨so3 (by omega) (by omega) (gvAt l _ m hm 6 _ (by omega) _ rfl (by first | exact hf | rfl)), rfl, ⟨so3 (by omega) (by omega) (gvAt l _ m hm 4 _ (by omega) _ rfl (by first | exact hf | rfl)), rfl, trivial⟩⟩⟩⟩⟩⟩⟩⟩
  | 15, _ => exact ⟨so2 (by omega) (by omega), rfl, ⟨so5 (by omega) (by omega) (gvAt l _ m hm 0 _ (by omega) _ rfl (by first | exact hf | rfl)), rfl, ⟨so13 (by omega) (gvAt l _ m hm 2 _ (by omega) _ rfl (by first | exact hf | rfl)) (by omega), rfl, ⟨so4 (by omega) (by omega) (gvAt l _ m hm 1 _ (by omega) _ rfl (by first | exact hf | rfl)) (gvAt l _ m hm 0 _ (by omega) _ rfl (by first | exact hf | rfl)), rfl, ⟨so3 (by omega) (by omega) (gvAt l _ m hm 4 _ (by omega) _ rfl (by first | exact hf | rfl)), rfl, ⟨so1 (by omega), rfl, ⟨so3 (by omega) (by omega) (gvAt l _ m hm 6 _ (by omega) _ rfl (by first | exact hf | rfl)), rfl, ⟨so3 (by omega) (by omega) (gvAt l _ m hm 4 _ (by omega) _ rfl (by first | exact hf | rfl)), rfl, trivial⟩⟩⟩⟩⟩⟩⟩⟩
  | n + 16, h => exact absurd h (by omega)
theorem lift_mid (c : Int) (l : List OpR) (m : Int) (hm : (l.length : Int) = m) (x : XI) (hx : XGood x c) (he : endsF x.op = false) : OkR c l [] (liftF x m) := by
  obtain ⟨t, ht⟩ : ∃ t : Nat, x.op = t := ⟨x.op.toNat, by have := hx.op; omega⟩
  have hlt : t < 32 := by have := hx.op; omega
  have et : x.op.toNat = t := by omega
  obtain ⟨-, hD, hS, hO, him, hld, hst, h0, h1⟩ := hx
  have hc : 0 ≤ c := by omega
  have hOn : x.O.toNat < 16 := by omega
  match t, hlt, ht, et with
  | 0, _, _, et => simp only [liftF, et]; trivial
  | 1, _, ht, _ => rw [ht] at he; exact absurd he (by decide)
  | 2, _, ht, _ => rw [ht] at he; exact absurd he (by decide)
  | 3, _, ht, et => simp only [liftF, et]; exact ⟨so17 (by omega), rfl, ⟨so2 (by omega) (by omega), rfl, ⟨so1 (by omega), rfl, ⟨so4 (by omega) (by omega) (gvAt l _ m hm 1 _ (by omega) _ rfl rfl) (gvAt l _ m hm 2 _ (by omega) _ rfl rfl), rfl, ⟨so10 (by omega) (gvAt l _ m hm 3 _ (by omega) _ rfl rfl) (gvAt l _ m hm 0 _ (by omega) _ rfl rfl) (by omega), rfl, ⟨so3 (by omega) (by omega) (gvAt l _ m hm 3 _ (by omega) _ rfl rfl), rfl, ⟨so11 (by omega), rfl, trivial⟩⟩⟩⟩⟩⟩⟩
  | 4, _, ht, et => simp only [liftF, et]; exact ⟨so2 (by omega) (by omega), rfl, ⟨so9 (by omega) (gvAt l _ m hm 0 _ (by omega) _ rfl rfl) (by omega), rfl, ⟨so1 (by omega), rfl, ⟨so4 (by omega) (by omega) (gvAt l _ m hm 0 _ (by omega) _ rfl rfl) (gvAt l _ m hm 2 _ (by omega) _ rfl rfl), rfl, ⟨so3 (by omega) (by omega) (gvAt l _ m hm 3 _ (by omega) _ rfl rfl), rfl, ⟨so1 (by omega), rfl, ⟨so3 (by omega) (by omega) (gvAt l _ m hm 5 _ (by omega) _ rfl rfl), rfl, ⟨so3 (by omega) (by omega) (gvAt l _ m hm 1 _ (by omega) _ rfl rfl), rfl, trivial⟩⟩⟩⟩⟩⟩⟩⟩
  | 5, _, ht, _ => rw [ht] at he; exact absurd he (by decide)
  | 6, _, ht, _ => rw [ht] at he; exact absurd he (by decide)
  | 7, _, ht, _ => rw [ht] at he; exact absurd he (by decide)
  | 8, _, ht, _ => rw [ht] at he; exact absurd he (by decide)
  | 9, _, ht, _ => rw [ht] at he; exact absurd he (by decide)
  | 10, _, ht, _ => rw [ht] at he; exact absurd he (by decide)
  | 11, _, ht, _ => rw [ht] at he; exact absurd he (by decide)
  | 12, _, ht, _ => rw [ht] at he; exact absurd he (by decide)
  | 13, _, ht, _ => rw [ht] at he; exact absurd he (by decide)
  | 14, _, ht, et => simp only [liftF, et]; exact ⟨so2 (by omega) (by omega), rfl, ⟨so2 (by omega) (by omega), rfl, ⟨so1 (by omega), rfl, ⟨so4 (by omega) (by omega) (gvAt l _ m hm 1 _ (by omega) _ rfl rfl) (gvAt l _ m hm 2 _ (by omega) _ rfl rfl), rfl, ⟨so10 (by omega) (gvAt l _ m hm 3 _ (by omega) _ rfl rfl) (gvAt l _ m hm 0 _ (by omega) _ rfl rfl) (by omega), rfl, ⟨so3 (by omega) (by omega) (gvAt l _ m hm 3 _ (by omega) _ rfl rfl), rfl, ⟨so11 (by omega), rfl, trivial⟩⟩⟩⟩⟩⟩⟩
  | 15, _, ht, et => simp only [liftF, et]; exact ⟨so2 (by omega) (by omega), rfl, ⟨so9 (by omega) (gvAt l _ m hm 0 _ (by omega) _ rfl rfl) (by omega), rfl, ⟨so1 (by omega), rfl, ⟨so4 (by omega) (by omega) (gvAt l _ m hm 0 _ (by omega) _ rfl rfl) (gvAt l _ m hm 2 _ (by omega) _ rfl rfl), rfl, ⟨so3 (by omega) (by omega) (gvAt l _ m hm 3 _ (by omega) _ rfl rfl), rfl, ⟨so3 (by omega) (by omega) (gvAt l _ m hm 1 _ (by omega) _ rfl rfl), rfl, trivial⟩⟩⟩⟩⟩⟩
  | 16, _, ht, et => simp only [liftF, et]; exact ⟨so1 (by omega), rfl, ⟨so3 (by omega) (by omega) (gvAt l _ m hm 0 _ (by omega) _ rfl rfl), rfl, trivial⟩⟩
  | 17, _, ht, et => simp only [liftF, et]; exact ⟨so2 (by omega) (by omega), rfl, ⟨so1 (by omega), rfl, ⟨so17 (by omega), rfl, ⟨so4 (by omega) (by omega) (gvAt l _ m hm 0 _ (by omega) _ rfl rfl) (gvAt l _ m hm 1 _ (by omega) _ rfl rfl), rfl, ⟨so3 (by omega) (by omega) (gvAt l _ m hm 3 _ (by omega) _ rfl rfl), rfl, ⟨so1 (by omega), rfl, ⟨so3 (by omega) (by omega) (gvAt l _ m hm 5 _ (by omega) _ rfl rfl), rfl, ⟨so3 (by omega) (by omega) (gvAt l _ m hm 0 _ (by omega) _ rfl rfl), rfl, ⟨so3 (by omega) (by omega) (gvAt l _ m hm 1 _ (by omega) _ rfl rfl), rfl, ⟨so3 (by omega) (by omega) (gvAt l _ m hm 2 _ (by omega) _ rfl rfl), rfl, trivial⟩⟩⟩⟩⟩⟩⟩⟩⟩⟩
  | 18, _, ht, et => simp only [liftF, et]; exact ⟨so2 (by omega) (by omega), rfl, ⟨so1 (by omega), rfl, ⟨so17 (by omega), rfl, ⟨so4 (by omega) (by omega) (gvAt l _ m hm 0 _ (by omega) _ rfl rfl) (gvAt l _ m hm 1 _ (by omega) _ rfl rfl), rfl, ⟨so3 (by omega) (by omega) (gvAt l _ m hm 3 _ (by omega) _ rfl rfl), rfl, ⟨so1 (by omega), rfl, ⟨so3 (by omega) (by omega) (gvAt l _ m hm 5 _ (by omega) _ rfl rfl), rfl, ⟨so3 (by omega) (by omega) (gvAt l _ m hm 0 _ (by omega) _ rfl rfl), rfl, ⟨so3 (by omega) (by omega) (gvAt l _ m hm 1 _ (by omega) _ rfl rfl), rfl, ⟨so3 (by omega) (by omega) (gvAt l _ m hm 2 _ (by omega) _ rfl rfl), rfl, trivial⟩⟩⟩⟩⟩⟩⟩⟩⟩⟩
  | 19, _, ht, et => simp only [liftF, et]; exact ⟨so1 (by omega), rfl, ⟨so2 (by omega) (by omega), rfl, ⟨so4 (by omega) (by omega) (gvAt l _ m hm 0 _ (by omega) _ rfl rfl) (gvAt l _ m hm 1 _ (by omega) _ rfl rfl), rfl, ⟨so3 (by omega) (by omega) (gvAt l _ m hm 2 _ (by omega) _ rfl rfl), rfl, ⟨so1 (by omega), rfl, ⟨so3 (by omega) (by omega) (gvAt l _ m hm 4 _ (by omega) _ rfl rfl), rfl, ⟨so3 (by omega) (by omega) (gvAt l _ m hm 0 _ (by omega) _ rfl rfl), rfl, ⟨so3 (by omega) (by omega) (gvAt l _ m hm 1 _ (by omega) _ rfl rfl), rfl, trivial⟩⟩⟩⟩⟩⟩⟩⟩
  | 20, _, ht, et => simp only [liftF, et]; exact ⟨so2 (by omega) (by omega), rfl, ⟨so5 (by omega) (by omega) (gvAt l _ m hm 0 _ (by omega) _ rfl rfl), rfl, ⟨so3 (by omega) (by omega) (gvAt l _ m hm 1 _ (by omega) _ rfl rfl), rfl, trivial⟩⟩⟩
  | 21, _, ht, et => simp only [liftF, et]; exact ⟨so17 (by omega), rfl, ⟨so8 (by omega) (by omega) (gvAt l _ m hm 0 _ (by omega) _ rfl rfl), rfl, ⟨so3 (by omega) (by omega) (gvAt l _ m hm 1 _ (by omega) _ rfl rfl), rfl, trivial⟩⟩⟩
  | 22, _, ht, et => simp only [liftF, et]; exact ⟨so2 (by omega) (by omega), rfl, ⟨so3 (by omega) (by omega) (gvAt l _ m hm 0 _ (by omega) _ rfl rfl), rfl, trivial⟩⟩
  | 23, _, ht, et => simp only [liftF, et]; exact ⟨so2 (by omega) (by omega), rfl, ⟨so1 (by omega), rfl, ⟨so4 (by omega) (by omega) (gvAt l _ m hm 0 _ (by omega) _ rfl rfl) (gvAt l _ m hm 1 _ (by omega) _ rfl rfl), rfl, ⟨so3 (by omega) (by omega) (gvAt l _ m hm 2 _ (by omega) _ rfl rfl), rfl, trivial⟩⟩⟩⟩
  | 24, _, ht, et => simp only [liftF, et]; exact ⟨so2 (by omega) (by omega), rfl, ⟨so1 (by omega), rfl, ⟨so4 (by omega) (by omega) (gvAt l _ m hm 0 _ (by omega) _ rfl rfl) (gvAt l _ m hm 1 _ (by omega) _ rfl rfl), rfl, ⟨so9 (by omega) (gvAt l _ m hm 2 _ (by omega) _ rfl rfl) (by omega), rfl, ⟨so2 (by omega) (by omega), rfl, ⟨so10 (by omega) (gvAt l _ m hm 2 _ (by omega) _ rfl rfl) (gvAt l _ m hm 4 _ (by omega) _ rfl rfl) (by omega), rfl, ⟨so3 (by omega) (by omega) (gvAt l _ m hm 3 _ (by omega) _ rfl rfl), rfl, ⟨so11 (by omega), rfl, trivial⟩⟩⟩⟩⟩⟩⟩⟩
  | 25, _, ht, et => simp only [liftF, et]; exact ⟨so2 (by omega) (by omega), rfl, ⟨so1 (by omega), rfl, ⟨so4 (by omega) (by omega) (gvAt l _ m hm 0 _ (by omega) _ rfl rfl) (gvAt l _ m hm 1 _ (by omega) _ rfl rfl), rfl, ⟨so9 (by omega) (gvAt l _ m hm 2 _ (by omega) _ rfl rfl) (by omega), rfl, ⟨so2 (by omega) (by omega), rfl, ⟨so4 (by omega) (by omega) (gvAt l _ m hm 3 _ (by omega) _ rfl rfl) (gvAt l _ m hm 4 _ (by omega) _ rfl rfl), rfl, ⟨so10 (by omega) (gvAt l _ m hm 2 _ (by omega) _ rfl rfl) (gvAt l _ m hm 5 _ (by omega) _ rfl rfl) (by omega), rfl, ⟨so3 (by omega) (by omega) (gvAt l _ m hm 3 _ (by omega) _ rfl rfl), rfl, ⟨so1 (by omega), rfl, ⟨so3 (by omega) (by omega) (gvAt l _ m hm 8 _ (by omega) _ rfl rfl), rfl, ⟨so3 (by omega) (by omega) (gvAt l _ m hm 3 _ (by omega) _ rfl rfl), rfl, ⟨so3 (by omega) (by omega) (gvAt l _ m hm 4 _ (by omega) _ rfl rfl), rfl, ⟨so11 (by omega), rfl, trivial⟩⟩⟩⟩⟩⟩⟩⟩⟩⟩⟩⟩⟩
  | 26, _, ht, et => simp only [liftF, et]; exact ⟨so2 (by omega) (by omega), rfl, ⟨so1 (by omega), rfl, ⟨so4 (by omega) (by omega) (gvAt l _ m hm 0 _ (by omega) _ rfl rfl) (gvAt l _ m hm 1 _ (by omega) _ rfl rfl), rfl, ⟨so9 (by omega) (gvAt l _ m hm 2 _ (by omega) _ rfl rfl) (by omega), rfl, ⟨so2 (by omega) (by omega), rfl, ⟨so2 (by omega) (by omega), rfl, ⟨so4 (by omega) (by omega) (gvAt l _ m hm 5 _ (by omega) _ rfl rfl) (gvAt l _ m hm 3 _ (by omega) _ rfl rfl), rfl, ⟨so6 (by omega) (gvAt l _ m hm 6 _ (by omega) _ rfl rfl) (gvAt l _ m hm 4 _ (by omega) _ rfl rfl) (gvAt l _ m hm 3 _ (by omega) _ rfl rfl), rfl, ⟨so10 (by omega) (gvAt l _ m hm 2 _ (by omega) _ rfl rfl) (gvAt l _ m hm 7 _ (by omega) _ rfl rfl) (by omega), rfl, ⟨so3 (by omega) (by omega) (gvAt l _ m hm 3 _ (by omega) _ rfl rfl), rfl, ⟨so1 (by omega), rfl, ⟨so3 (by omega) (by omega) (gvAt l _ m hm 10 _ (by omega) _ rfl rfl), rfl, ⟨so3 (by omega) (by omega) (gvAt l _ m hm 5 _ (by omega) _ rfl rfl), rfl, ⟨so3 (by omega) (by omega) (gvAt l _ m hm 3 _ (by omega) _ rfl rfl), rfl, ⟨so11 (by omega), rfl, trivial⟩⟩⟩⟩⟩⟩⟩⟩⟩⟩⟩⟩⟩⟩⟩
  | 27, _, _, et => simp only [liftF, et]; exact ⟨so2 (by omega) (by omega), rfl, reck_ok c l m hm _ rfl _ hOn _ hD _ _ h0 h1⟩
  | 28, _, _, et => simp only [liftF, et]; exact ⟨so1 (by omega), rfl, reck_ok c l m hm _ rfl _ hOn _ hD _ _ h0 h1⟩
  | 29, _, _, et => simp only [liftF, et]; exact ⟨so1 (by omega), rfl, reck_ok c l m hm _ rfl _ hOn _ hD _ _ h0 h1⟩
  | 30, _, ht, et => have := hld ht; simp only [liftF, et]; exact ⟨so2 (by omega) (by omega), rfl, ⟨so1 (by omega), rfl, ⟨so4 (by omega) (by omega) (gvAt l _ m hm 0 _ (by omega) _ rfl rfl) (gvAt l _ m hm 1 _ (by omega) _ rfl rfl), rfl, ⟨so9 (by omega) (gvAt l _ m hm 2 _ (by omega) _ rfl rfl) (by omega), rfl, ⟨so3 (by omega) (by omega) (gvAt l _ m hm 3 _ (by omega) _ rfl rfl), rfl, trivial⟩⟩⟩⟩⟩
  | 31, _, ht, et => have := hst ht; simp only [liftF, et]; exact ⟨so2 (by omega) (by omega), rfl, ⟨so1 (by omega), rfl, ⟨so4 (by omega) (by omega) (gvAt l _ m hm 0 _ (by omega) _ rfl rfl) (gvAt l _ m hm 1 _ (by omega) _ rfl rfl), rfl, ⟨so2 (by omega) (by omega), rfl, ⟨so10 (by omega) (gvAt l _ m hm 2 _ (by omega) _ rfl rfl) (gvAt l _ m hm 3 _ (by omega) _ rfl rfl) (by omega), rfl, ⟨so11 (by omega), rfl, trivial⟩⟩⟩⟩⟩⟩
  | n + 32, h, _, _ => exact absurd h (by omega)
theorem lift_end (c : Int) (l : List OpR) (m : Int) (hm : (l.length : Int) = m) (x : XI) (hx : XGood x c) (he : endsF x.op = true) : ∃ r o, liftF x m = r ++ [o] ∧ OkR c l [] r ∧ StO c (l ++ r) o ∧ (rr o.kind).ends = true := by
  obtain ⟨t, ht⟩ : ∃ t : Nat, x.op = t := ⟨x.op.toNat, by have := hx.op; omega⟩
  have hlt : t < 32 := by have := hx.op; omega
  have et : x.op.toNat = t := by omega
  obtain ⟨-, hD, hS, hO, him, hld, hst, h0, h1⟩ := hx
  have hc : 0 ≤ c := by omega
  match t, hlt, ht, et with
  | 0, _, ht, _ => rw [ht] at he; exact absurd he (by decide)
  | 1, _, ht, et => exact ⟨[], ⟨14, 2, 0, 0, 0, x.pc, x.done⟩, by simp only [liftF, et]; rfl, trivial, so14 (by omega) (by omega) (by omega), rfl⟩
  | 2, _, ht, et => exact ⟨[⟨2, 7, 0, 0, 0, 0, 0⟩, ⟨9, 4, m, 0, 0, x.pc, x.done⟩, ⟨1, 0, 0, 0, 0, 4, 0⟩, ⟨4, 0, m, m + 1 + 1, 0, 0, 0⟩, ⟨3, 7, m + 1 + 1 + 1, 0, 0, 0, 0⟩], ⟨16, 0, m + 1, 0, 0, 0, x.done + 1⟩, by simp only [liftF, et]; rfl, ⟨so2 (by omega) (by omega), rfl, ⟨so9 (by omega) (gvAt l _ m hm 0 _ (by omega) _ rfl rfl) (by omega), rfl, ⟨so1 (by omega), rfl, ⟨so4 (by omega) (by omega) (gvAt l _ m hm 0 _ (by omega) _ rfl rfl) (gvAt l _ m hm 2 _ (by omega) _ rfl rfl), rfl, ⟨so3 (by omega) (by omega) (gvAt l _ m hm 3 _ (by omega) _ rfl rfl), rfl, trivial⟩⟩⟩⟩⟩, so16 (gvAt l _ m hm 1 _ (by omega) _ rfl rfl) (by omega), rfl⟩
  | 3, _, ht, _ => rw [ht] at he; exact absurd he (by decide)
  | 4, _, ht, _ => rw [ht] at he; exact absurd he (by decide)
  | 5, _, ht, et => exact ⟨[], ⟨14, 1, 0, x.im, 0, x.next, x.done + 1⟩, by simp only [liftF, et]; rfl, trivial, so14 (by omega) (by omega) (by omega), rfl⟩
  | 6, _, ht, et => exact ⟨[], ⟨15, 0, 0, 0, 0, ((x.next + x.im) % 4294967296), x.done + 1⟩, by simp only [liftF, et]; rfl, trivial, so15 (by omega), rfl⟩
  | 7, _, ht, et => exact ⟨[], ⟨15, 0, 0, 0, 0, ((x.next + x.im) % 4294967296), x.done + 1⟩, by simp only [liftF, et]; rfl, trivial, so15 (by omega), rfl⟩
  | 8, _, ht, et => exact ⟨[⟨1, 0, 0, 0, 0, x.next, 0⟩, ⟨2, 7, 0, 0, 0, 0, 0⟩, ⟨1, 0, 0, 0, 0, 4, 0⟩, ⟨4, 1, m + 1, m + 1 + 1, 0, 0, 0⟩, ⟨10, 2, m + 1 + 1 + 1, m, 0, x.pc, x.done⟩, ⟨3, 7, m + 1 + 1 + 1, 0, 0, 0, 0⟩], ⟨15, 0, 0, 0, 0, ((x.next + x.im) % 4294967296), x.done + 1⟩, by simp only [liftF, et]; rfl, ⟨so1 (by omega), rfl, ⟨so2 (by omega) (by omega), rfl, ⟨so1 (by omega), rfl, ⟨so4 (by omega) (by omega) (gvAt l _ m hm 1 _ (by omega) _ rfl rfl) (gvAt l _ m hm 2 _ (by omega) _ rfl rfl), rfl, ⟨so10 (by omega) (gvAt l _ m hm 3 _ (by omega) _ rfl rfl) (gvAt l _ m hm 0 _ (by omega) _ rfl rfl) (by omega), rfl, ⟨so3 (by omega) (by omega) (gvAt l _ m hm 3 _ (by omega) _ rfl rfl), rfl, trivial⟩⟩⟩⟩⟩⟩, so15 (by omega), rfl⟩
  | 9, _, ht, et => exact ⟨[⟨2, x.S, 0, 0, 0, 0, 0⟩], ⟨16, 0, m, 0, 0, 0, x.done + 1⟩, by simp only [liftF, et]; rfl, ⟨so2 (by omega) (by omega), rfl, trivial⟩, so16 (gvAt l _ m hm 0 _ (by omega) _ rfl rfl) (by omega), rfl⟩
  | 10, _, ht, et => exact ⟨[⟨2, x.S, 0, 0, 0, 0, 0⟩, ⟨1, 0, 0, 0, 0, x.next, 0⟩, ⟨2, 7, 0, 0, 0, 0, 0⟩, ⟨1, 0, 0, 0, 0, 4, 0⟩, ⟨4, 1, m + 1 + 1, m + 1 + 1 + 1, 0, 0, 0⟩, ⟨10, 2, m + 1 + 1 + 1 + 1, m + 1, 0, x.pc, x.done⟩, ⟨3, 7, m + 1 + 1 + 1 + 1, 0, 0, 0, 0⟩], ⟨16, 0, m, 0, 0, 0, x.done + 1⟩, by simp only [liftF, et]; rfl, ⟨so2 (by omega) (by omega), rfl, ⟨so1 (by omega), rfl, ⟨so2 (by omega) (by omega), rfl, ⟨so1 (by omega), rfl, ⟨so4 (by omega) (by omega) (gvAt l _ m hm 2 _ (by omega) _ rfl rfl) (gvAt l _ m hm 3 _ (by omega) _ rfl rfl), rfl, ⟨so10 (by omega) (gvAt l _ m hm 4 _ (by omega) _ rfl rfl) (gvAt l _ m hm 1 _ (by omega) _ rfl rfl) (by omega), rfl, ⟨so3 (by omega) (by omega) (gvAt l _ m hm 4 _ (by omega) _ rfl rfl), rfl, trivial⟩⟩⟩⟩⟩⟩⟩, so16 (gvAt l _ m hm 0 _ (by omega) _ rfl rfl) (by omega), rfl⟩
  | 11, _, ht, et => exact ⟨[⟨2, x.S, 0, 0, 0, 0, 0⟩, ⟨1, 0, 0, 0, 0, x.im, 0⟩, ⟨4, 0, m, m + 1, 0, 0, 0⟩, ⟨9, 4, m + 1 + 1, 0, 0, x.pc, x.done⟩], ⟨16, 0, m + 1 + 1 + 1, 0, 0, 0, x.done + 1⟩, by simp only [liftF, et]; rfl, ⟨so2 (by omega) (by omega), rfl, ⟨so1 (by omega), rfl, ⟨so4 (by omega) (by omega) (gvAt l _ m hm 0 _ (by omega) _ rfl rfl) (gvAt l _ m hm 1 _ (by omega) _ rfl rfl), rfl, ⟨so9 (by omega) (gvAt l _ m hm 2 _ (by omega) _ rfl rfl) (by omega), rfl, trivial⟩⟩⟩⟩, so16 (gvAt l _ m hm 3 _ (by omega) _ rfl rfl) (by omega), rfl⟩
  | 12, _, ht, et => exact ⟨[⟨17, 0, 0, 0, 0, 0, 0⟩, ⟨8, x.O, m, 0, 0, 0, 0⟩, ⟨12, 0, m + 1, 0, 0, ((x.next + x.im) % 4294967296), x.done + 1⟩], ⟨15, 0, 0, 0, 0, x.next, x.done + 1⟩, by simp only [liftF, et]; rfl, ⟨so17 (by omega), rfl, ⟨so8 (by omega) (by omega) (gvAt l _ m hm 0 _ (by omega) _ rfl rfl), rfl, ⟨so12 (gvAt l _ m hm 1 _ (by omega) _ rfl rfl) (by omega), rfl, trivial⟩⟩⟩, so15 (by omega), rfl⟩
  | 13, _, ht, et => exact ⟨[⟨17, 0, 0, 0, 0, 0, 0⟩, ⟨8, x.O, m, 0, 0, 0, 0⟩, ⟨12, 0, m + 1, 0, 0, ((x.next + x.im) % 4294967296), x.done + 1⟩], ⟨15, 0, 0, 0, 0, x.next, x.done + 1⟩, by simp only [liftF, et]; rfl, ⟨so17 (by omega), rfl, ⟨so8 (by omega) (by omega) (gvAt l _ m hm 0 _ (by omega) _ rfl rfl), rfl, ⟨so12 (gvAt l _ m hm 1 _ (by omega) _ rfl rfl) (by omega), rfl, trivial⟩⟩⟩, so15 (by omega), rfl⟩
  | 14, _, ht, _ => rw [ht] at he; exact absurd he (by decide)
  | 15, _, ht, _ => rw [ht] at he; exact absurd he (by decide)
  | 16, _, ht, _ => rw [ht] at he; exact absurd he (by decide)
  | 17, _, ht, _ => rw [ht] at he; exact absurd he (by decide)
  | 18, _, ht, _ => rw [ht] at he; exact absurd he (by decide)
  | 19, _, ht, _ => rw [ht] at he; exact absurd he (by decide)
  | 20, _, ht, _ => rw [ht] at he; exact absurd he (by decide)
  | 21, _, ht, _ => rw [ht] at he; exact absurd he (by decide)
  | 22, _, ht, _ => rw [ht] at he; exact absurd he (by decide)
  | 23, _, ht, _ => rw [ht] at he; exact absurd he (by decide)
  | 24, _, ht, _ => rw [ht] at he; exact absurd he (by decide)
  | 25, _, ht, _ => rw [ht] at he; exact absurd he (by decide)
  | 26, _, ht, _ => rw [ht] at he; exact absurd he (by decide)
  | 27, _, ht, _ => rw [ht] at he; exact absurd he (by decide)
  | 28, _, ht, _ => rw [ht] at he; exact absurd he (by decide)
  | 29, _, ht, _ => rw [ht] at he; exact absurd he (by decide)
  | 30, _, ht, _ => rw [ht] at he; exact absurd he (by decide)
  | 31, _, ht, _ => rw [ht] at he; exact absurd he (by decide)
  | n + 32, h, _, _ => exact absurd h (by omega)
theorem reckOps_len (O : Nat) (D b : Int) (pc : Nat) (done m : Int) : (reckOps O D b pc done m).length ≤ 12 := by unfold reckOps; split <;> (simp only [List.length_cons, List.length_nil]; omega)
theorem liftF_len (x : XI) (m : Int) : (liftF x m).length ≤ 20 := by
  unfold liftF
  split <;> (first | (simp only [List.length_cons, List.length_nil]; omega) | (have := reckOps_len x.O.toNat x.D m x.pc x.done (m + 1); simp only [List.length_cons]; omega))
end Go.Proofs.Ytjmffijdojeghaa
namespace Go.Proofs.Ytjmffijdojeghaa
open Go.RowKit
set_option maxRecDepth 100000
set_option linter.unusedVariables false
set_option linter.unusedSimpArgs false
theorem pends_any (n : Int) (w : World) : Calls Try.prog 21 #[.int .i64 n] w fun e w' => e = .returned (.bool (endsF n)) ∧ w = w' := by
  by_cases h1 : n = 1
  · subst h1
    rw [show endsF 1 = true by decide]
    go_enter Try.func21, Try.ntmps21; go_wp2; go_ret; exact ⟨rfl, rfl⟩
  have d1 : (n == 1) = false := by simpa using h1
  by_cases h2 : n = 2
  · subst h2
    rw [show endsF 2 = true by decide]
    clear h1 d1
    go_enter Try.func21, Try.ntmps21; go_wp2; go_ret; exact ⟨rfl, rfl⟩
  have d2 : (n == 2) = false := by simpa using h2
  by_cases h5 : 5 ≤ n
  · have d5 : decide (5 ≤ n) = true := decide_eq_true h5
    by_cases h13 : n ≤ 13
    · have d13 : decide (n ≤ 13) = true := decide_eq_true h13
      rw [show endsF n = true by simp [endsF]; omega]
      go_enter Try.func21, Try.ntmps21; go_wp2; go_ret; exact ⟨rfl, rfl⟩
    · have d13 : decide (n ≤ 13) = false := decide_eq_false h13
      rw [show endsF n = false by simp [endsF]; omega]
      go_enter Try.func21, Try.ntmps21; go_wp2; go_ret; exact ⟨rfl, rfl⟩
  · have d5 : decide (5 ≤ n) = false := decide_eq_false h5
    rw [show endsF n = false by simp [endsF]; omega]
    go_enter Try.func21, Try.ntmps21; go_wp2; go_ret; exact ⟨rfl, rfl⟩
theorem rends_any (n : Int) (w : World) : Calls Try.prog 22 #[.int .i64 n] w fun e w' => e = .returned (.bool (endsF n)) ∧ w = w' := by
  by_cases h1 : n = 1
  · subst h1
    rw [show endsF 1 = true by decide]
    go_enter Try.func22, Try.ntmps22; go_wp2; go_ret; exact ⟨rfl, rfl⟩
  have d1 : (n == 1) = false := by simpa using h1
  by_cases h2 : n = 2
  · subst h2
    rw [show endsF 2 = true by decide]
    clear h1 d1
    go_enter Try.func22, Try.ntmps22; go_wp2; go_ret; exact ⟨rfl, rfl⟩
  have d2 : (n == 2) = false := by simpa using h2
  by_cases h5 : 5 ≤ n
  · have d5 : decide (5 ≤ n) = true := decide_eq_true h5
    by_cases h13 : n ≤ 13
    · have d13 : decide (n ≤ 13) = true := decide_eq_true h13
      rw [show endsF n = true by simp [endsF]; omega]
      go_enter Try.func22, Try.ntmps22; go_wp2; go_ret; exact ⟨rfl, rfl⟩
    · have d13 : decide (n ≤ 13) = false := decide_eq_false h13
      rw [show endsF n = false by simp [endsF]; omega]
      go_enter Try.func22, Try.ntmps22; go_wp2; go_ret; exact ⟨rfl, rfl⟩
  · have d5 : decide (5 ≤ n) = false := decide_eq_false h5
    rw [show endsF n = false by simp [endsF]; omega]
    go_enter Try.func22, Try.ntmps22; go_wp2; go_ret; exact ⟨rfl, rfl⟩
structure BR where
  l : List OpR
  count : Nat
  bytes : Nat
def gotoO (next count : Nat) : OpR := ⟨15, 0, 0, 0, 0, next, count⟩
def xiOf (i : IR) (pc done : Nat) : XI := ⟨i.op, i.D, i.S, i.O, i.imm, pc, (pc + i.n) % 4294967296, done⟩
def blkF (s : MS) (pc : Nat) : Nat → Nat → Nat → Nat → List OpR → BR
  | 0, next, count, bytes, l => ⟨l ++ [gotoO next count], count, bytes⟩
  | f + 1, next, count, bytes, l =>
    if (insOf s next).k ≠ 0 then
      if count = 0 then ⟨l ++ [⟨14, (insOf s next).k, 0, (insOf s next).a, 0, pc, 0⟩], count, bytes⟩
      else ⟨l ++ [gotoO next count], count, bytes⟩
    else if endsF (insOf s next).op = true then ⟨l ++ liftF (xiOf (insOf s next) next count) l.length, count + 1, bytes + (insOf s next).n⟩
    else blkF s pc f ((next + (insOf s next).n) % 4294967296) (count + 1) (bytes + (insOf s next).n) (l ++ liftF (xiOf (insOf s next) next count) l.length)
def moF (most : Int) : Nat := (if 64 < (if most < 1 then 1 else most) then 64 else (if most < 1 then 1 else most)).toNat
theorem moF_eq (most : Int) : (if 64 < (if most < 1 then 1 else most) then 64 else (if most < 1 then 1 else most)) = (moF most : Int) := by unfold moF; split <;> split <;> omega
theorem moF_bd (most : Int) : 1 ≤ moF most ∧ moF most ≤ 64 := by unfold moF; split <;> split <;> omega
def opD : OpR := ⟨0, 0, 0, 0, 0, 0, 0⟩
theorem opsV_at : ∀ (l : List OpR) (i r : Nat), i < l.length → r < 7 → (opsV l)[i * 7 + r]? = some (opCell (l.getD i opD) r)
  | [], i, r, h, _ => absurd h (by simp)
  | o :: l, 0, r, _, hr => by
    have hl : (opCells o).length = 7 := rfl
    rw [opsV, List.getElem?_append_left (by omega)]
    match r, hr with
    | 0, _ | 1, _ | 2, _ | 3, _ | 4, _ | 5, _ | 6, _ => rfl
    | n + 7, h => exact absurd h (by omega)
  | o :: l, i + 1, r, h, hr => by
    have hl : (opCells o).length = 7 := rfl
    rw [opsV, List.getElem?_append_right (by omega), show (i + 1) * 7 + r - (opCells o).length = i * 7 + r by omega, opsV_at l i r (by simpa using h) hr]
    simp
theorem opsV_opsL (l : List OpR) : opsV l = opsL (fun i => l.getD i opD) l.length := by
  apply List.ext_getElem?
  intro j
  by_cases hj : j < l.length * 7
  · have h1 := opsV_at l (j / 7) (j % 7) (by omega) (by omega)
    rw [show j / 7 * 7 + j % 7 = j by omega] at h1
    rw [h1]
    unfold opsL
    rw [List.getElem?_map, List.getElem?_range hj]
    rfl
  · rw [List.getElem?_eq_none (by rw [opsV_len]; omega), List.getElem?_eq_none (by rw [opsL_len]; omega)]
theorem owns_opsR {w : World} {base : Nat} {sv : Value} {l : List OpR} (h : w.ownsRow base 163 7 sv l.length (opsV l)) (hn : 0 < l.length) : ∃ g cap, sv = .slice (some ⟨g, 0, none⟩) l.length cap ∧ base ≤ g ∧ OpsR w (some ⟨g, 0, none⟩) l.length (fun i => l.getD i opD) := by
  rcases h.2 with ⟨-, h0⟩ | ⟨g, c', cur, hv, hb, hh, h1, h2, h3, h4⟩
  · omega
  · refine ⟨g, c', hv, hb, ?_⟩
    have h' := h
    rw [hv, opsV_opsL] at h'
    exact (owns_ops h' hn).1
theorem LB.setCount {w : World} {base B pc : Nat} {count bytes : Int} {sv : Value} {l : List OpR} (h : LB w base B pc count bytes sv l) (c : Int) : LB (w.setCell ⟨B, 1, none⟩ (.int .i64 c)) base B pc c bytes sv l :=
  ⟨heap_setCell_same w B 1 _ _ _ h.b, owns_keep h.o fun g hg => Below.heap_setCell w ⟨B, 1, none⟩ _ g (h.ne hg)⟩
theorem LB.setBytes {w : World} {base B pc : Nat} {count bytes : Int} {sv : Value} {l : List OpR} (h : LB w base B pc count bytes sv l) (c : Int) : LB (w.setCell ⟨B, 2, none⟩ (.int .i64 c)) base B pc count c sv l :=
  ⟨heap_setCell_same w B 2 _ _ _ h.b, owns_keep h.o fun g hg => Below.heap_setCell w ⟨B, 2, none⟩ _ g (h.ne hg)⟩
end Go.Proofs.Ytjmffijdojeghaa
namespace Go.Proofs.Ytjmffijdojeghaa
open Go.RowKit
set_option maxRecDepth 100000
set_option linter.unusedVariables false
set_option linter.unusedSimpArgs false
def OkL (c : Int) (l : List OpR) : Prop := ∀ i o, l[i]? = some o → StO c (l.take i) o ∧ (rr o.kind).ends = false
theorem lt_some {l : List OpR} {i : Nat} {o : OpR} (h : l[i]? = some o) : i < l.length := by
  rcases Nat.lt_or_ge i l.length with g | g
  · exact g
  · rw [List.getElem?_eq_none g] at h; cases h
theorem okL_snoc {c : Int} {l : List OpR} {o : OpR} (h : OkL c l) (h1 : StO c l o) (h2 : (rr o.kind).ends = false) : OkL c (l ++ [o]) := fun i o' hi => by
  have hl := lt_some hi
  rw [List.length_append, List.length_cons, List.length_nil] at hl
  by_cases e : i < l.length
  · rw [List.getElem?_append_left e] at hi
    rw [List.take_append_of_le_length (by omega)]
    exact h i o' hi
  · have e1 : i = l.length := by omega
    subst e1
    rw [List.getElem?_append_right (Nat.le_refl _), Nat.sub_self] at hi
    cases hi
    rw [List.take_append_of_le_length (Nat.le_refl _), List.take_length]
    exact ⟨h1, h2⟩
theorem okL_app {c : Int} {l : List OpR} : ∀ (q r : List OpR), OkL c (l ++ r) → OkR c l r q → OkL c (l ++ r ++ q)
  | [], r, h, _ => by rw [List.append_nil]; exact h
  | o :: q, r, h, ⟨h1, h2, h3⟩ => by
    have := okL_app q (r ++ [o]) (by rw [← List.append_assoc]; exact okL_snoc h h1 h2) h3
    rw [← List.append_assoc, List.append_assoc (l ++ r)] at this
    exact this
theorem StO.mono {c c' : Int} {l : List OpR} {o : OpR} (h : StO c l o) (hc : c ≤ c') : StO c' l o := by
  refine ⟨h.e, ?_, h.t⟩
  have h1 := h.f
  unfold fieldBad at h1 ⊢
  simp only [Bool.or_eq_false_iff, Bool.not_eq_false', decide_eq_true_eq] at h1 ⊢
  exact ⟨h1.1, h1.2.1, by omega⟩
theorem OkL.mono {c c' : Int} {l : List OpR} (h : OkL c l) (hc : c ≤ c') : OkL c' l := fun i o hi => ⟨(h i o hi).1.mono hc, (h i o hi).2⟩
theorem form6 : ∀ k : _root_.Fin 32, 1 + Gu.szL (Gu.formB k.val) ≤ 6 := by decide +kernel
theorem hit_lt {y : Int} {k : Nat} (h : Gu.hitF y = some k) : k < 32 := Gu.hitF_lt h
theorem dec_n6 (zs : List Int) (len : Nat) : (Gu.refDec zs len).n ≤ 6 := by
  unfold Gu.refDec
  split
  · exact (by decide : (0 : Int) ≤ 6)
  · split
    · exact (by decide : (0 : Int) ≤ 6)
    · rename_i k hk
      split
      · exact (by decide : (0 : Int) ≤ 6)
      · split
        · exact (by decide : (0 : Int) ≤ 6)
        · exact form6 ⟨k, hit_lt hk⟩
theorem insOf_n6 (s : MS) (pc : Nat) : (insOf s pc).n ≤ 6 := by
  unfold insOf
  split
  · exact Nat.zero_le _
  · split
    · exact Nat.zero_le _
    · simp only
      split
      · show Int.toNat _ ≤ 6
        have := dec_n6 (byL s pc (fetM s pc (Gu.sizeF (s.B pc)))) (fetM s pc (Gu.sizeF (s.B pc)))
        omega
      · exact Nat.zero_le _
structure BGood (R : BR) : Prop where
  c64 : R.count ≤ 64
  by' : R.bytes ≤ 6 * R.count
  ln : R.l.length ≤ 20 * R.count + 1
  ex : ∃ r o, R.l = r ++ [o] ∧ OkL R.count r ∧ StO R.count r o ∧ (rr o.kind).ends = true
theorem xgood {i : IR} (hio : InsOk i) (next count : Nat) (c : Int) (hc : (count : Int) + 1 ≤ c) : XGood (xiOf i next count) c :=
  ⟨⟨hio.op0, by have := hio.op1; show i.op < 32; omega⟩, by have := hio.D1; show 0 ≤ (i.D : Int) ∧ (i.D : Int) ≤ 7; omega, by have := hio.S1; show 0 ≤ (i.S : Int) ∧ (i.S : Int) ≤ 7; omega, ⟨hio.O0, by have := hio.O1; show i.O < 16; omega⟩, hio.im, hio.ld, hio.st, by show 0 ≤ (count : Int); omega, hc⟩
theorem insOf_k (s : MS) (pc : Nat) : (insOf s pc).k = 0 ∨ (insOf s pc).k = 3 ∨ (insOf s pc).k = 4 := by
  unfold insOf
  split
  · exact Or.inr (Or.inr rfl)
  · split
    · exact Or.inr (Or.inr rfl)
    · simp only
      split
      · exact Or.inl rfl
      · exact Or.inr (Or.inl rfl)
theorem blk_good (s : MS) (hs : s.Ok) (pc : Nat) (hA : ∀ p, p < 4294967296 → 0 ≤ (insOf s p).a ∧ (insOf s p).a ≤ 4294967295) : ∀ (f next count bytes : Nat) (l : List OpR), next < 4294967296 → count + f ≤ 64 → bytes ≤ 6 * count → l.length ≤ 20 * count → OkL count l → BGood (blkF s pc f next count bytes l)
  | 0, next, count, bytes, l, hn, hf, hb, hl, ho => by
    rw [blkF]
    exact ⟨by show count ≤ 64; omega, hb, by show (l ++ [_]).length ≤ _; simp; omega, l, gotoO next count, rfl, ho, so15 (show 0 ≤ (count : Int) ∧ (count : Int) ≤ (count : Int) by omega), rfl⟩
  | f + 1, next, count, bytes, l, hn, hf, hb, hl, ho => by
    rw [blkF]
    by_cases hk : (insOf s next).k ≠ 0
    · rw [if_pos hk]
      by_cases hc : count = 0
      · rw [if_pos hc]
        have h3 := insOf_k s next
        have ha := hA next hn
        exact ⟨by show count ≤ 64; omega, hb, by show (l ++ [_]).length ≤ _; simp; omega, l, _, rfl, ho, so14 (by omega) ha (by omega), rfl⟩
      · rw [if_neg hc]
        exact ⟨by show count ≤ 64; omega, hb, by show (l ++ [_]).length ≤ _; simp; omega, l, gotoO next count, rfl, ho, so15 (show 0 ≤ (count : Int) ∧ (count : Int) ≤ (count : Int) by omega), rfl⟩
    · rw [if_neg hk]
      have hio := insOf_ok s next hs (by omega)
      have h6 := insOf_n6 s next
      have h20 := liftF_len (xiOf (insOf s next) next count) l.length
      have ho' : OkL ((count + 1 : Nat) : Int) l := ho.mono (by omega)
      by_cases he : endsF (insOf s next).op = true
      · rw [if_pos he]
        obtain ⟨r, o, e1, e2, e3, e4⟩ := lift_end ((count + 1 : Nat) : Int) l l.length rfl _ (xgood hio next count _ (by omega)) he
        refine ⟨by show count + 1 ≤ 64; omega, by show bytes + _ ≤ 6 * (count + 1); omega, by show (l ++ _).length ≤ 20 * (count + 1) + 1; rw [List.length_append]; omega, l ++ r, o, by show l ++ liftF _ _ = _; rw [e1, List.append_assoc], ?_, e3, e4⟩
        have := okL_app r [] (by rw [List.append_nil]; exact ho') e2
        rw [List.append_nil] at this
        exact this
      · rw [if_neg he]
        have h1 := okL_app (liftF (xiOf (insOf s next) next count) l.length) [] (by rw [List.append_nil]; exact ho') (lift_mid ((count + 1 : Nat) : Int) l l.length rfl _ (xgood hio next count _ (by omega)) (show endsF (insOf s next).op = false by simpa using he))
        rw [List.append_nil] at h1
        exact blk_good s hs pc hA f _ (count + 1) _ _ (Nat.mod_lt _ (by decide)) (by omega) (by omega) (by rw [List.length_append]; omega) h1
theorem gvn_eq (l : List OpR) (i : Nat) (hi : i ≤ l.length) (t : Int) : gvn (fun j => l.getD j opD) i t = gvL (l.take i) t := by
  unfold gvn gvL
  rw [List.length_take, Nat.min_eq_left hi]
  by_cases h : 0 ≤ t ∧ t < i
  · have h1 : t.toNat < i := by omega
    rw [decide_eq_true h]
    simp only [Bool.true_and]
    rw [List.getD_eq_getElem?_getD, List.getD_eq_getElem?_getD, List.getElem?_take_of_lt h1]
    rfl
  · rw [decide_eq_false h]; rfl
theorem tk_eq (l : List OpR) (i : Nat) (hi : i ≤ l.length) (x : FL) (o : OpR) : takenBad x o (fun j => l.getD j opD) i = tkL x o (l.take i) := by
  unfold takenBad tk tkL
  rw [gvn_eq l i hi, gvn_eq l i hi, gvn_eq l i hi]
  rfl
theorem scanL_ok (count : Int) (n : Nat) (f : Nat → OpR) (h : ∀ i, i < n → opErr count n f i = 0) : ∀ (m j : Nat), m + j = n → scan count n f m j = endR n f
  | 0, j, _ => rfl
  | m + 1, j, hj => by
    unfold scan
    rw [if_pos (h j (by omega))]
    exact scanL_ok count n f h m (j + 1) (by omega)
theorem opErr_ok {count : Int} {n : Nat} {l : List OpR} {i : Nat} {o : OpR} (ho : l[i]? = some o) (h : StO count (l.take i) o) (he : (rr o.kind).ends = false ∨ i + 1 = n) : opErr count n (fun j => l.getD j opD) i = 0 := by
  have hl := lt_some ho
  have e1 : l.getD i opD = o := by rw [List.getD_eq_getElem?_getD, ho]; rfl
  unfold opErr
  simp only [e1]
  rw [tk_eq l i (by omega), h.e, h.f, h.t]
  simp only [Bool.false_eq_true, if_false]
  rcases he with he | he
  · rw [he]; simp
  · simp [he]
theorem check_blk {R : BR} (h : BGood R) : checkF R.count R.bytes R.l.length (fun i => R.l.getD i opD) = (0, 0) := by
  obtain ⟨r, o, e1, e2, e3, e4⟩ := h.ex
  have h1 := h.c64
  have h2 := h.by'
  have h3 := h.ln
  have hlen : R.l.length = r.length + 1 := by rw [e1]; simp
  unfold checkF
  rw [if_neg (by omega), if_pos (by omega)]
  have hlast : R.l[r.length]? = some o := by rw [e1, List.getElem?_append_right (Nat.le_refl _), Nat.sub_self]; rfl
  rw [scanL_ok _ R.l.length _ (fun i hi => ?_) R.l.length 0 rfl]
  · unfold endR
    have e5 : R.l.getD (R.l.length - 1) opD = o := by rw [List.getD_eq_getElem?_getD, hlen, Nat.add_sub_cancel, hlast]; rfl
    rw [if_neg (show ¬(R.l.length = 0 ∨ (rr (R.l.getD (R.l.length - 1) opD).kind).ends = false) by rw [e5, e4, hlen]; simp)]
  · by_cases hi2 : i < r.length
    · obtain ⟨o', ho'⟩ : ∃ o', r[i]? = some o' := ⟨r[i], List.getElem?_eq_getElem hi2⟩
      have h4 := e2 i o' ho'
      have ho2 : R.l[i]? = some o' := by rw [e1, List.getElem?_append_left hi2]; exact ho'
      refine opErr_ok ho2 ?_ (Or.inl h4.2)
      rw [e1, List.take_append_of_le_length (by omega)]
      exact h4.1
    · have e6 : i = r.length := by omega
      subst e6
      refine opErr_ok hlast ?_ (Or.inr (by omega))
      rw [e1, List.take_append_of_le_length (Nat.le_refl _), List.take_length]
      exact e3
structure LnR where
  n : Nat
  size : Nat
  k : Int
  a : Int
def lenF (s : MS) (pc : Nat) : Nat → Nat → Nat → LnR
  | 0, n, size => ⟨n, size, 0, 0⟩
  | f + 1, n, size =>
    if (insOf s ((pc + size) % 4294967296)).k ≠ 0 then
      if n = 0 then ⟨0, 0, (insOf s ((pc + size) % 4294967296)).k, (insOf s ((pc + size) % 4294967296)).a⟩ else ⟨n, size, 0, 0⟩
    else if endsF (insOf s ((pc + size) % 4294967296)).op = true then ⟨n + 1, size + (insOf s ((pc + size) % 4294967296)).n, 0, 0⟩
    else lenF s pc f (n + 1) (size + (insOf s ((pc + size) % 4294967296)).n)
theorem blk_len (s : MS) (pc : Nat) : ∀ (f next count bytes : Nat) (l : List OpR), next = (pc + bytes) % 4294967296 → bytes ≤ 6 * count → (blkF s pc f next count bytes l).count = (lenF s pc f count bytes).n ∧ (blkF s pc f next count bytes l).bytes = (lenF s pc f count bytes).size
  | 0, next, count, bytes, l, hn, hb => ⟨rfl, rfl⟩
  | f + 1, next, count, bytes, l, hn, hb => by
    rw [blkF, lenF, ← hn]
    by_cases hk : (insOf s next).k ≠ 0
    · rw [if_pos hk, if_pos hk]
      by_cases hc : count = 0
      · rw [if_pos hc, if_pos hc]
        exact ⟨hc, by show bytes = 0; omega⟩
      · rw [if_neg hc, if_neg hc]
        exact ⟨rfl, rfl⟩
    · rw [if_neg hk, if_neg hk]
      by_cases he : endsF (insOf s next).op = true
      · rw [if_pos he, if_pos he]
        exact ⟨rfl, rfl⟩
      · rw [if_neg he, if_neg he]
        have := insOf_n6 s next
        exact blk_len s pc f _ (count + 1) (bytes + (insOf s next).n) _ (by rw [hn, Nat.mod_add_mod, Nat.add_assoc]) (by omega)
theorem len_ge (s : MS) (pc : Nat) : ∀ (f n size : Nat), n ≤ (lenF s pc f n size).n ∨ n = 0
  | 0, n, size => Or.inl (Nat.le_refl _)
  | f + 1, n, size => by
    by_cases h0 : n = 0
    · exact Or.inr h0
    rw [lenF]
    refine Or.inl ?_
    split
    · exact Nat.le_refl _
    · split
      · exact Nat.le_succ _
      · rcases len_ge s pc f (n + 1) (size + (insOf s ((pc + size) % 4294967296)).n) with h | h
        · omega
        · omega
theorem blk_zero (s : MS) (pc f : Nat) (hpc : pc < 4294967296) (h : (blkF s pc (f + 1) pc 0 0 []).count = 0) : (insOf s pc).k ≠ 0 ∧ (blkF s pc (f + 1) pc 0 0 []).l = [⟨14, (insOf s pc).k, 0, (insOf s pc).a, 0, pc, 0⟩] ∧ lenF s pc (f + 1) 0 0 = ⟨0, 0, (insOf s pc).k, (insOf s pc).a⟩ := by
  have e0 : (pc + 0) % 4294967296 = pc := Nat.mod_eq_of_lt hpc
  by_cases hk : (insOf s pc).k ≠ 0
  · rw [blkF, lenF, e0, if_pos hk, if_pos hk, if_pos rfl, if_pos rfl]
    exact ⟨hk, rfl, rfl⟩
  · exfalso
    rw [blkF, if_neg hk] at h
    by_cases he : endsF (insOf s pc).op = true
    · rw [if_pos he] at h
      exact absurd h (Nat.succ_ne_zero _)
    · rw [if_neg he] at h
      have h6 := insOf_n6 s pc
      rw [(blk_len s pc f _ 1 _ _ (by omega) (by omega)).1] at h
      rcases len_ge s pc f 1 (0 + (insOf s pc).n) with g | g
      · omega
      · omega
end Go.Proofs.Ytjmffijdojeghaa
