import Derived.Test.YtkgbjpdoigdjnaaProg
import Derived.WalkKit
import Derived.WalkSpells
import Derived.WalkLawsBesides
import Derived.Deep.QuietTactic
import Derived.BigQuiet
import Derived.KernelRfl
import Derived.Laws.Tables
import Derived.Deep.WholeRow
import Derived.Deep.LoopGhost
import Derived.BigRegion
import Derived.LoopN
import Derived.Laws.BitsAllLaws
import Derived.ChangeKeysEq
import Derived.Deep.RegionHeld3
import Derived.Deep.CutBlock
import Derived.Below
import Derived.OwnWalk
import Derived.Deep.AppendLies
set_option linter.unusedVariables false
set_option linter.unusedSimpArgs false
set_option maxHeartbeats 1000000
namespace Go.Proofs.Ytkgbjpdoigdjnaa.Gu
open Go.RowKit
def c1_pureB (P : Program) (o : Oper) (a : Act) : Option Act :=
 match o.guard, o.op with
 | none, .build t parts => (P.built t (parts.map fun (i, x) => (i, a.eval x)).toList).map fun cs => a.put o.dst (.agg cs)
 | _, _ => none
def c1_pureN (P : Program) : Nat → List Oper → Act → Option Act
 | 0, _, a => some a
 | n + 1, o :: r, a => (c1_pureB P o a).bind (c1_pureN P n r)
 | _ + 1, [], _ => none
theorem c1_wpList_build_as {P : Program} {ops : Array Oper} {rest : List Oper} {o : Oper} {a : Act} {w : World} {Q : Exit → Act → World → Prop} (hg : o.guard = none) (t : TypeId) (parts : Array (Nat × Operand)) (ho : o.op = .build t parts) (cells : Array Value)
  (hc : P.built t (parts.map fun (i, x) => (i, a.eval x)).toList = some cells)
  (h : wpList P ops Q rest (a.put o.dst (.agg cells)) w) : wpList P ops Q (o :: rest) a w :=
 wpList_build hg t parts ho (by rw [hc]; rfl) (by rw [hc]; exact h)
theorem c1_wpList_pureN {P : Program} {ops : Array Oper} {w : World} {Q : Exit → Act → World → Prop} : ∀ (n : Nat) (l : List Oper) (a a' : Act), c1_pureN P n l a = some a' →
  wpList P ops Q (l.drop n) a' w → wpList P ops Q l a w
 | 0, _, _, _, h, k => by simp only [c1_pureN, Option.some.injEq] at h; subst h; exact k
 | n + 1, [], _, _, h, _ => by simp [c1_pureN] at h
 | n + 1, o :: r, a, a', h, k => by
  simp only [c1_pureN] at h
  cases hb : c1_pureB P o a with
  | none => simp [hb] at h
  | some a1 =>
   simp only [hb, Option.bind_some] at h
   unfold c1_pureB at hb
   split at hb
   ·rename_i t parts hg ho
    simp only [Option.map_eq_some_iff] at hb
    obtain ⟨cs, hcs, rfl⟩ := hb
    exact c1_wpList_build_as hg t parts ho cs hcs (c1_wpList_pureN n r _ a' h (by simpa using k))
   ·simp at hb
theorem c1_wpList_pureAt {P : Program} {ops : Array Oper} {w : World} {Q : Exit → Act → World → Prop} (d n : Nat) (o : Oper) (l : List Oper) (a a' : Act) (_hd : o.dst = some d) (h : c1_pureN P n (o :: l) a = some a')
  (k : wpList P ops Q ((o :: l).drop n) a' w) : wpList P ops Q (o :: l) a w := c1_wpList_pureN n (o :: l) a a' h k
theorem c1_wpList_alloc_as {P : Program} {ops : Array Oper} {rest : List Oper} {o : Oper} {a : Act} {w : World} {Q : Exit → Act → World → Prop} (hg : o.guard = none) (t : TypeId) (ho : o.op = .alloc t) (cs : Array Value) (hz : ∀ w, (zeroValue t).run P w = .ok (.agg cs) w) (H : Nat) (hH : w.heap.size = H)
  (h : wpList P ops Q rest (a.put o.dst (.pointer (some ⟨H, 0, none⟩))) (w.alloc (.cells cs t))) : wpList P ops Q (o :: rest) a w := by
 subst hH
 refine wpList_plain hg fun _ hK => ?_
 unfold Oper.wp execOp
 simp [ho, hz, Instr.alloc, go_sem]
 exact hK _ _ h
theorem c1_wpList_buildSlice_as {P : Program} {ops : Array Oper} {rest : List Oper} {o : Oper} {a : Act} {w : World} {Q : Exit → Act → World → Prop} (hg : o.guard = none) (t : TypeId) (len : Nat) (parts : Array (Nat × Operand)) (ho : o.op = .buildSlice t len parts) (v : Value) (w' : World)
  (hr : (Instr.buildSlice t len (parts.map fun (i, x) => (i, a.eval x))).run P w = .ok v w')
  (h : wpList P ops Q rest (a.put o.dst v) w') : wpList P ops Q (o :: rest) a w := by
 refine wpList_plain hg fun _ hK => ?_
 unfold Oper.wp execOp
 simp only [ho, Sem.run_bind, hr, Result.andThen_ok, Sem.run_pure]
 exact hK _ _ h
end Go.Proofs.Ytkgbjpdoigdjnaa.Gu
namespace Go.Proofs.Ytkgbjpdoigdjnaa
open Go.RowKit
set_option maxRecDepth 100000
theorem al_old (w : World) (o : Obj) (b : Nat) (h : b < w.heap.size) : (w.alloc o).heap[b]? = w.heap[b]? := ((Below.refl w.heap.size w).alloc (Nat.le_refl _) o).block b h
theorem al_size (w : World) (o : Obj) : (w.alloc o).heap.size = w.heap.size + 1 := by simp
theorem al2 (w : World) (o1 o2 : Obj) : ((w.alloc o1).alloc o2).heap[w.heap.size]? = some o1 ∧ ((w.alloc o1).alloc o2).heap[w.heap.size + 1]? = some o2 := by
 refine ⟨(al_old _ o2 _ (by simp)).trans (heap_alloc_last w o1), ?_⟩
 have := heap_alloc_last (w.alloc o1) o2
 rwa [al_size] at this
theorem al3 (w : World) (o1 o2 o3 : Obj) : (((w.alloc o1).alloc o2).alloc o3).heap[w.heap.size]? = some o1 ∧ (((w.alloc o1).alloc o2).alloc o3).heap[w.heap.size + 1]? = some o2 ∧ (((w.alloc o1).alloc o2).alloc o3).heap[w.heap.size + 1 + 1]? = some o3 := by
 have h := al2 w o1 o2
 refine ⟨(al_old _ o3 _ (by simp; omega)).trans h.1, (al_old _ o3 _ (by simp)).trans h.2, ?_⟩
 have := heap_alloc_last ((w.alloc o1).alloc o2) o3
 rwa [al_size, al_size] at this
theorem wpList_ix {P : Program} {w : World} {ops : Array Oper} {rest : List Oper} {o : Oper} {a : Act} {Q : Exit → Act → World → Prop} (hg : o.guard = none) (t : TypeId) (x i : Operand) (ho : o.op = .index t x i)
  (xv iv v : Value) (hx : a.eval x = xv) (hi : a.eval i = iv) (hr : ∀ w, (Instr.index t xv iv).run P w = .ok v w) (h : wpList P ops Q rest (a.put o.dst v) w) : wpList P ops Q (o :: rest) a w := by
 refine wpList_plain hg fun K hK => ?_
 unfold Oper.wp
 simp only [execOp, ho, hx, hi, Sem.run_bind, hr, Result.andThen_ok, Sem.run_pure]
 exact hK _ _ h
theorem row_cell {w : World} {X : Nat} {A : Array Value} {T : TypeId} (h : w.heap[X]? = some (.cells A T)) (o : Nat) : w.cell? ⟨X, o, none⟩ = A[o]? := cell_of_row _ _ o _ _ (0, 0) h
theorem row_fr {w : World} {X : Nat} {A : Array Value} {T : TypeId} (h : w.heap[X]? = some (.cells A T)) (o : Nat) : w.frozen? ⟨X, o, none⟩ = false := frozen_of_row _ _ o _ _ h
theorem row_lt {w : World} {X : Nat} {A : Array Value} {T : TypeId} (h : w.heap[X]? = some (.cells A T)) : X < w.heap.size := by
 rcases Nat.lt_or_ge X w.heap.size with g | g
 ·exact g
 ·rw [Array.getElem?_eq_none g] at h; cases h
theorem c1_cell_setOther {w : World} {X Y o : Nat} (v : Value) (h : Y ≠ X) (o' : Nat) : (w.setCell ⟨X, o, none⟩ v).cell? ⟨Y, o', none⟩ = w.cell? ⟨Y, o', none⟩ :=
 World.cell?_setCell_other _ _ _ _ (by intro e; cases e; exact h rfl)
structure OpR where
 kind : Int
 w : Int
 a : Int
 b : Int
 c : Int
 k : Nat
 n : Int
abbrev opA (o : OpR) : Array Value := #[.int .i64 o.kind, .int .i64 o.w, .int .i64 o.a, .int .i64 o.b, .int .i64 o.c, .int .u32 o.k, .int .i64 o.n]
structure RR where
 lo : Int
 hi : Int
 m : Int
 gives : Bool
 ends : Bool
def rrT (k : Nat) : RR :=
 match k with
 | 1 => ⟨0, 0, 8, true, false⟩
 | 2 => ⟨0, 11, 0, true, false⟩
 | 3 => ⟨0, 11, 1, false, false⟩
 | 4 => ⟨0, 15, 3, true, false⟩
 | 5 => ⟨0, 6, 1, true, false⟩
 | 6 => ⟨0, 0, 7, true, false⟩
 | 7 => ⟨0, 12, 7, true, false⟩
 | 8 => ⟨0, 15, 1, true, false⟩
 | 9 => ⟨0, 4, 25, true, false⟩
 | 10 => ⟨0, 2, 27, false, false⟩
 | 11 => ⟨0, 0, 24, false, false⟩
 | 12 => ⟨0, 0, 25, false, false⟩
 | 13 => ⟨1, 7, 25, false, false⟩
 | 14 => ⟨1, 7, 56, false, true⟩
 | 15 => ⟨0, 0, 24, false, true⟩
 | 16 => ⟨0, 0, 17, false, true⟩
 | 17 => ⟨0, 0, 0, true, false⟩
 | _ => ⟨0, 0, 0, false, false⟩
def isK (kind : Int) : Bool := decide (1 ≤ kind) && decide (kind ≤ 17)
def rr (kind : Int) : RR := rrT kind.toNat
theorem rr_no (kind : Int) (h : ¬ (1 ≤ kind ∧ kind ≤ 17)) : rr kind = ⟨0, 0, 0, false, false⟩ := by
 unfold rr rrT
 split <;> first | rfl | (exfalso; omega)
theorem within_any (n m : Int) (w : World) : Calls Try.prog 99 #[.int .i64 n, .int .i64 m] w fun e w' => e = .returned (.bool (decide (0 ≤ n ∧ n ≤ m))) ∧ w = w' := by
 by_cases h0 : 0 ≤ n
 ·by_cases h1 : n ≤ m
  ·have d : decide (0 ≤ n ∧ n ≤ m) = true := decide_eq_true ⟨h0, h1⟩
   have d1 : decide (n ≤ m) = true := decide_eq_true h1
   have d0 : decide (0 ≤ n) = true := decide_eq_true h0
   rw [d]
   go_enter Try.func99, Try.ntmps99; go_wp2; go_ret; exact ⟨rfl, rfl⟩
  ·have d : decide (0 ≤ n ∧ n ≤ m) = false := decide_eq_false (fun h => h1 h.2)
   have d1 : decide (n ≤ m) = false := decide_eq_false h1
   have d0 : decide (0 ≤ n) = true := decide_eq_true h0
   rw [d]
   clear d
   go_enter Try.func99, Try.ntmps99; go_wp2; go_ret; exact ⟨rfl, rfl⟩
 ·have d : decide (0 ≤ n ∧ n ≤ m) = false := decide_eq_false (fun h => h0 h.1)
  have d0 : decide (0 ≤ n) = false := decide_eq_false h0
  rw [d]
  clear d
  go_enter Try.func99, Try.ntmps99; go_wp2; go_ret; exact ⟨rfl, rfl⟩
def rfin (kind : Int) : Bool := decide (14 ≤ kind ∧ kind ≤ 16)
theorem final_any (n : Int) (w : World) : Calls Try.prog 105 #[.int .i64 n] w fun e w' => e = .returned (.bool (rfin n)) ∧ w = w' := by
 by_cases h0 : 14 ≤ n
 ·have d0 : decide (14 ≤ n) = true := decide_eq_true h0
  by_cases h1 : n ≤ 16
  ·have d1 : decide (n ≤ 16) = true := decide_eq_true h1
   rw [show rfin n = true by simp [rfin, h0, h1]]
   go_enter Try.func105, Try.ntmps105; go_wp2; go_ret; exact ⟨rfl, rfl⟩
  ·have d1 : decide (n ≤ 16) = false := decide_eq_false h1
   rw [show rfin n = false by simp [rfin, h1]]
   go_enter Try.func105, Try.ntmps105; go_wp2; go_ret; exact ⟨rfl, rfl⟩
 ·have d0 : decide (14 ≤ n) = false := decide_eq_false h0
  rw [show rfin n = false by simp [rfin, h0]]
  go_enter Try.func105, Try.ntmps105; go_wp2; go_ret; exact ⟨rfl, rfl⟩
def rgiv (kind : Int) : Bool := decide ((1 ≤ kind ∧ kind ≤ 9 ∧ kind ≠ 3) ∨ kind = 17)
theorem rgives_any (n : Int) (w : World) : Calls Try.prog 45 #[.int .i64 n] w fun e w' => e = .returned (.bool (rgiv n)) ∧ w = w' := by
 by_cases h0 : 1 ≤ n
 ·have d0 : decide (1 ≤ n) = true := decide_eq_true h0
  by_cases h1 : n ≤ 9
  ·have d1 : decide (n ≤ 9) = true := decide_eq_true h1
   by_cases h3 : n = 3
   ·subst h3
    rw [show rgiv 3 = false by decide]
    clear d0 d1 h0 h1
    go_enter Try.func45, Try.ntmps45; go_wp2; go_ret; exact ⟨rfl, rfl⟩
   ·have d3 : (n != 3) = true := by simpa using h3
    rw [show rgiv n = true by simp [rgiv, h0, h1, h3]]
    go_enter Try.func45, Try.ntmps45; go_wp2; go_ret; exact ⟨rfl, rfl⟩
  ·have d1 : decide (n ≤ 9) = false := decide_eq_false h1
   by_cases h3 : n = 17
   ·subst h3
    rw [show rgiv 17 = true by decide]
    clear d0 d1 h0 h1
    go_enter Try.func45, Try.ntmps45; go_wp2; go_ret; exact ⟨rfl, rfl⟩
   ·have d3 : (n == 17) = false := by simpa using h3
    rw [show rgiv n = false by simp [rgiv, h1, h3]]
    go_enter Try.func45, Try.ntmps45; go_wp2; go_ret; exact ⟨rfl, rfl⟩
 ·have d0 : decide (1 ≤ n) = false := decide_eq_false h0
  have d3 : (n == 17) = false := by simp; omega
  rw [show rgiv n = false by simp [rgiv, h0]; omega]
  go_enter Try.func45, Try.ntmps45; go_wp2; go_ret; exact ⟨rfl, rfl⟩
theorem setRow_alloc2 (w : World) (o1 : Obj) (Z C : Array Value) (T : TypeId) : ((w.alloc o1).alloc (.cells Z T)).setRow (w.heap.size + 1) C = (w.alloc o1).alloc (.cells C T) := by
 have := World.setRow_alloc_new (w.alloc o1) Z C T
 rwa [al_size] at this
theorem giv_eq (k : Int) : rgiv k = (rr k).gives := by
 by_cases h : 1 ≤ k ∧ k ≤ 17
 ·obtain ⟨n, rfl⟩ : ∃ n : Nat, k = n := ⟨k.toNat, by omega⟩
  have h1 : 1 ≤ n := by omega
  have h2 : n ≤ 17 := by omega
  match n, h1, h2 with
  | 1, _, _ | 2, _, _ | 3, _, _ | 4, _, _ | 5, _, _ | 6, _, _ | 7, _, _ | 8, _, _ | 9, _, _ | 10, _, _ | 11, _, _ | 12, _, _ | 13, _, _ | 14, _, _ | 15, _, _ | 16, _, _ | 17, _, _ => decide
  | n + 18, _, h => exact absurd h (by omega)
 ·rw [rr_no k h]
  exact decide_eq_false (by omega)
theorem fin_eq (k : Int) : rfin k = (rr k).ends := by
 by_cases h : 1 ≤ k ∧ k ≤ 17
 ·obtain ⟨n, rfl⟩ : ∃ n : Nat, k = n := ⟨k.toNat, by omega⟩
  have h1 : 1 ≤ n := by omega
  have h2 : n ≤ 17 := by omega
  match n, h1, h2 with
  | 1, _, _ | 2, _, _ | 3, _, _ | 4, _, _ | 5, _, _ | 6, _, _ | 7, _, _ | 8, _, _ | 9, _, _ | 10, _, _ | 11, _, _ | 12, _, _ | 13, _, _ | 14, _, _ | 15, _, _ | 16, _, _ | 17, _, _ => decide
  | n + 18, _, h => exact absurd h (by omega)
 ·rw [rr_no k h]
  exact decide_eq_false (by omega)
def neL : List Value := [.int .i64 0, .int .i64 0, .string { data := #[] }, .int .i64 0, .int .i64 1, .string { data := #[107] }, .int .i64 0, .int .i64 12, .string { data := #[] }, .int .i64 0, .int .i64 12, .string { data := #[97] }, .int .i64 0, .int .i64 16, .string { data := #[97, 98] }, .int .i64 0, .int .i64 7, .string { data := #[97] }, .int .i64 0, .int .i64 1, .string { data := #[97, 98, 99] }, .int .i64 0, .int .i64 13, .string { data := #[97, 98, 99] }, .int .i64 0, .int .i64 16, .string { data := #[97] }, .int .i64 0, .int .i64 5, .string { data := #[97, 107, 110] }, .int .i64 0, .int .i64 3, .string { data := #[97, 98, 107, 110] }, .int .i64 0, .int .i64 1, .string { data := #[107, 110] }, .int .i64 0, .int .i64 1, .string { data := #[97, 107, 110] }, .int .i64 1, .int .i64 7, .string { data := #[97, 107, 110] }, .int .i64 1, .int .i64 7, .string { data := #[103, 107, 110] }, .int .i64 0, .int .i64 1, .string { data := #[107, 110] }, .int .i64 0, .int .i64 1, .string { data := #[97, 110] }, .int .i64 0, .int .i64 1, .string { data := #[] }]
def neC : Array Value := neL.toArray
structure NN where
 fr : Int
 so : Int
 s : ByteArray
abbrev nnA (x : NN) : Array Value := #[.int .i64 x.fr, .int .i64 x.so, .string x.s]
abbrev nnV (x : NN) : Value := .agg (nnA x)
def nnT (k : Nat) : NN :=
 match k with
 | 1 => ⟨0, 1, { data := #[107] }⟩
 | 2 => ⟨0, 12, { data := #[] }⟩
 | 3 => ⟨0, 12, { data := #[97] }⟩
 | 4 => ⟨0, 16, { data := #[97, 98] }⟩
 | 5 => ⟨0, 7, { data := #[97] }⟩
 | 6 => ⟨0, 1, { data := #[97, 98, 99] }⟩
 | 7 => ⟨0, 13, { data := #[97, 98, 99] }⟩
 | 8 => ⟨0, 16, { data := #[97] }⟩
 | 9 => ⟨0, 5, { data := #[97, 107, 110] }⟩
 | 10 => ⟨0, 3, { data := #[97, 98, 107, 110] }⟩
 | 11 => ⟨0, 1, { data := #[107, 110] }⟩
 | 12 => ⟨0, 1, { data := #[97, 107, 110] }⟩
 | 13 => ⟨1, 7, { data := #[97, 107, 110] }⟩
 | 14 => ⟨1, 7, { data := #[103, 107, 110] }⟩
 | 15 => ⟨0, 1, { data := #[107, 110] }⟩
 | 16 => ⟨0, 1, { data := #[97, 110] }⟩
 | 17 => ⟨0, 1, { data := #[] }⟩
 | _ => ⟨0, 0, { data := #[] }⟩
theorem ne_at (k : Nat) (h1 : 1 ≤ k) (h2 : k ≤ 17) : neC[k * 3]? = some (.int .i64 (nnT k).fr) ∧ neC[k * 3 + 1]? = some (.int .i64 (nnT k).so) ∧ neC[k * 3 + 2]? = some (.string (nnT k).s) := by
 match k, h1, h2 with
 | 1, _, _ | 2, _, _ | 3, _, _ | 4, _, _ | 5, _, _ | 6, _, _ | 7, _, _ | 8, _, _ | 9, _, _ | 10, _, _ | 11, _, _ | 12, _, _ | 13, _, _ | 14, _, _ | 15, _, _ | 16, _, _ | 17, _, _ => exact ⟨by kernel_rfl, by kernel_rfl, by kernel_rfl⟩
 | n + 18, _, h => exact absurd h (by omega)
theorem needs_yes (k : Nat) (w : World) (h1 : 1 ≤ k) (h2 : k ≤ 17) : Calls Try.prog 102 #[.int .i64 k] w fun e w' => e = .returned (.tuple #[nnV (nnT k), .bool true]) ∧ Below w.heap.size w w' := by
 obtain ⟨c0, c1, c2⟩ := ne_at k h1 h2
 have k0 : (0 : Int) ≤ k := by omega
 have k18 : (k : Int) < 18 := by omega
 have d0 : decide ((k : Int) < 1) = false := decide_eq_false (by omega)
 have d1 : decide (18 ≤ (k : Int)) = false := decide_eq_false (by omega)
 clear h1 h2
 go_enter Try.func102, Try.ntmps102
 go_upto_region 2 with (first
  | (refine Gu.c1_wpList_pureAt 5 18 _ _ _ ⟨#[.int .i64 k, undef, .pointer (some ⟨w.heap.size, 0, none⟩), .bool false, undef, .agg #[.int .i64 0, .int .i64 0, .string { data := #[] }], .agg #[.int .i64 0, .int .i64 1, .string { data := #[107] }], .agg #[.int .i64 0, .int .i64 12, .string { data := #[] }], .agg #[.int .i64 0, .int .i64 12, .string { data := #[97] }], .agg #[.int .i64 0, .int .i64 16, .string { data := #[97, 98] }], .agg #[.int .i64 0, .int .i64 7, .string { data := #[97] }], .agg #[.int .i64 0, .int .i64 1, .string { data := #[97, 98, 99] }], .agg #[.int .i64 0, .int .i64 13, .string { data := #[97, 98, 99] }], .agg #[.int .i64 0, .int .i64 16, .string { data := #[97] }], .agg #[.int .i64 0, .int .i64 5, .string { data := #[97, 107, 110] }], .agg #[.int .i64 0, .int .i64 3, .string { data := #[97, 98, 107, 110] }], .agg #[.int .i64 0, .int .i64 1, .string { data := #[107, 110] }], .agg #[.int .i64 0, .int .i64 1, .string { data := #[97, 107, 110] }], .agg #[.int .i64 1, .int .i64 7, .string { data := #[97, 107, 110] }], .agg #[.int .i64 1, .int .i64 7, .string { data := #[103, 107, 110] }], .agg #[.int .i64 0, .int .i64 1, .string { data := #[107, 110] }], .agg #[.int .i64 0, .int .i64 1, .string { data := #[97, 110] }], .agg #[.int .i64 0, .int .i64 1, .string { data := #[] }], undef, undef, undef, undef, undef, undef, undef, undef, undef, undef, undef, undef, undef, undef], []⟩ rfl (by kernel_rfl) ?_; simp only [List.drop_succ_cons, List.drop_zero])
  | (refine Gu.c1_wpList_buildSlice_as rfl 205 18 _ rfl (.slice (some ⟨(w.alloc (.cells #[.int .i64 0, .int .i64 0, .string { data := #[] }] 165)).heap.size, 0, none⟩) 18 18) ((w.alloc (.cells #[.int .i64 0, .int .i64 0, .string { data := #[] }] 165)).alloc (.cells neC 165)) (by kernel_rfl) ?_; rw [al_size]))
 go_wp2
 exact bodyPost_ret (v := .tuple #[nnV (nnT k), .bool true]) (by simp [results, Try.results102, go_sem]) rfl ⟨rfl, by (repeat first | with_reducible exact Below.refl _ _ | with_reducible exact hB | with_reducible refine Below.drew ?_ | with_reducible refine Below.alloc ?_ (by first | (simp; done) | (simp; omega) | omega) _ | with_reducible refine Below.setCell ?_ (by first | (simp; done) | (simp; omega) | omega) _)⟩
theorem needs_no (k : Int) (w : World) (h : ¬ (1 ≤ k ∧ k ≤ 17)) : Calls Try.prog 102 #[.int .i64 k] w fun e w' => e = .returned (.tuple #[.agg #[.int .i64 0, .int .i64 0, .string { data := #[] }], .bool false]) ∧ Below w.heap.size w w' := by
 by_cases h1 : k < 1
 ·have d0 : decide (k < 1) = true := decide_eq_true h1
  clear h
  go_enter Try.func102, Try.ntmps102
  go_upto_region 2 with (first
   | (refine Gu.c1_wpList_pureAt 5 18 _ _ _ ⟨#[.int .i64 k, undef, .pointer (some ⟨w.heap.size, 0, none⟩), .bool false, undef, .agg #[.int .i64 0, .int .i64 0, .string { data := #[] }], .agg #[.int .i64 0, .int .i64 1, .string { data := #[107] }], .agg #[.int .i64 0, .int .i64 12, .string { data := #[] }], .agg #[.int .i64 0, .int .i64 12, .string { data := #[97] }], .agg #[.int .i64 0, .int .i64 16, .string { data := #[97, 98] }], .agg #[.int .i64 0, .int .i64 7, .string { data := #[97] }], .agg #[.int .i64 0, .int .i64 1, .string { data := #[97, 98, 99] }], .agg #[.int .i64 0, .int .i64 13, .string { data := #[97, 98, 99] }], .agg #[.int .i64 0, .int .i64 16, .string { data := #[97] }], .agg #[.int .i64 0, .int .i64 5, .string { data := #[97, 107, 110] }], .agg #[.int .i64 0, .int .i64 3, .string { data := #[97, 98, 107, 110] }], .agg #[.int .i64 0, .int .i64 1, .string { data := #[107, 110] }], .agg #[.int .i64 0, .int .i64 1, .string { data := #[97, 107, 110] }], .agg #[.int .i64 1, .int .i64 7, .string { data := #[97, 107, 110] }], .agg #[.int .i64 1, .int .i64 7, .string { data := #[103, 107, 110] }], .agg #[.int .i64 0, .int .i64 1, .string { data := #[107, 110] }], .agg #[.int .i64 0, .int .i64 1, .string { data := #[97, 110] }], .agg #[.int .i64 0, .int .i64 1, .string { data := #[] }], undef, undef, undef, undef, undef, undef, undef, undef, undef, undef, undef, undef, undef, undef], []⟩ rfl (by kernel_rfl) ?_; simp only [List.drop_succ_cons, List.drop_zero])
   | (refine Gu.c1_wpList_buildSlice_as rfl 205 18 _ rfl (.slice (some ⟨(w.alloc (.cells #[.int .i64 0, .int .i64 0, .string { data := #[] }] 165)).heap.size, 0, none⟩) 18 18) ((w.alloc (.cells #[.int .i64 0, .int .i64 0, .string { data := #[] }] 165)).alloc (.cells neC 165)) (by kernel_rfl) ?_; rw [al_size]))
  go_wp2
  exact bodyPost_ret (v := .tuple #[.agg #[.int .i64 0, .int .i64 0, .string { data := #[] }], .bool false]) (by simp [results, Try.results102, go_sem]) rfl ⟨rfl, by (repeat first | with_reducible exact Below.refl _ _ | with_reducible exact hB | with_reducible refine Below.drew ?_ | with_reducible refine Below.alloc ?_ (by first | (simp; done) | (simp; omega) | omega) _ | with_reducible refine Below.setCell ?_ (by first | (simp; done) | (simp; omega) | omega) _)⟩
 ·have d0 : decide (k < 1) = false := decide_eq_false h1
  have d1 : decide (18 ≤ k) = true := decide_eq_true (by omega)
  clear h
  go_enter Try.func102, Try.ntmps102
  go_upto_region 2 with (first
   | (refine Gu.c1_wpList_pureAt 5 18 _ _ _ ⟨#[.int .i64 k, undef, .pointer (some ⟨w.heap.size, 0, none⟩), .bool false, undef, .agg #[.int .i64 0, .int .i64 0, .string { data := #[] }], .agg #[.int .i64 0, .int .i64 1, .string { data := #[107] }], .agg #[.int .i64 0, .int .i64 12, .string { data := #[] }], .agg #[.int .i64 0, .int .i64 12, .string { data := #[97] }], .agg #[.int .i64 0, .int .i64 16, .string { data := #[97, 98] }], .agg #[.int .i64 0, .int .i64 7, .string { data := #[97] }], .agg #[.int .i64 0, .int .i64 1, .string { data := #[97, 98, 99] }], .agg #[.int .i64 0, .int .i64 13, .string { data := #[97, 98, 99] }], .agg #[.int .i64 0, .int .i64 16, .string { data := #[97] }], .agg #[.int .i64 0, .int .i64 5, .string { data := #[97, 107, 110] }], .agg #[.int .i64 0, .int .i64 3, .string { data := #[97, 98, 107, 110] }], .agg #[.int .i64 0, .int .i64 1, .string { data := #[107, 110] }], .agg #[.int .i64 0, .int .i64 1, .string { data := #[97, 107, 110] }], .agg #[.int .i64 1, .int .i64 7, .string { data := #[97, 107, 110] }], .agg #[.int .i64 1, .int .i64 7, .string { data := #[103, 107, 110] }], .agg #[.int .i64 0, .int .i64 1, .string { data := #[107, 110] }], .agg #[.int .i64 0, .int .i64 1, .string { data := #[97, 110] }], .agg #[.int .i64 0, .int .i64 1, .string { data := #[] }], undef, undef, undef, undef, undef, undef, undef, undef, undef, undef, undef, undef, undef, undef], []⟩ rfl (by kernel_rfl) ?_; simp only [List.drop_succ_cons, List.drop_zero])
   | (refine Gu.c1_wpList_buildSlice_as rfl 205 18 _ rfl (.slice (some ⟨(w.alloc (.cells #[.int .i64 0, .int .i64 0, .string { data := #[] }] 165)).heap.size, 0, none⟩) 18 18) ((w.alloc (.cells #[.int .i64 0, .int .i64 0, .string { data := #[] }] 165)).alloc (.cells neC 165)) (by kernel_rfl) ?_; rw [al_size]))
  go_wp2
  exact bodyPost_ret (v := .tuple #[.agg #[.int .i64 0, .int .i64 0, .string { data := #[] }], .bool false]) (by simp [results, Try.results102, go_sem]) rfl ⟨rfl, by (repeat first | with_reducible exact Below.refl _ _ | with_reducible exact hB | with_reducible refine Below.drew ?_ | with_reducible refine Below.alloc ?_ (by first | (simp; done) | (simp; omega) | omega) _ | with_reducible refine Below.setCell ?_ (by first | (simp; done) | (simp; omega) | omega) _)⟩
structure FL where
 ha : Bool
 hb : Bool
 hc : Bool
 hk : Bool
 hn : Bool
 hg : Bool
def flT (k : Nat) : FL :=
 match k with
 | 1 => ⟨false, false, false, true, false, false⟩
 | 2 => ⟨false, false, false, false, false, false⟩
 | 3 => ⟨true, false, false, false, false, false⟩
 | 4 => ⟨true, true, false, false, false, false⟩
 | 5 => ⟨true, false, false, false, false, false⟩
 | 6 => ⟨true, true, true, false, false, false⟩
 | 7 => ⟨true, true, true, false, false, false⟩
 | 8 => ⟨true, false, false, false, false, false⟩
 | 9 => ⟨true, false, false, true, true, false⟩
 | 10 => ⟨true, true, false, true, true, false⟩
 | 11 => ⟨false, false, false, true, true, false⟩
 | 12 => ⟨true, false, false, true, true, false⟩
 | 13 => ⟨true, false, false, true, true, false⟩
 | 14 => ⟨false, false, false, true, true, true⟩
 | 15 => ⟨false, false, false, true, true, false⟩
 | 16 => ⟨true, false, false, false, true, false⟩
 | 17 => ⟨false, false, false, false, false, false⟩
 | _ => ⟨false, false, false, false, false, false⟩
def bd (x : FL) (o : OpR) : Nat → Bool
 | 0 => (o.a != 0) && !x.ha
 | 1 => (o.b != 0) && !(x.hb || x.hg)
 | 2 => (o.c != 0) && !x.hc
 | 3 => ((o.k : Int) != 0) && !x.hk
 | _ => (o.n != 0) && !x.hn
def bg (x : FL) (o : OpR) : Bool := x.hg && (decide (o.b < 0) || decide (4294967295 < o.b))
def fieldBad (x : FL) (o : OpR) (count : Int) : Bool := bd x o 0 || bd x o 1 || bd x o 2 || bd x o 3 || bd x o 4 || bg x o || !(decide (0 ≤ o.n ∧ o.n ≤ count))
structure OpAt (w : World) (b off : Nat) (o : OpR) : Prop where
 c0 : w.cell? ⟨b, off, none⟩ = some (.int .i64 o.kind)
 c1 : w.cell? ⟨b, off + 1, none⟩ = some (.int .i64 o.w)
 c2 : w.cell? ⟨b, off + 2, none⟩ = some (.int .i64 o.a)
 c3 : w.cell? ⟨b, off + 3, none⟩ = some (.int .i64 o.b)
 c4 : w.cell? ⟨b, off + 4, none⟩ = some (.int .i64 o.c)
 c5 : w.cell? ⟨b, off + 5, none⟩ = some (.int .u32 o.k)
 c6 : w.cell? ⟨b, off + 6, none⟩ = some (.int .i64 o.n)
def OpsR (w : World) (bp : Option Addr) (n : Nat) (f : Nat → OpR) : Prop := 0 < n → ∃ b off, bp = some ⟨b, off, none⟩ ∧ b < w.heap.size ∧ ∀ i, i < n → OpAt w b (off + i * 7) (f i)
theorem OpAt.below {w w' : World} {b off n : Nat} {o : OpR} (h : OpAt w b off o) (k : Below n w w') (hb : b < n) : OpAt w' b off o :=
 ⟨(k.cell (p := ⟨b, off, none⟩) hb).trans h.c0, (k.cell (p := ⟨b, off + 1, none⟩) hb).trans h.c1, (k.cell (p := ⟨b, off + 2, none⟩) hb).trans h.c2, (k.cell (p := ⟨b, off + 3, none⟩) hb).trans h.c3, (k.cell (p := ⟨b, off + 4, none⟩) hb).trans h.c4, (k.cell (p := ⟨b, off + 5, none⟩) hb).trans h.c5, (k.cell (p := ⟨b, off + 6, none⟩) hb).trans h.c6⟩
theorem OpsR.below {w w' : World} {bp : Option Addr} {n m : Nat} {f : Nat → OpR} (h : OpsR w bp n f) (k : Below m w w') (hm : w.heap.size ≤ m) : OpsR w' bp n f := fun h0 => by
 obtain ⟨b, off, e, hb, hc⟩ := h h0
 exact ⟨b, off, e, Nat.lt_of_lt_of_le hb k.size, fun i hi => (hc i hi).below k (by omega)⟩
theorem OpsR.less {w : World} {bp : Option Addr} {n m : Nat} {f : Nat → OpR} (h : OpsR w bp n f) (hm : m ≤ n) : OpsR w bp m f := fun h0 => by
 obtain ⟨b, off, e, hb, hc⟩ := h (by omega)
 exact ⟨b, off, e, hb, fun i hi => hc i (by omega)⟩
def gvn (f : Nat → OpR) (i : Nat) (t : Int) : Bool := decide (0 ≤ t ∧ t < i) && (rr (f t.toNat).kind).gives
def tk (x : FL) (o : OpR) (f : Nat → OpR) (i : Nat) : Nat → Bool
 | 0 => x.ha && !(gvn f i o.a)
 | 1 => x.hb && !(gvn f i o.b)
 | _ => x.hc && !(gvn f i o.c)
def takenBad (x : FL) (o : OpR) (f : Nat → OpR) (i : Nat) : Bool := tk x o f i 0 || tk x o f i 1 || tk x o f i 2
def eOp (o : OpR) : Bool := !(isK o.kind) || decide (o.w < (rr o.kind).lo) || decide ((rr o.kind).hi < o.w)
def opErr (count : Int) (n : Nat) (f : Nat → OpR) (i : Nat) : Int :=
 if eOp (f i) then 2 else if fieldBad (flT (f i).kind.toNat) (f i) count then 3 else if takenBad (flT (f i).kind.toNat) (f i) f i then 6
 else if (rr (f i).kind).ends && decide (i + 1 ≠ n) then 7 else 0
theorem rr_bd (k : Int) : 0 ≤ (rr k).lo ∧ (rr k).lo ≤ 255 ∧ 0 ≤ (rr k).hi ∧ (rr k).hi ≤ 255 := by
 unfold rr rrT
 split <;> decide
theorem isK_iff (k : Int) : isK k = true ↔ 1 ≤ k ∧ k ≤ 17 := by simp [isK]
structure KW (w wx : World) (V pc : Nat) (count bytes : Int) (bp : Option Addr) (n cap : Nat) (o : OpR) (R : RR) : Prop where
 b2 : wx.heap[w.heap.size]? = some (.cells #[.int .u32 pc, .int .i64 count, .int .i64 bytes, .slice bp n cap] 82)
 b5 : wx.heap[w.heap.size + 1]? = some (.cells #[.int .i64 o.kind, .int .i64 o.w, .int .i64 o.a, .int .i64 o.b, .int .i64 o.c, .int .u32 o.k, .int .i64 o.n] 163)
 b6 : wx.heap[V]? = some (.cells #[.int .u8 R.lo, .int .u8 R.hi, .int .u8 R.m, .bool R.gives, .bool R.ends] 160)
 bel : Below w.heap.size w wx
 lt : w.heap.size + 1 < V
theorem KW.next {w wx w' : World} {V pc : Nat} {count bytes : Int} {bp : Option Addr} {n cap : Nat} {o : OpR} {R : RR} (h : KW w wx V pc count bytes bp n cap o R) (k : Below wx.heap.size wx w') : KW w w' V pc count bytes bp n cap o R :=
 ⟨(k.block _ (row_lt h.b2)).trans h.b2, (k.block _ (row_lt h.b5)).trans h.b5, (k.block _ (row_lt h.b6)).trans h.b6, h.bel.trans (k.mono (Nat.le_of_lt (row_lt h.b2))), h.lt⟩
theorem KW.drew {w wx : World} {V pc : Nat} {count bytes : Int} {bp : Option Addr} {n cap : Nat} {o : OpR} {R : RR} (h : KW w wx V pc count bytes bp n cap o R) : KW w wx.drew V pc count bytes bp n cap o R := ⟨h.b2, h.b5, h.b6, h.bel.drew, h.lt⟩
def endR (n : Nat) (f : Nat → OpR) : Int × Int := if n = 0 ∨ (rr (f (n - 1)).kind).ends = false then (7, n) else (0, 0)
def scan (count : Int) (n : Nat) (f : Nat → OpR) : Nat → Nat → Int × Int
 | 0, _ => endR n f
 | m + 1, i => if opErr count n f i = 0 then scan count n f m (i + 1) else (opErr count n f i, i)
def checkF (count bytes : Int) (n : Nat) (f : Nat → OpR) : Int × Int :=
 if 2048 < n then (5, -1) else if (0 ≤ count ∧ count ≤ 64) ∧ (0 ≤ bytes ∧ bytes ≤ 384) then scan count n f n 0 else (4, -1)
structure CW (w wr : World) (pc : Nat) (count bytes : Int) (bp : Option Addr) (n cap : Nat) : Prop where
 b1 : wr.heap[w.heap.size]? = some (.cells #[.int .u32 pc, .int .i64 count, .int .i64 bytes, .slice bp n cap] 82)
 bel : Below w.heap.size w wr
theorem CW.next {w wr w' : World} {pc : Nat} {count bytes : Int} {bp : Option Addr} {n cap : Nat} (h : CW w wr pc count bytes bp n cap) (k : Below wr.heap.size wr w') : CW w w' pc count bytes bp n cap :=
 ⟨(k.block _ (row_lt h.b1)).trans h.b1, h.bel.trans (k.mono (Nat.le_of_lt (row_lt h.b1)))⟩
def opCell (o : OpR) : Nat → Value
 | 0 => .int .i64 o.kind
 | 1 => .int .i64 o.w
 | 2 => .int .i64 o.a
 | 3 => .int .i64 o.b
 | 4 => .int .i64 o.c
 | 5 => .int .u32 o.k
 | _ => .int .i64 o.n
def opsL (f : Nat → OpR) (n : Nat) : List Value := (List.range (n * 7)).map fun j => opCell (f (j / 7)) (j % 7)
theorem opsL_len (f : Nat → OpR) (n : Nat) : (opsL f n).length = n * 7 := by simp [opsL]
theorem opsL_at (f : Nat → OpR) (n j : Nat) (v : Value) (h : (opsL f n)[j]? = some v) : j < n * 7 ∧ v = opCell (f (j / 7)) (j % 7) := by
 have hj : j < n * 7 := by
  have := (List.getElem?_eq_some_iff.1 h).1
  rwa [opsL_len] at this
 refine ⟨hj, ?_⟩
 unfold opsL at h
 rw [List.getElem?_map, List.getElem?_range hj] at h
 simpa using h.symm
theorem opsL_one (f : Nat → OpR) (n : Nat) : ∀ v ∈ opsL f n, v.oneCell' = true := by
 intro v hv
 unfold opsL at hv
 obtain ⟨j, _, rfl⟩ := List.mem_map.1 hv
 unfold opCell
 split <;> rfl
theorem OpAt.cells {w : World} {b off : Nat} {o : OpR} (h : OpAt w b off o) (r : Nat) (hr : r < 7) : w.cell? ⟨b, off + r, none⟩ = some (opCell o r) := by
 match r, hr with
 | 0, _ => exact h.c0
 | 1, _ => exact h.c1
 | 2, _ => exact h.c2
 | 3, _ => exact h.c3
 | 4, _ => exact h.c4
 | 5, _ => exact h.c5
 | 6, _ => exact h.c6
theorem opAt_of {w : World} {b off : Nat} {o : OpR} (h : ∀ r, r < 7 → w.cell? ⟨b, off + r, none⟩ = some (opCell o r)) : OpAt w b off o :=
 ⟨h 0 (by omega), h 1 (by omega), h 2 (by omega), h 3 (by omega), h 4 (by omega), h 5 (by omega), h 6 (by omega)⟩
theorem info160 : (Try.prog.info? 163).map (fun i => (i.zero, i.size, i.bytes)) = some (some (.agg #[.int .i64 0, .int .i64 0, .int .i64 0, .int .i64 0, .int .i64 0, .int .u32 0, .int .i64 0]), 7, 56) := by kernel_rfl
theorem owns_ops {w : World} {base g n cap : Nat} {f : Nat → OpR} (h : w.ownsRow base 163 7 (.slice (some ⟨g, 0, none⟩) n cap) n (opsL f n)) (hn : 0 < n) : OpsR w (some ⟨g, 0, none⟩) n f ∧ n ≤ cap := by
 rcases h.2 with ⟨hv, h0⟩ | ⟨g', c', cur, hv, hb, hh, h1, h2, h3, h4⟩
 ·omega
 ·cases hv
  refine ⟨fun _ => ⟨g, 0, rfl, row_lt hh, fun i hi => opAt_of fun r hr => ?_⟩, by omega⟩
  rw [Nat.zero_add, cell_of_row _ _ _ _ _ _ hh]
  have hj : i * 7 + r < n * 7 := by omega
  have h5 : (cur.toList.take (n * 7))[i * 7 + r]? = some (opCell (f i) r) := by
   rw [h4]
   unfold opsL
   rw [List.getElem?_map, List.getElem?_range hj]
   have e1 : (i * 7 + r) / 7 = i := by omega
   have e2 : (i * 7 + r) % 7 = r := by omega
   simp [e1, e2]
  rw [List.getElem?_take, if_pos hj] at h5
  simpa using h5
theorem wpList_app {P : Program} {w : World} {ops : Array Oper} {rest : List Oper} {o : Oper} {a : Act} {Q : Exit → Act → World → Prop} (hgd : o.guard = none) (s x : Operand) (t : TypeId)
  (ho : o.op = .call { callee := .builtin .append, args := #[s, x], argTypes := #[t, t] }) (sv xv v : Value) (hs : a.eval s = sv) (hx : a.eval x = xv) (hr : (Builtin.append_ #[t, t] o.type #[sv, xv]).run P w = .ok v w)
  (h : wpList P ops Q rest (a.put o.dst v) w) : wpList P ops Q (o :: rest) a w := by
 refine wpList_plain hgd fun K hK => ?_
 unfold Oper.wp execOp
 simp only [ho, resolve, invoke, builtin, Sem.run_bind, Sem.run_pure, Result.andThen_ok, List.map_toArray, List.map_cons, List.map_nil, hs, hx, hr]
 exact hK _ _ h
theorem OpsR.set {w : World} {g off n X : Nat} {f : Nat → OpR} (h : OpsR w (some ⟨g, off, none⟩) n f) (hne : g ≠ X) (o : Nat) (v : Value) : OpsR (w.setCell ⟨X, o, none⟩ v) (some ⟨g, off, none⟩) n f := fun h0 => by
 obtain ⟨b, off', e, hb, hc⟩ := h h0
 cases e
 exact ⟨g, off, rfl, by simpa using hb, fun i hi => opAt_of fun r hr => (c1_cell_setOther v hne _).trans ((hc i hi).cells r hr)⟩
end Go.Proofs.Ytkgbjpdoigdjnaa
