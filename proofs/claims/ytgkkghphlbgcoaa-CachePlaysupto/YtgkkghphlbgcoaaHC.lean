import Derived.Test.YtgkkghphlbgcoaaProg
import Derived.WalkKit
import Derived.WalkSpells
import Derived.WalkLawsBesides
import Derived.Deep.QuietTactic
import Derived.BigQuiet
import Derived.BigRegion
import Derived.KernelRfl
import Derived.Laws.Tables
import Derived.Laws.BitsAllLaws
import Derived.Deep.WholeRow
import Derived.Deep.LoopGhost
import Derived.OwnWalk
namespace Go.Proofs.Ytgkkghphlbgcoaa.Ho
open Go.RowKit
set_option linter.unusedVariables false
set_option linter.unusedSimpArgs false

/-! ## A row of builds, reckoned by the kernel at once -/
def pureB (P : Program) (o : Oper) (a : Act) : Option Act :=
  match o.guard, o.op with
  | none, .build t parts => (P.built t (parts.map fun (i, x) => (i, a.eval x)).toList).map fun cs => a.put o.dst (.agg cs)
  | _, _ => none
def pureN (P : Program) : Nat → List Oper → Act → Option Act
  | 0, _, a => some a
  | n + 1, o :: r, a => (pureB P o a).bind (pureN P n r)
  | _ + 1, [], _ => none
theorem wpList_build_as {P : Program} {ops : Array Oper} {rest : List Oper} {o : Oper} {a : Act} {w : World} {Q : Exit → Act → World → Prop} (hg : o.guard = none) (t : TypeId) (parts : Array (Nat × Operand)) (ho : o.op = .build t parts) (cells : Array Value)
    (hc : P.built t (parts.map fun (i, x) => (i, a.eval x)).toList = some cells)
    (h : wpList P ops Q rest (a.put o.dst (.agg cells)) w) : wpList P ops Q (o :: rest) a w :=
  wpList_build hg t parts ho (by rw [hc]; rfl) (by rw [hc]; exact h)
theorem wpList_pureN {P : Program} {ops : Array Oper} {w : World} {Q : Exit → Act → World → Prop} : ∀ (n : Nat) (l : List Oper) (a a' : Act), pureN P n l a = some a' →
    wpList P ops Q (l.drop n) a' w → wpList P ops Q l a w
  | 0, _, _, _, h, k => by simp only [pureN, Option.some.injEq] at h; subst h; exact k
  | n + 1, [], _, _, h, _ => by simp [pureN] at h
  | n + 1, o :: r, a, a', h, k => by
    simp only [pureN] at h
    cases hb : pureB P o a with
    | none => simp [hb] at h
    | some a1 =>
      simp only [hb, Option.bind_some] at h
      unfold pureB at hb
      split at hb
      · rename_i t parts hg ho
        simp only [Option.map_eq_some_iff] at hb
        obtain ⟨cs, hcs, rfl⟩ := hb
        exact wpList_build_as hg t parts ho cs hcs (wpList_pureN n r _ a' h (by simpa using k))
      · simp at hb
theorem wpList_pureAt {P : Program} {ops : Array Oper} {w : World} {Q : Exit → Act → World → Prop} (d n : Nat) (o : Oper) (l : List Oper) (a a' : Act) (_hd : o.dst = some d) (h : pureN P n (o :: l) a = some a')
    (k : wpList P ops Q ((o :: l).drop n) a' w) : wpList P ops Q (o :: l) a w := wpList_pureN n (o :: l) a a' h k
theorem wpList_alloc_as {P : Program} {ops : Array Oper} {rest : List Oper} {o : Oper} {a : Act} {w : World} {Q : Exit → Act → World → Prop} (hg : o.guard = none) (t : TypeId) (ho : o.op = .alloc t) (cs : Array Value) (hz : ∀ w, (zeroValue t).run P w = .ok (.agg cs) w) (H : Nat) (hH : w.heap.size = H)
    (h : wpList P ops Q rest (a.put o.dst (.pointer (some ⟨H, 0, none⟩))) (w.alloc (.cells cs t))) : wpList P ops Q (o :: rest) a w := by
  subst hH
  refine wpList_plain hg fun _ hK => ?_
  unfold Oper.wp execOp
  simp [ho, hz, Instr.alloc, go_sem]
  exact hK _ _ h

/-! ## The table of formats -/
def hfN : List Int := [1, 1, 0, 24, 64, 2, 2, 1, 80, 0, 3, 3, 0, 65, 0, 4, 4, 0, 9, 64, 5, 5, 6, 71, 0, 6, 6, 0, 72, 11, 7, 7, 0, 9, 11, 8, 8, 0, 72, 2047, 9, 9, 0, 9, 2047, 10, 10, 0, 24, 64, 11, 11, 0, 25, 64, 12, 12, 0, 312, 64, 13, 13, 0, 281, 64, 14, 14, 0, 24, 64, 15, 15, 0, 24, 64, 16, 31, 4, 67, 0, 32, 38, 5, 65, 0, 48, 60, 7, 71, 0, 64, 79, 8, 65, 0, 80, 84, 0, 89, 64, 88, 90, 0, 153, 64, 96, 96, 0, 25, 64, 97, 97, 0, 64, 0]
def hfV : List Value := [.int .u8 1, .int .u8 1, .int .u8 0, .int .u16 24, .int .u16 64, .int .u8 2, .int .u8 2, .int .u8 1, .int .u16 80, .int .u16 0, .int .u8 3, .int .u8 3, .int .u8 0, .int .u16 65, .int .u16 0, .int .u8 4, .int .u8 4, .int .u8 0, .int .u16 9, .int .u16 64, .int .u8 5, .int .u8 5, .int .u8 6, .int .u16 71, .int .u16 0, .int .u8 6, .int .u8 6, .int .u8 0, .int .u16 72, .int .u16 11, .int .u8 7, .int .u8 7, .int .u8 0, .int .u16 9, .int .u16 11, .int .u8 8, .int .u8 8, .int .u8 0, .int .u16 72, .int .u16 2047, .int .u8 9, .int .u8 9, .int .u8 0, .int .u16 9, .int .u16 2047, .int .u8 10, .int .u8 10, .int .u8 0, .int .u16 24, .int .u16 64, .int .u8 11, .int .u8 11, .int .u8 0, .int .u16 25, .int .u16 64, .int .u8 12, .int .u8 12, .int .u8 0, .int .u16 312, .int .u16 64, .int .u8 13, .int .u8 13, .int .u8 0, .int .u16 281, .int .u16 64, .int .u8 14, .int .u8 14, .int .u8 0, .int .u16 24, .int .u16 64, .int .u8 15, .int .u8 15, .int .u8 0, .int .u16 24, .int .u16 64, .int .u8 16, .int .u8 31, .int .u8 4, .int .u16 67, .int .u16 0, .int .u8 32, .int .u8 38, .int .u8 5, .int .u16 65, .int .u16 0, .int .u8 48, .int .u8 60, .int .u8 7, .int .u16 71, .int .u16 0, .int .u8 64, .int .u8 79, .int .u8 8, .int .u16 65, .int .u16 0, .int .u8 80, .int .u8 84, .int .u8 0, .int .u16 89, .int .u16 64, .int .u8 88, .int .u8 90, .int .u8 0, .int .u16 153, .int .u16 64, .int .u8 96, .int .u8 96, .int .u8 0, .int .u16 25, .int .u16 64, .int .u8 97, .int .u8 97, .int .u8 0, .int .u16 64, .int .u16 0]
def hfC : Array Value := hfV.toArray
def hfZ : Array Value := #[.int .u8 0, .int .u8 0, .int .u8 0, .int .u16 0, .int .u16 0, .int .u8 0, .int .u8 0, .int .u8 0, .int .u16 0, .int .u16 0, .int .u8 0, .int .u8 0, .int .u8 0, .int .u16 0, .int .u16 0, .int .u8 0, .int .u8 0, .int .u8 0, .int .u16 0, .int .u16 0, .int .u8 0, .int .u8 0, .int .u8 0, .int .u16 0, .int .u16 0, .int .u8 0, .int .u8 0, .int .u8 0, .int .u16 0, .int .u16 0, .int .u8 0, .int .u8 0, .int .u8 0, .int .u16 0, .int .u16 0, .int .u8 0, .int .u8 0, .int .u8 0, .int .u16 0, .int .u16 0, .int .u8 0, .int .u8 0, .int .u8 0, .int .u16 0, .int .u16 0, .int .u8 0, .int .u8 0, .int .u8 0, .int .u16 0, .int .u16 0, .int .u8 0, .int .u8 0, .int .u8 0, .int .u16 0, .int .u16 0, .int .u8 0, .int .u8 0, .int .u8 0, .int .u16 0, .int .u16 0, .int .u8 0, .int .u8 0, .int .u8 0, .int .u16 0, .int .u16 0, .int .u8 0, .int .u8 0, .int .u8 0, .int .u16 0, .int .u16 0, .int .u8 0, .int .u8 0, .int .u8 0, .int .u16 0, .int .u16 0, .int .u8 0, .int .u8 0, .int .u8 0, .int .u16 0, .int .u16 0, .int .u8 0, .int .u8 0, .int .u8 0, .int .u16 0, .int .u16 0, .int .u8 0, .int .u8 0, .int .u8 0, .int .u16 0, .int .u16 0, .int .u8 0, .int .u8 0, .int .u8 0, .int .u16 0, .int .u16 0, .int .u8 0, .int .u8 0, .int .u8 0, .int .u16 0, .int .u16 0, .int .u8 0, .int .u8 0, .int .u8 0, .int .u16 0, .int .u16 0, .int .u8 0, .int .u8 0, .int .u8 0, .int .u16 0, .int .u16 0, .int .u8 0, .int .u8 0, .int .u8 0, .int .u16 0, .int .u16 0]
/-- The number at field j of row k. -/
def tg (k j : Nat) : Int := hfN.getD (k * 5 + j) 0
def hrow (k : Nat) : Value := .agg #[.int .u8 (tg k 0), .int .u8 (tg k 1), .int .u8 (tg k 2), .int .u16 (tg k 3), .int .u16 (tg k 4)]
def rg (h : Option Nat) (j : Nat) : Int :=
  match h with
  | some k => tg k j
  | none => 0
abbrev rowV (h : Option Nat) : Value := .agg #[.int .u8 (rg h 0), .int .u8 (rg h 1), .int .u8 (rg h 2), .int .u16 (rg h 3), .int .u16 (rg h 4)]
theorem hf_info : (Try.prog.info? 133).map (fun i => (i.zero, i.size)) = some (some (.agg hfZ), 115) := by kernel_rfl
theorem hf_at (k : Nat) (h : k < 23) : hfC[k * 5]? = some (.int .u8 (tg k 0)) ∧ hfC[k * 5 + 1]? = some (.int .u8 (tg k 1)) ∧ hfC[k * 5 + 2]? = some (.int .u8 (tg k 2)) ∧ hfC[k * 5 + 3]? = some (.int .u16 (tg k 3)) ∧ hfC[k * 5 + 4]? = some (.int .u16 (tg k 4)) := by
  rcases (by omega : k = 0 ∨ k = 1 ∨ k = 2 ∨ k = 3 ∨ k = 4 ∨ k = 5 ∨ k = 6 ∨ k = 7 ∨ k = 8 ∨ k = 9 ∨ k = 10 ∨ k = 11 ∨ k = 12 ∨ k = 13 ∨ k = 14 ∨ k = 15 ∨ k = 16 ∨ k = 17 ∨ k = 18 ∨ k = 19 ∨ k = 20 ∨ k = 21 ∨ k = 22) with rfl | rfl | rfl | rfl | rfl | rfl | rfl | rfl | rfl | rfl | rfl | rfl | rfl | rfl | rfl | rfl | rfl | rfl | rfl | rfl | rfl | rfl | rfl <;> exact ⟨rfl, rfl, rfl, rfl, rfl⟩
theorem tg_le (k : Nat) (h : k < 23) : (0 ≤ tg k 0 ∧ tg k 0 ≤ 255) ∧ (0 ≤ tg k 1 ∧ tg k 1 ≤ 255) := by
  rcases (by omega : k = 0 ∨ k = 1 ∨ k = 2 ∨ k = 3 ∨ k = 4 ∨ k = 5 ∨ k = 6 ∨ k = 7 ∨ k = 8 ∨ k = 9 ∨ k = 10 ∨ k = 11 ∨ k = 12 ∨ k = 13 ∨ k = 14 ∨ k = 15 ∨ k = 16 ∨ k = 17 ∨ k = 18 ∨ k = 19 ∨ k = 20 ∨ k = 21 ∨ k = 22) with rfl | rfl | rfl | rfl | rfl | rfl | rfl | rfl | rfl | rfl | rfl | rfl | rfl | rfl | rfl | rfl | rfl | rfl | rfl | rfl | rfl | rfl | rfl <;> decide
def fitB (op : Int) (k : Nat) : Bool := decide (tg k 0 ≤ op) && decide (op ≤ tg k 1)
def hit (op : Int) : Option Nat := (List.range 23).find? (fitB op)
theorem hit_some {op : Int} {k : Nat} (hk : k < 23) (h : fitB op k = true) (hn : ∀ j, j < k → fitB op j = false) : hit op = some k := by
  unfold hit
  rw [List.find?_range_eq_some]
  exact ⟨h, by simpa using hk, fun j hj => by simp [hn j hj]⟩
theorem hit_none {op : Int} (hn : ∀ j, j < 23 → fitB op j = false) : hit op = none := by
  unfold hit
  rw [List.find?_eq_none]
  intro j hj
  simp [hn j (by simpa using hj)]
theorem info_cells {w wr : World} {B : Nat} {cs : Array Value} {t : TypeId} (h : Below (w.heap.size + 1) (w.alloc (.cells cs t)) wr) (hB : B = w.heap.size) (i : Nat) : wr.cell? ⟨B, i, none⟩ = cs[i]? := by
  subst hB
  rw [h.cell (p := ⟨w.heap.size, i, none⟩) (Nat.lt_succ_self _)]
  exact cell_of_row _ _ i cs t (0, 0) (heap_alloc_last w _)

set_option maxRecDepth 100000 in
set_option maxHeartbeats 1000000 in
theorem format_any (op : Int) (w : World) :
    Calls Try.prog 65 #[.int .i64 op] w
      fun e w' => e = .returned (.tuple #[rowV (hit op), .bool (hit op).isSome]) ∧ Below w.heap.size w w' := by
  have zW := (zero_of_info hf_info).1
  go_enter Try.func65, Try.ntmps65
  go_wp2_with (first | (refine wpList_pureAt 7 24 _ _ _ ⟨#[.int .i64 op, undef, .pointer (some ⟨w.heap.size, 0, none⟩), .bool false, undef, undef, undef, hrow 0, hrow 1, hrow 2, hrow 3, hrow 4, hrow 5, hrow 6, hrow 7, hrow 8, hrow 9, hrow 10, hrow 11, hrow 12, hrow 13, hrow 14, hrow 15, hrow 16, hrow 17, hrow 18, hrow 19, hrow 20, hrow 21, hrow 22, .agg hfC, undef, undef, undef, undef, undef, undef, undef, undef, undef, undef, undef, undef, undef, undef, undef, undef, undef, undef, undef, undef, undef, undef, undef, undef, undef, undef], []⟩ rfl (by kernel_rfl) ?_; simp only [List.drop_succ_cons, List.drop_zero]) | (refine wpList_alloc_as rfl 133 rfl _ zW (w.heap.size + 1) (by simp) ?_) | (refine wpList_store_row rfl 133 _ _ rfl (w.heap.size + 1) hfC (by rfl) (by rfl) 133 hfZ (by exact heap_alloc2_new w _ _) (zero_of_info hf_info).2 (by rfl) (by kernel_rfl) ?_; rw [show w.heap.size + 1 = (w.alloc (.cells #[.int .u8 0, .int .u8 0, .int .u8 0, .int .u16 0, .int .u16 0] 117)).heap.size from by simp, World.setRow_alloc_new]; simp only [World.size_alloc]))
  clear zW
  generalize hW1 : w.alloc (.cells #[.int .u8 0, .int .u8 0, .int .u8 0, .int .u16 0, .int .u16 0] 117) = W1
  have hs1 : W1.heap.size = w.heap.size + 1 := by rw [← hW1]; simp
  have hb1 : Below w.heap.size w W1 := by rw [← hW1]; exact (Below.refl _ _).alloc (Nat.le_refl _) _
  have hc1 : ∀ i, W1.cell? ⟨w.heap.size, i, none⟩ = #[Value.int .u8 0, .int .u8 0, .int .u8 0, .int .u16 0, .int .u16 0][i]? := by
    intro i; rw [← hW1]; exact cell_of_row _ _ i _ 117 (0, 0) (heap_alloc_last w _)
  have hf1 : ∀ i, W1.frozen? ⟨w.heap.size, i, none⟩ = false := by
    intro i; rw [← hW1]; exact frozen_of_row _ _ i _ 117 (heap_alloc_last w _)
  clear hW1
  go_loopw [31] (fun i wr => ∃ k : Nat, k ≤ 23 ∧ i = .int .i64 k ∧ (∀ j, j < k → fitB op j = false) ∧ Below (W1.heap.size + 1) (W1.alloc (.cells hfC 133)) wr) (fun i _ => 23 - (intOf i).toNat)
  case atStart => exact ⟨0, by omega, rfl, fun j hj => by omega, Below.refl _ _⟩
  case round =>
    obtain ⟨k, hk, rfl, hno, hbel⟩ := hrel
    have hbw : Below w.heap.size w wr := hb1.trans (((Below.refl _ _).alloc (by omega) _).trans (hbel.mono (by omega)))
    have hsz : w.heap.size + 1 < wr.heap.size := by have := hbel.size; simp at this; omega
    have hsz0 : w.heap.size < wr.heap.size := by omega
    have hcell : ∀ i, wr.cell? ⟨w.heap.size + 1, i, none⟩ = hfC[i]? := fun i => info_cells hbel hs1.symm i
    have hres : ∀ i, wr.cell? ⟨w.heap.size, i, none⟩ = #[Value.int .u8 0, .int .u8 0, .int .u8 0, .int .u16 0, .int .u16 0][i]? := fun i => by
      rw [hbel.cell (p := ⟨w.heap.size, i, none⟩) (by show w.heap.size < _; omega), World.cell?_alloc_past _ _ _ (by show w.heap.size < _; omega), hc1]
    have hfrz : ∀ i, wr.frozen? ⟨w.heap.size, i, none⟩ = false := fun i => by
      rw [hbel.frozen (p := ⟨w.heap.size, i, none⟩) (by show w.heap.size < _; omega), World.frozen?_of_block (w := W1) (Below.heap_alloc _ _ _ (by show w.heap.size < _; omega)), hf1]
    have r0 := hres 0
    have r1 := hres 1
    have r2 := hres 2
    have r3 := hres 3
    have r4 := hres 4
    have z0 := hfrz 0
    have z1 := hfrz 1
    have z2 := hfrz 2
    have z3 := hfrz 3
    have z4 := hfrz 4
    simp at r0 r1 r2 r3 r4
    by_cases hlt : k < 23
    · obtain ⟨a0, a1, a2, a3, a4⟩ := hf_at k hlt
      have c0 := (hcell _).trans a0
      have c1 := (hcell _).trans a1
      have c2 := (hcell _).trans a2
      have c3 := (hcell _).trans a3
      have c4 := (hcell _).trans a4
      obtain ⟨⟨b0, b1⟩, b2, b3⟩ := tg_le k hlt
      clear hcell hres hfrz hc1 hf1 a0 a1 a2 a3 a4
      have hfk : fitB op k = (decide (tg k 0 ≤ op) && decide (op ≤ tg k 1)) := rfl
      have hyes := fun (h : fitB op k = true) => hit_some hlt h hno
      generalize e0 : tg k 0 = t0 at *
      generalize e1 : tg k 1 = t1 at *
      go_wp2
      · have hq := hyes (by rw [hfk]; simp; constructor <;> assumption)
        refine bodyPost_ret (v := .tuple #[.agg #[.int .u8 t0, .int .u8 t1, .int .u8 (tg k 2), .int .u16 (tg k 3), .int .u16 (tg k 4)], .bool true]) (by simp [results, Try.results65, go_sem, hsz0, r0, r1, r2, r3, r4]) rfl ⟨by rw [hq, ← e0, ← e1]; rfl, ?_⟩
        exact ((((hbw.setCell (by simp) _).setCell (by simp) _).setCell (by simp) _).setCell (by simp) _).setCell (by simp) _
      all_goals
        have hnot : fitB op k = false := by
          rw [hfk]; simp; intros; omega
        go_roundw
        case rel => exact ⟨k + 1, by omega, by go_num, fun j hj => by rcases Nat.lt_succ_iff_lt_or_eq.1 hj with h | h; exact hno j h; rw [h]; exact hnot, hbel⟩
        case measure => simp [intOf]; omega
    · clear hcell hres hfrz hc1 hf1
      go_wp2
      have hk23 : k = 23 := by omega
      refine bodyPost_ret (v := .tuple #[.agg #[.int .u8 0, .int .u8 0, .int .u8 0, .int .u16 0, .int .u16 0], .bool false]) (by simp [results, Try.results65, go_sem, hsz0, r0, r1, r2, r3, r4]) rfl ⟨by rw [hit_none (fun j hj => hno j (by omega))]; rfl, ?_⟩
      exact ((((hbw.setCell (by simp) _).setCell (by simp) _).setCell (by simp) _).setCell (by simp) _).setCell (by simp) _
end Go.Proofs.Ytgkkghphlbgcoaa.Ho
namespace Go.Proofs.Ytgkkghphlbgcoaa.Ho
open Go.RowKit
set_option linter.unusedVariables false
set_option linter.unusedSimpArgs false
structure Fm where
  s : Array UInt8
  most : Int
  n : Nat
/-- What the document says an op has: by what is in its first word, how N is bounded, how many words. -/
def fmR (op : Int) : Fm :=
  if op = 1 then ⟨#[110], 65, 2⟩
  else if op = 2 then ⟨#[100], 0, 2⟩
  else if op = 3 then ⟨#[100, 97], 0, 1⟩
  else if op = 4 then ⟨#[97, 110], 65, 1⟩
  else if op = 5 then ⟨#[100, 97, 98, 99], 0, 1⟩
  else if op = 6 then ⟨#[100, 110], 12, 1⟩
  else if op = 7 then ⟨#[97, 110], 12, 1⟩
  else if op = 8 then ⟨#[100, 110], 2048, 1⟩
  else if op = 9 then ⟨#[97, 110], 2048, 1⟩
  else if op = 10 then ⟨#[110], 65, 2⟩
  else if op = 11 then ⟨#[97, 110], 65, 2⟩
  else if op = 12 then ⟨#[100, 110], 65, 3⟩
  else if op = 13 then ⟨#[100, 97, 110], 65, 2⟩
  else if op = 14 then ⟨#[110], 65, 2⟩
  else if op = 15 then ⟨#[110], 65, 2⟩
  else if 16 ≤ op ∧ op ≤ 31 then ⟨#[100, 97, 98], 0, 1⟩
  else if 32 ≤ op ∧ op ≤ 38 then ⟨#[100, 97], 0, 1⟩
  else if 48 ≤ op ∧ op ≤ 60 then ⟨#[100, 97, 98, 99], 0, 1⟩
  else if 64 ≤ op ∧ op ≤ 79 then ⟨#[100, 97], 0, 1⟩
  else if 80 ≤ op ∧ op ≤ 84 then ⟨#[100, 97, 110], 65, 2⟩
  else if 88 ≤ op ∧ op ≤ 90 then ⟨#[100, 97, 110], 65, 2⟩
  else if op = 96 then ⟨#[97, 110], 65, 2⟩
  else if op = 97 then ⟨#[100], 0, 1⟩
  else ⟨#[], 0, 0⟩
abbrev frmV (f : Fm) : Value := .tuple #[.string ⟨f.s⟩, .int .i64 f.most, .int .i64 f.n]
set_option maxRecDepth 100000
theorem frm0 (w : World) : Calls Try.prog 35 #[.int .i64 1] w fun e w' => e = .returned (frmV ⟨#[110], 65, 2⟩) ∧ w = w' := by
  go_enter Try.func35, Try.ntmps35; go_wp2; go_ret3; exact ⟨rfl, rfl⟩
theorem frm1 (w : World) : Calls Try.prog 35 #[.int .i64 2] w fun e w' => e = .returned (frmV ⟨#[100], 0, 2⟩) ∧ w = w' := by
  go_enter Try.func35, Try.ntmps35; go_wp2; go_ret3; exact ⟨rfl, rfl⟩
theorem frm2 (w : World) : Calls Try.prog 35 #[.int .i64 3] w fun e w' => e = .returned (frmV ⟨#[100, 97], 0, 1⟩) ∧ w = w' := by
  go_enter Try.func35, Try.ntmps35; go_wp2; go_ret3; exact ⟨rfl, rfl⟩
theorem frm3 (w : World) : Calls Try.prog 35 #[.int .i64 4] w fun e w' => e = .returned (frmV ⟨#[97, 110], 65, 1⟩) ∧ w = w' := by
  go_enter Try.func35, Try.ntmps35; go_wp2; go_ret3; exact ⟨rfl, rfl⟩
theorem frm4 (w : World) : Calls Try.prog 35 #[.int .i64 5] w fun e w' => e = .returned (frmV ⟨#[100, 97, 98, 99], 0, 1⟩) ∧ w = w' := by
  go_enter Try.func35, Try.ntmps35; go_wp2; go_ret3; exact ⟨rfl, rfl⟩
theorem frm5 (w : World) : Calls Try.prog 35 #[.int .i64 6] w fun e w' => e = .returned (frmV ⟨#[100, 110], 12, 1⟩) ∧ w = w' := by
  go_enter Try.func35, Try.ntmps35; go_wp2; go_ret3; exact ⟨rfl, rfl⟩
theorem frm6 (w : World) : Calls Try.prog 35 #[.int .i64 7] w fun e w' => e = .returned (frmV ⟨#[97, 110], 12, 1⟩) ∧ w = w' := by
  go_enter Try.func35, Try.ntmps35; go_wp2; go_ret3; exact ⟨rfl, rfl⟩
theorem frm7 (w : World) : Calls Try.prog 35 #[.int .i64 8] w fun e w' => e = .returned (frmV ⟨#[100, 110], 2048, 1⟩) ∧ w = w' := by
  go_enter Try.func35, Try.ntmps35; go_wp2; go_ret3; exact ⟨rfl, rfl⟩
theorem frm8 (w : World) : Calls Try.prog 35 #[.int .i64 9] w fun e w' => e = .returned (frmV ⟨#[97, 110], 2048, 1⟩) ∧ w = w' := by
  go_enter Try.func35, Try.ntmps35; go_wp2; go_ret3; exact ⟨rfl, rfl⟩
theorem frm9 (w : World) : Calls Try.prog 35 #[.int .i64 10] w fun e w' => e = .returned (frmV ⟨#[110], 65, 2⟩) ∧ w = w' := by
  go_enter Try.func35, Try.ntmps35; go_wp2; go_ret3; exact ⟨rfl, rfl⟩
theorem frm10 (w : World) : Calls Try.prog 35 #[.int .i64 11] w fun e w' => e = .returned (frmV ⟨#[97, 110], 65, 2⟩) ∧ w = w' := by
  go_enter Try.func35, Try.ntmps35; go_wp2; go_ret3; exact ⟨rfl, rfl⟩
theorem frm11 (w : World) : Calls Try.prog 35 #[.int .i64 12] w fun e w' => e = .returned (frmV ⟨#[100, 110], 65, 3⟩) ∧ w = w' := by
  go_enter Try.func35, Try.ntmps35; go_wp2; go_ret3; exact ⟨rfl, rfl⟩
theorem frm12 (w : World) : Calls Try.prog 35 #[.int .i64 13] w fun e w' => e = .returned (frmV ⟨#[100, 97, 110], 65, 2⟩) ∧ w = w' := by
  go_enter Try.func35, Try.ntmps35; go_wp2; go_ret3; exact ⟨rfl, rfl⟩
theorem frm13 (w : World) : Calls Try.prog 35 #[.int .i64 14] w fun e w' => e = .returned (frmV ⟨#[110], 65, 2⟩) ∧ w = w' := by
  go_enter Try.func35, Try.ntmps35; go_wp2; go_ret3; exact ⟨rfl, rfl⟩
theorem frm14 (w : World) : Calls Try.prog 35 #[.int .i64 15] w fun e w' => e = .returned (frmV ⟨#[110], 65, 2⟩) ∧ w = w' := by
  go_enter Try.func35, Try.ntmps35; go_wp2; go_ret3; exact ⟨rfl, rfl⟩
set_option maxHeartbeats 1000000 in
theorem frm15 (op : Int) (h0 : 16 ≤ op) (h1 : op ≤ 31) (w : World) : Calls Try.prog 35 #[.int .i64 op] w fun e w' => e = .returned (frmV ⟨#[100, 97, 98], 0, 1⟩) ∧ w = w' := by
  have q1 : (op == 1) = false := by simp; omega
  have q10 : (op == 10) = false := by simp; omega
  have q14 : (op == 14) = false := by simp; omega
  have q15 : (op == 15) = false := by simp; omega
  have q2 : (op == 2) = false := by simp; omega
  have q3 : (op == 3) = false := by simp; omega
  have q4 : (op == 4) = false := by simp; omega
  have q5 : (op == 5) = false := by simp; omega
  have q6 : (op == 6) = false := by simp; omega
  have q7 : (op == 7) = false := by simp; omega
  have q8 : (op == 8) = false := by simp; omega
  have q9 : (op == 9) = false := by simp; omega
  have q11 : (op == 11) = false := by simp; omega
  have q96 : (op == 96) = false := by simp; omega
  have q12 : (op == 12) = false := by simp; omega
  have q13 : (op == 13) = false := by simp; omega
  have q97 : (op == 97) = false := by simp; omega
  have g48 : ¬ 48 ≤ op := by omega
  have g16 : 16 ≤ op := by omega
  have g32 : ¬ 32 ≤ op := by omega
  have g64 : ¬ 64 ≤ op := by omega
  have g80 : ¬ 80 ≤ op := by omega
  have g88 : ¬ 88 ≤ op := by omega
  have l60 : op ≤ 60 := by omega
  have l31 : op ≤ 31 := by omega
  have l38 : op ≤ 38 := by omega
  have l79 : op ≤ 79 := by omega
  have l84 : op ≤ 84 := by omega
  have l90 : op ≤ 90 := by omega
  go_enter Try.func35, Try.ntmps35; go_wp2; go_ret3; exact ⟨rfl, rfl⟩
set_option maxHeartbeats 1000000 in
theorem frm16 (op : Int) (h0 : 32 ≤ op) (h1 : op ≤ 38) (w : World) : Calls Try.prog 35 #[.int .i64 op] w fun e w' => e = .returned (frmV ⟨#[100, 97], 0, 1⟩) ∧ w = w' := by
  have q1 : (op == 1) = false := by simp; omega
  have q10 : (op == 10) = false := by simp; omega
  have q14 : (op == 14) = false := by simp; omega
  have q15 : (op == 15) = false := by simp; omega
  have q2 : (op == 2) = false := by simp; omega
  have q3 : (op == 3) = false := by simp; omega
  have q4 : (op == 4) = false := by simp; omega
  have q5 : (op == 5) = false := by simp; omega
  have q6 : (op == 6) = false := by simp; omega
  have q7 : (op == 7) = false := by simp; omega
  have q8 : (op == 8) = false := by simp; omega
  have q9 : (op == 9) = false := by simp; omega
  have q11 : (op == 11) = false := by simp; omega
  have q96 : (op == 96) = false := by simp; omega
  have q12 : (op == 12) = false := by simp; omega
  have q13 : (op == 13) = false := by simp; omega
  have q97 : (op == 97) = false := by simp; omega
  have g48 : ¬ 48 ≤ op := by omega
  have g16 : 16 ≤ op := by omega
  have g32 : 32 ≤ op := by omega
  have g64 : ¬ 64 ≤ op := by omega
  have g80 : ¬ 80 ≤ op := by omega
  have g88 : ¬ 88 ≤ op := by omega
  have l60 : op ≤ 60 := by omega
  have l31 : ¬ op ≤ 31 := by omega
  have l38 : op ≤ 38 := by omega
  have l79 : op ≤ 79 := by omega
  have l84 : op ≤ 84 := by omega
  have l90 : op ≤ 90 := by omega
  go_enter Try.func35, Try.ntmps35; go_wp2; go_ret3; exact ⟨rfl, rfl⟩
set_option maxHeartbeats 1000000 in
theorem frm17 (op : Int) (h0 : 48 ≤ op) (h1 : op ≤ 60) (w : World) : Calls Try.prog 35 #[.int .i64 op] w fun e w' => e = .returned (frmV ⟨#[100, 97, 98, 99], 0, 1⟩) ∧ w = w' := by
  have q1 : (op == 1) = false := by simp; omega
  have q10 : (op == 10) = false := by simp; omega
  have q14 : (op == 14) = false := by simp; omega
  have q15 : (op == 15) = false := by simp; omega
  have q2 : (op == 2) = false := by simp; omega
  have q3 : (op == 3) = false := by simp; omega
  have q4 : (op == 4) = false := by simp; omega
  have q5 : (op == 5) = false := by simp; omega
  have q6 : (op == 6) = false := by simp; omega
  have q7 : (op == 7) = false := by simp; omega
  have q8 : (op == 8) = false := by simp; omega
  have q9 : (op == 9) = false := by simp; omega
  have q11 : (op == 11) = false := by simp; omega
  have q96 : (op == 96) = false := by simp; omega
  have q12 : (op == 12) = false := by simp; omega
  have q13 : (op == 13) = false := by simp; omega
  have q97 : (op == 97) = false := by simp; omega
  have g48 : 48 ≤ op := by omega
  have g16 : 16 ≤ op := by omega
  have g32 : 32 ≤ op := by omega
  have g64 : ¬ 64 ≤ op := by omega
  have g80 : ¬ 80 ≤ op := by omega
  have g88 : ¬ 88 ≤ op := by omega
  have l60 : op ≤ 60 := by omega
  have l31 : ¬ op ≤ 31 := by omega
  have l38 : ¬ op ≤ 38 := by omega
  have l79 : op ≤ 79 := by omega
  have l84 : op ≤ 84 := by omega
  have l90 : op ≤ 90 := by omega
  go_enter Try.func35, Try.ntmps35; go_wp2; go_ret3; exact ⟨rfl, rfl⟩
set_option maxHeartbeats 1000000 in
theorem frm18 (op : Int) (h0 : 64 ≤ op) (h1 : op ≤ 79) (w : World) : Calls Try.prog 35 #[.int .i64 op] w fun e w' => e = .returned (frmV ⟨#[100, 97], 0, 1⟩) ∧ w = w' := by
  have q1 : (op == 1) = false := by simp; omega
  have q10 : (op == 10) = false := by simp; omega
  have q14 : (op == 14) = false := by simp; omega
  have q15 : (op == 15) = false := by simp; omega
  have q2 : (op == 2) = false := by simp; omega
  have q3 : (op == 3) = false := by simp; omega
  have q4 : (op == 4) = false := by simp; omega
  have q5 : (op == 5) = false := by simp; omega
  have q6 : (op == 6) = false := by simp; omega
  have q7 : (op == 7) = false := by simp; omega
  have q8 : (op == 8) = false := by simp; omega
  have q9 : (op == 9) = false := by simp; omega
  have q11 : (op == 11) = false := by simp; omega
  have q96 : (op == 96) = false := by simp; omega
  have q12 : (op == 12) = false := by simp; omega
  have q13 : (op == 13) = false := by simp; omega
  have q97 : (op == 97) = false := by simp; omega
  have g48 : 48 ≤ op := by omega
  have g16 : 16 ≤ op := by omega
  have g32 : 32 ≤ op := by omega
  have g64 : 64 ≤ op := by omega
  have g80 : ¬ 80 ≤ op := by omega
  have g88 : ¬ 88 ≤ op := by omega
  have l60 : ¬ op ≤ 60 := by omega
  have l31 : ¬ op ≤ 31 := by omega
  have l38 : ¬ op ≤ 38 := by omega
  have l79 : op ≤ 79 := by omega
  have l84 : op ≤ 84 := by omega
  have l90 : op ≤ 90 := by omega
  go_enter Try.func35, Try.ntmps35; go_wp2; go_ret3; exact ⟨rfl, rfl⟩
set_option maxHeartbeats 1000000 in
theorem frm19 (op : Int) (h0 : 80 ≤ op) (h1 : op ≤ 84) (w : World) : Calls Try.prog 35 #[.int .i64 op] w fun e w' => e = .returned (frmV ⟨#[100, 97, 110], 65, 2⟩) ∧ w = w' := by
  have q1 : (op == 1) = false := by simp; omega
  have q10 : (op == 10) = false := by simp; omega
  have q14 : (op == 14) = false := by simp; omega
  have q15 : (op == 15) = false := by simp; omega
  have q2 : (op == 2) = false := by simp; omega
  have q3 : (op == 3) = false := by simp; omega
  have q4 : (op == 4) = false := by simp; omega
  have q5 : (op == 5) = false := by simp; omega
  have q6 : (op == 6) = false := by simp; omega
  have q7 : (op == 7) = false := by simp; omega
  have q8 : (op == 8) = false := by simp; omega
  have q9 : (op == 9) = false := by simp; omega
  have q11 : (op == 11) = false := by simp; omega
  have q96 : (op == 96) = false := by simp; omega
  have q12 : (op == 12) = false := by simp; omega
  have q13 : (op == 13) = false := by simp; omega
  have q97 : (op == 97) = false := by simp; omega
  have g48 : 48 ≤ op := by omega
  have g16 : 16 ≤ op := by omega
  have g32 : 32 ≤ op := by omega
  have g64 : 64 ≤ op := by omega
  have g80 : 80 ≤ op := by omega
  have g88 : ¬ 88 ≤ op := by omega
  have l60 : ¬ op ≤ 60 := by omega
  have l31 : ¬ op ≤ 31 := by omega
  have l38 : ¬ op ≤ 38 := by omega
  have l79 : ¬ op ≤ 79 := by omega
  have l84 : op ≤ 84 := by omega
  have l90 : op ≤ 90 := by omega
  go_enter Try.func35, Try.ntmps35; go_wp2; go_ret3; exact ⟨rfl, rfl⟩
set_option maxHeartbeats 1000000 in
theorem frm20 (op : Int) (h0 : 88 ≤ op) (h1 : op ≤ 90) (w : World) : Calls Try.prog 35 #[.int .i64 op] w fun e w' => e = .returned (frmV ⟨#[100, 97, 110], 65, 2⟩) ∧ w = w' := by
  have q1 : (op == 1) = false := by simp; omega
  have q10 : (op == 10) = false := by simp; omega
  have q14 : (op == 14) = false := by simp; omega
  have q15 : (op == 15) = false := by simp; omega
  have q2 : (op == 2) = false := by simp; omega
  have q3 : (op == 3) = false := by simp; omega
  have q4 : (op == 4) = false := by simp; omega
  have q5 : (op == 5) = false := by simp; omega
  have q6 : (op == 6) = false := by simp; omega
  have q7 : (op == 7) = false := by simp; omega
  have q8 : (op == 8) = false := by simp; omega
  have q9 : (op == 9) = false := by simp; omega
  have q11 : (op == 11) = false := by simp; omega
  have q96 : (op == 96) = false := by simp; omega
  have q12 : (op == 12) = false := by simp; omega
  have q13 : (op == 13) = false := by simp; omega
  have q97 : (op == 97) = false := by simp; omega
  have g48 : 48 ≤ op := by omega
  have g16 : 16 ≤ op := by omega
  have g32 : 32 ≤ op := by omega
  have g64 : 64 ≤ op := by omega
  have g80 : 80 ≤ op := by omega
  have g88 : 88 ≤ op := by omega
  have l60 : ¬ op ≤ 60 := by omega
  have l31 : ¬ op ≤ 31 := by omega
  have l38 : ¬ op ≤ 38 := by omega
  have l79 : ¬ op ≤ 79 := by omega
  have l84 : ¬ op ≤ 84 := by omega
  have l90 : op ≤ 90 := by omega
  go_enter Try.func35, Try.ntmps35; go_wp2; go_ret3; exact ⟨rfl, rfl⟩
theorem frm21 (w : World) : Calls Try.prog 35 #[.int .i64 96] w fun e w' => e = .returned (frmV ⟨#[97, 110], 65, 2⟩) ∧ w = w' := by
  go_enter Try.func35, Try.ntmps35; go_wp2; go_ret3; exact ⟨rfl, rfl⟩
theorem frm22 (w : World) : Calls Try.prog 35 #[.int .i64 97] w fun e w' => e = .returned (frmV ⟨#[100], 0, 1⟩) ∧ w = w' := by
  go_enter Try.func35, Try.ntmps35; go_wp2; go_ret3; exact ⟨rfl, rfl⟩
set_option maxHeartbeats 1000000 in
theorem frm23 (op : Int)  (h1 : op ≤ 0) (w : World) : Calls Try.prog 35 #[.int .i64 op] w fun e w' => e = .returned (frmV ⟨#[], 0, 0⟩) ∧ w = w' := by
  have q1 : (op == 1) = false := by simp; omega
  have q10 : (op == 10) = false := by simp; omega
  have q14 : (op == 14) = false := by simp; omega
  have q15 : (op == 15) = false := by simp; omega
  have q2 : (op == 2) = false := by simp; omega
  have q3 : (op == 3) = false := by simp; omega
  have q4 : (op == 4) = false := by simp; omega
  have q5 : (op == 5) = false := by simp; omega
  have q6 : (op == 6) = false := by simp; omega
  have q7 : (op == 7) = false := by simp; omega
  have q8 : (op == 8) = false := by simp; omega
  have q9 : (op == 9) = false := by simp; omega
  have q11 : (op == 11) = false := by simp; omega
  have q96 : (op == 96) = false := by simp; omega
  have q12 : (op == 12) = false := by simp; omega
  have q13 : (op == 13) = false := by simp; omega
  have q97 : (op == 97) = false := by simp; omega
  have g48 : ¬ 48 ≤ op := by omega
  have g16 : ¬ 16 ≤ op := by omega
  have g32 : ¬ 32 ≤ op := by omega
  have g64 : ¬ 64 ≤ op := by omega
  have g80 : ¬ 80 ≤ op := by omega
  have g88 : ¬ 88 ≤ op := by omega
  have l60 : op ≤ 60 := by omega
  have l31 : op ≤ 31 := by omega
  have l38 : op ≤ 38 := by omega
  have l79 : op ≤ 79 := by omega
  have l84 : op ≤ 84 := by omega
  have l90 : op ≤ 90 := by omega
  clear h1
  go_enter Try.func35, Try.ntmps35; go_wp2; go_ret3; exact ⟨rfl, rfl⟩
set_option maxHeartbeats 1000000 in
theorem frm24 (op : Int) (h0 : 39 ≤ op) (h1 : op ≤ 47) (w : World) : Calls Try.prog 35 #[.int .i64 op] w fun e w' => e = .returned (frmV ⟨#[], 0, 0⟩) ∧ w = w' := by
  have q1 : (op == 1) = false := by simp; omega
  have q10 : (op == 10) = false := by simp; omega
  have q14 : (op == 14) = false := by simp; omega
  have q15 : (op == 15) = false := by simp; omega
  have q2 : (op == 2) = false := by simp; omega
  have q3 : (op == 3) = false := by simp; omega
  have q4 : (op == 4) = false := by simp; omega
  have q5 : (op == 5) = false := by simp; omega
  have q6 : (op == 6) = false := by simp; omega
  have q7 : (op == 7) = false := by simp; omega
  have q8 : (op == 8) = false := by simp; omega
  have q9 : (op == 9) = false := by simp; omega
  have q11 : (op == 11) = false := by simp; omega
  have q96 : (op == 96) = false := by simp; omega
  have q12 : (op == 12) = false := by simp; omega
  have q13 : (op == 13) = false := by simp; omega
  have q97 : (op == 97) = false := by simp; omega
  have g48 : ¬ 48 ≤ op := by omega
  have g16 : 16 ≤ op := by omega
  have g32 : 32 ≤ op := by omega
  have g64 : ¬ 64 ≤ op := by omega
  have g80 : ¬ 80 ≤ op := by omega
  have g88 : ¬ 88 ≤ op := by omega
  have l60 : op ≤ 60 := by omega
  have l31 : ¬ op ≤ 31 := by omega
  have l38 : ¬ op ≤ 38 := by omega
  have l79 : op ≤ 79 := by omega
  have l84 : op ≤ 84 := by omega
  have l90 : op ≤ 90 := by omega
  clear h0
  clear h1
  go_enter Try.func35, Try.ntmps35; go_wp2; go_ret3; exact ⟨rfl, rfl⟩
set_option maxHeartbeats 1000000 in
theorem frm25 (op : Int) (h0 : 61 ≤ op) (h1 : op ≤ 63) (w : World) : Calls Try.prog 35 #[.int .i64 op] w fun e w' => e = .returned (frmV ⟨#[], 0, 0⟩) ∧ w = w' := by
  have q1 : (op == 1) = false := by simp; omega
  have q10 : (op == 10) = false := by simp; omega
  have q14 : (op == 14) = false := by simp; omega
  have q15 : (op == 15) = false := by simp; omega
  have q2 : (op == 2) = false := by simp; omega
  have q3 : (op == 3) = false := by simp; omega
  have q4 : (op == 4) = false := by simp; omega
  have q5 : (op == 5) = false := by simp; omega
  have q6 : (op == 6) = false := by simp; omega
  have q7 : (op == 7) = false := by simp; omega
  have q8 : (op == 8) = false := by simp; omega
  have q9 : (op == 9) = false := by simp; omega
  have q11 : (op == 11) = false := by simp; omega
  have q96 : (op == 96) = false := by simp; omega
  have q12 : (op == 12) = false := by simp; omega
  have q13 : (op == 13) = false := by simp; omega
  have q97 : (op == 97) = false := by simp; omega
  have g48 : 48 ≤ op := by omega
  have g16 : 16 ≤ op := by omega
  have g32 : 32 ≤ op := by omega
  have g64 : ¬ 64 ≤ op := by omega
  have g80 : ¬ 80 ≤ op := by omega
  have g88 : ¬ 88 ≤ op := by omega
  have l60 : ¬ op ≤ 60 := by omega
  have l31 : ¬ op ≤ 31 := by omega
  have l38 : ¬ op ≤ 38 := by omega
  have l79 : op ≤ 79 := by omega
  have l84 : op ≤ 84 := by omega
  have l90 : op ≤ 90 := by omega
  clear h0
  clear h1
  go_enter Try.func35, Try.ntmps35; go_wp2; go_ret3; exact ⟨rfl, rfl⟩
set_option maxHeartbeats 1000000 in
theorem frm26 (op : Int) (h0 : 85 ≤ op) (h1 : op ≤ 87) (w : World) : Calls Try.prog 35 #[.int .i64 op] w fun e w' => e = .returned (frmV ⟨#[], 0, 0⟩) ∧ w = w' := by
  have q1 : (op == 1) = false := by simp; omega
  have q10 : (op == 10) = false := by simp; omega
  have q14 : (op == 14) = false := by simp; omega
  have q15 : (op == 15) = false := by simp; omega
  have q2 : (op == 2) = false := by simp; omega
  have q3 : (op == 3) = false := by simp; omega
  have q4 : (op == 4) = false := by simp; omega
  have q5 : (op == 5) = false := by simp; omega
  have q6 : (op == 6) = false := by simp; omega
  have q7 : (op == 7) = false := by simp; omega
  have q8 : (op == 8) = false := by simp; omega
  have q9 : (op == 9) = false := by simp; omega
  have q11 : (op == 11) = false := by simp; omega
  have q96 : (op == 96) = false := by simp; omega
  have q12 : (op == 12) = false := by simp; omega
  have q13 : (op == 13) = false := by simp; omega
  have q97 : (op == 97) = false := by simp; omega
  have g48 : 48 ≤ op := by omega
  have g16 : 16 ≤ op := by omega
  have g32 : 32 ≤ op := by omega
  have g64 : 64 ≤ op := by omega
  have g80 : 80 ≤ op := by omega
  have g88 : ¬ 88 ≤ op := by omega
  have l60 : ¬ op ≤ 60 := by omega
  have l31 : ¬ op ≤ 31 := by omega
  have l38 : ¬ op ≤ 38 := by omega
  have l79 : ¬ op ≤ 79 := by omega
  have l84 : ¬ op ≤ 84 := by omega
  have l90 : op ≤ 90 := by omega
  clear h0
  clear h1
  go_enter Try.func35, Try.ntmps35; go_wp2; go_ret3; exact ⟨rfl, rfl⟩
set_option maxHeartbeats 1000000 in
theorem frm27 (op : Int) (h0 : 91 ≤ op) (h1 : op ≤ 95) (w : World) : Calls Try.prog 35 #[.int .i64 op] w fun e w' => e = .returned (frmV ⟨#[], 0, 0⟩) ∧ w = w' := by
  have q1 : (op == 1) = false := by simp; omega
  have q10 : (op == 10) = false := by simp; omega
  have q14 : (op == 14) = false := by simp; omega
  have q15 : (op == 15) = false := by simp; omega
  have q2 : (op == 2) = false := by simp; omega
  have q3 : (op == 3) = false := by simp; omega
  have q4 : (op == 4) = false := by simp; omega
  have q5 : (op == 5) = false := by simp; omega
  have q6 : (op == 6) = false := by simp; omega
  have q7 : (op == 7) = false := by simp; omega
  have q8 : (op == 8) = false := by simp; omega
  have q9 : (op == 9) = false := by simp; omega
  have q11 : (op == 11) = false := by simp; omega
  have q96 : (op == 96) = false := by simp; omega
  have q12 : (op == 12) = false := by simp; omega
  have q13 : (op == 13) = false := by simp; omega
  have q97 : (op == 97) = false := by simp; omega
  have g48 : 48 ≤ op := by omega
  have g16 : 16 ≤ op := by omega
  have g32 : 32 ≤ op := by omega
  have g64 : 64 ≤ op := by omega
  have g80 : 80 ≤ op := by omega
  have g88 : 88 ≤ op := by omega
  have l60 : ¬ op ≤ 60 := by omega
  have l31 : ¬ op ≤ 31 := by omega
  have l38 : ¬ op ≤ 38 := by omega
  have l79 : ¬ op ≤ 79 := by omega
  have l84 : ¬ op ≤ 84 := by omega
  have l90 : ¬ op ≤ 90 := by omega
  clear h0
  clear h1
  go_enter Try.func35, Try.ntmps35; go_wp2; go_ret3; exact ⟨rfl, rfl⟩
set_option maxHeartbeats 1000000 in
theorem frm28 (op : Int) (h0 : 98 ≤ op)  (w : World) : Calls Try.prog 35 #[.int .i64 op] w fun e w' => e = .returned (frmV ⟨#[], 0, 0⟩) ∧ w = w' := by
  have q1 : (op == 1) = false := by simp; omega
  have q10 : (op == 10) = false := by simp; omega
  have q14 : (op == 14) = false := by simp; omega
  have q15 : (op == 15) = false := by simp; omega
  have q2 : (op == 2) = false := by simp; omega
  have q3 : (op == 3) = false := by simp; omega
  have q4 : (op == 4) = false := by simp; omega
  have q5 : (op == 5) = false := by simp; omega
  have q6 : (op == 6) = false := by simp; omega
  have q7 : (op == 7) = false := by simp; omega
  have q8 : (op == 8) = false := by simp; omega
  have q9 : (op == 9) = false := by simp; omega
  have q11 : (op == 11) = false := by simp; omega
  have q96 : (op == 96) = false := by simp; omega
  have q12 : (op == 12) = false := by simp; omega
  have q13 : (op == 13) = false := by simp; omega
  have q97 : (op == 97) = false := by simp; omega
  have g48 : 48 ≤ op := by omega
  have g16 : 16 ≤ op := by omega
  have g32 : 32 ≤ op := by omega
  have g64 : 64 ≤ op := by omega
  have g80 : 80 ≤ op := by omega
  have g88 : 88 ≤ op := by omega
  have l60 : ¬ op ≤ 60 := by omega
  have l31 : ¬ op ≤ 31 := by omega
  have l38 : ¬ op ≤ 38 := by omega
  have l79 : ¬ op ≤ 79 := by omega
  have l84 : ¬ op ≤ 84 := by omega
  have l90 : ¬ op ≤ 90 := by omega
  clear h0
  go_enter Try.func35, Try.ntmps35; go_wp2; go_ret3; exact ⟨rfl, rfl⟩
theorem form_any (op : Int) (w : World) : Calls Try.prog 35 #[.int .i64 op] w fun e w' => e = .returned (frmV (fmR op)) ∧ w = w' := by
  rcases (by omega : op ≤ 0 ∨ op = 1 ∨ op = 2 ∨ op = 3 ∨ op = 4 ∨ op = 5 ∨ op = 6 ∨ op = 7 ∨ op = 8 ∨ op = 9 ∨ op = 10 ∨ op = 11 ∨ op = 12 ∨ op = 13 ∨ op = 14 ∨ op = 15 ∨ (16 ≤ op ∧ op ≤ 31) ∨ (32 ≤ op ∧ op ≤ 38) ∨ (39 ≤ op ∧ op ≤ 47) ∨ (48 ≤ op ∧ op ≤ 60) ∨ (61 ≤ op ∧ op ≤ 63) ∨ (64 ≤ op ∧ op ≤ 79) ∨ (80 ≤ op ∧ op ≤ 84) ∨ (85 ≤ op ∧ op ≤ 87) ∨ (88 ≤ op ∧ op ≤ 90) ∨ (91 ≤ op ∧ op ≤ 95) ∨ op = 96 ∨ op = 97 ∨ 98 ≤ op) with h | rfl | rfl | rfl | rfl | rfl | rfl | rfl | rfl | rfl | rfl | rfl | rfl | rfl | rfl | rfl | ⟨h, h1⟩ | ⟨h, h1⟩ | ⟨h, h1⟩ | ⟨h, h1⟩ | ⟨h, h1⟩ | ⟨h, h1⟩ | ⟨h, h1⟩ | ⟨h, h1⟩ | ⟨h, h1⟩ | ⟨h, h1⟩ | rfl | rfl | h
  · rw [show fmR op = ⟨#[], 0, 0⟩ from by unfold fmR; repeat (first | rw [if_pos (by omega)] | rw [if_neg (by omega)])]; exact frm23 op h w
  · exact frm0 w
  · exact frm1 w
  · exact frm2 w
  · exact frm3 w
  · exact frm4 w
  · exact frm5 w
  · exact frm6 w
  · exact frm7 w
  · exact frm8 w
  · exact frm9 w
  · exact frm10 w
  · exact frm11 w
  · exact frm12 w
  · exact frm13 w
  · exact frm14 w
  · rw [show fmR op = ⟨#[100, 97, 98], 0, 1⟩ from by unfold fmR; repeat (first | rw [if_pos (by omega)] | rw [if_neg (by omega)])]; exact frm15 op h h1 w
  · rw [show fmR op = ⟨#[100, 97], 0, 1⟩ from by unfold fmR; repeat (first | rw [if_pos (by omega)] | rw [if_neg (by omega)])]; exact frm16 op h h1 w
  · rw [show fmR op = ⟨#[], 0, 0⟩ from by unfold fmR; repeat (first | rw [if_pos (by omega)] | rw [if_neg (by omega)])]; exact frm24 op h h1 w
  · rw [show fmR op = ⟨#[100, 97, 98, 99], 0, 1⟩ from by unfold fmR; repeat (first | rw [if_pos (by omega)] | rw [if_neg (by omega)])]; exact frm17 op h h1 w
  · rw [show fmR op = ⟨#[], 0, 0⟩ from by unfold fmR; repeat (first | rw [if_pos (by omega)] | rw [if_neg (by omega)])]; exact frm25 op h h1 w
  · rw [show fmR op = ⟨#[100, 97], 0, 1⟩ from by unfold fmR; repeat (first | rw [if_pos (by omega)] | rw [if_neg (by omega)])]; exact frm18 op h h1 w
  · rw [show fmR op = ⟨#[100, 97, 110], 65, 2⟩ from by unfold fmR; repeat (first | rw [if_pos (by omega)] | rw [if_neg (by omega)])]; exact frm19 op h h1 w
  · rw [show fmR op = ⟨#[], 0, 0⟩ from by unfold fmR; repeat (first | rw [if_pos (by omega)] | rw [if_neg (by omega)])]; exact frm26 op h h1 w
  · rw [show fmR op = ⟨#[100, 97, 110], 65, 2⟩ from by unfold fmR; repeat (first | rw [if_pos (by omega)] | rw [if_neg (by omega)])]; exact frm20 op h h1 w
  · rw [show fmR op = ⟨#[], 0, 0⟩ from by unfold fmR; repeat (first | rw [if_pos (by omega)] | rw [if_neg (by omega)])]; exact frm27 op h h1 w
  · exact frm21 w
  · exact frm22 w
  · rw [show fmR op = ⟨#[], 0, 0⟩ from by unfold fmR; repeat (first | rw [if_pos (by omega)] | rw [if_neg (by omega)])]; exact frm28 op h w
end Go.Proofs.Ytgkkghphlbgcoaa.Ho
