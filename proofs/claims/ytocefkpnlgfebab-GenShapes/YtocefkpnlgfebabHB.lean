import Derived.Test.YtocefkpnlgfebabProg
import Derived.WalkKit
import Derived.WalkSpells
import Derived.WalkLawsBesides
import Derived.Deep.QuietTactic
import Derived.BigQuiet
import Derived.BigRegion
import Derived.KernelRfl
import Derived.Laws.Tables
import Derived.Laws.BitsAllLaws
import Derived.Deep.WholeRow
import Derived.Deep.LoopGhost
namespace Go.Proofs.Ytocefkpnlgfebab.Ho
open Go.RowKit
set_option linter.unusedVariables false
set_option linter.unusedSimpArgs false

/-! ## A row of builds, reckoned by the kernel at once -/
def pureB (P : Program) (o : Oper) (a : Act) : Option Act :=
  match o.guard, o.op with
  | none, .build t parts => (P.built t (parts.map fun (i, x) => (i, a.eval x)).toList).map fun cs => a.put o.dst (.agg cs)
  | _, _ => none
def pureN (P : Program) : Nat → List Oper → Act → Option Act
  | 0, _, a => some a
  | n + 1, o :: r, a => (pureB P o a).bind (pureN P n r)
  | _ + 1, [], _ => none
theorem wpList_build_as {P : Program} {ops : Array Oper} {rest : List Oper} {o : Oper} {a : Act} {w : World} {Q : Exit → Act → World → Prop} (hg : o.guard = none) (t : TypeId) (parts : Array (Nat × Operand)) (ho : o.op = .build t parts) (cells : Array Value)
    (hc : P.built t (parts.map fun (i, x) => (i, a.eval x)).toList = some cells)
    (h : wpList P ops Q rest (a.put o.dst (.agg cells)) w) : wpList P ops Q (o :: rest) a w :=
  wpList_build hg t parts ho (by rw [hc]; rfl) (by rw [hc]; exact h)
theorem wpList_pureN {P : Program} {ops : Array Oper} {w : World} {Q : Exit → Act → World → Prop} : ∀ (n : Nat) (l : List Oper) (a a' : Act), pureN P n l a = some a' →
    wpList P ops Q (l.drop n) a' w → wpList P ops Q l a w
  | 0, _, _, _, h, k => by simp only [pureN, Option.some.injEq] at h; subst h; exact k
  | n + 1, [], _, _, h, _ => by simp [pureN] at h
  | n + 1, o :: r, a, a', h, k => by
    simp only [pureN] at h
    cases hb : pureB P o a with
    | none => simp [hb] at h
    | some a1 =>
      simp only [hb, Option.bind_some] at h
      unfold pureB at hb
      split at hb
      · rename_i t parts hg ho
        simp only [Option.map_eq_some_iff] at hb
        obtain ⟨cs, hcs, rfl⟩ := hb
        exact wpList_build_as hg t parts ho cs hcs (wpList_pureN n r _ a' h (by simpa using k))
      · simp at hb
theorem wpList_pureAt {P : Program} {ops : Array Oper} {w : World} {Q : Exit → Act → World → Prop} (d n : Nat) (o : Oper) (l : List Oper) (a a' : Act) (_hd : o.dst = some d) (h : pureN P n (o :: l) a = some a')
    (k : wpList P ops Q ((o :: l).drop n) a' w) : wpList P ops Q (o :: l) a w := wpList_pureN n (o :: l) a a' h k
theorem wpList_alloc_as {P : Program} {ops : Array Oper} {rest : List Oper} {o : Oper} {a : Act} {w : World} {Q : Exit → Act → World → Prop} (hg : o.guard = none) (t : TypeId) (ho : o.op = .alloc t) (cs : Array Value) (hz : ∀ w, (zeroValue t).run P w = .ok (.agg cs) w) (H : Nat) (hH : w.heap.size = H)
    (h : wpList P ops Q rest (a.put o.dst (.pointer (some ⟨H, 0, none⟩))) (w.alloc (.cells cs t))) : wpList P ops Q (o :: rest) a w := by
  subst hH
  refine wpList_plain hg fun _ hK => ?_
  unfold Oper.wp execOp
  simp [ho, hz, Instr.alloc, go_sem]
  exact hK _ _ h

/-! ## The table of formats -/
def hfN : List Int := [1, 1, 0, 24, 64, 2, 2, 1, 80, 0, 3, 3, 0, 65, 0, 4, 4, 0, 9, 64, 5, 5, 6, 71, 0, 6, 6, 0, 72, 11, 7, 7, 0, 9, 11, 8, 8, 0, 72, 2047, 9, 9, 0, 9, 2047, 10, 10, 0, 24, 64, 11, 11, 0, 25, 64, 12, 12, 0, 312, 64, 13, 13, 0, 281, 64, 14, 14, 0, 24, 64, 15, 15, 0, 24, 64, 16, 31, 4, 67, 0, 32, 38, 5, 65, 0, 48, 60, 7, 71, 0, 64, 79, 8, 65, 0, 80, 84, 0, 89, 64, 88, 90, 0, 153, 64, 96, 96, 0, 25, 64, 97, 97, 0, 64, 0]
def hfV : List Value := [.int .u8 1, .int .u8 1, .int .u8 0, .int .u16 24, .int .u16 64, .int .u8 2, .int .u8 2, .int .u8 1, .int .u16 80, .int .u16 0, .int .u8 3, .int .u8 3, .int .u8 0, .int .u16 65, .int .u16 0, .int .u8 4, .int .u8 4, .int .u8 0, .int .u16 9, .int .u16 64, .int .u8 5, .int .u8 5, .int .u8 6, .int .u16 71, .int .u16 0, .int .u8 6, .int .u8 6, .int .u8 0, .int .u16 72, .int .u16 11, .int .u8 7, .int .u8 7, .int .u8 0, .int .u16 9, .int .u16 11, .int .u8 8, .int .u8 8, .int .u8 0, .int .u16 72, .int .u16 2047, .int .u8 9, .int .u8 9, .int .u8 0, .int .u16 9, .int .u16 2047, .int .u8 10, .int .u8 10, .int .u8 0, .int .u16 24, .int .u16 64, .int .u8 11, .int .u8 11, .int .u8 0, .int .u16 25, .int .u16 64, .int .u8 12, .int .u8 12, .int .u8 0, .int .u16 312, .int .u16 64, .int .u8 13, .int .u8 13, .int .u8 0, .int .u16 281, .int .u16 64, .int .u8 14, .int .u8 14, .int .u8 0, .int .u16 24, .int .u16 64, .int .u8 15, .int .u8 15, .int .u8 0, .int .u16 24, .int .u16 64, .int .u8 16, .int .u8 31, .int .u8 4, .int .u16 67, .int .u16 0, .int .u8 32, .int .u8 38, .int .u8 5, .int .u16 65, .int .u16 0, .int .u8 48, .int .u8 60, .int .u8 7, .int .u16 71, .int .u16 0, .int .u8 64, .int .u8 79, .int .u8 8, .int .u16 65, .int .u16 0, .int .u8 80, .int .u8 84, .int .u8 0, .int .u16 89, .int .u16 64, .int .u8 88, .int .u8 90, .int .u8 0, .int .u16 153, .int .u16 64, .int .u8 96, .int .u8 96, .int .u8 0, .int .u16 25, .int .u16 64, .int .u8 97, .int .u8 97, .int .u8 0, .int .u16 64, .int .u16 0]
def hfC : Array Value := hfV.toArray
def hfZ : Array Value := #[.int .u8 0, .int .u8 0, .int .u8 0, .int .u16 0, .int .u16 0, .int .u8 0, .int .u8 0, .int .u8 0, .int .u16 0, .int .u16 0, .int .u8 0, .int .u8 0, .int .u8 0, .int .u16 0, .int .u16 0, .int .u8 0, .int .u8 0, .int .u8 0, .int .u16 0, .int .u16 0, .int .u8 0, .int .u8 0, .int .u8 0, .int .u16 0, .int .u16 0, .int .u8 0, .int .u8 0, .int .u8 0, .int .u16 0, .int .u16 0, .int .u8 0, .int .u8 0, .int .u8 0, .int .u16 0, .int .u16 0, .int .u8 0, .int .u8 0, .int .u8 0, .int .u16 0, .int .u16 0, .int .u8 0, .int .u8 0, .int .u8 0, .int .u16 0, .int .u16 0, .int .u8 0, .int .u8 0, .int .u8 0, .int .u16 0, .int .u16 0, .int .u8 0, .int .u8 0, .int .u8 0, .int .u16 0, .int .u16 0, .int .u8 0, .int .u8 0, .int .u8 0, .int .u16 0, .int .u16 0, .int .u8 0, .int .u8 0, .int .u8 0, .int .u16 0, .int .u16 0, .int .u8 0, .int .u8 0, .int .u8 0, .int .u16 0, .int .u16 0, .int .u8 0, .int .u8 0, .int .u8 0, .int .u16 0, .int .u16 0, .int .u8 0, .int .u8 0, .int .u8 0, .int .u16 0, .int .u16 0, .int .u8 0, .int .u8 0, .int .u8 0, .int .u16 0, .int .u16 0, .int .u8 0, .int .u8 0, .int .u8 0, .int .u16 0, .int .u16 0, .int .u8 0, .int .u8 0, .int .u8 0, .int .u16 0, .int .u16 0, .int .u8 0, .int .u8 0, .int .u8 0, .int .u16 0, .int .u16 0, .int .u8 0, .int .u8 0, .int .u8 0, .int .u16 0, .int .u16 0, .int .u8 0, .int .u8 0, .int .u8 0, .int .u16 0, .int .u16 0, .int .u8 0, .int .u8 0, .int .u8 0, .int .u16 0, .int .u16 0]
/-- The number at field j of row k. -/
def tg (k j : Nat) : Int := hfN.getD (k * 5 + j) 0
def hrow (k : Nat) : Value := .agg #[.int .u8 (tg k 0), .int .u8 (tg k 1), .int .u8 (tg k 2), .int .u16 (tg k 3), .int .u16 (tg k 4)]
def rg (h : Option Nat) (j : Nat) : Int :=
  match h with
  | some k => tg k j
  | none => 0
abbrev rowV (h : Option Nat) : Value := .agg #[.int .u8 (rg h 0), .int .u8 (rg h 1), .int .u8 (rg h 2), .int .u16 (rg h 3), .int .u16 (rg h 4)]
theorem hf_info : (Try.prog.info? 173).map (fun i => (i.zero, i.size)) = some (some (.agg hfZ), 115) := by kernel_rfl
theorem hf_at (k : Nat) (h : k < 23) : hfC[k * 5]? = some (.int .u8 (tg k 0)) ∧ hfC[k * 5 + 1]? = some (.int .u8 (tg k 1)) ∧ hfC[k * 5 + 2]? = some (.int .u8 (tg k 2)) ∧ hfC[k * 5 + 3]? = some (.int .u16 (tg k 3)) ∧ hfC[k * 5 + 4]? = some (.int .u16 (tg k 4)) := by
  rcases (by omega : k = 0 ∨ k = 1 ∨ k = 2 ∨ k = 3 ∨ k = 4 ∨ k = 5 ∨ k = 6 ∨ k = 7 ∨ k = 8 ∨ k = 9 ∨ k = 10 ∨ k = 11 ∨ k = 12 ∨ k = 13 ∨ k = 14 ∨ k = 15 ∨ k = 16 ∨ k = 17 ∨ k = 18 ∨ k = 19 ∨ k = 20 ∨ k = 21 ∨ k = 22) with rfl | rfl | rfl | rfl | rfl | rfl | rfl | rfl | rfl | rfl | rfl | rfl | rfl | rfl | rfl | rfl | rfl | rfl | rfl | rfl | rfl | rfl | rfl <;> exact ⟨rfl, rfl, rfl, rfl, rfl⟩
theorem tg_le (k : Nat) (h : k < 23) : (0 ≤ tg k 0 ∧ tg k 0 ≤ 255) ∧ (0 ≤ tg k 1 ∧ tg k 1 ≤ 255) := by
  rcases (by omega : k = 0 ∨ k = 1 ∨ k = 2 ∨ k = 3 ∨ k = 4 ∨ k = 5 ∨ k = 6 ∨ k = 7 ∨ k = 8 ∨ k = 9 ∨ k = 10 ∨ k = 11 ∨ k = 12 ∨ k = 13 ∨ k = 14 ∨ k = 15 ∨ k = 16 ∨ k = 17 ∨ k = 18 ∨ k = 19 ∨ k = 20 ∨ k = 21 ∨ k = 22) with rfl | rfl | rfl | rfl | rfl | rfl | rfl | rfl | rfl | rfl | rfl | rfl | rfl | rfl | rfl | rfl | rfl | rfl | rfl | rfl | rfl | rfl | rfl <;> decide
def fitB (op : Int) (k : Nat) : Bool := decide (tg k 0 ≤ op) && decide (op ≤ tg k 1)
def hit (op : Int) : Option Nat := (List.range 23).find? (fitB op)
theorem hit_some {op : Int} {k : Nat} (hk : k < 23) (h : fitB op k = true) (hn : ∀ j, j < k → fitB op j = false) : hit op = some k := by
  unfold hit
  rw [List.find?_range_eq_some]
  exact ⟨h, by simpa using hk, fun j hj => by simp [hn j hj]⟩
theorem hit_none {op : Int} (hn : ∀ j, j < 23 → fitB op j = false) : hit op = none := by
  unfold hit
  rw [List.find?_eq_none]
  intro j hj
  simp [hn j (by simpa using hj)]
theorem info_cells {w wr : World} {B : Nat} {cs : Array Value} {t : TypeId} (h : Below (w.heap.size + 1) (w.alloc (.cells cs t)) wr) (hB : B = w.heap.size) (i : Nat) : wr.cell? ⟨B, i, none⟩ = cs[i]? := by
  subst hB
  rw [h.cell (p := ⟨w.heap.size, i, none⟩) (Nat.lt_succ_self _)]
  exact cell_of_row _ _ i cs t (0, 0) (heap_alloc_last w _)

set_option maxRecDepth 100000 in
set_option maxHeartbeats 1000000 in
theorem format_any (op : Int) (w : World) :
    Calls Try.prog 61 #[.int .i64 op] w
      fun e w' => e = .returned (.tuple #[rowV (hit op), .bool (hit op).isSome]) ∧ Below w.heap.size w w' := by
  have zW := (zero_of_info hf_info).1
  go_enter Try.func61, Try.ntmps61
  go_wp2_with (first | (refine wpList_pureAt 7 24 _ _ _ ⟨#[.int .i64 op, undef, .pointer (some ⟨w.heap.size, 0, none⟩), .bool false, undef, undef, undef, hrow 0, hrow 1, hrow 2, hrow 3, hrow 4, hrow 5, hrow 6, hrow 7, hrow 8, hrow 9, hrow 10, hrow 11, hrow 12, hrow 13, hrow 14, hrow 15, hrow 16, hrow 17, hrow 18, hrow 19, hrow 20, hrow 21, hrow 22, .agg hfC, undef, undef, undef, undef, undef, undef, undef, undef, undef, undef, undef, undef, undef, undef, undef, undef, undef, undef, undef, undef, undef, undef, undef, undef, undef, undef], []⟩ rfl (by kernel_rfl) ?_; simp only [List.drop_succ_cons, List.drop_zero]) | (refine wpList_alloc_as rfl 173 rfl _ zW (w.heap.size + 1) (by simp) ?_) | (refine wpList_store_row rfl 173 _ _ rfl (w.heap.size + 1) hfC (by rfl) (by rfl) 173 hfZ (by exact heap_alloc2_new w _ _) (zero_of_info hf_info).2 (by rfl) (by kernel_rfl) ?_; rw [show w.heap.size + 1 = (w.alloc (.cells #[.int .u8 0, .int .u8 0, .int .u8 0, .int .u16 0, .int .u16 0] 103)).heap.size from by simp, World.setRow_alloc_new]; simp only [World.size_alloc]))
  clear zW
  generalize hW1 : w.alloc (.cells #[.int .u8 0, .int .u8 0, .int .u8 0, .int .u16 0, .int .u16 0] 103) = W1
  have hs1 : W1.heap.size = w.heap.size + 1 := by rw [← hW1]; simp
  have hb1 : Below w.heap.size w W1 := by rw [← hW1]; exact (Below.refl _ _).alloc (Nat.le_refl _) _
  have hc1 : ∀ i, W1.cell? ⟨w.heap.size, i, none⟩ = #[Value.int .u8 0, .int .u8 0, .int .u8 0, .int .u16 0, .int .u16 0][i]? := by
    intro i; rw [← hW1]; exact cell_of_row _ _ i _ 103 (0, 0) (heap_alloc_last w _)
  have hf1 : ∀ i, W1.frozen? ⟨w.heap.size, i, none⟩ = false := by
    intro i; rw [← hW1]; exact frozen_of_row _ _ i _ 103 (heap_alloc_last w _)
  clear hW1
  go_loopw [31] (fun i wr => ∃ k : Nat, k ≤ 23 ∧ i = .int .i64 k ∧ (∀ j, j < k → fitB op j = false) ∧ Below (W1.heap.size + 1) (W1.alloc (.cells hfC 173)) wr) (fun i _ => 23 - (intOf i).toNat)
  case atStart => exact ⟨0, by omega, rfl, fun j hj => by omega, Below.refl _ _⟩
  case round =>
    obtain ⟨k, hk, rfl, hno, hbel⟩ := hrel
    have hbw : Below w.heap.size w wr := hb1.trans (((Below.refl _ _).alloc (by omega) _).trans (hbel.mono (by omega)))
    have hsz : w.heap.size + 1 < wr.heap.size := by have := hbel.size; simp at this; omega
    have hsz0 : w.heap.size < wr.heap.size := by omega
    have hcell : ∀ i, wr.cell? ⟨w.heap.size + 1, i, none⟩ = hfC[i]? := fun i => info_cells hbel hs1.symm i
    have hres : ∀ i, wr.cell? ⟨w.heap.size, i, none⟩ = #[Value.int .u8 0, .int .u8 0, .int .u8 0, .int .u16 0, .int .u16 0][i]? := fun i => by
      rw [hbel.cell (p := ⟨w.heap.size, i, none⟩) (by show w.heap.size < _; omega), World.cell?_alloc_past _ _ _ (by show w.heap.size < _; omega), hc1]
    have hfrz : ∀ i, wr.frozen? ⟨w.heap.size, i, none⟩ = false := fun i => by
      rw [hbel.frozen (p := ⟨w.heap.size, i, none⟩) (by show w.heap.size < _; omega), World.frozen?_of_block (w := W1) (Below.heap_alloc _ _ _ (by show w.heap.size < _; omega)), hf1]
    have r0 := hres 0
    have r1 := hres 1
    have r2 := hres 2
    have r3 := hres 3
    have r4 := hres 4
    have z0 := hfrz 0
    have z1 := hfrz 1
    have z2 := hfrz 2
    have z3 := hfrz 3
    have z4 := hfrz 4
    simp at r0 r1 r2 r3 r4
    by_cases hlt : k < 23
    · obtain ⟨a0, a1, a2, a3, a4⟩ := hf_at k hlt
      have c0 := (hcell _).trans a0
      have c1 := (hcell _).trans a1
      have c2 := (hcell _).trans a2
      have c3 := (hcell _).trans a3
      have c4 := (hcell _).trans a4
      obtain ⟨⟨b0, b1⟩, b2, b3⟩ := tg_le k hlt
      clear hcell hres hfrz hc1 hf1 a0 a1 a2 a3 a4
      have hfk : fitB op k = (decide (tg k 0 ≤ op) && decide (op ≤ tg k 1)) := rfl
      have hyes := fun (h : fitB op k = true) => hit_some hlt h hno
      generalize e0 : tg k 0 = t0 at *
      generalize e1 : tg k 1 = t1 at *
      go_wp2
      · have hq := hyes (by rw [hfk]; simp; constructor <;> assumption)
        refine bodyPost_ret (v := .tuple #[.agg #[.int .u8 t0, .int .u8 t1, .int .u8 (tg k 2), .int .u16 (tg k 3), .int .u16 (tg k 4)], .bool true]) (by simp [results, Try.results61, go_sem, hsz0, r0, r1, r2, r3, r4]) rfl ⟨by rw [hq, ← e0, ← e1]; rfl, ?_⟩
        exact ((((hbw.setCell (by simp) _).setCell (by simp) _).setCell (by simp) _).setCell (by simp) _).setCell (by simp) _
      all_goals
        have hnot : fitB op k = false := by
          rw [hfk]; simp; intros; omega
        go_roundw
        case rel => exact ⟨k + 1, by omega, by go_num, fun j hj => by rcases Nat.lt_succ_iff_lt_or_eq.1 hj with h | h; exact hno j h; rw [h]; exact hnot, hbel⟩
        case measure => simp [intOf]; omega
    · clear hcell hres hfrz hc1 hf1
      go_wp2
      have hk23 : k = 23 := by omega
      refine bodyPost_ret (v := .tuple #[.agg #[.int .u8 0, .int .u8 0, .int .u8 0, .int .u16 0, .int .u16 0], .bool false]) (by simp [results, Try.results61, go_sem, hsz0, r0, r1, r2, r3, r4]) rfl ⟨by rw [hit_none (fun j hj => hno j (by omega))]; rfl, ?_⟩
      exact ((((hbw.setCell (by simp) _).setCell (by simp) _).setCell (by simp) _).setCell (by simp) _).setCell (by simp) _
end Go.Proofs.Ytocefkpnlgfebab.Ho
