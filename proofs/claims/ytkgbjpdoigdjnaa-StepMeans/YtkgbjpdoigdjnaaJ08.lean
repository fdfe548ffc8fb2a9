import Derived.Test.YtkgbjpdoigdjnaaProg
import Derived.WalkKit
import Derived.WalkSpells
import Derived.WalkLawsBesides
import Derived.Deep.QuietTactic
import Derived.BigQuiet
import Derived.KernelRfl
import Derived.Laws.Tables
import Derived.Deep.WholeRow
import Derived.Deep.LoopGhost
namespace Go.Proofs.Ytkgbjpdoigdjnaa.Gu
open Go.RowKit

/-- rowOfByte$1 -/
theorem fits_byte (p : Nat) (x op first count field regs imm : Int) (w : World) (hx : w.cell? ⟨p, 0, none⟩ = some (.int .u8 x)) (hp : p < w.heap.size) :
    Calls Try.prog 113 #[.agg #[.int .u8 op, .int .u8 first, .int .u8 count, .int .u8 field, .int .u8 regs, .int .u8 imm], .pointer (some ⟨p, 0, none⟩)] w
      fun e w' => e = .returned (.bool (decide ((x - first) % 256 < count))) ∧ Below w.heap.size w w' := by
  go_enter Try.func113, Try.ntmps113
  go_wp2
  go_ret
  exact ⟨rfl, (Below.refl _ _).alloc (Nat.le_refl _) _⟩

/-- (row).size -/
def sizeN (regs imm : Int) : Int := 1 + (if imm = 0 then 0 else if imm = 3 then 4 else 1) + (if regs = 0 then 0 else 1)
theorem size_any (op first count field regs imm : Int) (w : World) (h0 : 0 ≤ imm) (h1 : imm ≤ 3) :
    Calls Try.prog 60 #[.agg #[.int .u8 op, .int .u8 first, .int .u8 count, .int .u8 field, .int .u8 regs, .int .u8 imm]] w
      fun e w' => e = .returned (.int .i64 (sizeN regs imm)) ∧ Below w.heap.size w w' := by
  have hb : ∀ (o1 o2 : Obj), Below w.heap.size w ((w.alloc o1).alloc o2) := fun o1 o2 => ((Below.refl _ _).alloc (Nat.le_refl _) _).alloc (by simp) _
  rcases (by omega : imm = 0 ∨ imm = 1 ∨ imm = 2 ∨ imm = 3) with rfl | rfl | rfl | rfl
  all_goals
    by_cases hr : regs = 0
    · subst hr
      go_enter Try.func60, Try.ntmps60
      go_wp2
      go_ret
      exact ⟨rfl, hb _ _⟩
    · have hr' : (regs == 0) = false := by simpa using hr
      have hr2 : (regs != 0) = true := by simpa using hr
      simp only [sizeN, if_neg hr]
      clear hr
      go_enter Try.func60, Try.ntmps60
      go_wp2
      go_ret
      exact ⟨rfl, hb _ _⟩

theorem byteOf_any (x : Int) (w : World) (h0 : 0 ≤ x) (h1 : x ≤ 255) :
    Calls Try.prog 64 #[.int .u8 x] w fun e w' => e = .returned (.int .u32 (if 128 ≤ x then x + 4294967040 else x)) ∧ w = w' := by
  by_cases h : 128 ≤ x
  · rw [if_pos h]
    go_enter Try.func64, Try.ntmps64
    go_wp2
    go_ret
    exact ⟨rfl, rfl⟩
  · rw [if_neg h]
    go_enter Try.func64, Try.ntmps64
    go_wp2
    go_ret
    exact ⟨rfl, rfl⟩

theorem and15_nat : ∀ n : Fin 256, bits BinOp.and IntKind.i64 ((n.val : Nat) : Int) 15 = ((n.val : Nat) : Int) % 16 := by decide +kernel
theorem and15 (x : Int) (h0 : 0 ≤ x) (h1 : x ≤ 255) : bits BinOp.and IntKind.i64 x 15 = x % 16 := by
  have := and15_nat ⟨x.toNat, by omega⟩
  simp only [Int.toNat_of_nonneg h0] at this
  exact this

theorem halves_any (x : Int) (w : World) (h0 : 0 ≤ x) (h1 : x ≤ 255) :
    Calls Try.prog 115 #[.int .i64 x] w fun e w' => e = .returned (.tuple #[.int .i64 (x / 16), .int .i64 (x % 16)]) ∧ w = w' := by
  go_enter Try.func115, Try.ntmps115
  go_wp2
  go_ret2
  refine ⟨?_, rfl⟩
  show Ending.returned (.tuple #[.int .i64 (x / 16), .int .i64 (bits BinOp.and IntKind.i64 x 15)]) = _
  rw [and15 x h0 h1]

end Go.Proofs.Ytkgbjpdoigdjnaa.Gu

namespace Go.Proofs.Ytkgbjpdoigdjnaa.Gu
open Go.RowKit

/-! ## A row of builds, reckoned by the kernel at once -/
def pureB (P : Program) (o : Oper) (a : Act) : Option Act :=
  match o.guard, o.op with
  | none, .build t parts => (P.built t (parts.map fun (i, x) => (i, a.eval x)).toList).map fun cs => a.put o.dst (.agg cs)
  | _, _ => none
def pureN (P : Program) : Nat → List Oper → Act → Option Act
  | 0, _, a => some a
  | n + 1, o :: r, a => (pureB P o a).bind (pureN P n r)
  | _ + 1, [], _ => none

theorem wpList_build_as {P : Program} {ops : Array Oper} {rest : List Oper} {o : Oper} {a : Act} {w : World} {Q : Exit → Act → World → Prop} (hg : o.guard = none) (t : TypeId) (parts : Array (Nat × Operand)) (ho : o.op = .build t parts) (cells : Array Value)
    (hc : P.built t (parts.map fun (i, x) => (i, a.eval x)).toList = some cells)
    (h : wpList P ops Q rest (a.put o.dst (.agg cells)) w) : wpList P ops Q (o :: rest) a w :=
  wpList_build hg t parts ho (by rw [hc]; rfl) (by rw [hc]; exact h)

theorem wpList_pureN {P : Program} {ops : Array Oper} {w : World} {Q : Exit → Act → World → Prop} : ∀ (n : Nat) (l : List Oper) (a a' : Act), pureN P n l a = some a' →
    wpList P ops Q (l.drop n) a' w → wpList P ops Q l a w
  | 0, _, _, _, h, k => by simp only [pureN, Option.some.injEq] at h; subst h; exact k
  | n + 1, [], _, _, h, _ => by simp [pureN] at h
  | n + 1, o :: r, a, a', h, k => by
    simp only [pureN] at h
    cases hb : pureB P o a with
    | none => simp [hb] at h
    | some a1 =>
      simp only [hb, Option.bind_some] at h
      unfold pureB at hb
      split at hb
      · rename_i t parts hg ho
        simp only [Option.map_eq_some_iff] at hb
        obtain ⟨cs, hcs, rfl⟩ := hb
        exact wpList_build_as hg t parts ho cs hcs (wpList_pureN n r _ a' h (by simpa using k))
      · simp at hb

theorem wpList_pureAt {P : Program} {ops : Array Oper} {w : World} {Q : Exit → Act → World → Prop} (d n : Nat) (o : Oper) (l : List Oper) (a a' : Act) (_hd : o.dst = some d) (h : pureN P n (o :: l) a = some a')
    (k : wpList P ops Q ((o :: l).drop n) a' w) : wpList P ops Q (o :: l) a w := wpList_pureN n (o :: l) a a' h k

theorem wpList_alloc_as {P : Program} {ops : Array Oper} {rest : List Oper} {o : Oper} {a : Act} {w : World} {Q : Exit → Act → World → Prop} (hg : o.guard = none) (t : TypeId) (ho : o.op = .alloc t) (cs : Array Value) (hz : ∀ w, (zeroValue t).run P w = .ok (.agg cs) w) (H : Nat) (hH : w.heap.size = H)
    (h : wpList P ops Q rest (a.put o.dst (.pointer (some ⟨H, 0, none⟩))) (w.alloc (.cells cs t))) : wpList P ops Q (o :: rest) a w := by
  subst hH
  refine wpList_plain hg fun _ hK => ?_
  unfold Oper.wp execOp
  simp [ho, hz, Instr.alloc, go_sem]
  exact hK _ _ h

theorem wpList_buildSlice_as {P : Program} {ops : Array Oper} {rest : List Oper} {o : Oper} {a : Act} {w : World} {Q : Exit → Act → World → Prop} (hg : o.guard = none) (t : TypeId) (len : Nat) (parts : Array (Nat × Operand)) (ho : o.op = .buildSlice t len parts) (v : Value) (w' : World)
    (hr : (Instr.buildSlice t len (parts.map fun (i, x) => (i, a.eval x))).run P w = .ok v w')
    (h : wpList P ops Q rest (a.put o.dst v) w') : wpList P ops Q (o :: rest) a w := by
  refine wpList_plain hg fun _ hK => ?_
  unfold Oper.wp execOp
  simp only [ho, Sem.run_bind, hr, Result.andThen_ok, Sem.run_pure]
  exact hK _ _ h

/-! ## The two tables -/
def tabL : List Int := [0, 0, 1, 0, 0, 0, 1, 1, 1, 0, 0, 0, 2, 2, 1, 0, 0, 0, 3, 3, 1, 0, 0, 0, 4, 4, 1, 0, 0, 0, 5, 5, 1, 0, 0, 1, 6, 6, 1, 0, 0, 2, 7, 7, 1, 0, 0, 3, 8, 8, 1, 0, 0, 3, 9, 9, 1, 0, 1, 0, 10, 10, 1, 0, 1, 0, 11, 11, 1, 0, 1, 2, 12, 16, 16, 1, 0, 2, 13, 32, 16, 1, 0, 3, 14, 48, 8, 2, 0, 0, 15, 56, 8, 3, 0, 0, 16, 64, 8, 3, 0, 3, 17, 72, 8, 3, 0, 0, 18, 80, 8, 3, 0, 0, 19, 88, 8, 3, 0, 0, 20, 96, 8, 3, 0, 0, 21, 104, 1, 0, 3, 0, 22, 105, 1, 0, 4, 0, 23, 106, 1, 0, 4, 2, 24, 107, 1, 0, 4, 2, 25, 108, 1, 0, 4, 2, 26, 109, 1, 0, 4, 2, 27, 112, 16, 1, 4, 0, 28, 128, 16, 1, 2, 3, 29, 144, 16, 1, 2, 2, 30, 160, 5, 1, 4, 2, 31, 165, 3, 1, 4, 2]
def tabV : List Value := tabL.map (Value.int .u8)
def tabCells : Array Value := tabV.toArray
def tabZero : Array Value := Array.replicate 192 (.int .u8 0)
/-- The number at field j of row k. -/
def tg (k j : Nat) : Int := tabL.getD (k * 6 + j) 0
def rowC (k : Nat) : Value := .agg #[.int .u8 (tg k 0), .int .u8 (tg k 1), .int .u8 (tg k 2), .int .u8 (tg k 3), .int .u8 (tg k 4), .int .u8 (tg k 5)]
/-- Field j of the row that was found; 0 where none was. -/
def rg (h : Option Nat) (j : Nat) : Int :=
  match h with
  | some k => tg k j
  | none => 0
abbrev rowV (h : Option Nat) : Value := .agg #[.int .u8 (rg h 0), .int .u8 (rg h 1), .int .u8 (rg h 2), .int .u8 (rg h 3), .int .u8 (rg h 4), .int .u8 (rg h 5)]
def formV : List Value := [.int .i64 0, .int .i64 1, .string { data := #[] }, .string { data := #[] }, .int .i64 1, .int .i64 1, .string { data := #[] }, .string { data := #[] }, .int .i64 2, .int .i64 1, .string { data := #[] }, .string { data := #[] }, .int .i64 3, .int .i64 1, .string { data := #[] }, .string { data := #[] }, .int .i64 4, .int .i64 1, .string { data := #[] }, .string { data := #[] }, .int .i64 5, .int .i64 1, .string { data := #[] }, .string { data := #[98] }, .int .i64 6, .int .i64 1, .string { data := #[] }, .string { data := #[115] }, .int .i64 7, .int .i64 1, .string { data := #[] }, .string { data := #[119] }, .int .i64 8, .int .i64 1, .string { data := #[] }, .string { data := #[119] }, .int .i64 9, .int .i64 1, .string { data := #[] }, .string { data := #[101] }, .int .i64 10, .int .i64 1, .string { data := #[] }, .string { data := #[101] }, .int .i64 11, .int .i64 1, .string { data := #[] }, .string { data := #[101, 115] }, .int .i64 16, .int .i64 16, .string { data := #[79] }, .string { data := #[115] }, .int .i64 32, .int .i64 16, .string { data := #[79] }, .string { data := #[119] }, .int .i64 48, .int .i64 8, .string { data := #[83] }, .string { data := #[] }, .int .i64 56, .int .i64 8, .string { data := #[68] }, .string { data := #[] }, .int .i64 64, .int .i64 8, .string { data := #[68] }, .string { data := #[119] }, .int .i64 72, .int .i64 8, .string { data := #[68] }, .string { data := #[] }, .int .i64 80, .int .i64 8, .string { data := #[68] }, .string { data := #[] }, .int .i64 88, .int .i64 8, .string { data := #[68] }, .string { data := #[] }, .int .i64 96, .int .i64 8, .string { data := #[68] }, .string { data := #[] }, .int .i64 104, .int .i64 1, .string { data := #[] }, .string { data := #[99] }, .int .i64 105, .int .i64 1, .string { data := #[] }, .string { data := #[112] }, .int .i64 106, .int .i64 1, .string { data := #[] }, .string { data := #[112, 115] }, .int .i64 107, .int .i64 1, .string { data := #[] }, .string { data := #[112, 115] }, .int .i64 108, .int .i64 1, .string { data := #[] }, .string { data := #[112, 115] }, .int .i64 109, .int .i64 1, .string { data := #[] }, .string { data := #[112, 115] }, .int .i64 112, .int .i64 16, .string { data := #[79] }, .string { data := #[112] }, .int .i64 128, .int .i64 16, .string { data := #[79] }, .string { data := #[100, 119] }, .int .i64 144, .int .i64 16, .string { data := #[79] }, .string { data := #[100, 115] }, .int .i64 160, .int .i64 5, .string { data := #[79] }, .string { data := #[112, 115] }, .int .i64 165, .int .i64 3, .string { data := #[79] }, .string { data := #[112, 115] }]
def formC (k : Nat) : Value := .agg ((formV.drop (4 * k)).take 4).toArray
def formCells : Array Value := formV.toArray

theorem info59 : (Try.prog.info? 216).map (fun i => (i.zero, i.size)) = some (some (.agg tabZero), 192) := by kernel_rfl

set_option maxRecDepth 100000 in
set_option maxHeartbeats 400000 in
theorem forms_any (w : World) :
    Calls Try.prog 63 #[] w
      fun e w' => e = .returned (.slice (some ⟨w.heap.size, 0, none⟩) 32 32) ∧ w.alloc (.cells formCells 113) = w' := by
  go_enter Try.func63, Try.ntmps63
  go_wp2_with (first | (refine wpList_pureAt 1 32 _ _ _ ⟨#[.slice none 0 0, formC 0, formC 1, formC 2, formC 3, formC 4, formC 5, formC 6, formC 7, formC 8, formC 9, formC 10, formC 11, formC 12, formC 13, formC 14, formC 15, formC 16, formC 17, formC 18, formC 19, formC 20, formC 21, formC 22, formC 23, formC 24, formC 25, formC 26, formC 27, formC 28, formC 29, formC 30, formC 31, undef], []⟩ rfl (by kernel_rfl) ?_; simp only [List.drop_succ_cons, List.drop_zero]) | (refine wpList_buildSlice_as rfl 114 32 _ rfl (.slice (some ⟨w.heap.size, 0, none⟩) 32 32) (w.alloc (.cells formCells 113)) (by kernel_rfl) ?_))
  go_ret
  exact ⟨rfl, rfl⟩

theorem tab_len : tabL.length = 192 := by kernel_rfl
theorem tab_at (i : Nat) (h : i < 192) : tabCells[i]? = some (.int .u8 (tabL.getD i 0)) := by
  have hl : i < tabL.length := by rw [tab_len]; exact h
  simp only [tabCells, tabV, List.getElem?_toArray, List.getElem?_map, List.getElem?_eq_getElem hl, Option.map_some, List.getD_eq_getElem?_getD, Option.getD_some]

/-- The first of so many that fits. -/
def hit (fit : Nat → Bool) : Option Nat := (List.range 32).find? fit
theorem hit_some {fit : Nat → Bool} {k : Nat} (hk : k < 32) (h : fit k = true) (hn : ∀ j, j < k → fit j = false) : hit fit = some k := by
  unfold hit
  rw [List.find?_range_eq_some]
  exact ⟨h, by simpa using hk, fun j hj => by simp [hn j hj]⟩
theorem hit_none {fit : Nat → Bool} (hn : ∀ j, j < 32 → fit j = false) : hit fit = none := by
  unfold hit
  rw [List.find?_eq_none]
  intro j hj
  simp [hn j (by simpa using hj)]

theorem info_cells {w wr : World} {B : Nat} {cs : Array Value} {t : TypeId} (h : Below (w.heap.size + 1) (w.alloc (.cells cs t)) wr) (hB : B = w.heap.size) (i : Nat) : wr.cell? ⟨B, i, none⟩ = cs[i]? := by
  subst hB
  rw [h.cell (p := ⟨w.heap.size, i, none⟩) (Nat.lt_succ_self _)]
  exact cell_of_row _ _ i cs t (0, 0) (heap_alloc_last w _)

theorem bcell {W w1 : World} (hb : Below W.heap.size W w1) : (∀ b o, b < W.heap.size → w1.cell? ⟨b, o, none⟩ = W.cell? ⟨b, o, none⟩) ∧ (∀ b o, b < W.heap.size → w1.frozen? ⟨b, o, none⟩ = W.frozen? ⟨b, o, none⟩) :=
  ⟨fun b o h => hb.cell (p := ⟨b, o, none⟩) h, fun b o h => hb.frozen (p := ⟨b, o, none⟩) h⟩
end Go.Proofs.Ytkgbjpdoigdjnaa.Gu
