import Derived.Test.YtkgbjpdoigdjnacWBO
import Derived.Carry
import Derived.Laws.MakeOwn
import Derived.Deep.RegionHeld3
import Derived.Deep.CutBlock
import Derived.Deep.CutRange
import Derived.Deep.LoopGhost
import Derived.ChangeKeysEq
namespace Go.Proofs.Ytkgbjpdoigdjnac
open Go.RowKit
set_option maxRecDepth 100000
set_option linter.unusedVariables false
set_option linter.unusedSimpArgs false
theorem wp_gen {P : Program} {c : Code} {Q : Exit → Act → World → Prop} {a : Act} {W : World} (p : World → Prop) (h : p W) (k : ∀ w', p w' → Code.wp P c Q a w') : Code.wp P c Q a W := k W h
theorem row_cell {w : World} {X : Nat} {A : Array Value} {T : TypeId} (h : w.heap[X]? = some (.cells A T)) (o : Nat) : w.cell? ⟨X, o, none⟩ = A[o]? := cell_of_row _ _ o _ _ (0, 0) h
theorem row_fr {w : World} {X : Nat} {A : Array Value} {T : TypeId} (h : w.heap[X]? = some (.cells A T)) : ∀ o, w.frozen? ⟨X, o, none⟩ = false := fun o => frozen_of_row _ _ o _ _ h
theorem row_lt {w : World} {X : Nat} {o : Obj} (h : w.heap[X]? = some o) : X < w.heap.size := by
  rcases Nat.lt_or_ge X w.heap.size with g | g
  · exact g
  · rw [Array.getElem?_eq_none g] at h; cases h
theorem noEntry_any (w : World) : Calls Try.prog 10 #[] w fun e w' => e = .returned (.agg #[.int .u32 0, .int .i64 (-1)]) ∧ w.alloc (.cells #[.int .u32 0, .int .i64 (-1)] 54) = w' := by
  go_enter Try.func10, Try.ntmps10
  go_wp2
  exact bodyPost_ret (v := .agg #[.int .u32 0, .int .i64 (-1)]) (by simp [results, Try.results10, go_sem]) rfl ⟨rfl, rfl⟩
theorem info54 : (Try.prog.info? 54).map (fun i => (i.zero, i.size, i.bytes)) = some (some (.agg #[.int .u32 0, .int .i64 0]), 2, 16) := by kernel_rfl
theorem cache_bad (words slots : Int) (w : World) (hb : words < 1 ∨ 1048576 < words ∨ slots < 1 ∨ 65536 < slots) :
    Calls Try.prog 6 #[.int .i64 words, .int .i64 slots] w fun e w' => e = .returned (.tuple #[.pointer none, .int .i64 4]) ∧ w = w' := by
  by_cases h0 : words < 1
  · have d0 : decide (words < 1) = true := decide_eq_true h0
    clear hb
    go_enter Try.func6, Try.ntmps6
    go_wp2
    go_ret2
    exact ⟨rfl, rfl⟩
  have d0 : decide (words < 1) = false := decide_eq_false h0
  by_cases h1 : 1048576 < words
  · have d1 : decide (1048576 < words) = true := decide_eq_true h1
    clear hb
    go_enter Try.func6, Try.ntmps6
    go_wp2
    go_ret2
    exact ⟨rfl, rfl⟩
  have d1 : decide (1048576 < words) = false := decide_eq_false h1
  by_cases h2 : slots < 1
  · have d2 : decide (slots < 1) = true := decide_eq_true h2
    clear hb
    go_enter Try.func6, Try.ntmps6
    go_wp2
    go_ret2
    exact ⟨rfl, rfl⟩
  have d2 : decide (slots < 1) = false := decide_eq_false h2
  by_cases h3 : 65536 < slots
  · have d3 : decide (65536 < slots) = true := decide_eq_true h3
    clear hb
    go_enter Try.func6, Try.ntmps6
    go_wp2
    go_ret2
    exact ⟨rfl, rfl⟩
  have d3 : decide (65536 < slots) = false := decide_eq_false h3
  omega
structure CI (w W : World) (n : Nat) (words : Int) : Prop where
  c : W.heap[w.heap.size + 1 + 1 + 1]? = some (.cells #[.int .i64 words, .slice none 0 0, .slice (some ⟨w.heap.size, 0, none⟩) n n, .map (some (w.heap.size + 1)), .map (some (w.heap.size + 1 + 1))] 52)
  t : ∃ A : Array Value, A.size = n * 2 ∧ W.heap[w.heap.size]? = some (.cells A 54)
  bel : Below w.heap.size w W
theorem CI.below {w W W' : World} {n : Nat} {words : Int} (h : CI w W n words) (k : Below W.heap.size W W') : CI w W' n words := by
  obtain ⟨A, h1, h2⟩ := h.t
  exact ⟨(k.block _ (row_lt h.c)).trans h.c, ⟨A, h1, (k.block _ (row_lt h2)).trans h2⟩, h.bel.trans (k.mono h.bel.size)⟩
theorem blk_other {w : World} {X Y o : Nat} (h : Y ≠ X) (v : Value) : (w.setCell ⟨X, o, none⟩ v).heap[Y]? = w.heap[Y]? := Below.heap_setCell w ⟨X, o, none⟩ v Y h
theorem CI.setT {w W : World} {n : Nat} {words : Int} (h : CI w W n words) (o : Nat) (v : Value) : CI w (W.setCell ⟨w.heap.size, o, none⟩ v) n words := by
  obtain ⟨A, h1, h2⟩ := h.t
  exact ⟨(blk_other (by omega) v).trans h.c, ⟨_, by rw [← h1]; exact Array.size_setIfInBounds, heap_setCell_same W _ o _ _ v h2⟩, h.bel.setCell (Nat.le_refl _) _⟩
theorem CI.alloc {w W : World} {n : Nat} {words : Int} (h : CI w W n words) (o : Obj) : CI w (W.alloc o) n words := h.below ((Below.refl _ _).alloc (Nat.le_refl _) o)
theorem CI.drew {w W : World} {n : Nat} {words : Int} (h : CI w W n words) : CI w W.drew n words := h.below ((Below.refl _ _).drew)
theorem ci_start (w : World) (n : Nat) (words : Int) : CI w ((((w.alloc (.cells (madeCells #[.int .u32 0, .int .i64 0] (n * 2)) 54)).alloc (.map #[] 0)).alloc (.map #[] 0)).alloc (.cells #[.int .i64 words, .slice none 0 0, .slice (some ⟨w.heap.size, 0, none⟩) n n, .map (some (w.heap.size + 1)), .map (some (w.heap.size + 1 + 1))] 52)) n words := by
  have b1 : Below (w.alloc (.cells (madeCells #[.int .u32 0, .int .i64 0] (n * 2)) 54)).heap.size (w.alloc (.cells (madeCells #[.int .u32 0, .int .i64 0] (n * 2)) 54)) ((((w.alloc (.cells (madeCells #[.int .u32 0, .int .i64 0] (n * 2)) 54)).alloc (.map #[] 0)).alloc (.map #[] 0)).alloc (.cells #[.int .i64 words, .slice none 0 0, .slice (some ⟨w.heap.size, 0, none⟩) n n, .map (some (w.heap.size + 1)), .map (some (w.heap.size + 1 + 1))] 52)) := (((Below.refl _ _).alloc (Nat.le_refl _) _).alloc (by simp) _).alloc (by first | (simp; done) | (simp; omega)) _
  refine ⟨?_, ⟨_, size_madeCells _ _, (b1.block _ (by simp)).trans (heap_alloc_last w _)⟩, ((Below.refl w.heap.size w).alloc (Nat.le_refl _) _).trans (b1.mono (by simp))⟩
  have := heap_alloc_last (((w.alloc (.cells (madeCells #[.int .u32 0, .int .i64 0] (n * 2)) 54)).alloc (.map #[] 0)).alloc (.map #[] 0)) (.cells #[.int .i64 words, .slice none 0 0, .slice (some ⟨w.heap.size, 0, none⟩) n n, .map (some (w.heap.size + 1)), .map (some (w.heap.size + 1 + 1))] 52)
  simpa using this
set_option maxHeartbeats 4000000 in
theorem cache_good (words : Int) (n : Nat) (w : World) (h1 : 1 ≤ words ∧ words ≤ 1048576) (h2 : 1 ≤ n ∧ n ≤ 65536) :
    Calls Try.prog 6 #[.int .i64 words, .int .i64 n] w fun e w' => ∃ C, e = .returned (.tuple #[.pointer (some ⟨C, 0, none⟩), .int .i64 0]) ∧ Below w.heap.size w w' := by
  obtain ⟨i0, hi, hz0, hz1, hz2⟩ := info_parts info54
  have d0 : decide (words < 1) = false := decide_eq_false (by omega)
  have d1 : decide (1048576 < words) = false := decide_eq_false (by omega)
  have d2 : decide ((n : Int) < 1) = false := decide_eq_false (by omega)
  have d3 : decide (65536 < (n : Int)) = false := decide_eq_false (by omega)
  have d2n : ¬ n < 1 := by omega
  have d3n : ¬ 65536 < n := by omega
  have d2z : ¬ n = 0 := by omega
  have hmm := @run_makeMap Try.prog
  have hmk := fun w' : World => run_make (P := Try.prog) w' 47 54 i0 _ Try.underlying47 hi hz0 .i64 .i64 (n : Int) (n : Int) (by omega) (Int.le_refl _) (by rw [hz2]; omega) (by omega)
  rw [hz1] at hmk
  simp only [Int.toNat_natCast] at hmk
  have n1 : (n : Int) ≤ 65536 := by omega
  clear h1 h2 hi hz0 hz1 hz2
  go_enter Try.func6, Try.ntmps6
  go_upto_region 4 with fail
  refine wp_gen (fun W' => CI w W' n words) (ci_start w n words) ?_
  intro W hW
  have HW : Hid (CI w W n words) := hW
  have c2 := row_cell hW.c 2
  have cl := row_lt hW.c
  clear hW hmm hmk d0 d1 d2 d3 d2n d3n d2z
  go_wp2
  clear c2 cl
  go_loopw [34] (fun i wr => ∃ j : Nat, i = .int .i64 j ∧ j ≤ n ∧ CI w wr n words) (fun i _ => n - (intOf i).toNat)
  case atStart => exact ⟨0, rfl, by omega, HW.out⟩
  case round =>
    obtain ⟨j, rfl, hj, hC⟩ := hrel
    have HC : Hid (CI w wr n words) := hC
    clear HW
    by_cases hlt : j < n
    · have hji : (j : Int) < (n : Int) := by omega
      have dj : decide ((j : Int) < (n : Int)) = true := decide_eq_true hji
      have j0 : (0 : Int) ≤ (j : Int) := by omega
      have HLT : Hid _ := hlt
      obtain ⟨A, hA, hT⟩ := hC.t
      obtain ⟨v1, hv1⟩ : ∃ v, A[j * 2]? = some v := ⟨_, Array.getElem?_eq_getElem (by omega)⟩
      obtain ⟨v2, hv2⟩ : ∃ v, A[j * 2 + 1]? = some v := ⟨_, Array.getElem?_eq_getElem (by omega)⟩
      have t1 := (row_cell hT (j * 2)).trans hv1
      have t2 := (row_cell hT (j * 2 + 1)).trans hv2
      have tf := row_fr hT
      have tl := row_lt hT
      have tl1 := Nat.lt_succ_of_lt tl
      have c2 := row_cell hC.c 2
      have cl := row_lt hC.c
      clear hlt hT hC hA hv1 hv2
      go_wp2
      go_region_held3 (fun W' => W'.cell? ⟨w.heap.size + 1 + 1 + 1, 2, none⟩ = some (.slice (some ⟨w.heap.size, 0, none⟩) n n)) (first | (simp [go_sem, c2, cl, t1, t2, tl]; done) | (go_keep; done))
        (first | (go_at_call 10; refine (noEntry_any _).mono ?_; rintro e w1 ⟨rfl, rfl⟩))
      all_goals go_wp2
      all_goals go_round
      case rel => exact ⟨j + 1, by go_num, HLT.out, by
        have hB := HC.out
        (repeat first | with_reducible exact hB | with_reducible refine CI.setT ?_ _ _ | with_reducible refine CI.alloc ?_ _ | with_reducible refine CI.drew ?_)⟩
      case measure => have := HLT.out; simp [intOf]; omega
    · obtain rfl : j = n := by omega
      have dj : decide ((j : Int) < (j : Int)) = false := decide_eq_false (by omega)
      clear hlt hj
      go_wp2
      go_ret2
      exact ⟨_, rfl, HC.out.bel⟩
end Go.Proofs.Ytkgbjpdoigdjnac
