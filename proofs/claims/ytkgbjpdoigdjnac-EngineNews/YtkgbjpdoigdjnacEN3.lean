import Derived.Test.YtkgbjpdoigdjnacEN2
import Derived.Laws.EntriesVeiled
namespace Go.Proofs.Ytkgbjpdoigdjnac
open Go.RowKit
set_option maxRecDepth 100000
set_option linter.unusedVariables false
set_option linter.unusedSimpArgs false
theorem chg_below {S : List Nat} {w wz w' : World} (hB : Below w.heap.size w wz) (hC : Chg S wz w') : Chg S w w' :=
  ⟨hC.os.trans hB.os, hC.tape.trans hB.tape, hC.output.trans hB.output, Nat.le_trans hB.size hC.size, fun k hk hn => (hC.block k (Nat.lt_of_lt_of_le hk hB.size) hn).trans (hB.block k hk)⟩
set_option maxHeartbeats 4000000 in
theorem eng_good (X n : Nat) (s : MS) (words most regs hot : Int) (op ch : Bool) (w : World) (hb : ¬ (most < 1 ∨ 64 < most ∨ regs < 3 ∨ 16 < regs ∨ hot < 0)) (h1 : 1 ≤ words ∧ words ≤ 1048576) (h2 : 1 ≤ n ∧ n ≤ 65536) (h : PM w X s) :
    Calls Try.prog 5 #[.pointer (some ⟨X, 0, none⟩), .agg #[.int .i64 words, .int .i64 (n : Int), .int .i64 most, .int .i64 regs, .int .i64 hot, .bool op, .bool ch]] w fun e w' => (∃ E, e = .returned (.tuple #[.pointer (some ⟨E, 0, none⟩), .int .i64 0])) ∧ Chg [X] w w' := by
  have d0 : decide (most < 1) = false := decide_eq_false (by omega)
  have d1 : decide (64 < most) = false := decide_eq_false (by omega)
  have d2 : decide (regs < 3) = false := decide_eq_false (by omega)
  have d3 : decide (16 < regs) = false := decide_eq_false (by omega)
  have d4 : decide (hot < 0) = false := decide_eq_false (by omega)
  have H1 : Hid _ := h1
  have H2 : Hid _ := h2
  have HP : Hid (PM w X s) := h
  have hmm := @run_makeMap Try.prog
  have HX : Hid _ := heap_alloc_last w (.cells #[.int .i64 words, .int .i64 (n : Int), .int .i64 most, .int .i64 regs, .int .i64 hot, .bool op, .bool ch] 23)
  have HB : Hid (Below w.heap.size w (w.alloc (.cells #[.int .i64 words, .int .i64 (n : Int), .int .i64 most, .int .i64 regs, .int .i64 hot, .bool op, .bool ch] 23))) := (Below.refl _ _).alloc (Nat.le_refl _) _
  clear hb h1 h2 h
  cases op
  all_goals
    go_enter Try.func5, Try.ntmps5
    go_wp2_with (first
      | (go_at_call 6; refine (cache_good words n _ H1.out H2.out).mono ?_; rintro e w1 ⟨C, rfl, k1⟩; have hx := (k1.block w.heap.size (by simp)).trans HX.out; have HB1 : Hid (Below w.heap.size w w1) := HB.out.trans (k1.mono (by simp)); clear k1; have o0 : w1.cell? ⟨w.heap.size, 0, none⟩ = some (.int .i64 words) := row_cell hx 0; have o1 : w1.cell? ⟨w.heap.size, 1, none⟩ = some (.int .i64 (n : Int)) := row_cell hx 1; have o2 : w1.cell? ⟨w.heap.size, 2, none⟩ = some (.int .i64 most) := row_cell hx 2; have o3 : w1.cell? ⟨w.heap.size, 3, none⟩ = some (.int .i64 regs) := row_cell hx 3; have o4 : w1.cell? ⟨w.heap.size, 4, none⟩ = some (.int .i64 hot) := row_cell hx 4; have o6 : w1.cell? ⟨w.heap.size, 6, none⟩ = some (.bool ch) := row_cell hx 6; have o5 := row_cell hx 5; have ol : w.heap.size < w1.heap.size := row_lt hx; clear hx)
      | (go_at_call 9; refine (unwatch_any (w1.heap.size + 1) X s _ ?_ ?_ ?_).mono ?_; (focus (simp [go_sem])); (focus (have a1 := HP.out.lt; have a2 := HB1.out.size; omega)); (focus (exact ((HP.out.below HB1.out HP.out.lt).alloc _).alloc _)); rintro e w2 ⟨⟨v, rfl⟩, hC⟩; have HC : Hid _ := hC; clear hC))
    go_ret2
    exact ⟨⟨_, rfl⟩, chg_below (((HB1.out.alloc HB1.out.size _).alloc (by have := HB1.out.size; simp; omega) _)) HC.out⟩
set_option maxHeartbeats 8000000 in
theorem news_walk (words slots most regs hot : Int) (op ch nothing : Bool) (W : World) :
    Calls Try.prog 3 #[.agg #[.int .i64 words, .int .i64 slots, .int .i64 most, .int .i64 regs, .int .i64 hot, .bool op, .bool ch], .bool nothing] W fun e w' => e = .returned (.bool true) ∧ Below W.heap.size W w' := by
  cases nothing with
  | true =>
    have HX : Hid _ := heap_alloc_last W (.cells #[.int .i64 words, .int .i64 slots, .int .i64 most, .int .i64 regs, .int .i64 hot, .bool op, .bool ch] 23)
    have HB : Hid (Below W.heap.size W (W.alloc (.cells #[.int .i64 words, .int .i64 slots, .int .i64 most, .int .i64 regs, .int .i64 hot, .bool op, .bool ch] 23))) := (Below.refl _ _).alloc (Nat.le_refl _) _
    go_enter Try.func3, Try.ntmps3
    go_wp2_with (go_at_call 5; refine (eng_nil words slots most regs hot op ch _).mono ?_; rintro e w2 ⟨rfl, h2⟩; have H2 : Hid _ := h2; have hx := (h2.block W.heap.size (by simp)).trans HX.out; clear h2; have o0 : w2.cell? ⟨W.heap.size, 0, none⟩ = some (.int .i64 words) := row_cell hx 0; have o1 : w2.cell? ⟨W.heap.size, 1, none⟩ = some (.int .i64 slots) := row_cell hx 1; have o2 : w2.cell? ⟨W.heap.size, 2, none⟩ = some (.int .i64 most) := row_cell hx 2; have o3 : w2.cell? ⟨W.heap.size, 3, none⟩ = some (.int .i64 regs) := row_cell hx 3; have o4 : w2.cell? ⟨W.heap.size, 4, none⟩ = some (.int .i64 hot) := row_cell hx 4; have o5 : w2.cell? ⟨W.heap.size, 5, none⟩ = some (.bool op) := row_cell hx 5; have o6 : w2.cell? ⟨W.heap.size, 6, none⟩ = some (.bool ch) := row_cell hx 6; have ol : W.heap.size < w2.heap.size := row_lt hx; clear hx)
    go_ret
    exact ⟨rfl, HB.out.trans (H2.out.mono (by simp))⟩
  | false =>
  have HX : Hid (((W.alloc (.cells #[.int .i64 words, .int .i64 slots, .int .i64 most, .int .i64 regs, .int .i64 hot, .bool op, .bool ch] 23)).alloc (.cells zeroC 35)).heap[W.heap.size]? = some (.cells #[.int .i64 words, .int .i64 slots, .int .i64 most, .int .i64 regs, .int .i64 hot, .bool op, .bool ch] 23)) := (((Below.refl _ _).alloc (Nat.le_refl _) _ : Below (W.alloc (.cells #[.int .i64 words, .int .i64 slots, .int .i64 most, .int .i64 regs, .int .i64 hot, .bool op, .bool ch] 23)).heap.size (W.alloc (.cells #[.int .i64 words, .int .i64 slots, .int .i64 most, .int .i64 regs, .int .i64 hot, .bool op, .bool ch] 23)) ((W.alloc (.cells #[.int .i64 words, .int .i64 slots, .int .i64 most, .int .i64 regs, .int .i64 hot, .bool op, .bool ch] 23)).alloc (.cells zeroC 35))).block _ (by simp)).trans (heap_alloc_last W _)
  have HB : Hid (Below W.heap.size W ((W.alloc (.cells #[.int .i64 words, .int .i64 slots, .int .i64 most, .int .i64 regs, .int .i64 hot, .bool op, .bool ch] 23)).alloc (.cells zeroC 35))) := ((Below.refl _ _).alloc (Nat.le_refl _) _).alloc (by simp) _
  by_cases h0 : most < 1
  · have d0 : decide (most < 1) = true := decide_eq_true h0
    have HQ : Hid (most < 1 ∨ 64 < most ∨ regs < 3 ∨ 16 < regs ∨ hot < 0) := show most < 1 ∨ 64 < most ∨ regs < 3 ∨ 16 < regs ∨ hot < 0 by omega
    go_enter Try.func3, Try.ntmps3
    go_wp2_with (first
      | (go_at_call 4; refine (new_any _).mono ?_; rintro e w1 ⟨rfl, rfl⟩)
      | (go_at_call 5; refine (eng_bad (W.heap.size + 1) words slots most regs hot op ch _ HQ.out).mono ?_; rintro e w2 ⟨rfl, h2⟩; have H2 : Hid _ := h2; have hx := (h2.block W.heap.size (by simp; omega)).trans HX.out; clear h2; have o0 : w2.cell? ⟨W.heap.size, 0, none⟩ = some (.int .i64 words) := row_cell hx 0; have o1 : w2.cell? ⟨W.heap.size, 1, none⟩ = some (.int .i64 slots) := row_cell hx 1; have o2 : w2.cell? ⟨W.heap.size, 2, none⟩ = some (.int .i64 most) := row_cell hx 2; have o3 : w2.cell? ⟨W.heap.size, 3, none⟩ = some (.int .i64 regs) := row_cell hx 3; have o4 : w2.cell? ⟨W.heap.size, 4, none⟩ = some (.int .i64 hot) := row_cell hx 4; have o5 : w2.cell? ⟨W.heap.size, 5, none⟩ = some (.bool op) := row_cell hx 5; have o6 : w2.cell? ⟨W.heap.size, 6, none⟩ = some (.bool ch) := row_cell hx 6; have ol : W.heap.size < w2.heap.size := row_lt hx; clear hx))
    go_ret
    exact ⟨rfl, HB.out.trans (H2.out.mono (by simp; omega))⟩
  have d0 : decide (most < 1) = false := decide_eq_false h0
  by_cases h1 : 64 < most
  · have d1 : decide (64 < most) = true := decide_eq_true h1
    have HQ : Hid (most < 1 ∨ 64 < most ∨ regs < 3 ∨ 16 < regs ∨ hot < 0) := show most < 1 ∨ 64 < most ∨ regs < 3 ∨ 16 < regs ∨ hot < 0 by omega
    go_enter Try.func3, Try.ntmps3
    go_wp2_with (first
      | (go_at_call 4; refine (new_any _).mono ?_; rintro e w1 ⟨rfl, rfl⟩)
      | (go_at_call 5; refine (eng_bad (W.heap.size + 1) words slots most regs hot op ch _ HQ.out).mono ?_; rintro e w2 ⟨rfl, h2⟩; have H2 : Hid _ := h2; have hx := (h2.block W.heap.size (by simp; omega)).trans HX.out; clear h2; have o0 : w2.cell? ⟨W.heap.size, 0, none⟩ = some (.int .i64 words) := row_cell hx 0; have o1 : w2.cell? ⟨W.heap.size, 1, none⟩ = some (.int .i64 slots) := row_cell hx 1; have o2 : w2.cell? ⟨W.heap.size, 2, none⟩ = some (.int .i64 most) := row_cell hx 2; have o3 : w2.cell? ⟨W.heap.size, 3, none⟩ = some (.int .i64 regs) := row_cell hx 3; have o4 : w2.cell? ⟨W.heap.size, 4, none⟩ = some (.int .i64 hot) := row_cell hx 4; have o5 : w2.cell? ⟨W.heap.size, 5, none⟩ = some (.bool op) := row_cell hx 5; have o6 : w2.cell? ⟨W.heap.size, 6, none⟩ = some (.bool ch) := row_cell hx 6; have ol : W.heap.size < w2.heap.size := row_lt hx; clear hx))
    go_ret
    exact ⟨rfl, HB.out.trans (H2.out.mono (by simp; omega))⟩
  have d1 : decide (64 < most) = false := decide_eq_false h1
  by_cases h2 : regs < 3
  · have d2 : decide (regs < 3) = true := decide_eq_true h2
    have HQ : Hid (most < 1 ∨ 64 < most ∨ regs < 3 ∨ 16 < regs ∨ hot < 0) := show most < 1 ∨ 64 < most ∨ regs < 3 ∨ 16 < regs ∨ hot < 0 by omega
    go_enter Try.func3, Try.ntmps3
    go_wp2_with (first
      | (go_at_call 4; refine (new_any _).mono ?_; rintro e w1 ⟨rfl, rfl⟩)
      | (go_at_call 5; refine (eng_bad (W.heap.size + 1) words slots most regs hot op ch _ HQ.out).mono ?_; rintro e w2 ⟨rfl, h2⟩; have H2 : Hid _ := h2; have hx := (h2.block W.heap.size (by simp; omega)).trans HX.out; clear h2; have o0 : w2.cell? ⟨W.heap.size, 0, none⟩ = some (.int .i64 words) := row_cell hx 0; have o1 : w2.cell? ⟨W.heap.size, 1, none⟩ = some (.int .i64 slots) := row_cell hx 1; have o2 : w2.cell? ⟨W.heap.size, 2, none⟩ = some (.int .i64 most) := row_cell hx 2; have o3 : w2.cell? ⟨W.heap.size, 3, none⟩ = some (.int .i64 regs) := row_cell hx 3; have o4 : w2.cell? ⟨W.heap.size, 4, none⟩ = some (.int .i64 hot) := row_cell hx 4; have o5 : w2.cell? ⟨W.heap.size, 5, none⟩ = some (.bool op) := row_cell hx 5; have o6 : w2.cell? ⟨W.heap.size, 6, none⟩ = some (.bool ch) := row_cell hx 6; have ol : W.heap.size < w2.heap.size := row_lt hx; clear hx))
    go_ret
    exact ⟨rfl, HB.out.trans (H2.out.mono (by simp; omega))⟩
  have d2 : decide (regs < 3) = false := decide_eq_false h2
  by_cases h3 : 16 < regs
  · have d3 : decide (16 < regs) = true := decide_eq_true h3
    have HQ : Hid (most < 1 ∨ 64 < most ∨ regs < 3 ∨ 16 < regs ∨ hot < 0) := show most < 1 ∨ 64 < most ∨ regs < 3 ∨ 16 < regs ∨ hot < 0 by omega
    go_enter Try.func3, Try.ntmps3
    go_wp2_with (first
      | (go_at_call 4; refine (new_any _).mono ?_; rintro e w1 ⟨rfl, rfl⟩)
      | (go_at_call 5; refine (eng_bad (W.heap.size + 1) words slots most regs hot op ch _ HQ.out).mono ?_; rintro e w2 ⟨rfl, h2⟩; have H2 : Hid _ := h2; have hx := (h2.block W.heap.size (by simp; omega)).trans HX.out; clear h2; have o0 : w2.cell? ⟨W.heap.size, 0, none⟩ = some (.int .i64 words) := row_cell hx 0; have o1 : w2.cell? ⟨W.heap.size, 1, none⟩ = some (.int .i64 slots) := row_cell hx 1; have o2 : w2.cell? ⟨W.heap.size, 2, none⟩ = some (.int .i64 most) := row_cell hx 2; have o3 : w2.cell? ⟨W.heap.size, 3, none⟩ = some (.int .i64 regs) := row_cell hx 3; have o4 : w2.cell? ⟨W.heap.size, 4, none⟩ = some (.int .i64 hot) := row_cell hx 4; have o5 : w2.cell? ⟨W.heap.size, 5, none⟩ = some (.bool op) := row_cell hx 5; have o6 : w2.cell? ⟨W.heap.size, 6, none⟩ = some (.bool ch) := row_cell hx 6; have ol : W.heap.size < w2.heap.size := row_lt hx; clear hx))
    go_ret
    exact ⟨rfl, HB.out.trans (H2.out.mono (by simp; omega))⟩
  have d3 : decide (16 < regs) = false := decide_eq_false h3
  by_cases h4 : hot < 0
  · have d4 : decide (hot < 0) = true := decide_eq_true h4
    have HQ : Hid (most < 1 ∨ 64 < most ∨ regs < 3 ∨ 16 < regs ∨ hot < 0) := show most < 1 ∨ 64 < most ∨ regs < 3 ∨ 16 < regs ∨ hot < 0 by omega
    go_enter Try.func3, Try.ntmps3
    go_wp2_with (first
      | (go_at_call 4; refine (new_any _).mono ?_; rintro e w1 ⟨rfl, rfl⟩)
      | (go_at_call 5; refine (eng_bad (W.heap.size + 1) words slots most regs hot op ch _ HQ.out).mono ?_; rintro e w2 ⟨rfl, h2⟩; have H2 : Hid _ := h2; have hx := (h2.block W.heap.size (by simp; omega)).trans HX.out; clear h2; have o0 : w2.cell? ⟨W.heap.size, 0, none⟩ = some (.int .i64 words) := row_cell hx 0; have o1 : w2.cell? ⟨W.heap.size, 1, none⟩ = some (.int .i64 slots) := row_cell hx 1; have o2 : w2.cell? ⟨W.heap.size, 2, none⟩ = some (.int .i64 most) := row_cell hx 2; have o3 : w2.cell? ⟨W.heap.size, 3, none⟩ = some (.int .i64 regs) := row_cell hx 3; have o4 : w2.cell? ⟨W.heap.size, 4, none⟩ = some (.int .i64 hot) := row_cell hx 4; have o5 : w2.cell? ⟨W.heap.size, 5, none⟩ = some (.bool op) := row_cell hx 5; have o6 : w2.cell? ⟨W.heap.size, 6, none⟩ = some (.bool ch) := row_cell hx 6; have ol : W.heap.size < w2.heap.size := row_lt hx; clear hx))
    go_ret
    exact ⟨rfl, HB.out.trans (H2.out.mono (by simp; omega))⟩
  have d4 : decide (hot < 0) = false := decide_eq_false h4
  by_cases h5 : words < 1
  · have d5 : decide (words < 1) = true := decide_eq_true h5
    have HP : Hid (¬ (most < 1 ∨ 64 < most ∨ regs < 3 ∨ 16 < regs ∨ hot < 0)) := show ¬ _ by omega
    have HQ : Hid (words < 1 ∨ 1048576 < words ∨ slots < 1 ∨ 65536 < slots) := show words < 1 ∨ 1048576 < words ∨ slots < 1 ∨ 65536 < slots by omega
    go_enter Try.func3, Try.ntmps3
    go_wp2_with (first
      | (go_at_call 4; refine (new_any _).mono ?_; rintro e w1 ⟨rfl, rfl⟩)
      | (go_at_call 5; refine (eng_cache (W.heap.size + 1) words slots most regs hot op ch _ HP.out HQ.out).mono ?_; rintro e w2 ⟨rfl, h2⟩; have H2 : Hid _ := h2; have hx := (h2.block W.heap.size (by simp; omega)).trans HX.out; clear h2; have o0 : w2.cell? ⟨W.heap.size, 0, none⟩ = some (.int .i64 words) := row_cell hx 0; have o1 : w2.cell? ⟨W.heap.size, 1, none⟩ = some (.int .i64 slots) := row_cell hx 1; have o2 : w2.cell? ⟨W.heap.size, 2, none⟩ = some (.int .i64 most) := row_cell hx 2; have o3 : w2.cell? ⟨W.heap.size, 3, none⟩ = some (.int .i64 regs) := row_cell hx 3; have o4 : w2.cell? ⟨W.heap.size, 4, none⟩ = some (.int .i64 hot) := row_cell hx 4; have o5 : w2.cell? ⟨W.heap.size, 5, none⟩ = some (.bool op) := row_cell hx 5; have o6 : w2.cell? ⟨W.heap.size, 6, none⟩ = some (.bool ch) := row_cell hx 6; have ol : W.heap.size < w2.heap.size := row_lt hx; clear hx))
    go_ret
    exact ⟨rfl, HB.out.trans (H2.out.mono (by simp; omega))⟩
  have d5 : decide (words < 1) = false := decide_eq_false h5
  by_cases h6 : 1048576 < words
  · have d6 : decide (1048576 < words) = true := decide_eq_true h6
    have HP : Hid (¬ (most < 1 ∨ 64 < most ∨ regs < 3 ∨ 16 < regs ∨ hot < 0)) := show ¬ _ by omega
    have HQ : Hid (words < 1 ∨ 1048576 < words ∨ slots < 1 ∨ 65536 < slots) := show words < 1 ∨ 1048576 < words ∨ slots < 1 ∨ 65536 < slots by omega
    go_enter Try.func3, Try.ntmps3
    go_wp2_with (first
      | (go_at_call 4; refine (new_any _).mono ?_; rintro e w1 ⟨rfl, rfl⟩)
      | (go_at_call 5; refine (eng_cache (W.heap.size + 1) words slots most regs hot op ch _ HP.out HQ.out).mono ?_; rintro e w2 ⟨rfl, h2⟩; have H2 : Hid _ := h2; have hx := (h2.block W.heap.size (by simp; omega)).trans HX.out; clear h2; have o0 : w2.cell? ⟨W.heap.size, 0, none⟩ = some (.int .i64 words) := row_cell hx 0; have o1 : w2.cell? ⟨W.heap.size, 1, none⟩ = some (.int .i64 slots) := row_cell hx 1; have o2 : w2.cell? ⟨W.heap.size, 2, none⟩ = some (.int .i64 most) := row_cell hx 2; have o3 : w2.cell? ⟨W.heap.size, 3, none⟩ = some (.int .i64 regs) := row_cell hx 3; have o4 : w2.cell? ⟨W.heap.size, 4, none⟩ = some (.int .i64 hot) := row_cell hx 4; have o5 : w2.cell? ⟨W.heap.size, 5, none⟩ = some (.bool op) := row_cell hx 5; have o6 : w2.cell? ⟨W.heap.size, 6, none⟩ = some (.bool ch) := row_cell hx 6; have ol : W.heap.size < w2.heap.size := row_lt hx; clear hx))
    go_ret
    exact ⟨rfl, HB.out.trans (H2.out.mono (by simp; omega))⟩
  have d6 : decide (1048576 < words) = false := decide_eq_false h6
  by_cases h7 : slots < 1
  · have d7 : decide (slots < 1) = true := decide_eq_true h7
    have HP : Hid (¬ (most < 1 ∨ 64 < most ∨ regs < 3 ∨ 16 < regs ∨ hot < 0)) := show ¬ _ by omega
    have HQ : Hid (words < 1 ∨ 1048576 < words ∨ slots < 1 ∨ 65536 < slots) := show words < 1 ∨ 1048576 < words ∨ slots < 1 ∨ 65536 < slots by omega
    go_enter Try.func3, Try.ntmps3
    go_wp2_with (first
      | (go_at_call 4; refine (new_any _).mono ?_; rintro e w1 ⟨rfl, rfl⟩)
      | (go_at_call 5; refine (eng_cache (W.heap.size + 1) words slots most regs hot op ch _ HP.out HQ.out).mono ?_; rintro e w2 ⟨rfl, h2⟩; have H2 : Hid _ := h2; have hx := (h2.block W.heap.size (by simp; omega)).trans HX.out; clear h2; have o0 : w2.cell? ⟨W.heap.size, 0, none⟩ = some (.int .i64 words) := row_cell hx 0; have o1 : w2.cell? ⟨W.heap.size, 1, none⟩ = some (.int .i64 slots) := row_cell hx 1; have o2 : w2.cell? ⟨W.heap.size, 2, none⟩ = some (.int .i64 most) := row_cell hx 2; have o3 : w2.cell? ⟨W.heap.size, 3, none⟩ = some (.int .i64 regs) := row_cell hx 3; have o4 : w2.cell? ⟨W.heap.size, 4, none⟩ = some (.int .i64 hot) := row_cell hx 4; have o5 : w2.cell? ⟨W.heap.size, 5, none⟩ = some (.bool op) := row_cell hx 5; have o6 : w2.cell? ⟨W.heap.size, 6, none⟩ = some (.bool ch) := row_cell hx 6; have ol : W.heap.size < w2.heap.size := row_lt hx; clear hx))
    go_ret
    exact ⟨rfl, HB.out.trans (H2.out.mono (by simp; omega))⟩
  have d7 : decide (slots < 1) = false := decide_eq_false h7
  by_cases h8 : 65536 < slots
  · have d8 : decide (65536 < slots) = true := decide_eq_true h8
    have HP : Hid (¬ (most < 1 ∨ 64 < most ∨ regs < 3 ∨ 16 < regs ∨ hot < 0)) := show ¬ _ by omega
    have HQ : Hid (words < 1 ∨ 1048576 < words ∨ slots < 1 ∨ 65536 < slots) := show words < 1 ∨ 1048576 < words ∨ slots < 1 ∨ 65536 < slots by omega
    go_enter Try.func3, Try.ntmps3
    go_wp2_with (first
      | (go_at_call 4; refine (new_any _).mono ?_; rintro e w1 ⟨rfl, rfl⟩)
      | (go_at_call 5; refine (eng_cache (W.heap.size + 1) words slots most regs hot op ch _ HP.out HQ.out).mono ?_; rintro e w2 ⟨rfl, h2⟩; have H2 : Hid _ := h2; have hx := (h2.block W.heap.size (by simp; omega)).trans HX.out; clear h2; have o0 : w2.cell? ⟨W.heap.size, 0, none⟩ = some (.int .i64 words) := row_cell hx 0; have o1 : w2.cell? ⟨W.heap.size, 1, none⟩ = some (.int .i64 slots) := row_cell hx 1; have o2 : w2.cell? ⟨W.heap.size, 2, none⟩ = some (.int .i64 most) := row_cell hx 2; have o3 : w2.cell? ⟨W.heap.size, 3, none⟩ = some (.int .i64 regs) := row_cell hx 3; have o4 : w2.cell? ⟨W.heap.size, 4, none⟩ = some (.int .i64 hot) := row_cell hx 4; have o5 : w2.cell? ⟨W.heap.size, 5, none⟩ = some (.bool op) := row_cell hx 5; have o6 : w2.cell? ⟨W.heap.size, 6, none⟩ = some (.bool ch) := row_cell hx 6; have ol : W.heap.size < w2.heap.size := row_lt hx; clear hx))
    go_ret
    exact ⟨rfl, HB.out.trans (H2.out.mono (by simp; omega))⟩
  have d8 : decide (65536 < slots) = false := decide_eq_false h8
  obtain ⟨n, rfl⟩ : ∃ n : Nat, slots = n := ⟨slots.toNat, by omega⟩
  have HP : Hid (¬ (most < 1 ∨ 64 < most ∨ regs < 3 ∨ 16 < regs ∨ hot < 0)) := show ¬ _ by omega
  have H1 : Hid (1 ≤ words ∧ words ≤ 1048576) := show 1 ≤ words ∧ words ≤ 1048576 by omega
  have HN : Hid (1 ≤ n ∧ n ≤ 65536) := show 1 ≤ n ∧ n ≤ 65536 by omega
  have q7 : ¬ n < 1 := by omega
  have q7z : ¬ n = 0 := by omega
  have q8 : ¬ 65536 < n := by omega
  have HM : Hid (PM ((W.alloc (.cells #[.int .i64 words, .int .i64 (n : Int), .int .i64 most, .int .i64 regs, .int .i64 hot, .bool op, .bool ch] 23)).alloc (.cells zeroC 35)) (W.heap.size + 1) newS) := by
    show PM _ _ _
    have := new_pm (W.alloc (.cells #[.int .i64 words, .int .i64 (n : Int), .int .i64 most, .int .i64 regs, .int .i64 hot, .bool op, .bool ch] 23))
    simpa using this
  go_enter Try.func3, Try.ntmps3
  go_wp2_with (first
    | (go_at_call 4; refine (new_any _).mono ?_; rintro e w1 ⟨rfl, rfl⟩)
    | (go_at_call 5; refine (eng_good (W.heap.size + 1) n newS words most regs hot op ch _ HP.out H1.out HN.out HM.out).mono ?_; rintro e w2 ⟨⟨E, rfl⟩, h2⟩; have H2 : Hid _ := h2; have hx := (h2.block W.heap.size (by simp; omega) (by simp)).trans HX.out; clear h2; have o0 : w2.cell? ⟨W.heap.size, 0, none⟩ = some (.int .i64 words) := row_cell hx 0; have o1 : w2.cell? ⟨W.heap.size, 1, none⟩ = some (.int .i64 (n : Int)) := row_cell hx 1; have o2 : w2.cell? ⟨W.heap.size, 2, none⟩ = some (.int .i64 most) := row_cell hx 2; have o3 : w2.cell? ⟨W.heap.size, 3, none⟩ = some (.int .i64 regs) := row_cell hx 3; have o4 : w2.cell? ⟨W.heap.size, 4, none⟩ = some (.int .i64 hot) := row_cell hx 4; have o5 : w2.cell? ⟨W.heap.size, 5, none⟩ = some (.bool op) := row_cell hx 5; have o6 : w2.cell? ⟨W.heap.size, 6, none⟩ = some (.bool ch) := row_cell hx 6; have ol : W.heap.size < w2.heap.size := row_lt hx; clear hx))
  go_ret
  exact ⟨rfl, HB.out.trans (H2.out.below (by simp; omega) (by simp))⟩
end Go.Proofs.Ytkgbjpdoigdjnac
