import Derived.Test.YtkgbjpdoigdjnacEN1
namespace Go.Proofs.Ytkgbjpdoigdjnac
open Go.RowKit
set_option maxRecDepth 100000
set_option linter.unusedVariables false
set_option linter.unusedSimpArgs false
/-! ## unwatch -/
set_option maxHeartbeats 2000000 in
theorem unwatch_any (E X : Nat) (s : MS) (w : World) (hE : w.cell? ⟨E, 0, none⟩ = some (.pointer (some ⟨X, 0, none⟩))) (hne : E ≠ X) (h : PM w X s) :
    Calls Try.prog 9 #[.pointer (some ⟨E, 0, none⟩)] w fun e w' => (∃ v, e = .returned v) ∧ Chg [X] w w' := by
  have HE : Hid _ := hE
  have HNE : Hid (E ∉ [X]) := show E ∉ [X] by simpa using hne
  have HP : Hid (PM w X s) := h
  have HL : Hid (E < w.heap.size) := lt_of_cell hE
  clear hE hne h
  go_enter Try.func9, Try.ntmps9
  go_wp2
  go_loopw [3] (fun i wr => ∃ (j : Nat) (s' : MS), i = .int .i64 j ∧ j ≤ 256 ∧ PM wr X s' ∧ Chg [X] w wr) (fun i _ => 256 - (intOf i).toNat)
  case atStart => exact ⟨0, s, rfl, by omega, HP.out, Chg.refl _ _⟩
  case round =>
    obtain ⟨j, s', rfl, hj, hP, hC⟩ := hrel
    have HPr : Hid (PM wr X s') := hP
    have HC : Hid (Chg [X] w wr) := hC
    by_cases hlt : j < 256
    · have hji : (j : Int) < 256 := by omega
      have dj : decide ((j : Int) < 256) = true := decide_eq_true hji
      have j0 : (0 : Int) ≤ (j : Int) := by omega
      have HLT : Hid (j < 256) := hlt
      have e0 := (hC.cell HL.out HNE.out).trans HE.out
      have el : E < wr.heap.size := Nat.lt_of_lt_of_le HL.out hC.size
      clear hlt hP hC
      go_wp2_with (go_at_call 16; refine (mark_yes X j false s' _ HLT.out HPr.out).mono ?_; rintro e w1 ⟨rfl, h1, h2⟩; have H1 : Hid _ := h1; have H2 : Hid _ := h2; clear h1 h2)
      go_round
      case rel => exact ⟨j + 1, _, by go_num, HLT.out, H1.out, HC.out.trans H2.out⟩
      case measure => have := HLT.out; simp [intOf]; omega
    · obtain rfl : j = 256 := by omega
      clear hlt hj
      go_wp2
      first | exact bodyPost_end (v := .tuple #[]) (by simp [results, Try.results9, go_sem]) rfl ⟨⟨_, rfl⟩, HC.out⟩ | exact bodyPost_end (by rfl) rfl ⟨⟨_, rfl⟩, HC.out⟩
theorem eng_nil (words slots most regs hot : Int) (op ch : Bool) (w : World) :
    Calls Try.prog 5 #[.pointer none, .agg #[.int .i64 words, .int .i64 slots, .int .i64 most, .int .i64 regs, .int .i64 hot, .bool op, .bool ch]] w fun e w' => e = .returned (.tuple #[.pointer none, .int .i64 4]) ∧ Below w.heap.size w w' := by
  go_enter Try.func5, Try.ntmps5
  go_wp2
  go_ret2
  exact ⟨rfl, (Below.refl _ _).alloc (Nat.le_refl _) _⟩
theorem eng_bad (X : Nat) (words slots most regs hot : Int) (op ch : Bool) (w : World) (hb : most < 1 ∨ 64 < most ∨ regs < 3 ∨ 16 < regs ∨ hot < 0) :
    Calls Try.prog 5 #[.pointer (some ⟨X, 0, none⟩), .agg #[.int .i64 words, .int .i64 slots, .int .i64 most, .int .i64 regs, .int .i64 hot, .bool op, .bool ch]] w fun e w' => e = .returned (.tuple #[.pointer none, .int .i64 4]) ∧ Below w.heap.size w w' := by
  by_cases h0 : most < 1
  · have d0 : decide (most < 1) = true := decide_eq_true h0
    clear hb
    go_enter Try.func5, Try.ntmps5
    go_wp2
    go_ret2
    exact ⟨rfl, (Below.refl _ _).alloc (Nat.le_refl _) _⟩
  have d0 : decide (most < 1) = false := decide_eq_false h0
  by_cases h1 : 64 < most
  · have d1 : decide (64 < most) = true := decide_eq_true h1
    clear hb
    go_enter Try.func5, Try.ntmps5
    go_wp2
    go_ret2
    exact ⟨rfl, (Below.refl _ _).alloc (Nat.le_refl _) _⟩
  have d1 : decide (64 < most) = false := decide_eq_false h1
  by_cases h2 : regs < 3
  · have d2 : decide (regs < 3) = true := decide_eq_true h2
    clear hb
    go_enter Try.func5, Try.ntmps5
    go_wp2
    go_ret2
    exact ⟨rfl, (Below.refl _ _).alloc (Nat.le_refl _) _⟩
  have d2 : decide (regs < 3) = false := decide_eq_false h2
  by_cases h3 : 16 < regs
  · have d3 : decide (16 < regs) = true := decide_eq_true h3
    clear hb
    go_enter Try.func5, Try.ntmps5
    go_wp2
    go_ret2
    exact ⟨rfl, (Below.refl _ _).alloc (Nat.le_refl _) _⟩
  have d3 : decide (16 < regs) = false := decide_eq_false h3
  by_cases h4 : hot < 0
  · have d4 : decide (hot < 0) = true := decide_eq_true h4
    clear hb
    go_enter Try.func5, Try.ntmps5
    go_wp2
    go_ret2
    exact ⟨rfl, (Below.refl _ _).alloc (Nat.le_refl _) _⟩
  have d4 : decide (hot < 0) = false := decide_eq_false h4
  omega
theorem eng_cache (X : Nat) (words slots most regs hot : Int) (op ch : Bool) (w : World) (hb : ¬ (most < 1 ∨ 64 < most ∨ regs < 3 ∨ 16 < regs ∨ hot < 0)) (hc : words < 1 ∨ 1048576 < words ∨ slots < 1 ∨ 65536 < slots) :
    Calls Try.prog 5 #[.pointer (some ⟨X, 0, none⟩), .agg #[.int .i64 words, .int .i64 slots, .int .i64 most, .int .i64 regs, .int .i64 hot, .bool op, .bool ch]] w fun e w' => e = .returned (.tuple #[.pointer none, .int .i64 4]) ∧ Below w.heap.size w w' := by
  have d0 : decide (most < 1) = false := decide_eq_false (by omega)
  have d1 : decide (64 < most) = false := decide_eq_false (by omega)
  have d2 : decide (regs < 3) = false := decide_eq_false (by omega)
  have d3 : decide (16 < regs) = false := decide_eq_false (by omega)
  have d4 : decide (hot < 0) = false := decide_eq_false (by omega)
  have HC : Hid _ := hc
  clear hb hc
  go_enter Try.func5, Try.ntmps5
  go_wp2_with (go_at_call 6; refine (cache_bad words slots _ HC.out).mono ?_; rintro e w1 ⟨rfl, rfl⟩)
  go_ret2
  exact ⟨rfl, (Below.refl _ _).alloc (Nat.le_refl _) _⟩
end Go.Proofs.Ytkgbjpdoigdjnac
