import Derived.Test.YtgkkghphlbgcoaaHQ
namespace Go.Proofs.Ytgkkghphlbgcoaa.Ho
open Go.RowKit
set_option maxRecDepth 100000
set_option linter.unusedVariables false
set_option linter.unusedSimpArgs false
structure RE1 (w W : World) (x : Cd) : Prop where
  bx : W.heap[w.heap.size]? = some (.cells (cdA x) 41)
  bel : Below w.heap.size w W
theorem re1_start (w : World) (x : Cd) (o : Obj) : RE1 w ((w.alloc (.cells (cdA x) 41)).alloc o) x :=
  ⟨(Below.heap_alloc _ _ _ (by simp)).trans (heap_alloc_last _ _), ((Below.refl _ _).alloc (Nat.le_refl _) _).alloc (by simp) _⟩
theorem renc_neg (x : Cd) (w : World) (h : x.op < 0) : Calls Try.prog 9 #[cdV x] w fun e w' => e = .returned (.tuple #[.slice none 0 0, .int .i64 2]) ∧ Below w.heap.size w w' := by
  go_enter Try.func9, Try.ntmps9
  go_wp2
  go_ret2
  exact ⟨rfl, (by have hB := Below.refl w.heap.size w; repeat first | with_reducible exact hB | with_reducible refine Below.alloc ?_ (by first | exact Nat.le_refl _ | (simp; done) | (simp; omega)) _)⟩
theorem renc_none (x : Cd) (w : World) (h : ¬ x.op < 0) (s : Array UInt8) (most : Int) (hF : fmR x.op = ⟨s, most, 0⟩) : Calls Try.prog 9 #[cdV x] w fun e w' => e = .returned (.tuple #[.slice none 0 0, .int .i64 2]) ∧ Below w.heap.size w w' := by
  have HF : Hid _ := hF
  clear hF
  go_enter Try.func9, Try.ntmps9
  go_wp2_with (go_at_call 35; refine (form_any _ _).mono ?_; rintro e w9 ⟨rfl, rfl⟩; rw [HF.out])
  go_ret2
  exact ⟨rfl, (by have hB := Below.refl w.heap.size w; repeat first | with_reducible exact hB | with_reducible refine Below.alloc ?_ (by first | exact Nat.le_refl _ | (simp; done) | (simp; omega)) _)⟩
theorem renc_dlo (x : Cd) (w : World) (h : ¬ x.op < 0) (s : Array UInt8) (most : Int) (n : Nat) (hF : fmR x.op = ⟨s, most, n⟩) (hn : ((n : Int) == 0) = false)  (hl : x.d < 0) : Calls Try.prog 9 #[cdV x] w fun e w' => e = .returned (.tuple #[.slice none 0 0, .int .i64 3]) ∧ Below w.heap.size w w' := by
  have HF : Hid _ := hF
  clear hF
  go_enter Try.func9, Try.ntmps9
  go_wp2_with (go_at_call 35; refine (form_any _ _).mono ?_; rintro e w9 ⟨rfl, rfl⟩; rw [HF.out])
  refine wp_loop_rounds 1 ?_
  iterate 1 (rw [rounds_succ]; go_wp2)
  go_ret2
  exact ⟨rfl, (by have hB := Below.refl w.heap.size w; repeat first | with_reducible exact hB | with_reducible refine Below.alloc ?_ (by first | exact Nat.le_refl _ | (simp; done) | (simp; omega)) _)⟩
theorem renc_dhi (x : Cd) (w : World) (h : ¬ x.op < 0) (s : Array UInt8) (most : Int) (n : Nat) (hF : fmR x.op = ⟨s, most, n⟩) (hn : ((n : Int) == 0) = false)  (hl : ¬ x.d < 0) (hh : 15 < x.d) : Calls Try.prog 9 #[cdV x] w fun e w' => e = .returned (.tuple #[.slice none 0 0, .int .i64 3]) ∧ Below w.heap.size w w' := by
  have HF : Hid _ := hF
  clear hF
  go_enter Try.func9, Try.ntmps9
  go_wp2_with (go_at_call 35; refine (form_any _ _).mono ?_; rintro e w9 ⟨rfl, rfl⟩; rw [HF.out])
  refine wp_loop_rounds 1 ?_
  iterate 1 (rw [rounds_succ]; go_wp2)
  go_ret2
  exact ⟨rfl, (by have hB := Below.refl w.heap.size w; repeat first | with_reducible exact hB | with_reducible refine Below.alloc ?_ (by first | exact Nat.le_refl _ | (simp; done) | (simp; omega)) _)⟩
theorem renc_alo (x : Cd) (w : World) (h : ¬ x.op < 0) (s : Array UInt8) (most : Int) (n : Nat) (hF : fmR x.op = ⟨s, most, n⟩) (hn : ((n : Int) == 0) = false) (h0l : ¬ x.d < 0) (h0h : ¬ 15 < x.d) (hl : x.a < 0) : Calls Try.prog 9 #[cdV x] w fun e w' => e = .returned (.tuple #[.slice none 0 0, .int .i64 3]) ∧ Below w.heap.size w w' := by
  have HF : Hid _ := hF
  clear hF
  go_enter Try.func9, Try.ntmps9
  go_wp2_with (go_at_call 35; refine (form_any _ _).mono ?_; rintro e w9 ⟨rfl, rfl⟩; rw [HF.out])
  refine wp_loop_rounds 2 ?_
  iterate 2 (rw [rounds_succ]; go_wp2)
  go_ret2
  exact ⟨rfl, (by have hB := Below.refl w.heap.size w; repeat first | with_reducible exact hB | with_reducible refine Below.alloc ?_ (by first | exact Nat.le_refl _ | (simp; done) | (simp; omega)) _)⟩
theorem renc_ahi (x : Cd) (w : World) (h : ¬ x.op < 0) (s : Array UInt8) (most : Int) (n : Nat) (hF : fmR x.op = ⟨s, most, n⟩) (hn : ((n : Int) == 0) = false) (h0l : ¬ x.d < 0) (h0h : ¬ 15 < x.d) (hl : ¬ x.a < 0) (hh : 15 < x.a) : Calls Try.prog 9 #[cdV x] w fun e w' => e = .returned (.tuple #[.slice none 0 0, .int .i64 3]) ∧ Below w.heap.size w w' := by
  have HF : Hid _ := hF
  clear hF
  go_enter Try.func9, Try.ntmps9
  go_wp2_with (go_at_call 35; refine (form_any _ _).mono ?_; rintro e w9 ⟨rfl, rfl⟩; rw [HF.out])
  refine wp_loop_rounds 2 ?_
  iterate 2 (rw [rounds_succ]; go_wp2)
  go_ret2
  exact ⟨rfl, (by have hB := Below.refl w.heap.size w; repeat first | with_reducible exact hB | with_reducible refine Below.alloc ?_ (by first | exact Nat.le_refl _ | (simp; done) | (simp; omega)) _)⟩
theorem renc_blo (x : Cd) (w : World) (h : ¬ x.op < 0) (s : Array UInt8) (most : Int) (n : Nat) (hF : fmR x.op = ⟨s, most, n⟩) (hn : ((n : Int) == 0) = false) (h0l : ¬ x.d < 0) (h0h : ¬ 15 < x.d) (h1l : ¬ x.a < 0) (h1h : ¬ 15 < x.a) (hl : x.b < 0) : Calls Try.prog 9 #[cdV x] w fun e w' => e = .returned (.tuple #[.slice none 0 0, .int .i64 3]) ∧ Below w.heap.size w w' := by
  have HF : Hid _ := hF
  clear hF
  go_enter Try.func9, Try.ntmps9
  go_wp2_with (go_at_call 35; refine (form_any _ _).mono ?_; rintro e w9 ⟨rfl, rfl⟩; rw [HF.out])
  refine wp_loop_rounds 3 ?_
  iterate 3 (rw [rounds_succ]; go_wp2)
  go_ret2
  exact ⟨rfl, (by have hB := Below.refl w.heap.size w; repeat first | with_reducible exact hB | with_reducible refine Below.alloc ?_ (by first | exact Nat.le_refl _ | (simp; done) | (simp; omega)) _)⟩
theorem renc_bhi (x : Cd) (w : World) (h : ¬ x.op < 0) (s : Array UInt8) (most : Int) (n : Nat) (hF : fmR x.op = ⟨s, most, n⟩) (hn : ((n : Int) == 0) = false) (h0l : ¬ x.d < 0) (h0h : ¬ 15 < x.d) (h1l : ¬ x.a < 0) (h1h : ¬ 15 < x.a) (hl : ¬ x.b < 0) (hh : 15 < x.b) : Calls Try.prog 9 #[cdV x] w fun e w' => e = .returned (.tuple #[.slice none 0 0, .int .i64 3]) ∧ Below w.heap.size w w' := by
  have HF : Hid _ := hF
  clear hF
  go_enter Try.func9, Try.ntmps9
  go_wp2_with (go_at_call 35; refine (form_any _ _).mono ?_; rintro e w9 ⟨rfl, rfl⟩; rw [HF.out])
  refine wp_loop_rounds 3 ?_
  iterate 3 (rw [rounds_succ]; go_wp2)
  go_ret2
  exact ⟨rfl, (by have hB := Below.refl w.heap.size w; repeat first | with_reducible exact hB | with_reducible refine Below.alloc ?_ (by first | exact Nat.le_refl _ | (simp; done) | (simp; omega)) _)⟩
theorem renc_clo (x : Cd) (w : World) (h : ¬ x.op < 0) (s : Array UInt8) (most : Int) (n : Nat) (hF : fmR x.op = ⟨s, most, n⟩) (hn : ((n : Int) == 0) = false) (h0l : ¬ x.d < 0) (h0h : ¬ 15 < x.d) (h1l : ¬ x.a < 0) (h1h : ¬ 15 < x.a) (h2l : ¬ x.b < 0) (h2h : ¬ 15 < x.b) (hl : x.c < 0) : Calls Try.prog 9 #[cdV x] w fun e w' => e = .returned (.tuple #[.slice none 0 0, .int .i64 3]) ∧ Below w.heap.size w w' := by
  have HF : Hid _ := hF
  clear hF
  go_enter Try.func9, Try.ntmps9
  go_wp2_with (go_at_call 35; refine (form_any _ _).mono ?_; rintro e w9 ⟨rfl, rfl⟩; rw [HF.out])
  refine wp_loop_rounds 4 ?_
  iterate 4 (rw [rounds_succ]; go_wp2)
  go_ret2
  exact ⟨rfl, (by have hB := Below.refl w.heap.size w; repeat first | with_reducible exact hB | with_reducible refine Below.alloc ?_ (by first | exact Nat.le_refl _ | (simp; done) | (simp; omega)) _)⟩
theorem renc_chi (x : Cd) (w : World) (h : ¬ x.op < 0) (s : Array UInt8) (most : Int) (n : Nat) (hF : fmR x.op = ⟨s, most, n⟩) (hn : ((n : Int) == 0) = false) (h0l : ¬ x.d < 0) (h0h : ¬ 15 < x.d) (h1l : ¬ x.a < 0) (h1h : ¬ 15 < x.a) (h2l : ¬ x.b < 0) (h2h : ¬ 15 < x.b) (hl : ¬ x.c < 0) (hh : 15 < x.c) : Calls Try.prog 9 #[cdV x] w fun e w' => e = .returned (.tuple #[.slice none 0 0, .int .i64 3]) ∧ Below w.heap.size w w' := by
  have HF : Hid _ := hF
  clear hF
  go_enter Try.func9, Try.ntmps9
  go_wp2_with (go_at_call 35; refine (form_any _ _).mono ?_; rintro e w9 ⟨rfl, rfl⟩; rw [HF.out])
  refine wp_loop_rounds 4 ?_
  iterate 4 (rw [rounds_succ]; go_wp2)
  go_ret2
  exact ⟨rfl, (by have hB := Below.refl w.heap.size w; repeat first | with_reducible exact hB | with_reducible refine Below.alloc ?_ (by first | exact Nat.le_refl _ | (simp; done) | (simp; omega)) _)⟩
theorem renc_nlo (x : Cd) (w : World) (h : ¬ x.op < 0) (s : Array UInt8) (most : Int) (n : Nat) (hF : fmR x.op = ⟨s, most, n⟩) (hn : ((n : Int) == 0) = false) (h0l : ¬ x.d < 0) (h0h : ¬ 15 < x.d) (h1l : ¬ x.a < 0) (h1h : ¬ 15 < x.a) (h2l : ¬ x.b < 0) (h2h : ¬ 15 < x.b) (h3l : ¬ x.c < 0) (h3h : ¬ 15 < x.c) (hl : x.n < 0) : Calls Try.prog 9 #[cdV x] w fun e w' => e = .returned (.tuple #[.slice none 0 0, .int .i64 3]) ∧ Below w.heap.size w w' := by
  have HF : Hid _ := hF
  clear hF
  go_enter Try.func9, Try.ntmps9
  go_wp2_with (go_at_call 35; refine (form_any _ _).mono ?_; rintro e w9 ⟨rfl, rfl⟩; rw [HF.out])
  refine wp_loop_rounds 5 ?_
  iterate 5 (rw [rounds_succ]; go_wp2)
  go_ret2
  exact ⟨rfl, (by have hB := Below.refl w.heap.size w; repeat first | with_reducible exact hB | with_reducible refine Below.alloc ?_ (by first | exact Nat.le_refl _ | (simp; done) | (simp; omega)) _)⟩
theorem renc_nhi (x : Cd) (w : World) (h : ¬ x.op < 0) (s : Array UInt8) (most : Int) (n : Nat) (hF : fmR x.op = ⟨s, most, n⟩) (hn : ((n : Int) == 0) = false) (h0l : ¬ x.d < 0) (h0h : ¬ 15 < x.d) (h1l : ¬ x.a < 0) (h1h : ¬ 15 < x.a) (h2l : ¬ x.b < 0) (h2h : ¬ 15 < x.b) (h3l : ¬ x.c < 0) (h3h : ¬ 15 < x.c) (hl : ¬ x.n < 0) (hh : 65535 < x.n) : Calls Try.prog 9 #[cdV x] w fun e w' => e = .returned (.tuple #[.slice none 0 0, .int .i64 3]) ∧ Below w.heap.size w w' := by
  have HF : Hid _ := hF
  clear hF
  go_enter Try.func9, Try.ntmps9
  go_wp2_with (go_at_call 35; refine (form_any _ _).mono ?_; rintro e w9 ⟨rfl, rfl⟩; rw [HF.out])
  refine wp_loop_rounds 5 ?_
  iterate 5 (rw [rounds_succ]; go_wp2)
  go_ret2
  exact ⟨rfl, (by have hB := Below.refl w.heap.size w; repeat first | with_reducible exact hB | with_reducible refine Below.alloc ?_ (by first | exact Nat.le_refl _ | (simp; done) | (simp; omega)) _)⟩
end Go.Proofs.Ytgkkghphlbgcoaa.Ho
