import Derived.Test.YtkgbjpdoigdjnaaC1
import Derived.Test.YtkgbjpdoigdjnaaEC
namespace Go.Proofs.Ytkgbjpdoigdjnaa
open Go.RowKit
set_option maxRecDepth 100000
set_option linter.unusedVariables false
set_option linter.unusedSimpArgs false

/-! ## What an operation gives that hangs on what it takes alone -/
def valF (o : OpR) (a b c : Nat) : Int :=
  if o.kind = 1 then (o.k : Int) else if o.kind = 4 then binF o.w a b else if o.kind = 5 then (unF o.w a : Int) else if o.kind = 6 then (if a = 0 then (c : Int) else (b : Int))
  else if o.kind = 7 then Fl.flagsF o.w a b c else Fl.isF (Fl.holdsF o.w a) 1
structure OpWf (o : OpR) : Prop where
  w4 : o.kind = 4 → 0 ≤ o.w ∧ o.w ≤ 15
  w5 : o.kind = 5 → 0 ≤ o.w ∧ o.w ≤ 6
set_option maxHeartbeats 1000000 in
theorem rval1 (o : OpR) (a b c : Nat) (w : World) (ha : a < 4294967296) (hb : b < 4294967296) (hc : c < 4294967296) (hk : o.kind = 1) (hw : OpWf o) :
    Calls Try.prog 145 #[.agg #[.int .i64 o.kind, .int .i64 o.w, .int .i64 o.a, .int .i64 o.b, .int .i64 o.c, .int .u32 o.k, .int .i64 o.n], .int .u32 a, .int .u32 b, .int .u32 c] w fun e w' => e = .returned (.int .u32 (valF o a b c)) ∧ Below w.heap.size w w' := by
  have HF : Hid (valF o a b c = (o.k : Int)) := by show _ = _; simp [valF, hk]
  have HW : Hid _ := hw
  have HK : Hid (o.kind = 1) := hk
  clear hw
  go_enter Try.func145, Try.ntmps145
  go_wp2
  go_ret
  exact ⟨by rw [HF.out]; rfl, wk_bel1 w _⟩
set_option maxHeartbeats 1000000 in
theorem rval4 (o : OpR) (a b c : Nat) (w : World) (ha : a < 4294967296) (hb : b < 4294967296) (hc : c < 4294967296) (hk : o.kind = 4) (hw : OpWf o) :
    Calls Try.prog 145 #[.agg #[.int .i64 o.kind, .int .i64 o.w, .int .i64 o.a, .int .i64 o.b, .int .i64 o.c, .int .u32 o.k, .int .i64 o.n], .int .u32 a, .int .u32 b, .int .u32 c] w fun e w' => e = .returned (.int .u32 (valF o a b c)) ∧ Below w.heap.size w w' := by
  have HF : Hid (valF o a b c = binF o.w a b) := by show _ = _; simp [valF, hk]
  have HW : Hid _ := hw
  have HK : Hid (o.kind = 4) := hk
  clear hw
  go_enter Try.func145, Try.ntmps145
  go_wp2_with (go_at_call 168; refine (rbin_any o.w a b _ ha hb (HW.out.w4 HK.out)).mono ?_; rintro e w1 ⟨rfl, h1⟩)
  go_ret
  exact ⟨by rw [HF.out]; rfl, (wk_bel1 w _).trans (h1.mono (by simp))⟩
set_option maxHeartbeats 1000000 in
theorem rval5 (o : OpR) (a b c : Nat) (w : World) (ha : a < 4294967296) (hb : b < 4294967296) (hc : c < 4294967296) (hk : o.kind = 5) (hw : OpWf o) :
    Calls Try.prog 145 #[.agg #[.int .i64 o.kind, .int .i64 o.w, .int .i64 o.a, .int .i64 o.b, .int .i64 o.c, .int .u32 o.k, .int .i64 o.n], .int .u32 a, .int .u32 b, .int .u32 c] w fun e w' => e = .returned (.int .u32 (valF o a b c)) ∧ Below w.heap.size w w' := by
  have HF : Hid (valF o a b c = (unF o.w a : Int)) := by show _ = _; simp [valF, hk]
  have HW : Hid _ := hw
  have HK : Hid (o.kind = 5) := hk
  clear hw
  go_enter Try.func145, Try.ntmps145
  go_wp2_with (go_at_call 167; refine (run_any o.w a _ ha (HW.out.w5 HK.out)).mono ?_; rintro e w1 ⟨rfl, rfl⟩)
  go_ret
  exact ⟨by rw [HF.out]; rfl, wk_bel1 w _⟩
set_option maxHeartbeats 1000000 in
theorem rval6 (o : OpR) (a b c : Nat) (w : World) (ha : a < 4294967296) (hb : b < 4294967296) (hc : c < 4294967296) (hk : o.kind = 6) (hw : OpWf o) :
    Calls Try.prog 145 #[.agg #[.int .i64 o.kind, .int .i64 o.w, .int .i64 o.a, .int .i64 o.b, .int .i64 o.c, .int .u32 o.k, .int .i64 o.n], .int .u32 a, .int .u32 b, .int .u32 c] w fun e w' => e = .returned (.int .u32 (valF o a b c)) ∧ Below w.heap.size w w' := by
  have HF : Hid (valF o a b c = if a = 0 then (c : Int) else (b : Int)) := by show _ = _; simp [valF, hk]
  have HW : Hid _ := hw
  have HK : Hid (o.kind = 6) := hk
  clear hw
  go_enter Try.func145, Try.ntmps145
  by_cases h : a = 0
  · have d : ((a : Int) != 0) = false := by simp; omega
    go_wp2
    go_ret
    exact ⟨by rw [HF.out, if_pos h]; rfl, wk_bel1 w _⟩
  · have d : ((a : Int) != 0) = true := by simp; omega
    go_wp2
    go_ret
    exact ⟨by rw [HF.out, if_neg h]; rfl, wk_bel1 w _⟩
set_option maxHeartbeats 1000000 in
theorem rval7 (o : OpR) (a b c : Nat) (w : World) (ha : a < 4294967296) (hb : b < 4294967296) (hc : c < 4294967296) (hk : o.kind = 7) (hw : OpWf o) :
    Calls Try.prog 145 #[.agg #[.int .i64 o.kind, .int .i64 o.w, .int .i64 o.a, .int .i64 o.b, .int .i64 o.c, .int .u32 o.k, .int .i64 o.n], .int .u32 a, .int .u32 b, .int .u32 c] w fun e w' => e = .returned (.int .u32 (valF o a b c)) ∧ Below w.heap.size w w' := by
  have HF : Hid (valF o a b c = Fl.flagsF o.w a b c) := by show _ = _; simp [valF, hk]
  have HW : Hid _ := hw
  have HK : Hid (o.kind = 7) := hk
  clear hw
  go_enter Try.func145, Try.ntmps145
  go_wp2_with (go_at_call 32; refine (Fl.flags_any o.w a b c _ ha hb hc).mono ?_; rintro e w1 ⟨rfl, rfl⟩)
  go_ret
  exact ⟨by rw [HF.out]; rfl, wk_bel1 w _⟩
set_option maxHeartbeats 1000000 in
theorem rval8 (o : OpR) (a b c : Nat) (w : World) (ha : a < 4294967296) (hb : b < 4294967296) (hc : c < 4294967296) (hk : o.kind = 8) (hw : OpWf o) :
    Calls Try.prog 145 #[.agg #[.int .i64 o.kind, .int .i64 o.w, .int .i64 o.a, .int .i64 o.b, .int .i64 o.c, .int .u32 o.k, .int .i64 o.n], .int .u32 a, .int .u32 b, .int .u32 c] w fun e w' => e = .returned (.int .u32 (valF o a b c)) ∧ Below w.heap.size w w' := by
  have HF : Hid (valF o a b c = Fl.isF (Fl.holdsF o.w a) 1) := by show _ = _; simp [valF, hk]
  have HW : Hid _ := hw
  have HK : Hid (o.kind = 8) := hk
  clear hw
  go_enter Try.func145, Try.ntmps145
  go_wp2_with (first
    | (go_at_call 34; refine (Fl.holds_any o.w a _ ha).mono ?_; rintro e w1 ⟨rfl, h1⟩)
    | (go_at_call 169; refine (is3_any _ _).mono ?_; rintro e w2 ⟨rfl, rfl⟩))
  go_ret
  exact ⟨by rw [HF.out]; rfl, (wk_bel1 w _).trans (h1.mono (by simp))⟩
end Go.Proofs.Ytkgbjpdoigdjnaa
