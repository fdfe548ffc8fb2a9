import Derived.Test.YtkgbjpdoigdjnabOL
import Derived.Test.YtkgbjpdoigdjnabOG
set_option linter.unusedVariables false
set_option linter.unusedSimpArgs false
set_option maxHeartbeats 2000000
namespace Go.Proofs.Ytkgbjpdoigdjnab
open Go.RowKit
open Go.Maps
set_option maxRecDepth 100000
def doS (s : SE) (o : ON) : SE × Option Nat :=
 if isP o.kd then recS s o else if o.kd = 2 then getS s o else if o.kd = 3 then putS s o else if o.kd = 12 ∨ o.kd = 13 then askS s o else if o.kd = 17 then telS s o
 else ({ s with l := s.l ++ [o] }, some s.l.length)
structure DoOk (s : SE) (o : ON) : Prop where
 k1 : 1 ≤ o.kd
 k2 : o.kd ≤ 17
 r : isP o.kd = true → RecOk s o
 w : o.kd = 2 ∨ o.kd = 3 → o.w < 12
 a : o.kd = 12 ∨ o.kd = 13 → o.a < s.l.length
 len : s.l.length < 100000
 sl : SlOk s
 ks : KsOk s
theorem SW.to {w : World} {base X M : Nat} {s s' : SE} {sv : Value} (h : SW w base X M s' s.l sv) (x : ON) (hx : isP x.kd = false) (he : s'.l = s.l ∨ s'.l = s.l ++ [x]) : SW w base X M s' s'.l sv := by
 rcases he with e | e
 ·rw [e]; exact h
 ·rw [e]; exact h.other x hx
theorem get_l (s : SE) (o : ON) : (getS s o).1.l = s.l ∨ (getS s o).1.l = s.l ++ [o] := by
 unfold getS; split <;> simp
theorem put_l (s : SE) (o : ON) : (putS s o).1.l = s.l ∨ (putS s o).1.l = s.l ++ [o] := by
 unfold putS; split <;> simp
theorem ask_l (s : SE) (o : ON) (h : isP o.kd = false) : ∃ x, isP x.kd = false ∧ ((askS s o).1.l = s.l ∨ (askS s o).1.l = s.l ++ [x]) := by
 unfold askS
 split
 ·exact ⟨o, h, .inr rfl⟩
 ·split
  ·exact ⟨o, h, .inl rfl⟩
  ·refine ⟨endO o, ?_, .inr rfl⟩
   unfold endO
   split <;> rfl
theorem do_1 (base X M : Nat) (s : SE) (sv : Value) (w0 a b c k n : Nat) (w : World) (hS : SW w base X M s s.l sv) (hd : DoOk s ⟨1, w0, a, b, c, k, n⟩) :
  Calls Try.prog 121 #[.pointer (some ⟨X, 0, none⟩), .agg #[.int .i64 1, .int .i64 w0, .int .i64 a, .int .i64 b, .int .i64 c, .int .u32 k, .int .i64 n]] w fun e w' => e = .returned (.int .i64 (oI (doS s ⟨1, w0, a, b, c, k, n⟩).2)) ∧ ∃ sv', SW w' base X M (doS s ⟨1, w0, a, b, c, k, n⟩).1 (doS s ⟨1, w0, a, b, c, k, n⟩).1.l sv' ∧ Kz base X M sv w sv' w' := by
 have HSX : Hid (SX w _ base X M s s.l sv sv _) := SX.start hS ⟨1, w0, a, b, c, k, n⟩
 have HS : Hid _ := hS
 have HD : Hid _ := hd
 rw [show doS s ⟨1, w0, a, b, c, k, n⟩ = recS s ⟨1, w0, a, b, c, k, n⟩ from rfl]
 clear hS hd
 go_enter Try.func121, Try.ntmps121
 go_wp2_with (go_at_call 169; refine (reckon_any base X M s sv ⟨1, w0, a, b, c, k, n⟩ _ HSX.out.sw HD.out.len (HD.out.r rfl)).mono ?_; rintro e w2 ⟨rfl, sv2, h2, k2⟩; have H2 : Hid _ := h2; have K2 : Hid _ := k2; clear h2 k2)
 go_ret
 exact ⟨rfl, _, H2.out, HSX.out.kz.trans K2.out⟩
theorem do_4 (base X M : Nat) (s : SE) (sv : Value) (w0 a b c k n : Nat) (w : World) (hS : SW w base X M s s.l sv) (hd : DoOk s ⟨4, w0, a, b, c, k, n⟩) :
  Calls Try.prog 121 #[.pointer (some ⟨X, 0, none⟩), .agg #[.int .i64 4, .int .i64 w0, .int .i64 a, .int .i64 b, .int .i64 c, .int .u32 k, .int .i64 n]] w fun e w' => e = .returned (.int .i64 (oI (doS s ⟨4, w0, a, b, c, k, n⟩).2)) ∧ ∃ sv', SW w' base X M (doS s ⟨4, w0, a, b, c, k, n⟩).1 (doS s ⟨4, w0, a, b, c, k, n⟩).1.l sv' ∧ Kz base X M sv w sv' w' := by
 have HSX : Hid (SX w _ base X M s s.l sv sv _) := SX.start hS ⟨4, w0, a, b, c, k, n⟩
 have HS : Hid _ := hS
 have HD : Hid _ := hd
 rw [show doS s ⟨4, w0, a, b, c, k, n⟩ = recS s ⟨4, w0, a, b, c, k, n⟩ from rfl]
 clear hS hd
 go_enter Try.func121, Try.ntmps121
 go_wp2_with (go_at_call 169; refine (reckon_any base X M s sv ⟨4, w0, a, b, c, k, n⟩ _ HSX.out.sw HD.out.len (HD.out.r rfl)).mono ?_; rintro e w2 ⟨rfl, sv2, h2, k2⟩; have H2 : Hid _ := h2; have K2 : Hid _ := k2; clear h2 k2)
 go_ret
 exact ⟨rfl, _, H2.out, HSX.out.kz.trans K2.out⟩
theorem do_5 (base X M : Nat) (s : SE) (sv : Value) (w0 a b c k n : Nat) (w : World) (hS : SW w base X M s s.l sv) (hd : DoOk s ⟨5, w0, a, b, c, k, n⟩) :
  Calls Try.prog 121 #[.pointer (some ⟨X, 0, none⟩), .agg #[.int .i64 5, .int .i64 w0, .int .i64 a, .int .i64 b, .int .i64 c, .int .u32 k, .int .i64 n]] w fun e w' => e = .returned (.int .i64 (oI (doS s ⟨5, w0, a, b, c, k, n⟩).2)) ∧ ∃ sv', SW w' base X M (doS s ⟨5, w0, a, b, c, k, n⟩).1 (doS s ⟨5, w0, a, b, c, k, n⟩).1.l sv' ∧ Kz base X M sv w sv' w' := by
 have HSX : Hid (SX w _ base X M s s.l sv sv _) := SX.start hS ⟨5, w0, a, b, c, k, n⟩
 have HS : Hid _ := hS
 have HD : Hid _ := hd
 rw [show doS s ⟨5, w0, a, b, c, k, n⟩ = recS s ⟨5, w0, a, b, c, k, n⟩ from rfl]
 clear hS hd
 go_enter Try.func121, Try.ntmps121
 go_wp2_with (go_at_call 169; refine (reckon_any base X M s sv ⟨5, w0, a, b, c, k, n⟩ _ HSX.out.sw HD.out.len (HD.out.r rfl)).mono ?_; rintro e w2 ⟨rfl, sv2, h2, k2⟩; have H2 : Hid _ := h2; have K2 : Hid _ := k2; clear h2 k2)
 go_ret
 exact ⟨rfl, _, H2.out, HSX.out.kz.trans K2.out⟩
theorem do_6 (base X M : Nat) (s : SE) (sv : Value) (w0 a b c k n : Nat) (w : World) (hS : SW w base X M s s.l sv) (hd : DoOk s ⟨6, w0, a, b, c, k, n⟩) :
  Calls Try.prog 121 #[.pointer (some ⟨X, 0, none⟩), .agg #[.int .i64 6, .int .i64 w0, .int .i64 a, .int .i64 b, .int .i64 c, .int .u32 k, .int .i64 n]] w fun e w' => e = .returned (.int .i64 (oI (doS s ⟨6, w0, a, b, c, k, n⟩).2)) ∧ ∃ sv', SW w' base X M (doS s ⟨6, w0, a, b, c, k, n⟩).1 (doS s ⟨6, w0, a, b, c, k, n⟩).1.l sv' ∧ Kz base X M sv w sv' w' := by
 have HSX : Hid (SX w _ base X M s s.l sv sv _) := SX.start hS ⟨6, w0, a, b, c, k, n⟩
 have HS : Hid _ := hS
 have HD : Hid _ := hd
 rw [show doS s ⟨6, w0, a, b, c, k, n⟩ = recS s ⟨6, w0, a, b, c, k, n⟩ from rfl]
 clear hS hd
 go_enter Try.func121, Try.ntmps121
 go_wp2_with (go_at_call 169; refine (reckon_any base X M s sv ⟨6, w0, a, b, c, k, n⟩ _ HSX.out.sw HD.out.len (HD.out.r rfl)).mono ?_; rintro e w2 ⟨rfl, sv2, h2, k2⟩; have H2 : Hid _ := h2; have K2 : Hid _ := k2; clear h2 k2)
 go_ret
 exact ⟨rfl, _, H2.out, HSX.out.kz.trans K2.out⟩
theorem do_7 (base X M : Nat) (s : SE) (sv : Value) (w0 a b c k n : Nat) (w : World) (hS : SW w base X M s s.l sv) (hd : DoOk s ⟨7, w0, a, b, c, k, n⟩) :
  Calls Try.prog 121 #[.pointer (some ⟨X, 0, none⟩), .agg #[.int .i64 7, .int .i64 w0, .int .i64 a, .int .i64 b, .int .i64 c, .int .u32 k, .int .i64 n]] w fun e w' => e = .returned (.int .i64 (oI (doS s ⟨7, w0, a, b, c, k, n⟩).2)) ∧ ∃ sv', SW w' base X M (doS s ⟨7, w0, a, b, c, k, n⟩).1 (doS s ⟨7, w0, a, b, c, k, n⟩).1.l sv' ∧ Kz base X M sv w sv' w' := by
 have HSX : Hid (SX w _ base X M s s.l sv sv _) := SX.start hS ⟨7, w0, a, b, c, k, n⟩
 have HS : Hid _ := hS
 have HD : Hid _ := hd
 rw [show doS s ⟨7, w0, a, b, c, k, n⟩ = recS s ⟨7, w0, a, b, c, k, n⟩ from rfl]
 clear hS hd
 go_enter Try.func121, Try.ntmps121
 go_wp2_with (go_at_call 169; refine (reckon_any base X M s sv ⟨7, w0, a, b, c, k, n⟩ _ HSX.out.sw HD.out.len (HD.out.r rfl)).mono ?_; rintro e w2 ⟨rfl, sv2, h2, k2⟩; have H2 : Hid _ := h2; have K2 : Hid _ := k2; clear h2 k2)
 go_ret
 exact ⟨rfl, _, H2.out, HSX.out.kz.trans K2.out⟩
theorem do_8 (base X M : Nat) (s : SE) (sv : Value) (w0 a b c k n : Nat) (w : World) (hS : SW w base X M s s.l sv) (hd : DoOk s ⟨8, w0, a, b, c, k, n⟩) :
  Calls Try.prog 121 #[.pointer (some ⟨X, 0, none⟩), .agg #[.int .i64 8, .int .i64 w0, .int .i64 a, .int .i64 b, .int .i64 c, .int .u32 k, .int .i64 n]] w fun e w' => e = .returned (.int .i64 (oI (doS s ⟨8, w0, a, b, c, k, n⟩).2)) ∧ ∃ sv', SW w' base X M (doS s ⟨8, w0, a, b, c, k, n⟩).1 (doS s ⟨8, w0, a, b, c, k, n⟩).1.l sv' ∧ Kz base X M sv w sv' w' := by
 have HSX : Hid (SX w _ base X M s s.l sv sv _) := SX.start hS ⟨8, w0, a, b, c, k, n⟩
 have HS : Hid _ := hS
 have HD : Hid _ := hd
 rw [show doS s ⟨8, w0, a, b, c, k, n⟩ = recS s ⟨8, w0, a, b, c, k, n⟩ from rfl]
 clear hS hd
 go_enter Try.func121, Try.ntmps121
 go_wp2_with (go_at_call 169; refine (reckon_any base X M s sv ⟨8, w0, a, b, c, k, n⟩ _ HSX.out.sw HD.out.len (HD.out.r rfl)).mono ?_; rintro e w2 ⟨rfl, sv2, h2, k2⟩; have H2 : Hid _ := h2; have K2 : Hid _ := k2; clear h2 k2)
 go_ret
 exact ⟨rfl, _, H2.out, HSX.out.kz.trans K2.out⟩
theorem do_2 (base X M : Nat) (s : SE) (sv : Value) (w0 a b c k n : Nat) (w : World) (hS : SW w base X M s s.l sv) (hd : DoOk s ⟨2, w0, a, b, c, k, n⟩) :
  Calls Try.prog 121 #[.pointer (some ⟨X, 0, none⟩), .agg #[.int .i64 2, .int .i64 w0, .int .i64 a, .int .i64 b, .int .i64 c, .int .u32 k, .int .i64 n]] w fun e w' => e = .returned (.int .i64 (oI (doS s ⟨2, w0, a, b, c, k, n⟩).2)) ∧ ∃ sv', SW w' base X M (doS s ⟨2, w0, a, b, c, k, n⟩).1 (doS s ⟨2, w0, a, b, c, k, n⟩).1.l sv' ∧ Kz base X M sv w sv' w' := by
 have HSX : Hid (SX w _ base X M s s.l sv sv _) := SX.start hS ⟨2, w0, a, b, c, k, n⟩
 have HS : Hid _ := hS
 have HD : Hid _ := hd
 rw [show doS s ⟨2, w0, a, b, c, k, n⟩ = getS s ⟨2, w0, a, b, c, k, n⟩ from rfl]
 clear hS hd
 go_enter Try.func121, Try.ntmps121
 go_wp2_with (go_at_call 170; refine (get_any base X M s s.l sv ⟨2, w0, a, b, c, k, n⟩ _ HSX.out.sw HD.out.len (HD.out.w (.inl rfl))).mono ?_; rintro e w2 ⟨rfl, sv2, h2, k2⟩; have H2 : Hid _ := h2; have K2 : Hid _ := k2; clear h2 k2)
 go_ret
 exact ⟨rfl, _, H2.out.to ⟨2, w0, a, b, c, k, n⟩ rfl (get_l s _), HSX.out.kz.trans K2.out⟩
theorem do_3 (base X M : Nat) (s : SE) (sv : Value) (w0 a b c k n : Nat) (w : World) (hS : SW w base X M s s.l sv) (hd : DoOk s ⟨3, w0, a, b, c, k, n⟩) :
  Calls Try.prog 121 #[.pointer (some ⟨X, 0, none⟩), .agg #[.int .i64 3, .int .i64 w0, .int .i64 a, .int .i64 b, .int .i64 c, .int .u32 k, .int .i64 n]] w fun e w' => e = .returned (.int .i64 (oI (doS s ⟨3, w0, a, b, c, k, n⟩).2)) ∧ ∃ sv', SW w' base X M (doS s ⟨3, w0, a, b, c, k, n⟩).1 (doS s ⟨3, w0, a, b, c, k, n⟩).1.l sv' ∧ Kz base X M sv w sv' w' := by
 have HSX : Hid (SX w _ base X M s s.l sv sv _) := SX.start hS ⟨3, w0, a, b, c, k, n⟩
 have HS : Hid _ := hS
 have HD : Hid _ := hd
 rw [show doS s ⟨3, w0, a, b, c, k, n⟩ = putS s ⟨3, w0, a, b, c, k, n⟩ from rfl]
 clear hS hd
 go_enter Try.func121, Try.ntmps121
 go_wp2_with (go_at_call 171; refine (put_any base X M s s.l sv ⟨3, w0, a, b, c, k, n⟩ _ HSX.out.sw HD.out.len (HD.out.w (.inr rfl))).mono ?_; rintro e w2 ⟨rfl, sv2, h2, k2⟩; have H2 : Hid _ := h2; have K2 : Hid _ := k2; clear h2 k2)
 go_ret
 exact ⟨rfl, _, H2.out.to ⟨3, w0, a, b, c, k, n⟩ rfl (put_l s _), HSX.out.kz.trans K2.out⟩
theorem do_12 (base X M : Nat) (s : SE) (sv : Value) (w0 a b c k n : Nat) (w : World) (hS : SW w base X M s s.l sv) (hd : DoOk s ⟨12, w0, a, b, c, k, n⟩) :
  Calls Try.prog 121 #[.pointer (some ⟨X, 0, none⟩), .agg #[.int .i64 12, .int .i64 w0, .int .i64 a, .int .i64 b, .int .i64 c, .int .u32 k, .int .i64 n]] w fun e w' => e = .returned (.int .i64 (oI (doS s ⟨12, w0, a, b, c, k, n⟩).2)) ∧ ∃ sv', SW w' base X M (doS s ⟨12, w0, a, b, c, k, n⟩).1 (doS s ⟨12, w0, a, b, c, k, n⟩).1.l sv' ∧ Kz base X M sv w sv' w' := by
 have HSX : Hid (SX w _ base X M s s.l sv sv _) := SX.start hS ⟨12, w0, a, b, c, k, n⟩
 have HS : Hid _ := hS
 have HD : Hid _ := hd
 rw [show doS s ⟨12, w0, a, b, c, k, n⟩ = askS s ⟨12, w0, a, b, c, k, n⟩ from rfl]
 obtain ⟨x, hx, hxl⟩ := ask_l s ⟨12, w0, a, b, c, k, n⟩ rfl
 have HX1 : Hid _ := hx
 have HX2 : Hid _ := hxl
 clear hx hxl
 clear hS hd
 go_enter Try.func121, Try.ntmps121
 go_wp2_with (go_at_call 172; refine (ask_any base X M s s.l sv ⟨12, w0, a, b, c, k, n⟩ _ HSX.out.sw HD.out.len (HD.out.a (.inl rfl))).mono ?_; rintro e w2 ⟨rfl, sv2, h2, k2⟩; have H2 : Hid _ := h2; have K2 : Hid _ := k2; clear h2 k2)
 go_ret
 exact ⟨rfl, _, H2.out.to x HX1.out HX2.out, HSX.out.kz.trans K2.out⟩
theorem do_13 (base X M : Nat) (s : SE) (sv : Value) (w0 a b c k n : Nat) (w : World) (hS : SW w base X M s s.l sv) (hd : DoOk s ⟨13, w0, a, b, c, k, n⟩) :
  Calls Try.prog 121 #[.pointer (some ⟨X, 0, none⟩), .agg #[.int .i64 13, .int .i64 w0, .int .i64 a, .int .i64 b, .int .i64 c, .int .u32 k, .int .i64 n]] w fun e w' => e = .returned (.int .i64 (oI (doS s ⟨13, w0, a, b, c, k, n⟩).2)) ∧ ∃ sv', SW w' base X M (doS s ⟨13, w0, a, b, c, k, n⟩).1 (doS s ⟨13, w0, a, b, c, k, n⟩).1.l sv' ∧ Kz base X M sv w sv' w' := by
 have HSX : Hid (SX w _ base X M s s.l sv sv _) := SX.start hS ⟨13, w0, a, b, c, k, n⟩
 have HS : Hid _ := hS
 have HD : Hid _ := hd
 rw [show doS s ⟨13, w0, a, b, c, k, n⟩ = askS s ⟨13, w0, a, b, c, k, n⟩ from rfl]
 obtain ⟨x, hx, hxl⟩ := ask_l s ⟨13, w0, a, b, c, k, n⟩ rfl
 have HX1 : Hid _ := hx
 have HX2 : Hid _ := hxl
 clear hx hxl
 clear hS hd
 go_enter Try.func121, Try.ntmps121
 go_wp2_with (go_at_call 172; refine (ask_any base X M s s.l sv ⟨13, w0, a, b, c, k, n⟩ _ HSX.out.sw HD.out.len (HD.out.a (.inr rfl))).mono ?_; rintro e w2 ⟨rfl, sv2, h2, k2⟩; have H2 : Hid _ := h2; have K2 : Hid _ := k2; clear h2 k2)
 go_ret
 exact ⟨rfl, _, H2.out.to x HX1.out HX2.out, HSX.out.kz.trans K2.out⟩
theorem do_17 (base X M : Nat) (s : SE) (sv : Value) (w0 a b c k n : Nat) (w : World) (hS : SW w base X M s s.l sv) (hd : DoOk s ⟨17, w0, a, b, c, k, n⟩) :
  Calls Try.prog 121 #[.pointer (some ⟨X, 0, none⟩), .agg #[.int .i64 17, .int .i64 w0, .int .i64 a, .int .i64 b, .int .i64 c, .int .u32 k, .int .i64 n]] w fun e w' => e = .returned (.int .i64 (oI (doS s ⟨17, w0, a, b, c, k, n⟩).2)) ∧ ∃ sv', SW w' base X M (doS s ⟨17, w0, a, b, c, k, n⟩).1 (doS s ⟨17, w0, a, b, c, k, n⟩).1.l sv' ∧ Kz base X M sv w sv' w' := by
 have HSX : Hid (SX w _ base X M s s.l sv sv _) := SX.start hS ⟨17, w0, a, b, c, k, n⟩
 have HS : Hid _ := hS
 have HD : Hid _ := hd
 rw [show doS s ⟨17, w0, a, b, c, k, n⟩ = telS s ⟨17, w0, a, b, c, k, n⟩ from rfl]
 clear hS hd
 go_enter Try.func121, Try.ntmps121
 go_wp2_with (go_at_call 173; refine (tell_any base X M s sv ⟨17, w0, a, b, c, k, n⟩ _ (fun s sv o w h1 h2 h3 => reckon_any base X M s sv o w h1 h2 h3) HSX.out.sw HD.out.len HD.out.sl HD.out.ks rfl).mono ?_; rintro e w2 ⟨rfl, sv2, h2, k2⟩; have H2 : Hid _ := h2; have K2 : Hid _ := k2; clear h2 k2)
 go_ret
 exact ⟨rfl, _, H2.out, HSX.out.kz.trans K2.out⟩
theorem do_9 (base X M : Nat) (s : SE) (sv : Value) (w0 a b c k n : Nat) (w : World) (hS : SW w base X M s s.l sv) (hd : DoOk s ⟨9, w0, a, b, c, k, n⟩) :
  Calls Try.prog 121 #[.pointer (some ⟨X, 0, none⟩), .agg #[.int .i64 9, .int .i64 w0, .int .i64 a, .int .i64 b, .int .i64 c, .int .u32 k, .int .i64 n]] w fun e w' => e = .returned (.int .i64 (oI (doS s ⟨9, w0, a, b, c, k, n⟩).2)) ∧ ∃ sv', SW w' base X M (doS s ⟨9, w0, a, b, c, k, n⟩).1 (doS s ⟨9, w0, a, b, c, k, n⟩).1.l sv' ∧ Kz base X M sv w sv' w' := by
 have HSX : Hid (SX w _ base X M s s.l sv sv _) := SX.start hS ⟨9, w0, a, b, c, k, n⟩
 have HS : Hid _ := hS
 have HD : Hid _ := hd
 rw [show doS s ⟨9, w0, a, b, c, k, n⟩ = ({ s with l := s.l ++ [⟨9, w0, a, b, c, k, n⟩] }, some s.l.length) from rfl]
 clear hS hd
 go_enter Try.func121, Try.ntmps121
 go_wp2_with (go_at_call 174; refine (lay_any base X M s s.l sv ⟨9, w0, a, b, c, k, n⟩ _ HSX.out.sw HD.out.len).mono ?_; rintro e w2 ⟨rfl, sv2, h2, k2⟩; have H2 : Hid _ := h2; have K2 : Hid _ := k2; clear h2 k2)
 go_ret
 exact ⟨rfl, _, H2.out.other ⟨9, w0, a, b, c, k, n⟩ rfl, HSX.out.kz.trans K2.out⟩
theorem do_10 (base X M : Nat) (s : SE) (sv : Value) (w0 a b c k n : Nat) (w : World) (hS : SW w base X M s s.l sv) (hd : DoOk s ⟨10, w0, a, b, c, k, n⟩) :
  Calls Try.prog 121 #[.pointer (some ⟨X, 0, none⟩), .agg #[.int .i64 10, .int .i64 w0, .int .i64 a, .int .i64 b, .int .i64 c, .int .u32 k, .int .i64 n]] w fun e w' => e = .returned (.int .i64 (oI (doS s ⟨10, w0, a, b, c, k, n⟩).2)) ∧ ∃ sv', SW w' base X M (doS s ⟨10, w0, a, b, c, k, n⟩).1 (doS s ⟨10, w0, a, b, c, k, n⟩).1.l sv' ∧ Kz base X M sv w sv' w' := by
 have HSX : Hid (SX w _ base X M s s.l sv sv _) := SX.start hS ⟨10, w0, a, b, c, k, n⟩
 have HS : Hid _ := hS
 have HD : Hid _ := hd
 rw [show doS s ⟨10, w0, a, b, c, k, n⟩ = ({ s with l := s.l ++ [⟨10, w0, a, b, c, k, n⟩] }, some s.l.length) from rfl]
 clear hS hd
 go_enter Try.func121, Try.ntmps121
 go_wp2_with (go_at_call 174; refine (lay_any base X M s s.l sv ⟨10, w0, a, b, c, k, n⟩ _ HSX.out.sw HD.out.len).mono ?_; rintro e w2 ⟨rfl, sv2, h2, k2⟩; have H2 : Hid _ := h2; have K2 : Hid _ := k2; clear h2 k2)
 go_ret
 exact ⟨rfl, _, H2.out.other ⟨10, w0, a, b, c, k, n⟩ rfl, HSX.out.kz.trans K2.out⟩
theorem do_11 (base X M : Nat) (s : SE) (sv : Value) (w0 a b c k n : Nat) (w : World) (hS : SW w base X M s s.l sv) (hd : DoOk s ⟨11, w0, a, b, c, k, n⟩) :
  Calls Try.prog 121 #[.pointer (some ⟨X, 0, none⟩), .agg #[.int .i64 11, .int .i64 w0, .int .i64 a, .int .i64 b, .int .i64 c, .int .u32 k, .int .i64 n]] w fun e w' => e = .returned (.int .i64 (oI (doS s ⟨11, w0, a, b, c, k, n⟩).2)) ∧ ∃ sv', SW w' base X M (doS s ⟨11, w0, a, b, c, k, n⟩).1 (doS s ⟨11, w0, a, b, c, k, n⟩).1.l sv' ∧ Kz base X M sv w sv' w' := by
 have HSX : Hid (SX w _ base X M s s.l sv sv _) := SX.start hS ⟨11, w0, a, b, c, k, n⟩
 have HS : Hid _ := hS
 have HD : Hid _ := hd
 rw [show doS s ⟨11, w0, a, b, c, k, n⟩ = ({ s with l := s.l ++ [⟨11, w0, a, b, c, k, n⟩] }, some s.l.length) from rfl]
 clear hS hd
 go_enter Try.func121, Try.ntmps121
 go_wp2_with (go_at_call 174; refine (lay_any base X M s s.l sv ⟨11, w0, a, b, c, k, n⟩ _ HSX.out.sw HD.out.len).mono ?_; rintro e w2 ⟨rfl, sv2, h2, k2⟩; have H2 : Hid _ := h2; have K2 : Hid _ := k2; clear h2 k2)
 go_ret
 exact ⟨rfl, _, H2.out.other ⟨11, w0, a, b, c, k, n⟩ rfl, HSX.out.kz.trans K2.out⟩
theorem do_14 (base X M : Nat) (s : SE) (sv : Value) (w0 a b c k n : Nat) (w : World) (hS : SW w base X M s s.l sv) (hd : DoOk s ⟨14, w0, a, b, c, k, n⟩) :
  Calls Try.prog 121 #[.pointer (some ⟨X, 0, none⟩), .agg #[.int .i64 14, .int .i64 w0, .int .i64 a, .int .i64 b, .int .i64 c, .int .u32 k, .int .i64 n]] w fun e w' => e = .returned (.int .i64 (oI (doS s ⟨14, w0, a, b, c, k, n⟩).2)) ∧ ∃ sv', SW w' base X M (doS s ⟨14, w0, a, b, c, k, n⟩).1 (doS s ⟨14, w0, a, b, c, k, n⟩).1.l sv' ∧ Kz base X M sv w sv' w' := by
 have HSX : Hid (SX w _ base X M s s.l sv sv _) := SX.start hS ⟨14, w0, a, b, c, k, n⟩
 have HS : Hid _ := hS
 have HD : Hid _ := hd
 rw [show doS s ⟨14, w0, a, b, c, k, n⟩ = ({ s with l := s.l ++ [⟨14, w0, a, b, c, k, n⟩] }, some s.l.length) from rfl]
 clear hS hd
 go_enter Try.func121, Try.ntmps121
 go_wp2_with (go_at_call 174; refine (lay_any base X M s s.l sv ⟨14, w0, a, b, c, k, n⟩ _ HSX.out.sw HD.out.len).mono ?_; rintro e w2 ⟨rfl, sv2, h2, k2⟩; have H2 : Hid _ := h2; have K2 : Hid _ := k2; clear h2 k2)
 go_ret
 exact ⟨rfl, _, H2.out.other ⟨14, w0, a, b, c, k, n⟩ rfl, HSX.out.kz.trans K2.out⟩
theorem do_15 (base X M : Nat) (s : SE) (sv : Value) (w0 a b c k n : Nat) (w : World) (hS : SW w base X M s s.l sv) (hd : DoOk s ⟨15, w0, a, b, c, k, n⟩) :
  Calls Try.prog 121 #[.pointer (some ⟨X, 0, none⟩), .agg #[.int .i64 15, .int .i64 w0, .int .i64 a, .int .i64 b, .int .i64 c, .int .u32 k, .int .i64 n]] w fun e w' => e = .returned (.int .i64 (oI (doS s ⟨15, w0, a, b, c, k, n⟩).2)) ∧ ∃ sv', SW w' base X M (doS s ⟨15, w0, a, b, c, k, n⟩).1 (doS s ⟨15, w0, a, b, c, k, n⟩).1.l sv' ∧ Kz base X M sv w sv' w' := by
 have HSX : Hid (SX w _ base X M s s.l sv sv _) := SX.start hS ⟨15, w0, a, b, c, k, n⟩
 have HS : Hid _ := hS
 have HD : Hid _ := hd
 rw [show doS s ⟨15, w0, a, b, c, k, n⟩ = ({ s with l := s.l ++ [⟨15, w0, a, b, c, k, n⟩] }, some s.l.length) from rfl]
 clear hS hd
 go_enter Try.func121, Try.ntmps121
 go_wp2_with (go_at_call 174; refine (lay_any base X M s s.l sv ⟨15, w0, a, b, c, k, n⟩ _ HSX.out.sw HD.out.len).mono ?_; rintro e w2 ⟨rfl, sv2, h2, k2⟩; have H2 : Hid _ := h2; have K2 : Hid _ := k2; clear h2 k2)
 go_ret
 exact ⟨rfl, _, H2.out.other ⟨15, w0, a, b, c, k, n⟩ rfl, HSX.out.kz.trans K2.out⟩
theorem do_16 (base X M : Nat) (s : SE) (sv : Value) (w0 a b c k n : Nat) (w : World) (hS : SW w base X M s s.l sv) (hd : DoOk s ⟨16, w0, a, b, c, k, n⟩) :
  Calls Try.prog 121 #[.pointer (some ⟨X, 0, none⟩), .agg #[.int .i64 16, .int .i64 w0, .int .i64 a, .int .i64 b, .int .i64 c, .int .u32 k, .int .i64 n]] w fun e w' => e = .returned (.int .i64 (oI (doS s ⟨16, w0, a, b, c, k, n⟩).2)) ∧ ∃ sv', SW w' base X M (doS s ⟨16, w0, a, b, c, k, n⟩).1 (doS s ⟨16, w0, a, b, c, k, n⟩).1.l sv' ∧ Kz base X M sv w sv' w' := by
 have HSX : Hid (SX w _ base X M s s.l sv sv _) := SX.start hS ⟨16, w0, a, b, c, k, n⟩
 have HS : Hid _ := hS
 have HD : Hid _ := hd
 rw [show doS s ⟨16, w0, a, b, c, k, n⟩ = ({ s with l := s.l ++ [⟨16, w0, a, b, c, k, n⟩] }, some s.l.length) from rfl]
 clear hS hd
 go_enter Try.func121, Try.ntmps121
 go_wp2_with (go_at_call 174; refine (lay_any base X M s s.l sv ⟨16, w0, a, b, c, k, n⟩ _ HSX.out.sw HD.out.len).mono ?_; rintro e w2 ⟨rfl, sv2, h2, k2⟩; have H2 : Hid _ := h2; have K2 : Hid _ := k2; clear h2 k2)
 go_ret
 exact ⟨rfl, _, H2.out.other ⟨16, w0, a, b, c, k, n⟩ rfl, HSX.out.kz.trans K2.out⟩
theorem do_any (base X M : Nat) (s : SE) (sv : Value) (o : ON) (w : World) (hS : SW w base X M s s.l sv) (hd : DoOk s o) :
  Calls Try.prog 121 #[.pointer (some ⟨X, 0, none⟩), .agg #[.int .i64 o.kd, .int .i64 o.w, .int .i64 o.a, .int .i64 o.b, .int .i64 o.c, .int .u32 o.k, .int .i64 o.n]] w fun e w' => e = .returned (.int .i64 (oI (doS s o).2)) ∧ ∃ sv', SW w' base X M (doS s o).1 (doS s o).1.l sv' ∧ Kz base X M sv w sv' w' := by
 have h1 := hd.k1
 have h2 := hd.k2
 obtain ⟨kd, w0, a, b, c, k, n⟩ := o
 simp only at h1 h2
 rcases (by omega : kd = 1 ∨ kd = 2 ∨ kd = 3 ∨ kd = 4 ∨ kd = 5 ∨ kd = 6 ∨ kd = 7 ∨ kd = 8 ∨ kd = 9 ∨ kd = 10 ∨ kd = 11 ∨ kd = 12 ∨ kd = 13 ∨ kd = 14 ∨ kd = 15 ∨ kd = 16 ∨ kd = 17) with rfl | rfl | rfl | rfl | rfl | rfl | rfl | rfl | rfl | rfl | rfl | rfl | rfl | rfl | rfl | rfl | rfl
 ·exact do_1 base X M s sv w0 a b c k n w hS hd
 ·exact do_2 base X M s sv w0 a b c k n w hS hd
 ·exact do_3 base X M s sv w0 a b c k n w hS hd
 ·exact do_4 base X M s sv w0 a b c k n w hS hd
 ·exact do_5 base X M s sv w0 a b c k n w hS hd
 ·exact do_6 base X M s sv w0 a b c k n w hS hd
 ·exact do_7 base X M s sv w0 a b c k n w hS hd
 ·exact do_8 base X M s sv w0 a b c k n w hS hd
 ·exact do_9 base X M s sv w0 a b c k n w hS hd
 ·exact do_10 base X M s sv w0 a b c k n w hS hd
 ·exact do_11 base X M s sv w0 a b c k n w hS hd
 ·exact do_12 base X M s sv w0 a b c k n w hS hd
 ·exact do_13 base X M s sv w0 a b c k n w hS hd
 ·exact do_14 base X M s sv w0 a b c k n w hS hd
 ·exact do_15 base X M s sv w0 a b c k n w hS hd
 ·exact do_16 base X M s sv w0 a b c k n w hS hd
 ·exact do_17 base X M s sv w0 a b c k n w hS hd
end Go.Proofs.Ytkgbjpdoigdjnab
