import Derived.Test.YtkgbjpdoigdjnaaPD
import Derived.Deep.LoopGhost
set_option linter.unusedVariables false
set_option linter.unusedSimpArgs false
set_option maxHeartbeats 8000000
namespace Go.Proofs.Ytkgbjpdoigdjnaa
open Go.RowKit
set_option maxRecDepth 100000
theorem check_any (pc : Nat) (count bytes : Int) (bp : Option Addr) (n cap : Nat) (f : Nat → OpR) (w : World) (hO : OpsR w bp n f) (hcap : n ≤ cap) (hn : n < 9223372036854775807) :
  Calls Try.prog 41 #[.agg #[.int .u32 pc, .int .i64 count, .int .i64 bytes, .slice bp n cap]] w fun e w' => e = .returned (.tuple #[.int .i64 (checkF count bytes n f).1, .int .i64 (checkF count bytes n f).2]) ∧ Below w.heap.size w w' := by
 have HO : Hid (OpsR w bp n f) := hO
 have n0 : (0 : Int) ≤ (n : Int) := by omega
 have nb : (n : Int) ≤ 9223372036854775807 := by omega
 have HW : Hid (CW w (w.alloc (.cells #[.int .u32 pc, .int .i64 count, .int .i64 bytes, .slice bp n cap] 82)) pc count bytes bp n cap) := ⟨heap_alloc_last w _, pk_wk_bel1 w _⟩
 have HCAP : Hid _ := hcap
 clear hO hcap
 by_cases hL : 2048 < n
 ·have d : decide (2048 < (n : Int)) = true := decide_eq_true (by omega)
  have HE : Hid (checkF count bytes n f = (5, -1)) := by show _ = _; unfold checkF; rw [if_pos hL]
  clear hL
  go_enter Try.func41, Try.ntmps41
  go_wp2
  go_ret2
  exact ⟨by rw [HE.out]; rfl, HW.out.bel⟩
 have d : decide (2048 < (n : Int)) = false := decide_eq_false (by omega)
 by_cases hC : 0 ≤ count ∧ count ≤ 64
 rotate_left
 ·have HD : Hid (decide (0 ≤ count ∧ count ≤ 64) = false) := decide_eq_false hC
  have HE : Hid (checkF count bytes n f = (4, -1)) := by show _ = _; unfold checkF; rw [if_neg hL, if_neg (fun h => hC h.1)]
  clear hL hC
  go_enter Try.func41, Try.ntmps41
  go_wp2_with (go_at_call 99; refine (within_any count 64 _).mono ?_; rintro e w1 ⟨rfl, rfl⟩; rw [HD.out])
  go_ret2
  exact ⟨by rw [HE.out]; rfl, HW.out.bel⟩
 have HD : Hid (decide (0 ≤ count ∧ count ≤ 64) = true) := decide_eq_true hC
 by_cases hB : 0 ≤ bytes ∧ bytes ≤ 384
 rotate_left
 ·have HD2 : Hid (decide (0 ≤ bytes ∧ bytes ≤ 384) = false) := decide_eq_false hB
  have HE : Hid (checkF count bytes n f = (4, -1)) := by show _ = _; unfold checkF; rw [if_neg hL, if_neg (fun h => hB h.2)]
  clear hL hC hB
  go_enter Try.func41, Try.ntmps41
  go_wp2_with (first
   | (go_at_call 99; have HZ1 := HQ1; refine (within_any bytes 384 _).mono ?_; rintro e w1 ⟨rfl, rfl⟩; rw [HD2.out])
   | (go_at_call 99; refine (within_any count 64 _).mono ?_; rintro e w1 ⟨rfl, rfl⟩; rw [HD.out]; have HQ1 : Hid True := trivial))
  go_ret2
  exact ⟨by rw [HE.out]; rfl, HW.out.bel⟩
 have HD2 : Hid (decide (0 ≤ bytes ∧ bytes ≤ 384) = true) := decide_eq_true hB
 obtain ⟨E, HE⟩ : ∃ E, Hid (checkF count bytes n f = E) := ⟨_, rfl⟩
 have HS : Hid (scan count n f n 0 = E) := by show _ = _; rw [← HE.out]; unfold checkF; rw [if_neg hL, if_pos ⟨hC, hB⟩]
 have HL : Hid (n ≤ 2048) := show n ≤ 2048 by omega
 have n1 : (n : Int) ≤ 2048 := by omega
 clear hL hC hB
 rw [HE.out]
 go_enter Try.func41, Try.ntmps41
 go_wp2_with (first
  | (go_at_call 99; have HZ1 := HQ1; refine (within_any bytes 384 _).mono ?_; rintro e w1 ⟨rfl, rfl⟩; rw [HD2.out])
  | (go_at_call 99; refine (within_any count 64 _).mono ?_; rintro e w1 ⟨rfl, rfl⟩; rw [HD.out]; have HQ1 : Hid True := trivial))
 go_loopw [24] (fun i' wr => ∃ j : Nat, i' = .int .i64 j ∧ j ≤ n ∧ scan count n f (n - j) j = E ∧ CW w wr pc count bytes bp n cap) (fun i _ => n - (intOf i).toNat)
 case atStart => exact ⟨0, rfl, by omega, HS.out, HW.out⟩
 case round =>
  obtain ⟨j, rfl, hj, hsc, hW⟩ := hrel
  have HSC : Hid _ := hsc
  have HWr : Hid _ := hW
  have l1 := row_lt hW.b1
  have m0 : wr.cell? ⟨w.heap.size, 0, none⟩ = some (.int .u32 pc) := row_cell hW.b1 0
  have m1 : wr.cell? ⟨w.heap.size, 1, none⟩ = some (.int .i64 count) := row_cell hW.b1 1
  have m2 : wr.cell? ⟨w.heap.size, 2, none⟩ = some (.int .i64 bytes) := row_cell hW.b1 2
  have m3 : wr.cell? ⟨w.heap.size, 3, none⟩ = some (.slice bp n cap) := row_cell hW.b1 3
  clear hsc hW HW
  by_cases hlt : j < n
  ·have hji : (j : Int) < (n : Int) := by omega
   have dj : decide ((j : Int) < (n : Int)) = true := decide_eq_true hji
   have j0 : (0 : Int) ≤ (j : Int) := by omega
   have hstep : n - j = (n - (j + 1)) + 1 := by omega
   have HLT : Hid _ := hlt
   obtain ⟨q, HQ⟩ : ∃ q, Hid (opErr count n f j = q) := ⟨_, rfl⟩
   have HST : Hid (scan count n f ((n - (j + 1)) + 1) j = E) := hstep ▸ HSC.out
   clear hstep hlt
   by_cases hq : q = 0
   ·subst hq
    have HN : Hid (scan count n f (n - (j + 1)) (j + 1) = E) := by
     show _ = _
     have := HST.out
     simp only [scan, HQ.out, if_true] at this
     exact this
    go_wp2_with (go_at_call 100; refine (checkOp_any pc count bytes bp n cap j f _ (HO.out.below HWr.out.bel (Nat.le_refl _)) HLT.out HL.out HCAP.out).mono ?_; rintro e w2 ⟨rfl, h2⟩; rw [HQ.out])
    go_round
    case rel => exact ⟨j + 1, by go_num, HLT.out, HN.out, HWr.out.next h2⟩
    case measure => have := HLT.out; simp [intOf]; omega
   ·have dq : (q != 0) = true := by simpa using hq
    have HN : Hid (E = (q, (j : Int))) := by
     show _ = _
     have := HST.out
     simp only [scan, HQ.out, if_neg hq] at this
     exact this.symm
    clear hq
    go_wp2_with (go_at_call 100; refine (checkOp_any pc count bytes bp n cap j f _ (HO.out.below HWr.out.bel (Nat.le_refl _)) HLT.out HL.out HCAP.out).mono ?_; rintro e w2 ⟨rfl, h2⟩; rw [HQ.out])
    go_ret2
    exact ⟨by rw [HN.out]; rfl, (HWr.out.next h2).bel⟩
  ·obtain rfl : j = n := by omega
   have dj : decide ((j : Int) < (j : Int)) = false := decide_eq_false (by omega)
   have HST : Hid (endR j f = E) := by
    show _ = _
    have := HSC.out
    rw [Nat.sub_self] at this
    exact this
   clear hlt hj HSC
   by_cases hz : j = 0
   ·subst hz
    have HN : Hid (E = (7, 0)) := by show _ = _; rw [← HST.out]; rfl
    go_wp2
    go_ret2
    exact ⟨by rw [HN.out]; rfl, HWr.out.bel⟩
   ·obtain ⟨p, HP⟩ : ∃ p, Hid (j = p + 1) := ⟨j - 1, show j = j - 1 + 1 by omega⟩
    have hp := HP.out
    obtain ⟨b, off, rfl, hb, hc⟩ := HO.out (by omega)
    have hk : wr.cell? ⟨b, off + p * 7, none⟩ = some (.int .i64 (f p).kind) := ((hc p (by omega)).below HWr.out.bel hb).c0
    obtain ⟨R, HR⟩ : ∃ R, Hid (ru (f p).kind = R) := ⟨_, rfl⟩
    have dz : ((j : Int) == 0) = false := by simp; omega
    have hsub : (j : Int) - 1 = (p : Int) := by omega
    have p0 : (0 : Int) ≤ (p : Int) := by omega
    have p1 : (p : Int) < (j : Int) := by omega
    have HF := ru_ends R
    obtain ⟨en, HEN⟩ : ∃ en, Hid (R.ends = en) := ⟨_, rfl⟩
    have HN : Hid (E = if en then (0, 0) else (7, (j : Int))) := by
     show _ = _
     rw [← HST.out]
     unfold endR
     rw [show j - 1 = p by omega, ← (ru_rr (f p).kind).2.2.2, HR.out, HEN.out]
     cases en <;> simp [hz]
    have lb : b < wr.heap.size := by have := HWr.out.bel.size; omega
    clear hc HO hp hz
    rw [HEN.out] at HF
    cases en with
    | true =>
     go_wp2_with (go_at_call 101; refine (ruleOf_me (f p).kind R _ HR.out).mono ?_; rintro e w3 ⟨rfl, h3⟩; rw [HEN.out])
     go_ret2
     exact ⟨by rw [HN.out]; rfl, (HWr.out.next h3).bel⟩
    | false =>
     go_wp2_with (go_at_call 101; refine (ruleOf_me (f p).kind R _ HR.out).mono ?_; rintro e w3 ⟨rfl, h3⟩; rw [HEN.out])
     go_ret2
     exact ⟨by rw [HN.out]; rfl, (HWr.out.next h3).bel⟩

end Go.Proofs.Ytkgbjpdoigdjnaa
