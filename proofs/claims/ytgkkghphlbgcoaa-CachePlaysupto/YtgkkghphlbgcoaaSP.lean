import Derived.Test.YtgkkghphlbgcoaaSK
namespace Go.Proofs.Ytgkkghphlbgcoaa.So
open Go.RowKit
set_option maxRecDepth 100000
set_option linter.unusedVariables false
set_option linter.unusedSimpArgs false
theorem swo : Sort.SWO lt := ⟨fun x => by simp [lt], fun x y z h k => by simp [lt] at *; omega, fun x y z h k => by simp [lt] at *; omega⟩
theorem pdq_ins {d : Array Nat} {a b lim : Nat} {wb wp : Bool} (h : b - a ≤ 12) : Sort.pdq lt d a b lim wb wp = Sort.insertionSort lt d a b := by rw [Sort.pdq, if_pos h]
theorem pdq_heap {d : Array Nat} {a b : Nat} {wb wp : Bool} (h : ¬ b - a ≤ 12) : Sort.pdq lt d a b 0 wb wp = Sort.heapSort lt d a b := by rw [Sort.pdq, if_neg h, if_pos rfl]
theorem pdq_go {d dA dB dC : Array Nat} {a b lim lim1 pv pv2 : Nat} {wb wp fin : Bool} {hi hi2 : Sort.Hint} (h12 : ¬ b - a ≤ 12) (hl : ¬ lim = 0)
    (hA : (if !wb then Sort.breakPatterns d a b else d) = dA) (hL : (if !wb then lim - 1 else lim) = lim1) (hc : Sort.choosePivot lt dA a b = (pv, hi))
    (hB : (if hi = .decreasing then Sort.reverseRange dA a b else dA) = dB) (hp : (if hi = .decreasing then (b - 1) - (pv - a) else pv) = pv2) (hh : (if hi = .decreasing then Sort.Hint.increasing else hi) = hi2)
    (hpi : (if wb && wp && hi2 = .increasing then Sort.partialInsertionSort lt dB a b else (dB, false)) = (dC, fin)) :
    Sort.pdq lt d a b lim wb wp = if fin then dC else if a > 0 && !lt dC[a - 1]! dC[pv2]! then
      (if a < (Sort.partitionEqual lt dC a b pv2).1 ∧ (Sort.partitionEqual lt dC a b pv2).1 ≤ b then Sort.pdq lt (Sort.partitionEqual lt dC a b pv2).2 (Sort.partitionEqual lt dC a b pv2).1 b lim1 wb wp else (Sort.partitionEqual lt dC a b pv2).2)
      else (if a ≤ (Sort.partition lt dC a b pv2).1 ∧ (Sort.partition lt dC a b pv2).1 < b then
        (if (Sort.partition lt dC a b pv2).1 - a < b - (Sort.partition lt dC a b pv2).1 then
          Sort.pdq lt (Sort.pdq lt (Sort.partition lt dC a b pv2).2.2 a (Sort.partition lt dC a b pv2).1 lim1 true true) ((Sort.partition lt dC a b pv2).1 + 1) b lim1 (decide ((Sort.partition lt dC a b pv2).1 - a ≥ (b - a) / 8)) (Sort.partition lt dC a b pv2).2.1
        else
          Sort.pdq lt (Sort.pdq lt (Sort.partition lt dC a b pv2).2.2 ((Sort.partition lt dC a b pv2).1 + 1) b lim1 true true) a (Sort.partition lt dC a b pv2).1 lim1 (decide (b - (Sort.partition lt dC a b pv2).1 ≥ (b - a) / 8)) (Sort.partition lt dC a b pv2).2.1)
        else (Sort.partition lt dC a b pv2).2.2) := by
  conv => lhs; rw [Sort.pdq]
  rw [if_neg h12, if_neg hl]
  simp only [hA, hL, hc, hB, hp, hh, hpi]
  rfl
end Go.Proofs.Ytgkkghphlbgcoaa.So
namespace Go.Proofs.Ytgkkghphlbgcoaa.So
open Go.RowKit
set_option maxRecDepth 100000
set_option linter.unusedVariables false
set_option linter.unusedSimpArgs false
set_option maxHeartbeats 8000000 in
theorem pdq_any (B n cap : Nat) (w0 : World) (hn : n ≤ 140737488355328) (N : Nat) : ∀ (a b lim : Nat) (d : Array Nat) (w : World), b - a = N → a ≤ b → b ≤ n → lim ≤ 64 → SW w0 w B d n →
    Calls Try.prog 68 #[.slice (some ⟨B, 0, none⟩) n cap, .int .i64 a, .int .i64 b, .int .i64 lim] w fun e w' => e = .returned (.tuple #[]) ∧ SW w0 w' B (Sort.pdq lt d a b lim true true) n := by
  induction N using Nat.strongRecOn with
  | ind N ih =>
  have IH : Hid _ := ih
  clear ih
  intro a0 b0 lim0 d0 w hN hab0 hb0 hlim0 hR
  obtain ⟨R, hRR⟩ : ∃ R, Sort.pdq lt d0 a0 b0 lim0 true true = R := ⟨_, rfl⟩
  rw [hRR]
  have HRR : Hid _ := hRR
  have HR : Hid _ := hR
  have HN : Hid _ := hN
  clear hR hRR hN
  go_enter Try.func68, Try.ntmps68
  go_wp2
  go_loopw [1, 2, 3, 8, 9] (fun u1 u2 u3 u8 u9 wr => ∃ (a b lim : Nat) (wb wp : Bool) (d' : Array Nat), u1 = .int .i64 a ∧ u2 = .int .i64 b ∧ u3 = .int .i64 lim ∧ u8 = .bool wb ∧ u9 = .bool wp ∧ a ≤ b ∧ b ≤ n ∧ lim ≤ 64 ∧ b - a ≤ N ∧ SW w0 wr B d' n ∧ Sort.pdq lt d' a b lim wb wp = R) (fun u1 u2 _ _ _ _ => (intOf u2 - intOf u1).toNat)
  case atStart => exact ⟨a0, b0, lim0, true, true, d0, rfl, rfl, rfl, rfl, rfl, hab0, hb0, hlim0, by have := HN.out; omega, HR.out, HRR.out⟩
  case round =>
    clear HR HRR hab0 hb0 hlim0 HN
    obtain ⟨a, b, lim, wb, wp, d1, rfl, rfl, rfl, rfl, rfl, hab, hb, hlim, hN, hS, hE⟩ := hrel
    have HS : Hid _ := hS
    have HE : Hid _ := hE
    have HNN : Hid _ := hN
    clear hS hE hN
    obtain ⟨l, hl⟩ : ∃ l, b - a = l := ⟨_, rfl⟩
    have t1 : IntKind.i64.wrap ((b : Int) - (a : Int)) = (l : Int) := wr_sub (by omega) (by omega)
    have HL : Hid _ := hl
    clear hl
    by_cases h12 : l ≤ 12
    · have g12 : decide ((l : Int) ≤ 12) = true := decide_eq_true (by omega)
      have g12' : (l : Int) ≤ 12 := by omega
      go_wp2_with (go_at_call 75; fail)
      refine Calls.mono (ins_any B n cap a b d1 w0 _ HS.out hb hn hab) ?_
      rintro e w1 ⟨rfl, hW⟩
      have HW : Hid _ := hW
      clear hW
      dsimp only
      go_wp2
      (try simp only [Exit.inBlock, Exit.then]); refine bodyPost_ret (results_none rfl _ _ _) rfl ?_
      exact ⟨rfl, by rw [← HE.out, pdq_ins (by rw [HL.out]; exact h12)]; exact HW.out⟩
    have g12 : decide ((l : Int) ≤ 12) = false := decide_eq_false (by omega)
    have g12' : ¬ (l : Int) ≤ 12 := by omega
    have hab' : a < b := by have := HL.out; omega
    by_cases hl0 : lim = 0
    · subst hl0
      go_wp2_with (go_at_call 76; fail)
      refine Calls.mono (heap_any B n cap a b d1 w0 _ HS.out hab' hb hn) ?_
      rintro e w1 ⟨rfl, hW⟩
      have HW : Hid _ := hW
      clear hW
      dsimp only
      go_wp2
      (try simp only [Exit.inBlock, Exit.then]); refine bodyPost_ret (results_none rfl _ _ _) rfl ?_
      exact ⟨rfl, by rw [← HE.out, pdq_heap (by rw [HL.out]; exact h12)]; exact HW.out⟩
    have gl : ¬ (lim : Int) = 0 := by omega
    have gl' : ((lim : Int) == 0) = false := by simpa using gl
    obtain ⟨dA, hA⟩ : ∃ dA, (if !wb then Sort.breakPatterns d1 a b else d1) = dA := ⟨_, rfl⟩
    obtain ⟨lim1, hlim1⟩ : ∃ lim1, (if !wb then lim - 1 else lim) = lim1 := ⟨_, rfl⟩
    have hlim1' : lim1 ≤ 64 := by rw [← hlim1]; split <;> omega
    have HA : Hid _ := And.intro hA hlim1
    clear hA hlim1
    go_upto_if 35 with fail
    go_cut [3] from 34 to 41 (fun v wx => v = .int .i64 lim1 ∧ SW w0 wx B dA n)
    case first =>
      cases wb with
      | true =>
        go_wp2
        go_meet
        case rel => exact ⟨by rw [← HA.out.2]; rfl, by rw [← HA.out.1]; exact HS.out⟩
      | false =>
        have t2 : IntKind.i64.wrap ((lim : Int) - 1) = (lim1 : Int) := by rw [IntWalk.i64_in _ (by omega), ← HA.out.2]; simp; omega
        go_wp2_with (go_at_call 77; fail)
        refine Calls.mono (bp_any B n cap a b d1 w0 _ HS.out (by rw [HL.out]; omega) hb hn) ?_
        rintro e w1 ⟨rfl, hW⟩
        have HW : Hid _ := hW
        clear hW
        dsimp only
        go_wp2
        go_meet
        case rel => exact ⟨rfl, by rw [← HA.out.1]; exact HW.out⟩
    case rest =>
    obtain ⟨rfl, hV⟩ := hcut
    have HV : Hid _ := hV
    clear hV HS
    obtain ⟨⟨pv, hi⟩, hc⟩ : ∃ c, Sort.choosePivot lt dA a b = c := ⟨_, rfl⟩
    have hcp := cp_any B n cap a b dA w0
    have hpr := Sort.choosePivot_holds lt dA a b hab'
    rw [hc] at hcp hpr
    dsimp only at hcp hpr
    have HC : Hid _ := hc
    have HCP : Hid _ := hcp
    have HPR : Hid _ := hpr
    clear hc hcp hpr
    go_wp2_with (go_at_call 78; fail)
    refine Calls.mono (HCP.out _ HV.out (by rw [HL.out]; omega) hb hn) ?_
    rintro e w1 ⟨rfl, hW⟩
    have HW : Hid _ := hW
    clear hW HV
    dsimp only
    obtain ⟨dB, hB⟩ : ∃ dB, (if hi = .decreasing then Sort.reverseRange dA a b else dA) = dB := ⟨_, rfl⟩
    obtain ⟨pv2, hp⟩ : ∃ pv2, (if hi = .decreasing then (b - 1) - (pv - a) else pv) = pv2 := ⟨_, rfl⟩
    obtain ⟨hi2, hh⟩ : ∃ hi2, (if hi = .decreasing then Sort.Hint.increasing else hi) = hi2 := ⟨_, rfl⟩
    have hp2 : a ≤ pv2 ∧ pv2 < b := by have := HPR.out; rw [← hp]; split <;> omega
    have HB : Hid _ := And.intro hB (And.intro hp (And.intro hh hp2))
    clear hB hp hh hp2
    go_upto_if 50 with fail
    go_cut [11, 12] from 49 to 60 (fun u v wx => u = .int .i64 pv2 ∧ v = .int .i64 (hintN hi2) ∧ SW w0 wx B dB n)
    case first =>
      cases hi with
      | unknown =>
        dsimp only [hintN]
        go_wp2
        go_meet
        case rel => exact ⟨by rw [← HB.out.2.1]; rfl, by rw [← HB.out.2.2.1]; rfl, by rw [← HB.out.1]; exact HW.out⟩
      | increasing =>
        dsimp only [hintN]
        go_wp2
        go_meet
        case rel => exact ⟨by rw [← HB.out.2.1]; rfl, by rw [← HB.out.2.2.1]; rfl, by rw [← HB.out.1]; exact HW.out⟩
      | decreasing =>
        dsimp only [hintN]
        obtain ⟨b1, hb1⟩ : ∃ b1, b = b1 + 1 := ⟨b - 1, by omega⟩
        obtain ⟨pa, hpa⟩ : ∃ pa, pv - a = pa := ⟨_, rfl⟩
        have t3 : IntKind.i64.wrap ((b : Int) - 1) = (b1 : Int) := wr_dec hb1 (by omega)
        have t4 : IntKind.i64.wrap ((pv : Int) - (a : Int)) = (pa : Int) := wr_sub (by have := HPR.out; omega) (by have := HPR.out; omega)
        have t5 : IntKind.i64.wrap ((b1 : Int) - (pa : Int)) = (pv2 : Int) := wr_sub (by have := HPR.out; have := HB.out.2.1; rw [if_pos rfl] at this; omega) (by omega)
        clear hb1 hpa
        go_wp2_with (go_at_call 79; fail)
        refine Calls.mono (rev_any B n cap a b dA w0 _ HW.out hab' hb hn) ?_
        rintro e w2 ⟨rfl, hW⟩
        have HW2 : Hid _ := hW
        clear hW
        dsimp only
        go_wp2
        go_meet
        case rel => exact ⟨rfl, by rw [← HB.out.2.2.1]; rfl, by rw [← HB.out.1]; exact HW2.out⟩
    case rest =>
    obtain ⟨rfl, rfl, hV⟩ := hcut
    have HV : Hid _ := hV
    clear hV HW
    obtain ⟨⟨dC, fin⟩, hpi⟩ : ∃ c, (if wb && wp && hi2 = .increasing then Sort.partialInsertionSort lt dB a b else (dB, false)) = c := ⟨_, rfl⟩
    have HPI : Hid _ := hpi
    clear hpi
    have HGO : Hid _ := pdq_go (d := d1) (wb := wb) (wp := wp) (show ¬ b - a ≤ 12 by rw [HL.out]; exact h12) hl0 HA.out.1 HA.out.2 HC.out HB.out.1 HB.out.2.1 HB.out.2.2.1 HPI.out
    obtain ⟨q, hq⟩ : ∃ q, (wb && wp && decide (hi2 = .increasing)) = q := ⟨_, rfl⟩
    have HQ : Hid _ := hq
    clear hq
    go_upto_region 15 with fail
    refine wp_gen (fun w' => SW w0 w' B dB n) (by (focus (repeat first | with_reducible exact HV.out | with_reducible refine SW.drw ?_ | with_reducible refine SW.drwN ?_ _))) ?_
    intro U hU
    have HU : Hid _ := hU
    clear hU HV
    go_cut [68] from 61 to 68 (fun v wx => v = .bool q ∧ SW w0 wx B dB n)
    case first =>
      clear HGO HPI HB HA HE
      cases wb <;> cases wp <;> cases hi2 <;> dsimp only [hintN] <;> go_wp2 <;> (go_meet; case rel => exact ⟨by rw [← HQ.out]; rfl, by (focus (repeat first | with_reducible exact HU.out | with_reducible refine SW.drw ?_ | with_reducible refine SW.drwN ?_ _))⟩)
    case rest =>
    obtain ⟨rfl, hV⟩ := hcut
    have HV : Hid _ := hV
    clear hV HU
    go_upto_if 68 with fail
    go_cut [] from 69 to 72 (fun wx => fin = false ∧ SW w0 wx B dC n)
    case first =>
      cases q with
      | false =>
        have h := HPI.out
        rw [if_neg (by rw [HQ.out]; simp)] at h
        have h1 : dB = dC := congrArg Prod.fst h
        have h2 : false = fin := congrArg Prod.snd h
        have HH : Hid _ := And.intro h1 h2
        clear h h1 h2
        go_wp2
        go_meet
        case rel => exact ⟨HH.out.2.symm, by rw [← HH.out.1]; exact by (focus (repeat first | with_reducible exact HV.out | with_reducible refine SW.drw ?_ | with_reducible refine SW.drwN ?_ _))⟩
      | true =>
        have h := HPI.out
        rw [if_pos HQ.out] at h
        have hpa := pi_any B n cap a b dB w0
        rw [h] at hpa
        dsimp only at hpa
        have HPA : Hid _ := hpa
        clear h hpa
        go_wp2_with (go_at_call 80; fail)
        refine Calls.mono (HPA.out _ HV.out hab' hb hn) ?_
        rintro e w2 ⟨rfl, hW⟩
        have HW2 : Hid _ := hW
        clear hW
        dsimp only
        cases fin with
        | true =>
          have HG1 : Hid _ := HGO.out.trans (if_pos rfl)
          clear HGO
          go_wp2
          (try simp only [Exit.inBlock, Exit.then]); refine bodyPost_ret (results_none rfl _ _ _) rfl ?_
          exact ⟨rfl, by rw [← HE.out, HG1.out]; exact HW2.out⟩
        | false =>
          go_wp2
          go_meet
          case rel => exact ⟨by trivial, HW2.out⟩
    case rest =>
    obtain ⟨hf, hV⟩ := hcut
    subst hf
    have HV2 : Hid _ := hV
    clear hV HV
    have HG : Hid _ := HGO.out.trans (if_neg (by simp))
    clear HGO
    obtain ⟨z, hz⟩ : ∃ z, (decide (a > 0) && !lt dC[a - 1]! dC[pv2]!) = z := ⟨_, rfl⟩
    have HZ : Hid _ := hz
    clear hz
    go_upto_region 17 with fail
    generalize hintN hi2 = hv2
    generalize hintN hi = hv1
    refine wp_gen (fun w' => SW w0 w' B dC n) (by (focus (repeat first | with_reducible exact HV2.out | with_reducible refine SW.drw ?_ | with_reducible refine SW.drwN ?_ _))) ?_
    intro U hU
    have HU : Hid _ := hU
    clear HV2
    go_cut [87] from 73 to 87 (fun v wx => v = .bool z ∧ SW w0 wx B dC n)
    case first =>
      by_cases ha0 : a = 0
      · have g0 : decide ((0 : Int) < (a : Int)) = false := decide_eq_false (by omega)
        have g0' : ¬ (0 : Int) < (a : Int) := by omega
        have g0'' : decide (0 < a) = false := decide_eq_false (by omega)
        have g0n : ¬ 0 < a := by omega
        have HZ0 : Hid (z = false) := by show _ = _; rw [← HZ.out, ha0]; rfl
        clear ha0 hU
        go_quiet (fail)
        go_wp2
        go_meet
        case rel => exact ⟨by rw [HZ0.out], by (focus (repeat first | with_reducible exact HU.out | with_reducible refine SW.drw ?_ | with_reducible refine SW.drwN ?_ _))⟩
      · have g0 : decide ((0 : Int) < (a : Int)) = true := decide_eq_true (by omega)
        have g0' : (0 : Int) < (a : Int) := by omega
        have g0'' : decide (0 < a) = true := decide_eq_true (by omega)
        have g0n : 0 < a := by omega
        obtain ⟨am, ham⟩ : ∃ am, a = am + 1 := ⟨a - 1, by omega⟩
        have t6 : IntKind.i64.wrap ((a : Int) - 1) = (am : Int) := wr_dec ham (by omega)
        have hpn : pv2 < n := by have := HB.out; omega
        have c1 := hU.at am (by omega)
        have c0 := hU.at pv2 hpn
        have f1 := hU.r.fz am
        have f0 := hU.r.fz pv2
        have lB := hU.r.lt
        have p0 : (0 : Int) ≤ (am : Int) := by omega
        have p1 : (am : Int) < n := by omega
        have q0 : (0 : Int) ≤ (pv2 : Int) := by omega
        have q1 : (pv2 : Int) < n := by omega
        have HZ0 : Hid (z = !lt dC[am]! dC[pv2]!) := by show _ = _; rw [← HZ.out, decide_eq_true (show a > 0 by omega), show a - 1 = am by omega]; rfl
        clear ham hU hpn
        cases hm : lt dC[am]! dC[pv2]! with
        | true =>
          go_quiet ((refine Calls.mono (less_any _ _ _) ?_; intro e w3 hq; exact ⟨hq.1, _, hq.2.symm⟩))
          go_wp2
          all_goals try exact absurd (hm.symm.trans ‹lt dC[am]! dC[pv2]! = false›) (by simp)
          go_meet
          case rel => exact ⟨by rw [HZ0.out, hm]; rfl, by (focus (repeat first | with_reducible exact HU.out | with_reducible refine SW.drw ?_ | with_reducible refine SW.drwN ?_ _))⟩
        | false =>
          go_quiet ((refine Calls.mono (less_any _ _ _) ?_; intro e w3 hq; exact ⟨hq.1, _, hq.2.symm⟩))
          go_wp2
          all_goals try exact absurd (hm.symm.trans ‹lt dC[am]! dC[pv2]! = true›) (by simp)
          go_meet
          case rel => exact ⟨by rw [HZ0.out, hm]; rfl, by (focus (repeat first | with_reducible exact HU.out | with_reducible refine SW.drw ?_ | with_reducible refine SW.drwN ?_ _))⟩
    case rest =>
    obtain ⟨rfl, hV⟩ := hcut
    have HV : Hid _ := hV
    clear hV HU hU
    cases z with
    | true =>
      have HG2 : Hid _ := HG.out.trans (if_pos HZ.out)
      clear HG
      obtain ⟨⟨mid, dD⟩, hmd⟩ : ∃ c, Sort.partitionEqual lt dC a b pv2 = c := ⟨_, rfl⟩
      have hpe := pe_any B n cap a b pv2 dC w0
      rw [hmd] at hpe HG2
      dsimp only at hpe
      have HPE : Hid _ := hpe
      clear hpe hmd
      go_wp2_with (go_at_call 82; fail)
      refine Calls.mono (HPE.out _ HV.out hab' hb hn (by have := HB.out; omega)) ?_
      rintro e w2 ⟨rfl, hW, hr⟩
      have HW2 : Hid _ := hW
      have HMR : Hid _ := hr
      clear hW hr
      dsimp only
      go_wp2
      go_roundw
      case rel => exact ⟨mid, b, lim1, wb, wp, dD, rfl, rfl, rfl, rfl, rfl, by have := HMR.out; have := HNN.out; omega, by have := HMR.out; have := HNN.out; omega, by have := HMR.out; have := HNN.out; omega, by have := HMR.out; have := HNN.out; omega, by (focus (repeat first | with_reducible exact HW2.out | with_reducible refine SW.drw ?_ | with_reducible refine SW.drwN ?_ _)), by rw [← HE.out, HG2.out]; exact (if_pos HMR.out).symm⟩
      case measure => have := HMR.out; have := HNN.out; simp [intOf]; omega
    | false =>
      have HG2 : Hid _ := HG.out.trans (if_neg (by rw [HZ.out]; simp))
      clear HG
      obtain ⟨⟨mid, ap, dD⟩, hmd⟩ : ∃ c, Sort.partition lt dC a b pv2 = c := ⟨_, rfl⟩
      have hpe := pa_any B n cap a b pv2 dC w0
      rw [hmd] at hpe HG2
      dsimp only at hpe
      have HPE : Hid _ := hpe
      clear hpe hmd
      go_wp2_with (go_at_call 83; fail)
      refine Calls.mono (HPE.out _ HV.out hab' hb hn (by have := HB.out; omega)) ?_
      rintro e w2 ⟨rfl, hW, hr⟩
      have HW2 : Hid _ := hW
      have HMR : Hid _ := hr
      have HG3 : Hid _ := HG2.out.trans (if_pos hr)
      clear hW hr HG2
      dsimp only
      obtain ⟨ll, hll⟩ : ∃ ll, mid - a = ll := ⟨_, rfl⟩
      obtain ⟨rl, hrl⟩ : ∃ rl, b - mid = rl := ⟨_, rfl⟩
      obtain ⟨m1, hm1⟩ : ∃ m1, mid + 1 = m1 := ⟨_, rfl⟩
      have t6 : IntKind.i64.wrap ((mid : Int) - (a : Int)) = (ll : Int) := wr_sub (by have := HMR.out; omega) (by have := HMR.out; omega)
      have t7 : IntKind.i64.wrap ((b : Int) - (mid : Int)) = (rl : Int) := wr_sub (by have := HMR.out; omega) (by have := HMR.out; omega)
      have t8 : IntKind.i64.wrap ((mid : Int) + 1) = (m1 : Int) := wr_one hm1 (by have := HMR.out; omega)
      have hl9 : l ≤ 140737488355328 := by have := HL.out; omega
      have HM : Hid _ := And.intro hll (And.intro hrl hm1)
      clear hll hrl hm1
      by_cases hlr : ll < rl
      · have g9 : decide ((ll : Int) < (rl : Int)) = true := decide_eq_true (by omega)
        have g9' : (ll : Int) < (rl : Int) := by omega
        go_wp2_with (go_at_call 68; fail)
        refine Calls.mono (IH.out (mid - a) (by have := HMR.out; have := HNN.out; omega) a mid lim1 dD _ rfl HMR.out.1 (by have := HMR.out; omega) hlim1' HW2.out) ?_
        rintro e w3 ⟨rfl, hW⟩
        have HW3 : Hid _ := hW
        clear hW
        dsimp only
        go_wp2
        go_roundw
        case rel => exact ⟨m1, b, lim1, decide ((l : Int) / 8 ≤ (ll : Int)), ap, (Sort.pdq lt dD a mid lim1 true true), rfl, rfl, rfl, rfl, rfl, by have := HM.out; have := HMR.out; omega, by have := HM.out; have := HMR.out; omega, hlim1', by have := HM.out; have := HMR.out; have := HNN.out; omega, HW3.out, by
          have h := HG3.out.trans (if_pos (show mid - a < b - mid by have := HM.out; omega))
          have hd : decide ((l : Int) / 8 ≤ (ll : Int)) = decide (mid - a ≥ (b - a) / 8) := decide_eq_decide.2 (by have := HM.out; have := HL.out; omega)
          rw [hd, ← HM.out.2.2]
          exact h.symm.trans HE.out⟩
        case measure => have := HM.out; have := HMR.out; simp [intOf]; omega
      · have g9 : decide ((ll : Int) < (rl : Int)) = false := decide_eq_false (by omega)
        have g9' : ¬ (ll : Int) < (rl : Int) := by omega
        go_wp2_with (go_at_call 68; fail)
        refine Calls.mono (IH.out (b - m1) (by have := HM.out; have := HMR.out; have := HNN.out; omega) m1 b lim1 dD _ rfl (by have := HM.out; have := HMR.out; omega) hb hlim1' HW2.out) ?_
        rintro e w3 ⟨rfl, hW⟩
        have HW3 : Hid _ := hW
        clear hW
        dsimp only
        go_wp2
        go_roundw
        case rel => exact ⟨a, mid, lim1, decide ((l : Int) / 8 ≤ (rl : Int)), ap, (Sort.pdq lt dD m1 b lim1 true true), rfl, rfl, rfl, rfl, rfl, by have := HM.out; have := HMR.out; omega, by have := HM.out; have := HMR.out; omega, hlim1', by have := HM.out; have := HMR.out; have := HNN.out; omega, HW3.out, by
          have h := HG3.out.trans (if_neg (show ¬ mid - a < b - mid by have := HM.out; omega))
          have hd : decide ((l : Int) / 8 ≤ (rl : Int)) = decide (b - mid ≥ (b - a) / 8) := decide_eq_decide.2 (by have := HM.out; have := HL.out; omega)
          rw [hd, ← HM.out.2.2]
          exact h.symm.trans HE.out⟩
        case measure => have := HM.out; have := HMR.out; simp [intOf]; omega
end Go.Proofs.Ytgkkghphlbgcoaa.So
namespace Go.Proofs.Ytgkkghphlbgcoaa.So
open Go.RowKit
set_option maxRecDepth 100000
set_option linter.unusedVariables false
set_option linter.unusedSimpArgs false
set_option maxHeartbeats 2000000 in
theorem sort_any (B n cap : Nat) (d : Array Nat) (w0 w : World) (hR : SW w0 w B d n) (hn : n ≤ 140737488355328) :
    Calls Try.prog 62 #[.slice (some ⟨B, 0, none⟩) n cap] w fun e w' => e = .returned (.tuple #[]) ∧ SW w0 w' B (Sort.sort lt d) n := by
  have hk : Sort.bitsLen n ≤ 62 := (Sort.bitsLen_le_iff n 62).2 (by omega)
  have hE : Sort.sort lt d = Sort.pdq lt d 0 n (Sort.bitsLen n) true true := by rw [Sort.sort, hR.z]
  rw [hE]
  have h1 := len_any n
  have h2 := pdq_any B n cap w0 hn n 0 n (Sort.bitsLen n) d
  obtain ⟨L, hL⟩ : ∃ L, Sort.bitsLen n = L := ⟨_, rfl⟩
  rw [hL] at h1 h2 hk ⊢
  have hx : IntKind.u64.wrap (n : Int) = (n : Int) := by rw [IntKind.wrap_u64]; omega
  have H1 : Hid _ := h1
  have H2 : Hid _ := h2
  have HR : Hid _ := hR
  clear hL h1 h2 hR hE
  go_enter Try.func62, Try.ntmps62
  go_wp2_with (go_at_call 69; fail)
  refine Calls.mono (H1.out _ hn) ?_
  rintro e w1 ⟨rfl, rfl⟩
  dsimp only
  go_wp2_with (go_at_call 68; fail)
  refine Calls.mono (H2.out _ rfl (Nat.zero_le _) (Nat.le_refl _) (by omega) HR.out) ?_
  rintro e w2 ⟨rfl, hW⟩
  have HW : Hid _ := hW
  clear hW
  dsimp only
  go_wp2
  go_end0
  exact ⟨rfl, HW.out⟩
/-- What the sort makes of a row: the same words, ascending. -/
theorem sort_is (d : Array Nat) : Sort.PermIn 0 d.size d (Sort.sort lt d) ∧ Sort.SortedIn lt 0 d.size (Sort.sort lt d) := Sort.sort_sorts lt swo d
end Go.Proofs.Ytgkkghphlbgcoaa.So
namespace Go.Proofs.Ytgkkghphlbgcoaa.So
open Go.RowKit
set_option maxRecDepth 100000
set_option linter.unusedVariables false
set_option linter.unusedSimpArgs false
theorem ins_nil (w : World) : Calls Try.prog 75 #[.slice none 0 0, .int .i64 0, .int .i64 0] w fun e w' => e = .returned (.tuple #[]) ∧ w' = w := by
  go_enter Try.func75, Try.ntmps75
  go_wp2
  go_loopw [6] (fun v wr => v = .int .i64 1 ∧ wr = w) (fun _ _ => 0)
  case atStart => exact ⟨rfl, rfl⟩
  case round =>
    obtain ⟨rfl, rfl⟩ := hrel
    go_wp2
    go_end0
    exact ⟨rfl, rfl⟩
theorem pdq_nil (lim : Nat) (w : World) : Calls Try.prog 68 #[.slice none 0 0, .int .i64 0, .int .i64 0, .int .i64 lim] w fun e w' => e = .returned (.tuple #[]) ∧ w' = w := by
  go_enter Try.func68, Try.ntmps68
  go_wp2
  go_loopw [1, 2, 3, 8, 9] (fun u1 u2 _ _ _ wr => u1 = .int .i64 0 ∧ u2 = .int .i64 0 ∧ wr = w) (fun _ _ _ _ _ _ => 0)
  case atStart => exact ⟨rfl, rfl, rfl⟩
  case round =>
    obtain ⟨rfl, rfl, rfl⟩ := hrel
    go_wp2_with (go_at_call 75; fail)
    refine Calls.mono (ins_nil _) ?_
    rintro e w1 ⟨rfl, rfl⟩
    dsimp only
    go_wp2
    (try simp only [Exit.inBlock, Exit.then]); refine bodyPost_ret (results_none rfl _ _ _) rfl ?_
    exact ⟨rfl, rfl⟩
theorem sort_nil (w : World) : Calls Try.prog 62 #[.slice none 0 0] w fun e w' => e = .returned (.tuple #[]) ∧ w' = w := by
  have h1 := len_any 0
  obtain ⟨L, hL⟩ : ∃ L, Sort.bitsLen 0 = L := ⟨_, rfl⟩
  rw [hL] at h1
  have H1 : Hid _ := h1
  clear h1 hL
  go_enter Try.func62, Try.ntmps62
  go_wp2_with (go_at_call 69; fail)
  refine Calls.mono (H1.out _ (by omega)) ?_
  rintro e w1 ⟨rfl, rfl⟩
  dsimp only
  go_wp2_with (go_at_call 68; fail)
  refine Calls.mono (pdq_nil L _) ?_
  rintro e w2 ⟨rfl, rfl⟩
  dsimp only
  go_wp2
  go_end0
  exact ⟨rfl, rfl⟩
end Go.Proofs.Ytgkkghphlbgcoaa.So
