import Derived.Test.YtgkkghphlbgcoaaSF
namespace Go.Proofs.Ytgkkghphlbgcoaa.So
open Go.RowKit
set_option maxRecDepth 100000
set_option linter.unusedVariables false
set_option linter.unusedSimpArgs false
theorem scanS_go {d : Array Nat} {b i k : Nat} (h : i < b) (hk : i = k + 1) (hl : lt d[i]! d[k]! = false) : Sort.scanSorted lt d b i = Sort.scanSorted lt d b (i + 1) := by
  conv => lhs; rw [Sort.scanSorted]
  rw [if_pos (by simp [h]; rw [show i - 1 = k by omega]; exact hl)]
theorem scanS_stop {d : Array Nat} {b i k : Nat} (hk : i = k + 1) (hl : lt d[i]! d[k]! = true) : Sort.scanSorted lt d b i = i := by
  rw [Sort.scanSorted, if_neg (by rw [show i - 1 = k by omega, hl]; simp)]
theorem scanS_end {d : Array Nat} {b i : Nat} (h : ¬ i < b) : Sort.scanSorted lt d b i = i := by
  rw [Sort.scanSorted, if_neg (by simp [h])]
theorem shiftU_go {d : Array Nat} {b j k : Nat} (h : j < b) (hk : j = k + 1) (hl : lt d[j]! d[k]! = true) : Sort.shiftUp lt b j d = Sort.shiftUp lt b (j + 1) (Sort.swp d j k) := by
  conv => lhs; rw [Sort.shiftUp]
  rw [if_pos h, show j - 1 = k by omega, hl]; rfl
theorem shiftU_stop {d : Array Nat} {b j k : Nat} (h : j < b) (hk : j = k + 1) (hl : lt d[j]! d[k]! = false) : Sort.shiftUp lt b j d = d := by
  rw [Sort.shiftUp, if_pos h, show j - 1 = k by omega, hl]; rfl
theorem shiftU_end {d : Array Nat} {b j : Nat} (h : ¬ j < b) : Sort.shiftUp lt b j d = d := by
  rw [Sort.shiftUp, if_neg h]
set_option maxHeartbeats 4000000 in
theorem pi_any (B n cap a b : Nat) (d : Array Nat) (w0 w : World) (hR : SW w0 w B d n) (hab : a < b) (hb : b ≤ n) (hn : n ≤ 140737488355328) :
    Calls Try.prog 80 #[.slice (some ⟨B, 0, none⟩) n cap, .int .i64 a, .int .i64 b] w fun e w' => e = .returned (.bool (Sort.partialInsertionSort lt d a b).2) ∧ SW w0 w' B (Sort.partialInsertionSort lt d a b).1 n := by
  have HR : Hid _ := hR
  clear hR
  obtain ⟨R, hRR⟩ : ∃ R, Sort.partialInsertionSort lt d a b = R := ⟨_, rfl⟩
  rw [hRR]
  have HRR : Hid _ := hRR
  clear hRR
  obtain ⟨a1, ha1⟩ : ∃ a1, a + 1 = a1 := ⟨_, rfl⟩
  obtain ⟨l, hl⟩ : ∃ l, b - a = l := ⟨_, rfl⟩
  have t1 : IntKind.i64.wrap ((a : Int) + 1) = (a1 : Int) := wr_one ha1 (by omega)
  have t2 : IntKind.i64.wrap ((b : Int) - (a : Int)) = (l : Int) := wr_sub (by omega) (by omega)
  have HA : Hid _ := And.intro ha1 hl
  clear ha1 hl
  go_enter Try.func80, Try.ntmps80
  go_wp2
  go_loopw [8, 7] (fun u v wr => ∃ (z s i : Nat) (d' : Array Nat), u = .int .i64 z ∧ v = .int .i64 i ∧ z + s = 5 ∧ a < i ∧ i ≤ b ∧ SW w0 wr B d' n ∧ Sort.partialIns lt a b s i d' = R) (fun u _ _ => (5 - intOf u).toNat)
  case atStart => exact ⟨0, 5, a1, d, rfl, rfl, rfl, by have := HA.out; omega, by have := HA.out; omega, HR.out, by rw [← HRR.out, ← HA.out.1]; rfl⟩
  case round =>
    obtain ⟨z, s, i, d1, rfl, rfl, hz, hia, hib, hS, hE⟩ := hrel
    have HS : Hid _ := hS
    have HE : Hid _ := hE
    clear hS hE
    cases s with
    | zero =>
      obtain rfl : z = 5 := by omega
      clear hz
      go_wp2
      go_ret
      rw [← HE.out]
      exact ⟨rfl, HS.out⟩
    | succ s =>
      have gz : decide ((z : Int) < 5) = true := decide_eq_true (by omega)
      obtain ⟨z1, hz1⟩ : ∃ z1, z + 1 = z1 := ⟨_, rfl⟩
      have t3 : IntKind.i64.wrap ((z : Int) + 1) = (z1 : Int) := wr_one hz1 (by omega)
      have HZ : Hid _ := And.intro hz hz1
      clear hz hz1
      go_wp2
      go_loopw [7] (fun v wr => ∃ (i' : Nat), v = .int .i64 i' ∧ a < i' ∧ i' ≤ b ∧ SW w0 wr B d1 n ∧ Sort.scanSorted lt d1 b i' = Sort.scanSorted lt d1 b i) (fun v _ => b - (intOf v).toNat)
      case atStart => exact ⟨i, rfl, hia, hib, HS.out, rfl⟩
      case round =>
        clear HS
        obtain ⟨x, rfl, hxa, hxb, hS, hF⟩ := hrel
        have HS : Hid _ := hS
        have HF : Hid _ := hF
        clear hF
        by_cases hxl : x < b
        · obtain ⟨y, hy⟩ : ∃ y, x = y + 1 := ⟨x - 1, by omega⟩
          obtain ⟨x1, hx1⟩ : ∃ x1, x + 1 = x1 := ⟨_, rfl⟩
          have t4 : IntKind.i64.wrap ((x : Int) - 1) = (y : Int) := wr_dec hy (by omega)
          have t5 : IntKind.i64.wrap ((x : Int) + 1) = (x1 : Int) := wr_one hx1 (by omega)
          have g3 : decide ((x : Int) < (b : Int)) = true := decide_eq_true (by omega)
          have c1 := hS.at x (by omega)
          have c0 := hS.at y (by omega)
          have f1 := hS.r.fz x
          have f0 := hS.r.fz y
          have lB := hS.r.lt
          have p0 : (0 : Int) ≤ (x : Int) := by omega
          have p1 : (x : Int) < n := by omega
          have q0 : (0 : Int) ≤ (y : Int) := by omega
          have q1 : (y : Int) < n := by omega
          have nk : ¬ x = y := by omega
          have nj : ¬ y = x := by omega
          have HB : Hid (x < n ∧ y < n) := ⟨by omega, by omega⟩
          have HY : Hid _ := And.intro hy hx1
          clear hy hx1 hS
          cases hl : lt d1[x]! d1[y]! with
          | false =>
            go_upto_region 5 with fail
            go_quiet ((refine Calls.mono (less_any _ _ _) ?_; intro e w3 hq; exact ⟨hq.1, _, hq.2.symm⟩))
            go_wp2
            all_goals try exact absurd (hl.symm.trans ‹lt d1[x]! d1[y]! = true›) (by simp)
            go_roundw
            case rel => exact ⟨x1, rfl, by have := HY.out; omega, by have := HY.out; omega, by (focus (repeat first | with_reducible exact HS.out | with_reducible refine SW.drw ?_ | with_reducible refine SW.drwN ?_ _)), by rw [← HF.out, scanS_go hxl HY.out.1 hl, HY.out.2]⟩
            case measure => have := HY.out; simp [intOf]; omega
          | true =>
            go_upto_region 5 with fail
            go_quiet ((refine Calls.mono (less_any _ _ _) ?_; intro e w3 hq; exact ⟨hq.1, _, hq.2.symm⟩))
            go_upto_region 7 with fail
            have HL : Hid _ := hl
            clear hl
            have ne1 : ¬ x = b := by omega
            have ne2 : ¬ (x : Int) = (b : Int) := by omega
            have ne3 : ((x : Int) == (b : Int)) = false := by simpa using ne2
            by_cases h50 : l < 50
            · have g50 : decide ((l : Int) < 50) = true := decide_eq_true (by omega)
              go_wp2
              go_ret
              rw [← HE.out, Sort.partialIns, ← HF.out, scanS_stop HY.out.1 HL.out]
              dsimp only
              rw [if_neg ne1, if_pos (by rw [HA.out.2]; exact h50)]
              exact ⟨rfl, by (focus (repeat first | with_reducible exact HS.out | with_reducible refine SW.drw ?_ | with_reducible refine SW.drwN ?_ _))⟩
            have g50 : decide ((l : Int) < 50) = false := decide_eq_false (by omega)
            obtain ⟨xa, hxa'⟩ : ∃ xa, x - a = xa := ⟨_, rfl⟩
            obtain ⟨bx, hbx⟩ : ∃ bx, b - x = bx := ⟨_, rfl⟩
            have t6 : IntKind.i64.wrap ((x : Int) - (a : Int)) = (xa : Int) := wr_sub (by omega) (by omega)
            have t7 : IntKind.i64.wrap ((b : Int) - (x : Int)) = (bx : Int) := wr_sub (by omega) (by omega)
            have HXA : Hid _ := And.intro hxa' hbx
            clear hxa' hbx
            go_upto_region 11 with fail
            go_region
            go_upto_if 61 with fail
            obtain ⟨d2, hd2⟩ : ∃ d2, Sort.swp d1 x y = d2 := ⟨_, rfl⟩
            have HD2 : Hid _ := hd2
            refine wp_gen (fun w' => SW w0 w' B (Sort.swp d1 x y) n) (by (focus (repeat first | with_reducible exact HS.out.swp x y HB.out.1 HB.out.2 | with_reducible exact (HS.out.drwN _).swp x y HB.out.1 HB.out.2 | with_reducible refine SW.drw ?_ | with_reducible refine SW.drwN ?_ _))) ?_
            rw [hd2]
            clear hd2
            intro U hU
            have HU : Hid _ := hU
            clear hU c0 c1 f0 f1 lB HB
            go_cut [] from 58 to 94 (fun wx => SW w0 wx B (if xa ≥ 2 then Sort.shiftDown lt y d2 else d2) n)
            case first =>
              by_cases h2 : 2 ≤ xa
              · have g2 : decide ((2 : Int) ≤ (xa : Int)) = true := decide_eq_true (by omega)
                have g2' : (2 : Int) ≤ (xa : Int) := by omega
                go_wp2
                go_loopw [9] (fun v wr => ∃ (j : Nat) (d' : Array Nat), v = .int .i64 j ∧ j ≤ y ∧ SW w0 wr B d' n ∧ Sort.shiftDown lt j d' = Sort.shiftDown lt y d2) (fun v _ => (intOf v).toNat)
                case atStart => exact ⟨y, d2, rfl, Nat.le_refl _, by (focus (repeat first | with_reducible exact HU.out | with_reducible refine SW.drw ?_ | with_reducible refine SW.drwN ?_ _)), rfl⟩
                case round =>
                  obtain ⟨j, d3, rfl, hjy, hV, hG⟩ := hrel
                  have HV : Hid _ := hV
                  have HG : Hid _ := hG
                  by_cases hj0 : j = 0
                  · subst hj0
                    clear hV hG
                    go_wp2
                    go_meet
                    case rel => rw [if_pos (show xa ≥ 2 from h2), ← HG.out]; exact HV.out
                  · obtain ⟨k, hk⟩ : ∃ k, j = k + 1 := ⟨j - 1, by omega⟩
                    have gj : decide ((1 : Int) ≤ (j : Int)) = true := decide_eq_true (by omega)
                    have gj' : (1 : Int) ≤ (j : Int) := by omega
                    have t8 : IntKind.i64.wrap ((j : Int) - 1) = (k : Int) := wr_dec hk (by omega)
                    have hyn : y < n := by have := HY.out; omega
                    clear nk nj p0 p1 q0 q1
                    have HK : Hid _ := hk
                    have HYN : Hid _ := hyn
                    have c1 := hV.at j (by omega)
                    have c0 := hV.at k (by omega)
                    have f1 := hV.r.fz j
                    have f0 := hV.r.fz k
                    have lB := hV.r.lt
                    have p0 : (0 : Int) ≤ (j : Int) := by omega
                    have p1 : (j : Int) < n := by omega
                    have q0 : (0 : Int) ≤ (k : Int) := by omega
                    have q1 : (k : Int) < n := by omega
                    have nk : ¬ j = k := by omega
                    have nj : ¬ k = j := by omega
                    have HB : Hid (j < n ∧ k < n) := ⟨by omega, by omega⟩
                    clear hV hG hk hyn
                    cases hm : lt d3[j]! d3[k]! with
                    | false =>
                      go_upto_region 16 with fail
                      go_quiet ((refine Calls.mono (less_any _ _ _) ?_; intro e w3 hq; exact ⟨hq.1, _, hq.2.symm⟩))
                      go_wp2
                      all_goals try exact absurd (hm.symm.trans ‹lt d3[j]! d3[k]! = true›) (by simp)
                      go_meet
                      case rel => rw [if_pos (show xa ≥ 2 from h2), ← HG.out, HK.out, Sort.shiftDown, ← HK.out, if_pos (by rw [hm]; rfl)]; exact by (focus (repeat first | with_reducible exact HV.out | with_reducible refine SW.drw ?_ | with_reducible refine SW.drwN ?_ _))
                    | true =>
                      go_upto_region 16 with fail
                      go_quiet ((refine Calls.mono (less_any _ _ _) ?_; intro e w3 hq; exact ⟨hq.1, _, hq.2.symm⟩))
                      go_upto_region 17 with fail
                      go_region
                      go_wp2
                      go_roundw
                      case rel => exact ⟨k, Sort.swp d3 j k, rfl, by have := HK.out; omega, by (focus (repeat first | with_reducible exact HV.out.swp j k HB.out.1 HB.out.2 | with_reducible exact (HV.out.drwN _).swp j k HB.out.1 HB.out.2 | with_reducible refine SW.drw ?_ | with_reducible refine SW.drwN ?_ _)), by rw [← HG.out, HK.out, Sort.shiftDown, ← HK.out, if_neg (by rw [hm]; simp)]⟩
                      case measure => have := HK.out; simp [intOf]; omega
              · have g2 : decide ((2 : Int) ≤ (xa : Int)) = false := decide_eq_false (by omega)
                have g2' : ¬ (2 : Int) ≤ (xa : Int) := by omega
                go_wp2
                go_meet
                case rel => rw [if_neg (show ¬ xa ≥ 2 from h2)]; exact by (focus (repeat first | with_reducible exact HU.out | with_reducible refine SW.drw ?_ | with_reducible refine SW.drwN ?_ _))
            case rest =>
              obtain ⟨d4, hd4⟩ : ∃ d4, (if xa ≥ 2 then Sort.shiftDown lt y d2 else d2) = d4 := ⟨_, rfl⟩
              rw [hd4] at hcut
              have HD4 : Hid _ := hd4
              have HC : Hid _ := hcut
              clear hd4 hcut HU
              go_upto_if 98 with fail
              refine wp_gen (fun w' => SW w0 w' B d4 n) (by (focus (repeat first | with_reducible exact HC.out | with_reducible refine SW.drw ?_ | with_reducible refine SW.drwN ?_ _))) ?_
              intro V hV
              have HU : Hid _ := hV
              clear hV HC
              have HPI : Hid (Sort.partialIns lt a b s x (if bx ≥ 2 then Sort.shiftUp lt b x1 d4 else d4) = R) := by
                show _ = _
                rw [← HE.out, Sort.partialIns, ← HF.out, scanS_stop HY.out.1 HL.out]
                dsimp only
                rw [if_neg ne1, if_neg (show ¬ b - a < 50 by rw [HA.out.2]; exact h50), HXA.out.1, HXA.out.2, show x - 1 = y by rw [HY.out.1]; rfl, HD2.out, HD4.out, HY.out.2]
              by_cases h2 : 2 ≤ bx
              · have g2 : decide ((2 : Int) ≤ (bx : Int)) = true := decide_eq_true (by omega)
                have g2' : (2 : Int) ≤ (bx : Int) := by omega
                go_wp2
                go_loopw [10] (fun v wr => ∃ (j : Nat) (d' : Array Nat), v = .int .i64 j ∧ 1 ≤ j ∧ j ≤ b ∧ SW w0 wr B d' n ∧ Sort.shiftUp lt b j d' = Sort.shiftUp lt b x1 d4) (fun v _ => b - (intOf v).toNat)
                case atStart => exact ⟨x1, d4, rfl, by have := HY.out; omega, by have := HY.out; have := HXA.out; omega, by (focus (repeat first | with_reducible exact HU.out | with_reducible refine SW.drw ?_ | with_reducible refine SW.drwN ?_ _)), rfl⟩
                case round =>
                  obtain ⟨j, d3, rfl, hj1, hjb, hV, hG⟩ := hrel
                  have HV : Hid _ := hV
                  have HG : Hid _ := hG
                  by_cases hj0 : j < b
                  · obtain ⟨k, hk⟩ : ∃ k, j = k + 1 := ⟨j - 1, by omega⟩
                    obtain ⟨j2, hj2⟩ : ∃ j2, j + 1 = j2 := ⟨_, rfl⟩
                    have gj : decide ((j : Int) < (b : Int)) = true := decide_eq_true (by omega)
                    have t8 : IntKind.i64.wrap ((j : Int) - 1) = (k : Int) := wr_dec hk (by omega)
                    have t9 : IntKind.i64.wrap ((j : Int) + 1) = (j2 : Int) := wr_one hj2 (by omega)
                    clear nk nj p0 p1 q0 q1
                    have HK : Hid _ := hk
                    have HJ2 : Hid _ := hj2
                    have c1 := hV.at j (by omega)
                    have c0 := hV.at k (by omega)
                    have f1 := hV.r.fz j
                    have f0 := hV.r.fz k
                    have lB := hV.r.lt
                    have p0 : (0 : Int) ≤ (j : Int) := by omega
                    have p1 : (j : Int) < n := by omega
                    have q0 : (0 : Int) ≤ (k : Int) := by omega
                    have q1 : (k : Int) < n := by omega
                    have nk : ¬ j = k := by omega
                    have nj : ¬ k = j := by omega
                    have HB : Hid (j < n ∧ k < n) := ⟨by omega, by omega⟩
                    clear hV hG hk hj2
                    cases hm : lt d3[j]! d3[k]! with
                    | false =>
                      go_upto_region 22 with fail
                      go_quiet ((refine Calls.mono (less_any _ _ _) ?_; intro e w3 hq; exact ⟨hq.1, _, hq.2.symm⟩))
                      go_wp2
                      all_goals try exact absurd (hm.symm.trans ‹lt d3[j]! d3[k]! = true›) (by simp)
                      go_roundw
                      case rel => exact ⟨z1, s, x, d3, rfl, rfl, by have := HZ.out; omega, hxa, hxb, by (focus (repeat first | with_reducible exact HV.out | with_reducible refine SW.drw ?_ | with_reducible refine SW.drwN ?_ _)), by rw [← HPI.out, if_pos (show bx ≥ 2 from h2), ← HG.out, shiftU_stop hj0 HK.out hm]⟩
                      case measure => have := HZ.out; simp [intOf]; omega
                    | true =>
                      go_upto_region 22 with fail
                      go_quiet ((refine Calls.mono (less_any _ _ _) ?_; intro e w3 hq; exact ⟨hq.1, _, hq.2.symm⟩))
                      go_upto_region 23 with fail
                      go_region
                      go_wp2
                      go_roundw
                      case rel => exact ⟨j2, Sort.swp d3 j k, rfl, by have := HJ2.out; omega, by have := HJ2.out; omega, by (focus (repeat first | with_reducible exact HV.out.swp j k HB.out.1 HB.out.2 | with_reducible exact (HV.out.drwN _).swp j k HB.out.1 HB.out.2 | with_reducible refine SW.drw ?_ | with_reducible refine SW.drwN ?_ _)), by rw [← HG.out, shiftU_go hj0 HK.out hm, HJ2.out]⟩
                      case measure => have := HJ2.out; simp [intOf]; omega
                  · have gj : decide ((j : Int) < (b : Int)) = false := decide_eq_false (by omega)
                    clear hV hG
                    go_wp2
                    go_roundw
                    case rel => exact ⟨z1, s, x, d3, rfl, rfl, by have := HZ.out; omega, hxa, hxb, by (focus (repeat first | with_reducible exact HV.out | with_reducible refine SW.drw ?_ | with_reducible refine SW.drwN ?_ _)), by rw [← HPI.out, if_pos (show bx ≥ 2 from h2), ← HG.out, shiftU_end hj0]⟩
                    case measure => have := HZ.out; simp [intOf]; omega
              · have g2 : decide ((2 : Int) ≤ (bx : Int)) = false := decide_eq_false (by omega)
                have g2' : ¬ (2 : Int) ≤ (bx : Int) := by omega
                go_wp2
                go_roundw
                case rel => exact ⟨z1, s, x, d4, rfl, rfl, by have := HZ.out; omega, hxa, hxb, by (focus (repeat first | with_reducible exact HU.out | with_reducible refine SW.drw ?_ | with_reducible refine SW.drwN ?_ _)), by rw [← HPI.out, if_neg (show ¬ bx ≥ 2 from h2)]⟩
                case measure => have := HZ.out; simp [intOf]; omega
        · obtain rfl : x = b := by omega
          have g3 : decide ((x : Int) < (x : Int)) = false := decide_eq_false (by omega)
          clear hS
          go_upto_region 5 with fail
          go_quiet (fail)
          go_wp2
          go_ret
          rw [← HE.out, Sort.partialIns, ← HF.out, scanS_end hxl]
          dsimp only
          rw [if_pos rfl]
          exact ⟨rfl, by (focus (repeat first | with_reducible exact HS.out | with_reducible refine SW.drw ?_ | with_reducible refine SW.drwN ?_ _))⟩
end Go.Proofs.Ytgkkghphlbgcoaa.So
