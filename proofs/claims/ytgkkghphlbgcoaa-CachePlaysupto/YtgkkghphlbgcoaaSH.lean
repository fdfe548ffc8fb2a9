import Derived.Test.YtgkkghphlbgcoaaSG
namespace Go.Proofs.Ytgkkghphlbgcoaa.So
open Go.RowKit
set_option maxRecDepth 100000
set_option linter.unusedVariables false
set_option linter.unusedSimpArgs false
theorem scanU_go {p : Nat → Bool} {d : Array Nat} {i j : Nat} (h : i ≤ j) (hp : p d[i]! = true) : Sort.scanUp p d j i = Sort.scanUp p d j (i + 1) := by
  conv => lhs; rw [Sort.scanUp]
  rw [if_pos (by simp [h, hp])]
theorem scanU_stop {p : Nat → Bool} {d : Array Nat} {i j : Nat} (hp : p d[i]! = false) : Sort.scanUp p d j i = i := by
  rw [Sort.scanUp, if_neg (by simp [hp])]
theorem scanU_end {p : Nat → Bool} {d : Array Nat} {i j : Nat} (h : ¬ i ≤ j) : Sort.scanUp p d j i = i := by
  rw [Sort.scanUp, if_neg (by simp [h])]
theorem scanD_go {p : Nat → Bool} {d : Array Nat} {i j k : Nat} (hk : j = k + 1) (h : i ≤ j) (hp : p d[j]! = true) : Sort.scanDown p d i j = Sort.scanDown p d i k := by
  subst hk
  rw [Sort.scanDown, if_pos (by simp [h, hp])]
theorem scanD_stop {p : Nat → Bool} {d : Array Nat} {i j : Nat} (hp : p d[j]! = false) : Sort.scanDown p d i j = j := by
  cases j with
  | zero => rfl
  | succ k => rw [Sort.scanDown, if_neg (by simp [hp])]
theorem scanD_end {p : Nat → Bool} {d : Array Nat} {i j : Nat} (h : ¬ i ≤ j) : Sort.scanDown p d i j = j := by
  cases j with
  | zero => rfl
  | succ k => rw [Sort.scanDown, if_neg (by simp [h])]
theorem peq_step {a i j x y : Nat} {d : Array Nat} (hx : Sort.scanUp (fun x => !lt d[a]! x) d j i = x) (hy : Sort.scanDown (fun x => lt d[a]! x) d x j = y) : Sort.partEqLoop lt a i j d = if x > y then (x, d) else if (y - 1) + 1 - (x + 1) < j + 1 - i then Sort.partEqLoop lt a (x + 1) (y - 1) (Sort.swp d x y) else (x, d) := by
  conv => lhs; rw [Sort.partEqLoop]
  simp only [hx, hy]
  rfl
theorem par_step {a i j x y : Nat} {d : Array Nat} (hx : Sort.scanUp (fun x => lt x d[a]!) d j i = x) (hy : Sort.scanDown (fun x => !lt x d[a]!) d x j = y) : Sort.partLoop lt a i j d = if x > y then (y, d) else if (y - 1) + 1 - (x + 1) < j + 1 - i then Sort.partLoop lt a (x + 1) (y - 1) (Sort.swp d x y) else (y, d) := by
  conv => lhs; rw [Sort.partLoop]
  simp only [hx, hy]
  rfl
set_option maxHeartbeats 4000000 in
theorem pe_any (B n cap a b p : Nat) (d : Array Nat) (w0 w : World) (hR : SW w0 w B d n) (hab : a < b) (hb : b ≤ n) (hn : n ≤ 140737488355328) (hp : p < n) :
    Calls Try.prog 82 #[.slice (some ⟨B, 0, none⟩) n cap, .int .i64 a, .int .i64 b, .int .i64 p] w fun e w' => e = .returned (.int .i64 (Sort.partitionEqual lt d a b p).1) ∧ SW w0 w' B (Sort.partitionEqual lt d a b p).2 n ∧ a < (Sort.partitionEqual lt d a b p).1 ∧ (Sort.partitionEqual lt d a b p).1 ≤ b := by
  have HR : Hid _ := hR
  clear hR
  obtain ⟨a1, ha1⟩ : ∃ a1, a + 1 = a1 := ⟨_, rfl⟩
  obtain ⟨b1, hb1⟩ : ∃ b1, b = b1 + 1 := ⟨b - 1, by omega⟩
  have t1 : IntKind.i64.wrap ((a : Int) + 1) = (a1 : Int) := wr_one ha1 (by omega)
  have t2 : IntKind.i64.wrap ((b : Int) - 1) = (b1 : Int) := wr_dec hb1 (by omega)
  have HA : Hid _ := And.intro ha1 hb1
  obtain ⟨R, hRR⟩ : ∃ R, Sort.partitionEqual lt d a b p = R := ⟨_, rfl⟩
  rw [hRR]
  have HRR : Hid _ := hRR
  clear hRR ha1 hb1
  go_enter Try.func82, Try.ntmps82
  go_upto_region 1 with fail
  refine wp_gen (fun w' => SW w0 w' B d n) (by (focus (repeat first | with_reducible exact HR.out | with_reducible refine SW.drw ?_ | with_reducible refine SW.drwN ?_ _))) ?_
  intro HP0 hU
  have HU0 : Hid _ := hU
  go_cut [] from 11 to 24 (fun wx => SW w0 wx B (Sort.swp d a p) n)
  case first =>
    have c1 := hU.at a (by omega)
    have c0 := hU.at p (by omega)
    have f1 := hU.r.fz a
    have f0 := hU.r.fz p
    have lB := hU.r.lt
    have p0 : (0 : Int) ≤ (a : Int) := by omega
    have p1 : (a : Int) < n := by omega
    have q0 : (0 : Int) ≤ (p : Int) := by omega
    have q1 : (p : Int) < n := by omega
    have HB : Hid (a < n ∧ p < n) := ⟨by omega, by omega⟩
    clear hU
    by_cases hxy : a = p
    · subst hxy
      clear c0 f0 q0 q1
      go_region
      go_wp2
      go_meet
      case rel => exact by (focus (repeat first | with_reducible exact HU0.out.swp a a HB.out.1 HB.out.2 | with_reducible exact (HU0.out.drwN _).swp a a HB.out.1 HB.out.2 | with_reducible refine SW.drw ?_ | with_reducible refine SW.drwN ?_ _))
    · have nx : ¬ p = a := fun h => hxy h.symm
      go_region
      go_wp2
      go_meet
      case rel => exact by (focus (repeat first | with_reducible exact HU0.out.swp a p HB.out.1 HB.out.2 | with_reducible exact (HU0.out.drwN _).swp a p HB.out.1 HB.out.2 | with_reducible refine SW.drw ?_ | with_reducible refine SW.drwN ?_ _))
  case rest =>
    have HP : Hid _ := hcut
    clear hcut hU
    go_wp2
    go_loopw [9, 10] (fun u v wr => ∃ (i j : Nat) (d' : Array Nat), u = .int .i64 i ∧ v = .int .i64 j ∧ a < i ∧ i ≤ b ∧ a ≤ j ∧ j < b ∧ SW w0 wr B d' n ∧ Sort.partEqLoop lt a i j d' = R) (fun u v _ => (intOf v + 1 - intOf u).toNat)
    case atStart => exact ⟨a1, b1, Sort.swp d a p, rfl, rfl, by have := HA.out; omega, by have := HA.out; omega, by have := HA.out; omega, by have := HA.out; omega, by (focus (repeat first | with_reducible exact HP.out | with_reducible refine SW.drw ?_ | with_reducible refine SW.drwN ?_ _)), by rw [← HRR.out, Sort.partitionEqual, HA.out.1, show b - 1 = b1 by rw [HA.out.2]; rfl]⟩
    case round =>
      obtain ⟨i, j, d1, rfl, rfl, hia, hib, hja, hjb, hS, hE⟩ := hrel
      have HS : Hid _ := hS
      have HE : Hid _ := hE
      clear hS hE
      go_upto_block 2 with fail
      refine wp_gen (fun w' => SW w0 w' B d1 n) (by (focus (repeat first | with_reducible exact HS.out | with_reducible refine SW.drw ?_ | with_reducible refine SW.drwN ?_ _))) ?_
      intro U0 hU
      have HU0 : Hid _ := hU
      clear hU
      go_cut [9] from 29 to 45 (fun v wx => ∃ z : Nat, v = .int .i64 z ∧ (i ≤ z ∧ z ≤ b) ∧ Sort.scanUp (fun x => !lt d1[a]! x) d1 j i = z ∧ SW w0 wx B d1 n)
      case first =>
        go_wp2
        go_loopw [9] (fun v wr => ∃ z : Nat, v = .int .i64 z ∧ (i ≤ z ∧ z ≤ b) ∧ Sort.scanUp (fun x => !lt d1[a]! x) d1 j z = Sort.scanUp (fun x => !lt d1[a]! x) d1 j i ∧ SW w0 wr B d1 n) (fun v _ => b - (intOf v).toNat)
        case atStart => exact ⟨i, rfl, ⟨by omega, by omega⟩, rfl, by (focus (repeat first | with_reducible exact HU0.out | with_reducible refine SW.drw ?_ | with_reducible refine SW.drwN ?_ _))⟩
        case round =>
          obtain ⟨z, rfl, hz, hG, hV⟩ := hrel
          have HV : Hid _ := hV
          have HG : Hid _ := hG
          clear hG
          by_cases hzj : z ≤ j
          · obtain ⟨z1, hz1⟩ : ∃ z1, z + 1 = z1 := ⟨_, rfl⟩
            have t9 : IntKind.i64.wrap ((z : Int) + 1) = (z1 : Int) := wr_one hz1 (by omega)
            have g9 : decide ((z : Int) ≤ (j : Int)) = true := decide_eq_true (by omega)
            have g9' : (z : Int) ≤ (j : Int) := by omega
            have c1 := hV.at z (by omega)
            have c0 := hV.at a (by omega)
            have f1 := hV.r.fz z
            have f0 := hV.r.fz a
            have lB := hV.r.lt
            have p0 : (0 : Int) ≤ (z : Int) := by omega
            have p1 : (z : Int) < n := by omega
            have q0 : (0 : Int) ≤ (a : Int) := by omega
            have q1 : (a : Int) < n := by omega
            have HB : Hid (z < n ∧ a < n) := ⟨by omega, by omega⟩
            have HZ : Hid _ := hz1
            clear hV hz1
            cases hm : lt d1[a]! d1[z]! with
            | false =>
              go_upto_region 3 with fail
              go_quiet ((refine Calls.mono (less_any _ _ _) ?_; intro e w3 hq; exact ⟨hq.1, _, hq.2.symm⟩))
              go_wp2
              all_goals try exact absurd (hm.symm.trans ‹lt d1[a]! d1[z]! = true›) (by simp)
              go_roundw
              case rel => exact ⟨z1, rfl, by have := HZ.out; omega, by rw [← HG.out, scanU_go hzj (by show (!lt d1[a]! d1[z]!) = true; rw [hm]; rfl), HZ.out], by (focus (repeat first | with_reducible exact HV.out | with_reducible refine SW.drw ?_ | with_reducible refine SW.drwN ?_ _))⟩
              case measure => have := HZ.out; simp [intOf]; omega
            | true =>
              go_upto_region 3 with fail
              go_quiet ((refine Calls.mono (less_any _ _ _) ?_; intro e w3 hq; exact ⟨hq.1, _, hq.2.symm⟩))
              go_wp2
              all_goals try exact absurd (hm.symm.trans ‹lt d1[a]! d1[z]! = false›) (by simp)
              go_meet
              case rel => exact ⟨z, rfl, hz, by rw [← HG.out, scanU_stop (by show (!lt d1[a]! d1[z]!) = false; rw [hm]; rfl)], by (focus (repeat first | with_reducible exact HV.out | with_reducible refine SW.drw ?_ | with_reducible refine SW.drwN ?_ _))⟩
          · have g9 : decide ((z : Int) ≤ (j : Int)) = false := decide_eq_false (by omega)
            have g9' : ¬ (z : Int) ≤ (j : Int) := by omega
            clear hV
            go_upto_region 3 with fail
            go_quiet (fail)
            go_wp2
            go_meet
            case rel => exact ⟨z, rfl, hz, by rw [← HG.out, scanU_end hzj], by (focus (repeat first | with_reducible exact HV.out | with_reducible refine SW.drw ?_ | with_reducible refine SW.drwN ?_ _))⟩
      case rest =>
        obtain ⟨x, rfl, hx, hFx, hV⟩ := hcut
        have HFx : Hid _ := hFx
        have HVx : Hid _ := hV
        clear hV hFx
        go_upto_block 4 with fail
        refine wp_gen (fun w' => SW w0 w' B d1 n) (by (focus (repeat first | with_reducible exact HVx.out | with_reducible refine SW.drw ?_ | with_reducible refine SW.drwN ?_ _))) ?_
        intro U0 hU
        have HU0 : Hid _ := hU
        clear hU
        go_cut [10] from 46 to 61 (fun v wx => ∃ z : Nat, v = .int .i64 z ∧ (a ≤ z ∧ z ≤ j) ∧ Sort.scanDown (fun x => lt d1[a]! x) d1 x j = z ∧ SW w0 wx B d1 n)
        case first =>
          go_wp2
          go_loopw [10] (fun v wr => ∃ z : Nat, v = .int .i64 z ∧ (a ≤ z ∧ z ≤ j) ∧ Sort.scanDown (fun x => lt d1[a]! x) d1 x z = Sort.scanDown (fun x => lt d1[a]! x) d1 x j ∧ SW w0 wr B d1 n) (fun v _ => (intOf v).toNat)
          case atStart => exact ⟨j, rfl, ⟨by omega, by omega⟩, rfl, by (focus (repeat first | with_reducible exact HU0.out | with_reducible refine SW.drw ?_ | with_reducible refine SW.drwN ?_ _))⟩
          case round =>
            obtain ⟨z, rfl, hz, hG, hV⟩ := hrel
            have HV : Hid _ := hV
            have HG : Hid _ := hG
            clear hG
            by_cases hzj : x ≤ z
            · obtain ⟨z1, hz1⟩ : ∃ z1, z = z1 + 1 := ⟨z - 1, by omega⟩
              have t9 : IntKind.i64.wrap ((z : Int) - 1) = (z1 : Int) := wr_dec hz1 (by omega)
              have g9 : decide ((x : Int) ≤ (z : Int)) = true := decide_eq_true (by omega)
              have g9' : (x : Int) ≤ (z : Int) := by omega
              have c1 := hV.at z (by omega)
              have c0 := hV.at a (by omega)
              have f1 := hV.r.fz z
              have f0 := hV.r.fz a
              have lB := hV.r.lt
              have p0 : (0 : Int) ≤ (z : Int) := by omega
              have p1 : (z : Int) < n := by omega
              have q0 : (0 : Int) ≤ (a : Int) := by omega
              have q1 : (a : Int) < n := by omega
              have HB : Hid (z < n ∧ a < n) := ⟨by omega, by omega⟩
              have HZ : Hid _ := hz1
              clear hV hz1
              cases hm : lt d1[a]! d1[z]! with
              | true =>
                go_upto_region 5 with fail
                go_quiet ((refine Calls.mono (less_any _ _ _) ?_; intro e w3 hq; exact ⟨hq.1, _, hq.2.symm⟩))
                go_wp2
                all_goals try exact absurd (hm.symm.trans ‹lt d1[a]! d1[z]! = false›) (by simp)
                go_roundw
                case rel => exact ⟨z1, rfl, by have := HZ.out; omega, by rw [← HG.out, scanD_go HZ.out hzj (by show lt d1[a]! d1[z]! = true; rw [hm])], by (focus (repeat first | with_reducible exact HV.out | with_reducible refine SW.drw ?_ | with_reducible refine SW.drwN ?_ _))⟩
                case measure => have := HZ.out; simp [intOf]; omega
              | false =>
                go_upto_region 5 with fail
                go_quiet ((refine Calls.mono (less_any _ _ _) ?_; intro e w3 hq; exact ⟨hq.1, _, hq.2.symm⟩))
                go_wp2
                all_goals try exact absurd (hm.symm.trans ‹lt d1[a]! d1[z]! = true›) (by simp)
                go_meet
                case rel => exact ⟨z, rfl, hz, by rw [← HG.out, scanD_stop (by show lt d1[a]! d1[z]! = false; rw [hm])], by (focus (repeat first | with_reducible exact HV.out | with_reducible refine SW.drw ?_ | with_reducible refine SW.drwN ?_ _))⟩
            · have g9 : decide ((x : Int) ≤ (z : Int)) = false := decide_eq_false (by omega)
              have g9' : ¬ (x : Int) ≤ (z : Int) := by omega
              clear hV
              go_upto_region 5 with fail
              go_quiet (fail)
              go_wp2
              go_meet
              case rel => exact ⟨z, rfl, hz, by rw [← HG.out, scanD_end hzj], by (focus (repeat first | with_reducible exact HV.out | with_reducible refine SW.drw ?_ | with_reducible refine SW.drwN ?_ _))⟩
        case rest =>
          obtain ⟨y, rfl, hy, hFy, hV⟩ := hcut
          have HFy : Hid _ := hFy
          have HVy : Hid _ := hV
          clear hV hFy
          obtain ⟨R', hR'⟩ : ∃ R', Sort.partEqLoop lt a i j d1 = R' := ⟨_, rfl⟩
          by_cases hxy : y < x
          · have g8 : decide ((y : Int) < (x : Int)) = true := decide_eq_true (by omega)
            have g8' : (y : Int) < (x : Int) := by omega
            clear hR'
            go_wp2
            go_ret
            rw [← HE.out, peq_step HFx.out HFy.out, if_pos hxy]
            exact ⟨rfl, by (focus (repeat first | with_reducible exact HVy.out | with_reducible refine SW.drw ?_ | with_reducible refine SW.drwN ?_ _)), by dsimp only; omega, by dsimp only; omega⟩
          · have g8 : decide ((y : Int) < (x : Int)) = false := decide_eq_false (by omega)
            have g8' : ¬ (y : Int) < (x : Int) := by omega
            clear hR'
            obtain ⟨x1, hx1⟩ : ∃ x1, x + 1 = x1 := ⟨_, rfl⟩
            obtain ⟨y1, hy1⟩ : ∃ y1, y = y1 + 1 := ⟨y - 1, by omega⟩
            have t5 : IntKind.i64.wrap ((x : Int) + 1) = (x1 : Int) := wr_one hx1 (by omega)
            have t6 : IntKind.i64.wrap ((y : Int) - 1) = (y1 : Int) := wr_dec hy1 (by omega)
            have HXY : Hid _ := And.intro hx1 hy1
            have HXN : Hid (x < n ∧ y < n) := ⟨by omega, by omega⟩
            clear hx1 hy1
            go_upto_region 8 with fail
            refine wp_gen (fun w' => SW w0 w' B d1 n) (by (focus (repeat first | with_reducible exact HVy.out | with_reducible refine SW.drw ?_ | with_reducible refine SW.drwN ?_ _))) ?_
            intro HW0 hU
            have HU0 : Hid _ := hU
            go_cut [] from 65 to 78 (fun wx => SW w0 wx B (Sort.swp d1 x y) n)
            case first =>
              have c1 := hU.at x (by omega)
              have c0 := hU.at y (by omega)
              have f1 := hU.r.fz x
              have f0 := hU.r.fz y
              have lB := hU.r.lt
              have p0 : (0 : Int) ≤ (x : Int) := by omega
              have p1 : (x : Int) < n := by omega
              have q0 : (0 : Int) ≤ (y : Int) := by omega
              have q1 : (y : Int) < n := by omega
              have HB : Hid (x < n ∧ y < n) := ⟨by omega, by omega⟩
              clear hU
              by_cases hxy : x = y
              · subst hxy
                clear c0 f0 q0 q1
                go_region
                go_wp2
                go_meet
                case rel => exact by (focus (repeat first | with_reducible exact HU0.out.swp x x HB.out.1 HB.out.2 | with_reducible exact (HU0.out.drwN _).swp x x HB.out.1 HB.out.2 | with_reducible refine SW.drw ?_ | with_reducible refine SW.drwN ?_ _))
              · have nx : ¬ y = x := fun h => hxy h.symm
                go_region
                go_wp2
                go_meet
                case rel => exact by (focus (repeat first | with_reducible exact HU0.out.swp x y HB.out.1 HB.out.2 | with_reducible exact (HU0.out.drwN _).swp x y HB.out.1 HB.out.2 | with_reducible refine SW.drw ?_ | with_reducible refine SW.drwN ?_ _))
            case rest =>
              have HW : Hid _ := hcut
              clear hcut hU
              go_wp2
              go_roundw
              case rel => exact ⟨x1, y1, Sort.swp d1 x y, rfl, rfl, by have := HXY.out; omega, by have := HXY.out; omega, by have := HXY.out; omega, by have := HXY.out; omega, by (focus (repeat first | with_reducible exact HW.out | with_reducible refine SW.drw ?_ | with_reducible refine SW.drwN ?_ _)), by rw [← HE.out, peq_step HFx.out HFy.out, if_neg hxy, if_pos (by omega), HXY.out.1, show y - 1 = y1 by rw [HXY.out.2]; rfl]⟩
              case measure => have := HXY.out; simp [intOf]; omega
end Go.Proofs.Ytgkkghphlbgcoaa.So
