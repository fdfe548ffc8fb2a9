import Derived.Test.YtgkkghphlbgcoaaSH
namespace Go.Proofs.Ytgkkghphlbgcoaa.So
open Go.RowKit
set_option maxRecDepth 100000
set_option linter.unusedVariables false
set_option linter.unusedSimpArgs false
set_option maxHeartbeats 4000000 in
theorem pa_any (B n cap a b p : Nat) (d : Array Nat) (w0 w : World) (hR : SW w0 w B d n) (hab : a < b) (hb : b ≤ n) (hn : n ≤ 140737488355328) (hp : p < n) :
    Calls Try.prog 83 #[.slice (some ⟨B, 0, none⟩) n cap, .int .i64 a, .int .i64 b, .int .i64 p] w fun e w' => e = .returned (.tuple #[.int .i64 (Sort.partition lt d a b p).1, .bool (Sort.partition lt d a b p).2.1]) ∧ SW w0 w' B (Sort.partition lt d a b p).2.2 n ∧ a ≤ (Sort.partition lt d a b p).1 ∧ (Sort.partition lt d a b p).1 < b := by
  have HR : Hid _ := hR
  clear hR
  obtain ⟨a1, ha1⟩ : ∃ a1, a + 1 = a1 := ⟨_, rfl⟩
  obtain ⟨b1, hb1⟩ : ∃ b1, b = b1 + 1 := ⟨b - 1, by omega⟩
  have t1 : IntKind.i64.wrap ((a : Int) + 1) = (a1 : Int) := wr_one ha1 (by omega)
  have t2 : IntKind.i64.wrap ((b : Int) - 1) = (b1 : Int) := wr_dec hb1 (by omega)
  have HA : Hid _ := And.intro ha1 hb1
  have hia : a < a1 := by omega
  have hib : a1 ≤ b := by omega
  have hja : a ≤ b1 := by omega
  have hjb : b1 < b := by omega
  obtain ⟨R, hRR⟩ : ∃ R, Sort.partition lt d a b p = R := ⟨_, rfl⟩
  rw [hRR]
  have HRR : Hid _ := hRR
  clear hRR ha1 hb1
  go_enter Try.func83, Try.ntmps83
  go_upto_region 1 with fail
  refine wp_gen (fun w' => SW w0 w' B d n) (by (focus (repeat first | with_reducible exact HR.out | with_reducible refine SW.drw ?_ | with_reducible refine SW.drwN ?_ _))) ?_
  intro HP0 hU
  have HU0 : Hid _ := hU
  go_cut [] from 12 to 25 (fun wx => SW w0 wx B (Sort.swp d a p) n)
  case first =>
    have c1 := hU.at a (by omega)
    have c0 := hU.at p (by omega)
    have f1 := hU.r.fz a
    have f0 := hU.r.fz p
    have lB := hU.r.lt
    have p0 : (0 : Int) ≤ (a : Int) := by omega
    have p1 : (a : Int) < n := by omega
    have q0 : (0 : Int) ≤ (p : Int) := by omega
    have q1 : (p : Int) < n := by omega
    have HB : Hid (a < n ∧ p < n) := ⟨by omega, by omega⟩
    clear hU
    by_cases hxy : a = p
    · subst hxy
      clear c0 f0 q0 q1
      go_region
      go_wp2
      go_meet
      case rel => exact by (focus (repeat first | with_reducible exact HU0.out.swp a a HB.out.1 HB.out.2 | with_reducible exact (HU0.out.drwN _).swp a a HB.out.1 HB.out.2 | with_reducible refine SW.drw ?_ | with_reducible refine SW.drwN ?_ _))
    · have nx : ¬ p = a := fun h => hxy h.symm
      go_region
      go_wp2
      go_meet
      case rel => exact by (focus (repeat first | with_reducible exact HU0.out.swp a p HB.out.1 HB.out.2 | with_reducible exact (HU0.out.drwN _).swp a p HB.out.1 HB.out.2 | with_reducible refine SW.drw ?_ | with_reducible refine SW.drwN ?_ _))
  case rest =>
    have HP : Hid _ := hcut
    clear hcut hU
    obtain ⟨d1, hd1⟩ : ∃ d1, Sort.swp d a p = d1 := ⟨_, rfl⟩
    rw [hd1] at HP
    have HD1 : Hid _ := hd1
    clear hd1
    go_upto_block 0 with fail
    refine wp_gen (fun w' => SW w0 w' B d1 n) (by (focus (repeat first | with_reducible exact HP.out | with_reducible refine SW.drw ?_ | with_reducible refine SW.drwN ?_ _))) ?_
    intro U0 hU
    have HU0 : Hid _ := hU
    clear hU
    go_cut [10] from 30 to 45 (fun v wx => ∃ z : Nat, v = .int .i64 z ∧ (a1 ≤ z ∧ z ≤ b) ∧ Sort.scanUp (fun x => lt x d1[a]!) d1 b1 a1 = z ∧ SW w0 wx B d1 n)
    case first =>
      go_wp2
      go_loopw [10] (fun v wr => ∃ z : Nat, v = .int .i64 z ∧ (a1 ≤ z ∧ z ≤ b) ∧ Sort.scanUp (fun x => lt x d1[a]!) d1 b1 z = Sort.scanUp (fun x => lt x d1[a]!) d1 b1 a1 ∧ SW w0 wr B d1 n) (fun v _ => b - (intOf v).toNat)
      case atStart => exact ⟨a1, rfl, ⟨by omega, by omega⟩, rfl, by (focus (repeat first | with_reducible exact HU0.out | with_reducible refine SW.drw ?_ | with_reducible refine SW.drwN ?_ _))⟩
      case round =>
        obtain ⟨z, rfl, hz, hG, hV⟩ := hrel
        have HV : Hid _ := hV
        have HG : Hid _ := hG
        clear hG
        by_cases hzj : z ≤ b1
        · obtain ⟨z1, hz1⟩ : ∃ z1, z + 1 = z1 := ⟨_, rfl⟩
          have t9 : IntKind.i64.wrap ((z : Int) + 1) = (z1 : Int) := wr_one hz1 (by omega)
          have g9 : decide ((z : Int) ≤ (b1 : Int)) = true := decide_eq_true (by omega)
          have g9' : (z : Int) ≤ (b1 : Int) := by omega
          have c1 := hV.at z (by omega)
          have c0 := hV.at a (by omega)
          have f1 := hV.r.fz z
          have f0 := hV.r.fz a
          have lB := hV.r.lt
          have p0 : (0 : Int) ≤ (z : Int) := by omega
          have p1 : (z : Int) < n := by omega
          have q0 : (0 : Int) ≤ (a : Int) := by omega
          have q1 : (a : Int) < n := by omega
          have HB : Hid (z < n ∧ a < n) := ⟨by omega, by omega⟩
          have HZ : Hid _ := hz1
          clear hV hz1
          cases hm : lt d1[z]! d1[a]! with
          | true =>
            go_upto_region 3 with fail
            go_quiet ((refine Calls.mono (less_any _ _ _) ?_; intro e w3 hq; exact ⟨hq.1, _, hq.2.symm⟩))
            go_wp2
            all_goals try exact absurd (hm.symm.trans ‹lt d1[z]! d1[a]! = false›) (by simp)
            go_roundw
            case rel => exact ⟨z1, rfl, by have := HZ.out; omega, by rw [← HG.out, scanU_go hzj (by show lt d1[z]! d1[a]! = true; rw [hm]), HZ.out], by (focus (repeat first | with_reducible exact HV.out | with_reducible refine SW.drw ?_ | with_reducible refine SW.drwN ?_ _))⟩
            case measure => have := HZ.out; simp [intOf]; omega
          | false =>
            go_upto_region 3 with fail
            go_quiet ((refine Calls.mono (less_any _ _ _) ?_; intro e w3 hq; exact ⟨hq.1, _, hq.2.symm⟩))
            go_wp2
            all_goals try exact absurd (hm.symm.trans ‹lt d1[z]! d1[a]! = true›) (by simp)
            go_meet
            case rel => exact ⟨z, rfl, hz, by rw [← HG.out, scanU_stop (by show lt d1[z]! d1[a]! = false; rw [hm])], by (focus (repeat first | with_reducible exact HV.out | with_reducible refine SW.drw ?_ | with_reducible refine SW.drwN ?_ _))⟩
        · have g9 : decide ((z : Int) ≤ (b1 : Int)) = false := decide_eq_false (by omega)
          have g9' : ¬ (z : Int) ≤ (b1 : Int) := by omega
          clear hV
          go_upto_region 3 with fail
          go_quiet (fail)
          go_wp2
          go_meet
          case rel => exact ⟨z, rfl, hz, by rw [← HG.out, scanU_end hzj], by (focus (repeat first | with_reducible exact HV.out | with_reducible refine SW.drw ?_ | with_reducible refine SW.drwN ?_ _))⟩
    case rest =>
      obtain ⟨x, rfl, hx, hFx, hV⟩ := hcut
      have HFx : Hid _ := hFx
      have HVx : Hid _ := hV
      clear hV hFx
      go_upto_block 2 with fail
      refine wp_gen (fun w' => SW w0 w' B d1 n) (by (focus (repeat first | with_reducible exact HVx.out | with_reducible refine SW.drw ?_ | with_reducible refine SW.drwN ?_ _))) ?_
      intro U0 hU
      have HU0 : Hid _ := hU
      clear hU
      go_cut [11] from 46 to 62 (fun v wx => ∃ z : Nat, v = .int .i64 z ∧ (a ≤ z ∧ z ≤ b1) ∧ Sort.scanDown (fun x => !lt x d1[a]!) d1 x b1 = z ∧ SW w0 wx B d1 n)
      case first =>
        go_wp2
        go_loopw [11] (fun v wr => ∃ z : Nat, v = .int .i64 z ∧ (a ≤ z ∧ z ≤ b1) ∧ Sort.scanDown (fun x => !lt x d1[a]!) d1 x z = Sort.scanDown (fun x => !lt x d1[a]!) d1 x b1 ∧ SW w0 wr B d1 n) (fun v _ => (intOf v).toNat)
        case atStart => exact ⟨b1, rfl, ⟨by omega, by omega⟩, rfl, by (focus (repeat first | with_reducible exact HU0.out | with_reducible refine SW.drw ?_ | with_reducible refine SW.drwN ?_ _))⟩
        case round =>
          obtain ⟨z, rfl, hz, hG, hV⟩ := hrel
          have HV : Hid _ := hV
          have HG : Hid _ := hG
          clear hG
          by_cases hzj : x ≤ z
          · obtain ⟨z1, hz1⟩ : ∃ z1, z = z1 + 1 := ⟨z - 1, by omega⟩
            have t9 : IntKind.i64.wrap ((z : Int) - 1) = (z1 : Int) := wr_dec hz1 (by omega)
            have g9 : decide ((x : Int) ≤ (z : Int)) = true := decide_eq_true (by omega)
            have g9' : (x : Int) ≤ (z : Int) := by omega
            have c1 := hV.at z (by omega)
            have c0 := hV.at a (by omega)
            have f1 := hV.r.fz z
            have f0 := hV.r.fz a
            have lB := hV.r.lt
            have p0 : (0 : Int) ≤ (z : Int) := by omega
            have p1 : (z : Int) < n := by omega
            have q0 : (0 : Int) ≤ (a : Int) := by omega
            have q1 : (a : Int) < n := by omega
            have HB : Hid (z < n ∧ a < n) := ⟨by omega, by omega⟩
            have HZ : Hid _ := hz1
            clear hV hz1
            cases hm : lt d1[z]! d1[a]! with
            | false =>
              go_upto_region 5 with fail
              go_quiet ((refine Calls.mono (less_any _ _ _) ?_; intro e w3 hq; exact ⟨hq.1, _, hq.2.symm⟩))
              go_wp2
              all_goals try exact absurd (hm.symm.trans ‹lt d1[z]! d1[a]! = true›) (by simp)
              go_roundw
              case rel => exact ⟨z1, rfl, by have := HZ.out; omega, by rw [← HG.out, scanD_go HZ.out hzj (by show (!lt d1[z]! d1[a]!) = true; rw [hm]; rfl)], by (focus (repeat first | with_reducible exact HV.out | with_reducible refine SW.drw ?_ | with_reducible refine SW.drwN ?_ _))⟩
              case measure => have := HZ.out; simp [intOf]; omega
            | true =>
              go_upto_region 5 with fail
              go_quiet ((refine Calls.mono (less_any _ _ _) ?_; intro e w3 hq; exact ⟨hq.1, _, hq.2.symm⟩))
              go_wp2
              all_goals try exact absurd (hm.symm.trans ‹lt d1[z]! d1[a]! = false›) (by simp)
              go_meet
              case rel => exact ⟨z, rfl, hz, by rw [← HG.out, scanD_stop (by show (!lt d1[z]! d1[a]!) = false; rw [hm]; rfl)], by (focus (repeat first | with_reducible exact HV.out | with_reducible refine SW.drw ?_ | with_reducible refine SW.drwN ?_ _))⟩
          · have g9 : decide ((x : Int) ≤ (z : Int)) = false := decide_eq_false (by omega)
            have g9' : ¬ (x : Int) ≤ (z : Int) := by omega
            clear hV
            go_upto_region 5 with fail
            go_quiet (fail)
            go_wp2
            go_meet
            case rel => exact ⟨z, rfl, hz, by rw [← HG.out, scanD_end hzj], by (focus (repeat first | with_reducible exact HV.out | with_reducible refine SW.drw ?_ | with_reducible refine SW.drwN ?_ _))⟩
      case rest =>
        obtain ⟨y, rfl, hy, hFy, hV⟩ := hcut
        have HFy : Hid _ := hFy
        have HVy : Hid _ := hV
        clear hV hFy
        by_cases hxy : y < x
        · have g8x : decide ((y : Int) < (x : Int)) = true := decide_eq_true (by omega)
          have g8x' : (y : Int) < (x : Int) := by omega
          have E : Sort.partition lt d a b p = (y, true, Sort.swp d1 y a) := by
            rw [Sort.partition]
            dsimp only
            rw [HD1.out, HA.out.1, show b - 1 = b1 by rw [HA.out.2]; rfl, HFx.out, HFy.out, if_pos hxy]
          rw [HRR.out] at E
          subst E
          clear HRR
          go_upto_region 8 with fail
          refine wp_gen (fun w' => SW w0 w' B d1 n) (by (focus (repeat first | with_reducible exact HVy.out | with_reducible refine SW.drw ?_ | with_reducible refine SW.drwN ?_ _))) ?_
          intro HW0 hU
          have HU0 : Hid _ := hU
          go_cut [] from 66 to 79 (fun wx => SW w0 wx B (Sort.swp d1 y a) n)
          case first =>
            have c1 := hU.at y (by omega)
            have c0 := hU.at a (by omega)
            have f1 := hU.r.fz y
            have f0 := hU.r.fz a
            have lB := hU.r.lt
            have p0 : (0 : Int) ≤ (y : Int) := by omega
            have p1 : (y : Int) < n := by omega
            have q0 : (0 : Int) ≤ (a : Int) := by omega
            have q1 : (a : Int) < n := by omega
            have HB : Hid (y < n ∧ a < n) := ⟨by omega, by omega⟩
            clear hU
            by_cases hxy : y = a
            · subst hxy
              clear c0 f0 q0 q1
              go_region
              go_wp2
              go_meet
              case rel => exact by (focus (repeat first | with_reducible exact HU0.out.swp y y HB.out.1 HB.out.2 | with_reducible exact (HU0.out.drwN _).swp y y HB.out.1 HB.out.2 | with_reducible refine SW.drw ?_ | with_reducible refine SW.drwN ?_ _))
            · have nx : ¬ a = y := fun h => hxy h.symm
              go_region
              go_wp2
              go_meet
              case rel => exact by (focus (repeat first | with_reducible exact HU0.out.swp y a HB.out.1 HB.out.2 | with_reducible exact (HU0.out.drwN _).swp y a HB.out.1 HB.out.2 | with_reducible refine SW.drw ?_ | with_reducible refine SW.drwN ?_ _))
          case rest =>
            have HW : Hid _ := hcut
            clear hcut hU
            go_wp2
            go_ret2
            exact ⟨rfl, by (focus (repeat first | with_reducible exact HW.out | with_reducible refine SW.drw ?_ | with_reducible refine SW.drwN ?_ _)), by (try dsimp only); omega⟩
        · have g8x : decide ((y : Int) < (x : Int)) = false := decide_eq_false (by omega)
          have g8x' : ¬ (y : Int) < (x : Int) := by omega
          obtain ⟨x1, hx1⟩ : ∃ x1, x + 1 = x1 := ⟨_, rfl⟩
          obtain ⟨y1, hy1⟩ : ∃ y1, y = y1 + 1 := ⟨y - 1, by omega⟩
          have t5x : IntKind.i64.wrap ((x : Int) + 1) = (x1 : Int) := wr_one hx1 (by omega)
          have t6x : IntKind.i64.wrap ((y : Int) - 1) = (y1 : Int) := wr_dec hy1 (by omega)
          have HXY : Hid _ := And.intro hx1 hy1
          clear hx1 hy1
          obtain ⟨R', hR'⟩ : ∃ R', Sort.partLoop lt a x1 y1 (Sort.swp d1 x y) = R' := ⟨_, rfl⟩
          have E : Sort.partition lt d a b p = (R'.1, false, Sort.swp R'.2 R'.1 a) := by
            rw [Sort.partition]
            dsimp only
            rw [HD1.out, HA.out.1, show b - 1 = b1 by rw [HA.out.2]; rfl, HFx.out, HFy.out, if_neg hxy, HXY.out.1, show y - 1 = y1 by rw [HXY.out.2]; rfl, hR']
          rw [HRR.out] at E
          subst E
          have HR' : Hid _ := hR'
          have HI : Hid (a < x1 ∧ x1 ≤ b ∧ a ≤ y1 ∧ y1 < b) := (by have := HXY.out; omega : a < x1 ∧ x1 ≤ b ∧ a ≤ y1 ∧ y1 < b)
          clear HRR hR'
          go_upto_region 10 with fail
          refine wp_gen (fun w' => SW w0 w' B d1 n) (by (focus (repeat first | with_reducible exact HVy.out | with_reducible refine SW.drw ?_ | with_reducible refine SW.drwN ?_ _))) ?_
          intro HW0 hU
          have HU0 : Hid _ := hU
          go_cut [] from 81 to 94 (fun wx => SW w0 wx B (Sort.swp d1 x y) n)
          case first =>
            have c1 := hU.at x (by omega)
            have c0 := hU.at y (by omega)
            have f1 := hU.r.fz x
            have f0 := hU.r.fz y
            have lB := hU.r.lt
            have p0 : (0 : Int) ≤ (x : Int) := by omega
            have p1 : (x : Int) < n := by omega
            have q0 : (0 : Int) ≤ (y : Int) := by omega
            have q1 : (y : Int) < n := by omega
            have HB : Hid (x < n ∧ y < n) := ⟨by omega, by omega⟩
            clear hU
            by_cases hxy : x = y
            · subst hxy
              clear c0 f0 q0 q1
              go_region
              go_wp2
              go_meet
              case rel => exact by (focus (repeat first | with_reducible exact HU0.out.swp x x HB.out.1 HB.out.2 | with_reducible exact (HU0.out.drwN _).swp x x HB.out.1 HB.out.2 | with_reducible refine SW.drw ?_ | with_reducible refine SW.drwN ?_ _))
            · have nx : ¬ y = x := fun h => hxy h.symm
              go_region
              go_wp2
              go_meet
              case rel => exact by (focus (repeat first | with_reducible exact HU0.out.swp x y HB.out.1 HB.out.2 | with_reducible exact (HU0.out.drwN _).swp x y HB.out.1 HB.out.2 | with_reducible refine SW.drw ?_ | with_reducible refine SW.drwN ?_ _))
          case rest =>
            have HW : Hid _ := hcut
            clear hcut hU
            go_wp2
            go_loopw [10, 11] (fun u v wr => ∃ (i j : Nat) (d' : Array Nat), u = .int .i64 i ∧ v = .int .i64 j ∧ a < i ∧ i ≤ b ∧ a ≤ j ∧ j < b ∧ SW w0 wr B d' n ∧ Sort.partLoop lt a i j d' = R') (fun u v _ => (intOf v + 1 - intOf u).toNat)
            case atStart => exact ⟨x1, y1, Sort.swp d1 x y, rfl, rfl, HI.out.1, HI.out.2.1, HI.out.2.2.1, HI.out.2.2.2, by (focus (repeat first | with_reducible exact HW.out | with_reducible refine SW.drw ?_ | with_reducible refine SW.drwN ?_ _)), HR'.out⟩
            case round =>
              clear hia hib hja hjb
              obtain ⟨i, j, d2, rfl, rfl, hia, hib, hja, hjb, hS, hE⟩ := hrel
              have HS : Hid _ := hS
              have HE : Hid _ := hE
              clear hS hE HR' hx hy hxy HXY t5x t6x g8x g8x' HI
              go_upto_block 6 with fail
              refine wp_gen (fun w' => SW w0 w' B d2 n) (by (focus (repeat first | with_reducible exact HS.out | with_reducible refine SW.drw ?_ | with_reducible refine SW.drwN ?_ _))) ?_
              intro U0 hU
              have HU0 : Hid _ := hU
              clear hU
              go_cut [10] from 99 to 114 (fun v wx => ∃ z : Nat, v = .int .i64 z ∧ (i ≤ z ∧ z ≤ b) ∧ Sort.scanUp (fun x => lt x d2[a]!) d2 j i = z ∧ SW w0 wx B d2 n)
              case first =>
                go_wp2
                go_loopw [10] (fun v wr => ∃ z : Nat, v = .int .i64 z ∧ (i ≤ z ∧ z ≤ b) ∧ Sort.scanUp (fun x => lt x d2[a]!) d2 j z = Sort.scanUp (fun x => lt x d2[a]!) d2 j i ∧ SW w0 wr B d2 n) (fun v _ => b - (intOf v).toNat)
                case atStart => exact ⟨i, rfl, ⟨by omega, by omega⟩, rfl, by (focus (repeat first | with_reducible exact HU0.out | with_reducible refine SW.drw ?_ | with_reducible refine SW.drwN ?_ _))⟩
                case round =>
                  obtain ⟨z, rfl, hz, hG, hV⟩ := hrel
                  have HV : Hid _ := hV
                  have HG : Hid _ := hG
                  clear hG
                  by_cases hzj : z ≤ j
                  · obtain ⟨z1, hz1⟩ : ∃ z1, z + 1 = z1 := ⟨_, rfl⟩
                    have t9 : IntKind.i64.wrap ((z : Int) + 1) = (z1 : Int) := wr_one hz1 (by omega)
                    have g9 : decide ((z : Int) ≤ (j : Int)) = true := decide_eq_true (by omega)
                    have g9' : (z : Int) ≤ (j : Int) := by omega
                    have c1 := hV.at z (by omega)
                    have c0 := hV.at a (by omega)
                    have f1 := hV.r.fz z
                    have f0 := hV.r.fz a
                    have lB := hV.r.lt
                    have p0 : (0 : Int) ≤ (z : Int) := by omega
                    have p1 : (z : Int) < n := by omega
                    have q0 : (0 : Int) ≤ (a : Int) := by omega
                    have q1 : (a : Int) < n := by omega
                    have HB : Hid (z < n ∧ a < n) := ⟨by omega, by omega⟩
                    have HZ : Hid _ := hz1
                    clear hV hz1
                    cases hm : lt d2[z]! d2[a]! with
                    | true =>
                      go_upto_region 13 with fail
                      go_quiet ((refine Calls.mono (less_any _ _ _) ?_; intro e w3 hq; exact ⟨hq.1, _, hq.2.symm⟩))
                      go_wp2
                      all_goals try exact absurd (hm.symm.trans ‹lt d2[z]! d2[a]! = false›) (by simp)
                      go_roundw
                      case rel => exact ⟨z1, rfl, by have := HZ.out; omega, by rw [← HG.out, scanU_go hzj (by show lt d2[z]! d2[a]! = true; rw [hm]), HZ.out], by (focus (repeat first | with_reducible exact HV.out | with_reducible refine SW.drw ?_ | with_reducible refine SW.drwN ?_ _))⟩
                      case measure => have := HZ.out; simp [intOf]; omega
                    | false =>
                      go_upto_region 13 with fail
                      go_quiet ((refine Calls.mono (less_any _ _ _) ?_; intro e w3 hq; exact ⟨hq.1, _, hq.2.symm⟩))
                      go_wp2
                      all_goals try exact absurd (hm.symm.trans ‹lt d2[z]! d2[a]! = true›) (by simp)
                      go_meet
                      case rel => exact ⟨z, rfl, hz, by rw [← HG.out, scanU_stop (by show lt d2[z]! d2[a]! = false; rw [hm])], by (focus (repeat first | with_reducible exact HV.out | with_reducible refine SW.drw ?_ | with_reducible refine SW.drwN ?_ _))⟩
                  · have g9 : decide ((z : Int) ≤ (j : Int)) = false := decide_eq_false (by omega)
                    have g9' : ¬ (z : Int) ≤ (j : Int) := by omega
                    clear hV
                    go_upto_region 13 with fail
                    go_quiet (fail)
                    go_wp2
                    go_meet
                    case rel => exact ⟨z, rfl, hz, by rw [← HG.out, scanU_end hzj], by (focus (repeat first | with_reducible exact HV.out | with_reducible refine SW.drw ?_ | with_reducible refine SW.drwN ?_ _))⟩
              case rest =>
                obtain ⟨x2, rfl, hx2, hFx2, hV⟩ := hcut
                have HFx2 : Hid _ := hFx2
                have HVx2 : Hid _ := hV
                clear hV hFx2
                go_upto_block 8 with fail
                refine wp_gen (fun w' => SW w0 w' B d2 n) (by (focus (repeat first | with_reducible exact HVx2.out | with_reducible refine SW.drw ?_ | with_reducible refine SW.drwN ?_ _))) ?_
                intro U0 hU
                have HU0 : Hid _ := hU
                clear hU
                go_cut [11] from 115 to 131 (fun v wx => ∃ z : Nat, v = .int .i64 z ∧ (a ≤ z ∧ z ≤ j) ∧ Sort.scanDown (fun x => !lt x d2[a]!) d2 x2 j = z ∧ SW w0 wx B d2 n)
                case first =>
                  go_wp2
                  go_loopw [11] (fun v wr => ∃ z : Nat, v = .int .i64 z ∧ (a ≤ z ∧ z ≤ j) ∧ Sort.scanDown (fun x => !lt x d2[a]!) d2 x2 z = Sort.scanDown (fun x => !lt x d2[a]!) d2 x2 j ∧ SW w0 wr B d2 n) (fun v _ => (intOf v).toNat)
                  case atStart => exact ⟨j, rfl, ⟨by omega, by omega⟩, rfl, by (focus (repeat first | with_reducible exact HU0.out | with_reducible refine SW.drw ?_ | with_reducible refine SW.drwN ?_ _))⟩
                  case round =>
                    obtain ⟨z, rfl, hz, hG, hV⟩ := hrel
                    have HV : Hid _ := hV
                    have HG : Hid _ := hG
                    clear hG
                    by_cases hzj : x2 ≤ z
                    · obtain ⟨z1, hz1⟩ : ∃ z1, z = z1 + 1 := ⟨z - 1, by omega⟩
                      have t9 : IntKind.i64.wrap ((z : Int) - 1) = (z1 : Int) := wr_dec hz1 (by omega)
                      have g9 : decide ((x2 : Int) ≤ (z : Int)) = true := decide_eq_true (by omega)
                      have g9' : (x2 : Int) ≤ (z : Int) := by omega
                      have c1 := hV.at z (by omega)
                      have c0 := hV.at a (by omega)
                      have f1 := hV.r.fz z
                      have f0 := hV.r.fz a
                      have lB := hV.r.lt
                      have p0 : (0 : Int) ≤ (z : Int) := by omega
                      have p1 : (z : Int) < n := by omega
                      have q0 : (0 : Int) ≤ (a : Int) := by omega
                      have q1 : (a : Int) < n := by omega
                      have HB : Hid (z < n ∧ a < n) := ⟨by omega, by omega⟩
                      have HZ : Hid _ := hz1
                      clear hV hz1
                      cases hm : lt d2[z]! d2[a]! with
                      | false =>
                        go_upto_region 15 with fail
                        go_quiet ((refine Calls.mono (less_any _ _ _) ?_; intro e w3 hq; exact ⟨hq.1, _, hq.2.symm⟩))
                        go_wp2
                        all_goals try exact absurd (hm.symm.trans ‹lt d2[z]! d2[a]! = true›) (by simp)
                        go_roundw
                        case rel => exact ⟨z1, rfl, by have := HZ.out; omega, by rw [← HG.out, scanD_go HZ.out hzj (by show (!lt d2[z]! d2[a]!) = true; rw [hm]; rfl)], by (focus (repeat first | with_reducible exact HV.out | with_reducible refine SW.drw ?_ | with_reducible refine SW.drwN ?_ _))⟩
                        case measure => have := HZ.out; simp [intOf]; omega
                      | true =>
                        go_upto_region 15 with fail
                        go_quiet ((refine Calls.mono (less_any _ _ _) ?_; intro e w3 hq; exact ⟨hq.1, _, hq.2.symm⟩))
                        go_wp2
                        all_goals try exact absurd (hm.symm.trans ‹lt d2[z]! d2[a]! = false›) (by simp)
                        go_meet
                        case rel => exact ⟨z, rfl, hz, by rw [← HG.out, scanD_stop (by show (!lt d2[z]! d2[a]!) = false; rw [hm]; rfl)], by (focus (repeat first | with_reducible exact HV.out | with_reducible refine SW.drw ?_ | with_reducible refine SW.drwN ?_ _))⟩
                    · have g9 : decide ((x2 : Int) ≤ (z : Int)) = false := decide_eq_false (by omega)
                      have g9' : ¬ (x2 : Int) ≤ (z : Int) := by omega
                      clear hV
                      go_upto_region 15 with fail
                      go_quiet (fail)
                      go_wp2
                      go_meet
                      case rel => exact ⟨z, rfl, hz, by rw [← HG.out, scanD_end hzj], by (focus (repeat first | with_reducible exact HV.out | with_reducible refine SW.drw ?_ | with_reducible refine SW.drwN ?_ _))⟩
                case rest =>
                  obtain ⟨y2, rfl, hy2, hFy2, hV⟩ := hcut
                  have HFy2 : Hid _ := hFy2
                  have HVy2 : Hid _ := hV
                  clear hV hFy2
                  by_cases hxy : y2 < x2
                  · have g8x2 : decide ((y2 : Int) < (x2 : Int)) = true := decide_eq_true (by omega)
                    have g8x2' : (y2 : Int) < (x2 : Int) := by omega
                    have E : R' = (y2, d2) := by rw [← HE.out, par_step HFx2.out HFy2.out, if_pos hxy]
                    subst E
                    go_upto_region 21 with fail
                    refine wp_gen (fun w' => SW w0 w' B d2 n) (by (focus (repeat first | with_reducible exact HVy2.out | with_reducible refine SW.drw ?_ | with_reducible refine SW.drwN ?_ _))) ?_
                    intro HW20 hU
                    have HU0 : Hid _ := hU
                    go_cut [] from 153 to 166 (fun wx => SW w0 wx B (Sort.swp d2 y2 a) n)
                    case first =>
                      have c1 := hU.at y2 (by omega)
                      have c0 := hU.at a (by omega)
                      have f1 := hU.r.fz y2
                      have f0 := hU.r.fz a
                      have lB := hU.r.lt
                      have p0 : (0 : Int) ≤ (y2 : Int) := by omega
                      have p1 : (y2 : Int) < n := by omega
                      have q0 : (0 : Int) ≤ (a : Int) := by omega
                      have q1 : (a : Int) < n := by omega
                      have HB : Hid (y2 < n ∧ a < n) := ⟨by omega, by omega⟩
                      clear hU
                      by_cases hxy : y2 = a
                      · subst hxy
                        clear c0 f0 q0 q1
                        go_region
                        go_wp2
                        go_meet
                        case rel => exact by (focus (repeat first | with_reducible exact HU0.out.swp y2 y2 HB.out.1 HB.out.2 | with_reducible exact (HU0.out.drwN _).swp y2 y2 HB.out.1 HB.out.2 | with_reducible refine SW.drw ?_ | with_reducible refine SW.drwN ?_ _))
                      · have nx : ¬ a = y2 := fun h => hxy h.symm
                        go_region
                        go_wp2
                        go_meet
                        case rel => exact by (focus (repeat first | with_reducible exact HU0.out.swp y2 a HB.out.1 HB.out.2 | with_reducible exact (HU0.out.drwN _).swp y2 a HB.out.1 HB.out.2 | with_reducible refine SW.drw ?_ | with_reducible refine SW.drwN ?_ _))
                    case rest =>
                      have HW2 : Hid _ := hcut
                      clear hcut hU
                      go_wp2
                      go_ret2
                      exact ⟨rfl, by (focus (repeat first | with_reducible exact HW2.out | with_reducible refine SW.drw ?_ | with_reducible refine SW.drwN ?_ _)), by (try dsimp only); omega⟩
                  · have g8x2 : decide ((y2 : Int) < (x2 : Int)) = false := decide_eq_false (by omega)
                    have g8x2' : ¬ (y2 : Int) < (x2 : Int) := by omega
                    obtain ⟨x3, hx1⟩ : ∃ x3, x2 + 1 = x3 := ⟨_, rfl⟩
                    obtain ⟨y3, hy1⟩ : ∃ y3, y2 = y3 + 1 := ⟨y2 - 1, by omega⟩
                    have t5x2 : IntKind.i64.wrap ((x2 : Int) + 1) = (x3 : Int) := wr_one hx1 (by omega)
                    have t6x2 : IntKind.i64.wrap ((y2 : Int) - 1) = (y3 : Int) := wr_dec hy1 (by omega)
                    have HXY2 : Hid _ := And.intro hx1 hy1
                    clear hx1 hy1
                    go_upto_region 18 with fail
                    refine wp_gen (fun w' => SW w0 w' B d2 n) (by (focus (repeat first | with_reducible exact HVy2.out | with_reducible refine SW.drw ?_ | with_reducible refine SW.drwN ?_ _))) ?_
                    intro HW20 hU
                    have HU0 : Hid _ := hU
                    go_cut [] from 135 to 148 (fun wx => SW w0 wx B (Sort.swp d2 x2 y2) n)
                    case first =>
                      have c1 := hU.at x2 (by omega)
                      have c0 := hU.at y2 (by omega)
                      have f1 := hU.r.fz x2
                      have f0 := hU.r.fz y2
                      have lB := hU.r.lt
                      have p0 : (0 : Int) ≤ (x2 : Int) := by omega
                      have p1 : (x2 : Int) < n := by omega
                      have q0 : (0 : Int) ≤ (y2 : Int) := by omega
                      have q1 : (y2 : Int) < n := by omega
                      have HB : Hid (x2 < n ∧ y2 < n) := ⟨by omega, by omega⟩
                      clear hU
                      by_cases hxy : x2 = y2
                      · subst hxy
                        clear c0 f0 q0 q1
                        go_region
                        go_wp2
                        go_meet
                        case rel => exact by (focus (repeat first | with_reducible exact HU0.out.swp x2 x2 HB.out.1 HB.out.2 | with_reducible exact (HU0.out.drwN _).swp x2 x2 HB.out.1 HB.out.2 | with_reducible refine SW.drw ?_ | with_reducible refine SW.drwN ?_ _))
                      · have nx : ¬ y2 = x2 := fun h => hxy h.symm
                        go_region
                        go_wp2
                        go_meet
                        case rel => exact by (focus (repeat first | with_reducible exact HU0.out.swp x2 y2 HB.out.1 HB.out.2 | with_reducible exact (HU0.out.drwN _).swp x2 y2 HB.out.1 HB.out.2 | with_reducible refine SW.drw ?_ | with_reducible refine SW.drwN ?_ _))
                    case rest =>
                      have HW2 : Hid _ := hcut
                      clear hcut hU
                      go_wp2
                      go_roundw
                      case rel => exact ⟨x3, y3, Sort.swp d2 x2 y2, rfl, rfl, by have := HXY2.out; omega, by have := HXY2.out; omega, by have := HXY2.out; omega, by have := HXY2.out; omega, by (focus (repeat first | with_reducible exact HW2.out | with_reducible refine SW.drw ?_ | with_reducible refine SW.drwN ?_ _)), by rw [← HE.out, par_step HFx2.out HFy2.out, if_neg hxy, if_pos (by omega), HXY2.out.1, show y2 - 1 = y3 by rw [HXY2.out.2]; rfl]⟩
                      case measure => have := HXY2.out; simp [intOf]; omega
end Go.Proofs.Ytgkkghphlbgcoaa.So
