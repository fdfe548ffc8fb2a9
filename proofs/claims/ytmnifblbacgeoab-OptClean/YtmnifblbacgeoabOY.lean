import Derived.Test.YtmnifblbacgeoabOX
import Derived.Test.YtmnifblbacgeoabOU
import Derived.Deep.CutRange
namespace Go.Proofs.Ytmnifblbacgeoab
open Go.RowKit
open Go.Maps
set_option maxRecDepth 100000
set_option linter.unusedVariables false
set_option linter.unusedSimpArgs false

def alB (h : Nat → ON) (o : ON) : Nat → Bool
  | 0 => isP o.kd && decide (¬ o.kd = 1)
  | q + 1 => alB h o q && decide ((h (arg o q)).kd = 1)
/-- Rules 2 and 3 of one operation. -/
structure FoOk (h : Nat → ON) (o : ON) : Prop where
  f1 : 0 < tkN o.kd → (h o.a).kd = 1 → o.kd ≠ 6 ∧ o.kd ≠ 12 ∧ o.kd ≠ 13
  f2 : alB h o (tkN o.kd) = false
theorem LW.below {w W W' : World} {b off n : Nat} {h : Nat → ON} (x : LW w W b off n h) (k : Below W.heap.size W W') : LW w W' b off n h := ⟨x.ops, x.lb, x.bel.trans (k.mono x.bel.size)⟩
structure FQ (w W : World) (b off n : Nat) (h : Nat → ON) (X : Nat) (o : ON) : Prop where
  l : LW w W b off n h
  bx : W.heap[X]? = some (.cells #[.int .i64 o.kd, .int .i64 o.w, .int .i64 o.a, .int .i64 o.b, .int .i64 o.c, .int .u32 o.k, .int .i64 o.n] 67)
theorem FQ.below {w W W' : World} {b off n : Nat} {h : Nat → ON} {X : Nat} {o : ON} (x : FQ w W b off n h X o) (k : Below W.heap.size W W') : FQ w W' b off n h X o := ⟨x.l.below k, (k.block _ (row_lt x.bx)).trans x.bx⟩
set_option maxHeartbeats 16000000 in
theorem folded_any (n cap b off : Nat) (h : Nat → ON) (w : World) (hO : OpsR w (some ⟨b, off, none⟩) n (fun i => rO (h i))) (lb : b < w.heap.size) (n1 : 0 < n) (hn : n ≤ 2048) (hk : ∀ i, i < n → 1 ≤ (h i).kd ∧ (h i).kd ≤ 17) (ht : ∀ i, i < n → ∀ q, q < tkN (h i).kd → arg (h i) q < n) (hf : ∀ i, i < n → FoOk h (h i)) :
    Calls Try.prog 21 #[.slice (some ⟨b, off, none⟩) n cap] w fun e w' => e = .returned (.bool true) ∧ Below w.heap.size w w' := by
  have HV : Hid (LW w w b off n h) := ⟨hO, lb, Below.refl _ _⟩
  have HLB : Hid (b < w.heap.size) := lb
  have HK : Hid (∀ i, i < n → 1 ≤ (h i).kd ∧ (h i).kd ≤ 17) := hk
  have HT : Hid (∀ i, i < n → ∀ q, q < tkN (h i).kd → arg (h i) q < n) := ht
  have HF : Hid (∀ i, i < n → FoOk h (h i)) := hf
  have ni : (n : Int) ≤ 2048 := by omega
  have ni0 : (0 : Int) ≤ (n : Int) := by omega
  clear hO hk ht hf lb
  go_enter Try.func21, Try.ntmps21
  go_wp2
  go_loopw [11] (fun i' wr => ∃ j : Nat, i' = .int .i64 j ∧ j ≤ n ∧ LW w wr b off n h) (fun i _ => n - (intOf i).toNat)
  case atStart => exact ⟨0, rfl, by omega, HV.out⟩
  case round =>
    obtain ⟨j, rfl, hj, hS⟩ := hrel
    have HS : Hid _ := hS
    have HJ : Hid (j ≤ n) := hj
    clear hS HV
    by_cases hlt : j < n
    · have hji : (j : Int) < (n : Int) := by omega
      have dj : decide ((j : Int) < (n : Int)) = true := decide_eq_true hji
      have j0 : (0 : Int) ≤ (j : Int) := by omega
      have HLT : Hid (j < n) := hlt
      have hop := HS.out.at_ j hlt
      have m0 : wr.cell? ⟨b, off + j * 7, none⟩ = some (.int .i64 (h j).kd) := hop.c0
      have m1 : wr.cell? ⟨b, off + j * 7 + 1, none⟩ = some (.int .i64 (h j).w) := hop.c1
      have m2 : wr.cell? ⟨b, off + j * 7 + 2, none⟩ = some (.int .i64 (h j).a) := hop.c2
      have m3 : wr.cell? ⟨b, off + j * 7 + 3, none⟩ = some (.int .i64 (h j).b) := hop.c3
      have m4 : wr.cell? ⟨b, off + j * 7 + 4, none⟩ = some (.int .i64 (h j).c) := hop.c4
      have m5 : wr.cell? ⟨b, off + j * 7 + 5, none⟩ = some (.int .u32 (h j).k) := hop.c5
      have m6 : wr.cell? ⟨b, off + j * 7 + 6, none⟩ = some (.int .i64 (h j).n) := hop.c6
      have lbW : b < wr.heap.size := Nat.lt_of_lt_of_le HLB.out HS.out.bel.size
      have HA : Hid (FQ w _ b off n h wr.heap.size (h j)) := ⟨HS.out.below ((Below.refl wr.heap.size wr).alloc (Nat.le_refl _) (.cells #[.int .i64 (h j).kd, .int .i64 (h j).w, .int .i64 (h j).a, .int .i64 (h j).b, .int .i64 (h j).c, .int .u32 (h j).k, .int .i64 (h j).n] 67)), heap_alloc_last _ _⟩
      have HK1 : Hid (1 ≤ (h j).kd ∧ (h j).kd ≤ 17) := HK.out j hlt
      obtain ⟨t, HTN⟩ : ∃ t, Hid (tkN (h j).kd = t) := ⟨_, rfl⟩
      have HT3 : Hid (t ≤ 3) := HTN.out ▸ (tkN_le (h j).kd).1
      have t3 : (t : Int) ≤ 3 := by have := HT3.out; omega
      have t0 : (0 : Int) ≤ (t : Int) := by omega
      have HFO : Hid (FoOk h (h j)) := HF.out j hlt
      clear hop hlt
      go_upto_region 4 with fail
      obtain ⟨Bn, HBn⟩ : ∃ Bn, Hid (wr.heap.size = Bn) := ⟨_, rfl⟩
      refine wp_gen (fun W' => FQ w W' b off n h Bn (h j)) (HBn.out ▸ HA.out) ?_
      rw [HBn.out]
      clear m0 m1 m2 m3 m4 m5 m6 lbW HA HS HBn
      intro U hU
      have HU : Hid _ := hU
      have lbU : b < U.heap.size := Nat.lt_of_lt_of_le HLB.out hU.l.bel.size
      have kl := row_lt hU.bx
      have k0 := row_cell hU.bx 0
      have k1 := row_cell hU.bx 1
      have k2 := row_cell hU.bx 2
      have k3 := row_cell hU.bx 3
      have k4 := row_cell hU.bx 4
      have k5 := row_cell hU.bx 5
      have k6 := row_cell hU.bx 6
      clear hU
      go_cut [5] from 15 to 69 (fun x wx => x = .bool (decide (0 < t) && decide ((h (h j).a).kd = 1)) ∧ FQ w wx b off n h Bn (h j))
      case first =>
        have ARM : True := trivial
        by_cases ht0 : t = 0
        · have HFB : Hid ((decide (0 < t) && decide ((h (h j).a).kd = 1)) = false) := show _ = _ by rw [decide_eq_false (by omega : ¬ 0 < t)]; rfl
          have dt : decide ((0 : Int) < (t : Int)) = false := decide_eq_false (by omega)
          have it : ¬ (0 : Int) < (t : Int) := by omega
          clear ht0
          go_wp2_with (go_at_call 65; refine (tks_any (h j) _ HK1.out.1 HK1.out.2).mono ?_; rintro e w1 ⟨p1, cp1, rfl, hp, h1⟩; have H1 : Hid _ := HU.out.below h1; rw [HTN.out]; clear hp h1)
          go_meet
          case rel => exact ⟨by rw [HFB.out], H1.out⟩
        · have dt : decide ((0 : Int) < (t : Int)) = true := decide_eq_true (by omega)
          have it : (0 : Int) < (t : Int) := by omega
          have HAN : Hid ((h j).a < n) := HT.out j HLT.out 0 (by rw [HTN.out]; omega)
          have a0 : (0 : Int) ≤ ((h j).a : Int) := by omega
          have a1 : ((h j).a : Int) < (n : Int) := Int.ofNat_lt.2 HAN.out
          have HDT : Hid (decide (0 < t) = true) := decide_eq_true (by omega)
          obtain ⟨ka, HKA⟩ : ∃ ka, Hid ((h (h j).a).kd = ka) := ⟨_, rfl⟩
          clear ht0
          by_cases hk1 : ka = 1
          · subst hk1
            go_wp2_with (go_at_call 65; refine (tks_any (h j) _ HK1.out.1 HK1.out.2).mono ?_; rintro e w1 ⟨p1, cp1, rfl, hp, h1⟩; have H1 : Hid _ := HU.out.below h1; rw [HTN.out]; have lb1 : b < w1.heap.size := Nat.lt_of_lt_of_le lbU h1.size; have kl1 := row_lt H1.out.bx; have n2 := row_cell H1.out.bx 2; have ca : w1.cell? ⟨b, off + (h j).a * 7, none⟩ = some (.int .i64 1) := ((H1.out.l.at_ _ HAN.out).c0).trans (by show some (Value.int .i64 ((h (h j).a).kd : Int)) = _; rw [HKA.out]; rfl); clear hp h1)
            go_meet
            case rel => exact ⟨by rw [HDT.out, decide_eq_true HKA.out]; rfl, H1.out⟩
          · have i1 : ¬ (ka : Int) = 1 := by omega
            have d1 : ((ka : Int) == 1) = false := by simpa using i1
            have HK0 : Hid (decide ((h (h j).a).kd = 1) = false) := decide_eq_false (by rw [HKA.out]; exact hk1)
            clear hk1
            go_wp2_with (go_at_call 65; refine (tks_any (h j) _ HK1.out.1 HK1.out.2).mono ?_; rintro e w1 ⟨p1, cp1, rfl, hp, h1⟩; have H1 : Hid _ := HU.out.below h1; rw [HTN.out]; have lb1 : b < w1.heap.size := Nat.lt_of_lt_of_le lbU h1.size; have kl1 := row_lt H1.out.bx; have n2 := row_cell H1.out.bx 2; have ca : w1.cell? ⟨b, off + (h j).a * 7, none⟩ = some (.int .i64 ka) := ((H1.out.l.at_ _ HAN.out).c0).trans (by show some (Value.int .i64 ((h (h j).a).kd : Int)) = _; rw [HKA.out]); clear hp h1)
            go_meet
            case rel => exact ⟨by rw [HDT.out, HK0.out]; rfl, H1.out⟩
      case rest =>
        obtain ⟨rfl, hC⟩ := hcut
        clear HU k0 k1 k2 k3 k4 k5 k6 kl lbU
        have HC : Hid _ := hC
        have kl := row_lt hC.bx
        have k0 := row_cell hC.bx 0
        have k1 := row_cell hC.bx 1
        have k2 := row_cell hC.bx 2
        have k3 := row_cell hC.bx 3
        have k4 := row_cell hC.bx 4
        have k5 := row_cell hC.bx 5
        have k6 := row_cell hC.bx 6
        clear hC
        obtain ⟨F, HFF⟩ : ∃ F, Hid ((decide (0 < t) && decide ((h (h j).a).kd = 1)) = F) := ⟨_, rfl⟩
        rw [HFF.out]
        cases F with
        | false =>
          go_upto_region 7 with fail
          go_cut [6] from 44 to 69 (fun x wx => x = .bool (alB h (h j) 0) ∧ FQ w wx b off n h Bn (h j))
          case first =>
            obtain ⟨P, HP⟩ : ∃ P, Hid (isP (h j).kd = P) := ⟨_, rfl⟩
            cases P with
            | false =>
              have HA0 : Hid (alB h (h j) 0 = false) := show (isP (h j).kd && _) = false by rw [HP.out]; rfl
              go_wp2_with (go_at_call 67; refine (pure_any (h j).kd _).mono ?_; rintro e w3 ⟨rfl, rfl⟩; rw [HP.out])
              go_meet
              case rel => exact ⟨by rw [HA0.out], HC.out⟩
            | true =>
              by_cases h1 : (h j).kd = 1
              · have HA0 : Hid (alB h (h j) 0 = false) := show (isP (h j).kd && decide _) = false by rw [HP.out, decide_eq_false (fun q => q h1)]; rfl
                rw [h1] at k0
                clear h1
                go_wp2_with (go_at_call 67; refine (pure_any 1 _).mono ?_; rintro e w3 ⟨rfl, rfl⟩)
                go_meet
                case rel => exact ⟨by rw [HA0.out], HC.out⟩
              · have HA0 : Hid (alB h (h j) 0 = true) := show (isP (h j).kd && decide _) = true by rw [HP.out, decide_eq_true h1]; rfl
                have i1 : ¬ ((h j).kd : Int) = 1 := by omega
                have d1 : (((h j).kd : Int) == 1) = false := by simpa using i1
                clear h1
                go_wp2_with (go_at_call 67; refine (pure_any (h j).kd _).mono ?_; rintro e w3 ⟨rfl, rfl⟩; rw [HP.out])
                go_meet
                case rel => exact ⟨by rw [HA0.out]; first | rfl | simp [bne, d1], HC.out⟩
          case rest =>
            obtain ⟨rfl, hC7⟩ := hcut
            clear HC k0 k1 k2 k3 k4 k5 k6 kl
            have HC7 : Hid _ := hC7
            have kl := row_lt hC7.bx
            have k0 := row_cell hC7.bx 0
            have k1 := row_cell hC7.bx 1
            have k2 := row_cell hC7.bx 2
            have k3 := row_cell hC7.bx 3
            have k4 := row_cell hC7.bx 4
            have k5 := row_cell hC7.bx 5
            have k6 := row_cell hC7.bx 6
            clear hC7
            obtain ⟨A0, HA0⟩ : ∃ A, Hid (alB h (h j) 0 = A) := ⟨_, rfl⟩
            rw [HA0.out]
            go_wp2_with (go_at_call 65; refine (tks_any (h j) _ HK1.out.1 HK1.out.2).mono ?_; rintro e w2 ⟨p2, cp2, rfl, hp, h2⟩; have H2 : Hid _ := HC7.out.l.below h2; have HTW : Hid (TW w2 p2 (h j) Bn) := ⟨fun q => (by obtain ⟨H, e1, e2, e3⟩ := hp q; exact ⟨H, e1, Nat.le_trans (Nat.le_of_lt (row_lt HC7.out.bx)) e2, e3⟩)⟩; rw [HTN.out]; clear hp h2)
            go_loopw [6, 55] (fun a6 i' W => ∃ q : Nat, i' = .int .i64 q ∧ q ≤ t ∧ a6 = .bool (alB h (h j) q) ∧ LW w W b off n h ∧ TW W p2 (h j) Bn) (fun _ i _ => t - (intOf i).toNat)
            case atStart => exact ⟨0, rfl, by omega, by rw [HA0.out], H2.out, HTW.out⟩
            case round =>
              clear H2 HTW HC7 kl k0 k1 k2 k3 k4 k5 k6
              obtain ⟨q, rfl, hq, rfl, hS, hT⟩ := hrel
              have HS2 : Hid _ := hS
              have HT2 : Hid _ := hT
              have HQ : Hid (q ≤ t) := hq
              have lbW : b < wr.heap.size := Nat.lt_of_lt_of_le HLB.out hS.bel.size
              clear hS hT
              obtain ⟨A, HAA⟩ : ∃ A, Hid (alB h (h j) q = A) := ⟨_, rfl⟩
              rw [HAA.out]
              by_cases hqt : q < t
              · obtain ⟨H, hp, hbH, hH⟩ := HT2.out.t (by rw [HTN.out]; omega)
                subst hp
                have q0 : (0 : Int) ≤ (q : Int) := by omega
                have q1 : (q : Int) < (t : Int) := by omega
                have dq : decide ((q : Int) < (t : Int)) = true := decide_eq_true q1
                have lH := row_lt hH
                have HAN : Hid (arg (h j) q < n) := HT.out j HLT.out q (by rw [HTN.out]; exact hqt)
                have cq : wr.cell? ⟨H, q, none⟩ = some (.int .i64 (arg (h j) q)) := (row_cell hH q).trans (argA_at (h j) _ q (by rw [HTN.out]; exact hqt) (by rw [HTN.out]; exact HT3.out))
                have a0 : (0 : Int) ≤ (arg (h j) q : Int) := by omega
                have a1 : (arg (h j) q : Int) < (n : Int) := Int.ofNat_lt.2 HAN.out
                have ca : wr.cell? ⟨b, off + arg (h j) q * 7, none⟩ = some (.int .i64 (h (arg (h j) q)).kd) := (HS2.out.at_ _ HAN.out).c0
                have HQT : Hid (q < t) := hqt
                clear hH hqt hq
                cases A with
                | false =>
                  have HN : Hid (alB h (h j) (q + 1) = false) := show (alB h (h j) q && _) = false by rw [HAA.out]; rfl
                  go_wp2
                  go_round
                  case rel => exact ⟨q + 1, by go_num, HQT.out, by rw [HN.out], HS2.out, HT2.out⟩
                  case measure => have := HQT.out; simp [intOf]; omega
                | true =>
                  by_cases h1 : (h (arg (h j) q)).kd = 1
                  · have HN : Hid (alB h (h j) (q + 1) = true) := show (alB h (h j) q && decide _) = true by rw [HAA.out, decide_eq_true h1]; rfl
                    rw [h1] at ca
                    clear h1
                    go_wp2
                    go_round
                    case rel => exact ⟨q + 1, by go_num, HQT.out, by rw [HN.out], HS2.out, HT2.out⟩
                    case measure => have := HQT.out; simp [intOf]; omega
                  · have HN : Hid (alB h (h j) (q + 1) = false) := show (alB h (h j) q && decide _) = false by rw [HAA.out, decide_eq_false h1]; rfl
                    have i1 : ¬ ((h (arg (h j) q)).kd : Int) = 1 := by omega
                    have d1 : (((h (arg (h j) q)).kd : Int) == 1) = false := by simpa using i1
                    clear h1
                    go_wp2
                    go_round
                    case rel => exact ⟨q + 1, by go_num, HQT.out, by rw [HN.out], HS2.out, HT2.out⟩
                    case measure => have := HQT.out; simp [intOf]; omega
              · obtain rfl : q = t := by omega
                have dq : decide ((q : Int) < (q : Int)) = false := decide_eq_false (by omega)
                have HE : Hid (A = false) := show A = false by (rw [← HAA.out, ← HTN.out]; exact HFO.out.f2)
                rw [HE.out]
                clear hqt hq
                go_wp2
                go_round
                case rel => exact ⟨j + 1, by go_num, HLT.out, HS2.out⟩
                case measure => have := HLT.out; simp [intOf]; omega
        | true =>
          have hx := HFF.out
          simp only [Bool.and_eq_true, decide_eq_true_eq] at hx
          obtain ⟨x6, x12, x13⟩ := HFO.out.f1 (by rw [HTN.out]; exact hx.1) hx.2
          have i6 : ¬ ((h j).kd : Int) = 6 := by omega
          have d6 : (((h j).kd : Int) == 6) = false := by simpa using i6
          have i12 : ¬ ((h j).kd : Int) = 12 := by omega
          have d12 : (((h j).kd : Int) == 12) = false := by simpa using i12
          have i13 : ¬ ((h j).kd : Int) = 13 := by omega
          have d13 : (((h j).kd : Int) == 13) = false := by simpa using i13
          clear hx x6 x12 x13
          go_upto_region 7 with fail
          go_cut [6] from 44 to 69 (fun x wx => x = .bool (alB h (h j) 0) ∧ FQ w wx b off n h Bn (h j))
          case first =>
            obtain ⟨P, HP⟩ : ∃ P, Hid (isP (h j).kd = P) := ⟨_, rfl⟩
            cases P with
            | false =>
              have HA0 : Hid (alB h (h j) 0 = false) := show (isP (h j).kd && _) = false by rw [HP.out]; rfl
              go_wp2_with (go_at_call 67; refine (pure_any (h j).kd _).mono ?_; rintro e w3 ⟨rfl, rfl⟩; rw [HP.out])
              go_meet
              case rel => exact ⟨by rw [HA0.out], HC.out⟩
            | true =>
              by_cases h1 : (h j).kd = 1
              · have HA0 : Hid (alB h (h j) 0 = false) := show (isP (h j).kd && decide _) = false by rw [HP.out, decide_eq_false (fun q => q h1)]; rfl
                rw [h1] at k0
                clear h1
                go_wp2_with (go_at_call 67; refine (pure_any 1 _).mono ?_; rintro e w3 ⟨rfl, rfl⟩)
                go_meet
                case rel => exact ⟨by rw [HA0.out], HC.out⟩
              · have HA0 : Hid (alB h (h j) 0 = true) := show (isP (h j).kd && decide _) = true by rw [HP.out, decide_eq_true h1]; rfl
                have i1 : ¬ ((h j).kd : Int) = 1 := by omega
                have d1 : (((h j).kd : Int) == 1) = false := by simpa using i1
                clear h1
                go_wp2_with (go_at_call 67; refine (pure_any (h j).kd _).mono ?_; rintro e w3 ⟨rfl, rfl⟩; rw [HP.out])
                go_meet
                case rel => exact ⟨by rw [HA0.out]; first | rfl | simp [bne, d1], HC.out⟩
          case rest =>
            obtain ⟨rfl, hC7⟩ := hcut
            clear HC k0 k1 k2 k3 k4 k5 k6 kl
            have HC7 : Hid _ := hC7
            have kl := row_lt hC7.bx
            have k0 := row_cell hC7.bx 0
            have k1 := row_cell hC7.bx 1
            have k2 := row_cell hC7.bx 2
            have k3 := row_cell hC7.bx 3
            have k4 := row_cell hC7.bx 4
            have k5 := row_cell hC7.bx 5
            have k6 := row_cell hC7.bx 6
            clear hC7
            obtain ⟨A0, HA0⟩ : ∃ A, Hid (alB h (h j) 0 = A) := ⟨_, rfl⟩
            rw [HA0.out]
            go_wp2_with (go_at_call 65; refine (tks_any (h j) _ HK1.out.1 HK1.out.2).mono ?_; rintro e w2 ⟨p2, cp2, rfl, hp, h2⟩; have H2 : Hid _ := HC7.out.l.below h2; have HTW : Hid (TW w2 p2 (h j) Bn) := ⟨fun q => (by obtain ⟨H, e1, e2, e3⟩ := hp q; exact ⟨H, e1, Nat.le_trans (Nat.le_of_lt (row_lt HC7.out.bx)) e2, e3⟩)⟩; rw [HTN.out]; clear hp h2)
            go_loopw [6, 55] (fun a6 i' W => ∃ q : Nat, i' = .int .i64 q ∧ q ≤ t ∧ a6 = .bool (alB h (h j) q) ∧ LW w W b off n h ∧ TW W p2 (h j) Bn) (fun _ i _ => t - (intOf i).toNat)
            case atStart => exact ⟨0, rfl, by omega, by rw [HA0.out], H2.out, HTW.out⟩
            case round =>
              clear H2 HTW HC7 kl k0 k1 k2 k3 k4 k5 k6
              obtain ⟨q, rfl, hq, rfl, hS, hT⟩ := hrel
              have HS2 : Hid _ := hS
              have HT2 : Hid _ := hT
              have HQ : Hid (q ≤ t) := hq
              have lbW : b < wr.heap.size := Nat.lt_of_lt_of_le HLB.out hS.bel.size
              clear hS hT
              obtain ⟨A, HAA⟩ : ∃ A, Hid (alB h (h j) q = A) := ⟨_, rfl⟩
              rw [HAA.out]
              by_cases hqt : q < t
              · obtain ⟨H, hp, hbH, hH⟩ := HT2.out.t (by rw [HTN.out]; omega)
                subst hp
                have q0 : (0 : Int) ≤ (q : Int) := by omega
                have q1 : (q : Int) < (t : Int) := by omega
                have dq : decide ((q : Int) < (t : Int)) = true := decide_eq_true q1
                have lH := row_lt hH
                have HAN : Hid (arg (h j) q < n) := HT.out j HLT.out q (by rw [HTN.out]; exact hqt)
                have cq : wr.cell? ⟨H, q, none⟩ = some (.int .i64 (arg (h j) q)) := (row_cell hH q).trans (argA_at (h j) _ q (by rw [HTN.out]; exact hqt) (by rw [HTN.out]; exact HT3.out))
                have a0 : (0 : Int) ≤ (arg (h j) q : Int) := by omega
                have a1 : (arg (h j) q : Int) < (n : Int) := Int.ofNat_lt.2 HAN.out
                have ca : wr.cell? ⟨b, off + arg (h j) q * 7, none⟩ = some (.int .i64 (h (arg (h j) q)).kd) := (HS2.out.at_ _ HAN.out).c0
                have HQT : Hid (q < t) := hqt
                clear hH hqt hq
                cases A with
                | false =>
                  have HN : Hid (alB h (h j) (q + 1) = false) := show (alB h (h j) q && _) = false by rw [HAA.out]; rfl
                  go_wp2
                  go_round
                  case rel => exact ⟨q + 1, by go_num, HQT.out, by rw [HN.out], HS2.out, HT2.out⟩
                  case measure => have := HQT.out; simp [intOf]; omega
                | true =>
                  by_cases h1 : (h (arg (h j) q)).kd = 1
                  · have HN : Hid (alB h (h j) (q + 1) = true) := show (alB h (h j) q && decide _) = true by rw [HAA.out, decide_eq_true h1]; rfl
                    rw [h1] at ca
                    clear h1
                    go_wp2
                    go_round
                    case rel => exact ⟨q + 1, by go_num, HQT.out, by rw [HN.out], HS2.out, HT2.out⟩
                    case measure => have := HQT.out; simp [intOf]; omega
                  · have HN : Hid (alB h (h j) (q + 1) = false) := show (alB h (h j) q && decide _) = false by rw [HAA.out, decide_eq_false h1]; rfl
                    have i1 : ¬ ((h (arg (h j) q)).kd : Int) = 1 := by omega
                    have d1 : (((h (arg (h j) q)).kd : Int) == 1) = false := by simpa using i1
                    clear h1
                    go_wp2
                    go_round
                    case rel => exact ⟨q + 1, by go_num, HQT.out, by rw [HN.out], HS2.out, HT2.out⟩
                    case measure => have := HQT.out; simp [intOf]; omega
              · obtain rfl : q = t := by omega
                have dq : decide ((q : Int) < (q : Int)) = false := decide_eq_false (by omega)
                have HE : Hid (A = false) := show A = false by (rw [← HAA.out, ← HTN.out]; exact HFO.out.f2)
                rw [HE.out]
                clear hqt hq
                go_wp2
                go_round
                case rel => exact ⟨j + 1, by go_num, HLT.out, HS2.out⟩
                case measure => have := HLT.out; simp [intOf]; omega
    · obtain rfl : j = n := by have := HJ.out; omega
      have dj : decide ((j : Int) < (j : Int)) = false := decide_eq_false (by omega)
      clear hlt hj
      go_wp2
      go_ret
      exact ⟨rfl, HS.out.bel⟩
end Go.Proofs.Ytmnifblbacgeoab
