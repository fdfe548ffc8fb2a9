import Derived.Test.YtmnifblbacgeoabOY
namespace Go.Proofs.Ytmnifblbacgeoab
open Go.RowKit
open Go.Maps
set_option maxRecDepth 100000
set_option linter.unusedVariables false
set_option linter.unusedSimpArgs false

theorem pure_me (k : Nat) (P : Bool) (hP : isP k = P) (w : World) : Calls Try.prog 67 #[.int .i64 k] w fun e w' => e = .returned (.bool P) ∧ w = w' := hP ▸ pure_any k w
set_option maxHeartbeats 16000000 in
theorem once_any (n cap b off : Nat) (h : Nat → ON) (w : World) (hO : OpsR w (some ⟨b, off, none⟩) n (fun i => rO (h i))) (lb : b < w.heap.size) (n1 : 0 < n) (hn : n ≤ 2048) (hf : ∀ k, k < n → isP (h k).kd = true → ∀ i, i < k → onEq (h i) (h k) = false) :
    Calls Try.prog 22 #[.slice (some ⟨b, off, none⟩) n cap] w fun e w' => e = .returned (.bool true) ∧ Below w.heap.size w w' := by
  have HV : Hid (LW w w b off n h) := ⟨hO, lb, Below.refl _ _⟩
  have HLB : Hid (b < w.heap.size) := lb
  have HF : Hid (∀ k, k < n → isP (h k).kd = true → ∀ i, i < k → onEq (h i) (h k) = false) := hf
  have ni : (n : Int) ≤ 2048 := by omega
  have ni0 : (0 : Int) ≤ (n : Int) := by omega
  clear hO hf lb
  go_enter Try.func22, Try.ntmps22
  go_wp2
  go_loopw [8] (fun i' wr => ∃ j : Nat, i' = .int .i64 j ∧ j ≤ n ∧ LW w wr b off n h) (fun i _ => n - (intOf i).toNat)
  case atStart => exact ⟨0, rfl, by omega, HV.out⟩
  case round =>
    obtain ⟨j, rfl, hj, hS⟩ := hrel
    have HS : Hid _ := hS
    have HJ : Hid (j ≤ n) := hj
    clear hS HV
    by_cases hlt : j < n
    · have hji : (j : Int) < (n : Int) := by omega
      have dj : decide ((j : Int) < (n : Int)) = true := decide_eq_true hji
      have j0 : (0 : Int) ≤ (j : Int) := by omega
      have HLT : Hid (j < n) := hlt
      have hop := HS.out.at_ j hlt
      have m0 : wr.cell? ⟨b, off + j * 7, none⟩ = some (.int .i64 (h j).kd) := hop.c0
      have m1 : wr.cell? ⟨b, off + j * 7 + 1, none⟩ = some (.int .i64 (h j).w) := hop.c1
      have m2 : wr.cell? ⟨b, off + j * 7 + 2, none⟩ = some (.int .i64 (h j).a) := hop.c2
      have m3 : wr.cell? ⟨b, off + j * 7 + 3, none⟩ = some (.int .i64 (h j).b) := hop.c3
      have m4 : wr.cell? ⟨b, off + j * 7 + 4, none⟩ = some (.int .i64 (h j).c) := hop.c4
      have m5 : wr.cell? ⟨b, off + j * 7 + 5, none⟩ = some (.int .u32 (h j).k) := hop.c5
      have m6 : wr.cell? ⟨b, off + j * 7 + 6, none⟩ = some (.int .i64 (h j).n) := hop.c6
      have lbW : b < wr.heap.size := Nat.lt_of_lt_of_le HLB.out HS.out.bel.size
      have HA : Hid (FQ w _ b off n h wr.heap.size (h j)) := ⟨HS.out.below ((Below.refl wr.heap.size wr).alloc (Nat.le_refl _) (.cells #[.int .i64 (h j).kd, .int .i64 (h j).w, .int .i64 (h j).a, .int .i64 (h j).b, .int .i64 (h j).c, .int .u32 (h j).k, .int .i64 (h j).n] 67)), heap_alloc_last _ _⟩
      clear hop hlt
      go_upto_region 4 with fail
      obtain ⟨Bn, HBn⟩ : ∃ Bn, Hid (wr.heap.size = Bn) := ⟨_, rfl⟩
      refine wp_gen (fun W' => FQ w W' b off n h Bn (h j)) (HBn.out ▸ HA.out) ?_
      rw [HBn.out]
      clear m0 m1 m2 m3 m4 m5 m6 lbW HA HS HBn
      intro U hU
      have HU : Hid _ := hU
      clear hU
      obtain ⟨P, HP⟩ : ∃ P, Hid (isP (h j).kd = P) := ⟨_, rfl⟩
      go_wp2
      go_loopw [5] (fun i' W => ∃ q : Nat, i' = .int .i64 q ∧ q ≤ j ∧ FQ w W b off n h Bn (h j)) (fun i _ => j - (intOf i).toNat)
      case atStart => exact ⟨0, rfl, by omega, HU.out⟩
      case round =>
        clear HU
        obtain ⟨q, rfl, hq, hS⟩ := hrel
        have HS2 : Hid _ := hS
        have HQ : Hid (q ≤ j) := hq
        have lbW : b < wr.heap.size := Nat.lt_of_lt_of_le HLB.out hS.l.bel.size
        have kl := row_lt hS.bx
        have k0 := row_cell hS.bx 0
        have k1 := row_cell hS.bx 1
        have k2 := row_cell hS.bx 2
        have k3 := row_cell hS.bx 3
        have k4 := row_cell hS.bx 4
        have k5 := row_cell hS.bx 5
        have k6 := row_cell hS.bx 6
        by_cases hqt : q < j
        · have q0 : (0 : Int) ≤ (q : Int) := by omega
          have q1 : (q : Int) < (j : Int) := by omega
          have qn : (q : Int) < (n : Int) := by omega
          have dq : decide ((q : Int) < (j : Int)) = true := decide_eq_true q1
          have hop := HS2.out.l.at_ q (by omega)
          have m0 : wr.cell? ⟨b, off + q * 7, none⟩ = some (.int .i64 (h q).kd) := hop.c0
          have m1 : wr.cell? ⟨b, off + q * 7 + 1, none⟩ = some (.int .i64 (h q).w) := hop.c1
          have m2 : wr.cell? ⟨b, off + q * 7 + 2, none⟩ = some (.int .i64 (h q).a) := hop.c2
          have m3 : wr.cell? ⟨b, off + q * 7 + 3, none⟩ = some (.int .i64 (h q).b) := hop.c3
          have m4 : wr.cell? ⟨b, off + q * 7 + 4, none⟩ = some (.int .i64 (h q).c) := hop.c4
          have m5 : wr.cell? ⟨b, off + q * 7 + 5, none⟩ = some (.int .u32 (h q).k) := hop.c5
          have m6 : wr.cell? ⟨b, off + q * 7 + 6, none⟩ = some (.int .i64 (h q).n) := hop.c6
          have HQT : Hid (q < j) := hqt
          clear hop hqt hq hS
          cases P with
          | false =>
            go_upto_region 7 with fail
            go_quiet ((refine Calls.mono (pure_me (h j).kd _ HP.out _) ?_; intro e w3 hq; exact ⟨hq.1, _, hq.2.symm⟩))
            go_wp2
            go_round
            case rel => exact ⟨q + 1, by go_num, HQT.out, HS2.out.below (by (repeat first | with_reducible exact Below.refl _ _ | with_reducible exact Below.refl _ _ | with_reducible refine Below.drew ?_ | with_reducible refine below_drewN ?_ _ | with_reducible refine Below.alloc ?_ (by first | (simp; done) | (simp; omega) | omega) _ | with_reducible refine Below.setCell ?_ (by first | (simp; done) | (simp; omega) | omega) _))⟩
            case measure => have := HQT.out; simp [intOf]; omega
          | true =>
            have eq := on_eql (h q) (h j)
            rw [HF.out j HLT.out HP.out q HQT.out] at eq
            go_upto_region 7 with fail

            go_quiet ((refine Calls.mono (pure_me (h j).kd _ HP.out _) ?_; intro e w3 hq; exact ⟨hq.1, _, hq.2.symm⟩))
            go_wp2
            go_round
            case rel => exact ⟨q + 1, by go_num, HQT.out, HS2.out.below (by (repeat first | with_reducible exact Below.refl _ _ | with_reducible exact Below.refl _ _ | with_reducible refine Below.drew ?_ | with_reducible refine below_drewN ?_ _ | with_reducible refine Below.alloc ?_ (by first | (simp; done) | (simp; omega) | omega) _ | with_reducible refine Below.setCell ?_ (by first | (simp; done) | (simp; omega) | omega) _))⟩
            case measure => have := HQT.out; simp [intOf]; omega
        · obtain rfl : q = j := by omega
          have dq : decide ((q : Int) < (q : Int)) = false := decide_eq_false (by omega)
          clear hqt hq hS
          go_wp2
          go_round
          case rel => exact ⟨q + 1, by go_num, HLT.out, HS2.out.l⟩
          case measure => have := HLT.out; simp [intOf]; omega
    · obtain rfl : j = n := by have := HJ.out; omega
      have dj : decide ((j : Int) < (j : Int)) = false := decide_eq_false (by omega)
      clear hlt hj
      go_wp2
      go_ret
      exact ⟨rfl, HS.out.bel⟩
end Go.Proofs.Ytmnifblbacgeoab
