import Derived.Test.YtmnifblbacgeoabOF
namespace Go.Proofs.Ytmnifblbacgeoab
open Go.RowKit
open Go.Maps
set_option maxRecDepth 100000
set_option linter.unusedVariables false
set_option linter.unusedSimpArgs false

/-- Is it known how flags are made, and of what? -/
def knB (s : SE) : Bool := (s.sl 8).isSome && (s.sl 9).isSome && (s.sl 10).isSome && (s.sl 11).isSome && isC s.l ((s.sl 8).getD 0)
def knQ (s : SE) : Nat → Bool
  | 0 => true
  | q + 1 => knQ s q && (s.sl (8 + q)).isSome
theorem knQ_no {s : SE} {q : Nat} (h : s.sl (8 + q) = none) : ∀ p, q < p → knQ s p = false
  | 0, hp => absurd hp (Nat.not_lt_zero _)
  | p + 1, hp => by
    rcases Nat.lt_succ_iff_lt_or_eq.1 hp with h1 | rfl
    · simp [knQ, knQ_no h p h1]
    · simp [knQ, h]
theorem knB_eq (s : SE) : knB s = (knQ s 4 && isC s.l ((s.sl 8).getD 0)) := by simp [knB, knQ]
set_option maxHeartbeats 2000000 in
theorem known_any (base X M : Nat) (s : SE) (ml : List ON) (sv : Value) (w : World) (hS : SW w base X M s ml sv) (hv : ∀ v, s.sl 8 = some v → v < s.l.length) :
    Calls Try.prog 191 #[.pointer (some ⟨X, 0, none⟩)] w fun e w' => e = .returned (.bool (knB s)) ∧ w = w' := by
  have HS : Hid _ := hS
  have HV : Hid (∀ v, s.sl 8 = some v → v < s.l.length) := hv
  have lX := hS.xb.lt
  have c0 := hS.xb.cell (i := 2 + 8) (by omega)
  have c1 := hS.xb.cell (i := 2 + 9) (by omega)
  have c2 := hS.xb.cell (i := 2 + 10) (by omega)
  have c3 := hS.xb.cell (i := 2 + 11) (by omega)
  rw [se_sl _ _ _ _ (by omega)] at c0 c1 c2 c3
  obtain ⟨S0, H0⟩ : ∃ S, Hid (s.sl 8 = S) := ⟨_, rfl⟩
  rw [H0.out] at c0
  obtain ⟨S1, H1⟩ : ∃ S, Hid (s.sl 9 = S) := ⟨_, rfl⟩
  rw [H1.out] at c1
  obtain ⟨S2, H2⟩ : ∃ S, Hid (s.sl 10 = S) := ⟨_, rfl⟩
  rw [H2.out] at c2
  obtain ⟨S3, H3⟩ : ∃ S, Hid (s.sl 11 = S) := ⟨_, rfl⟩
  rw [H3.out] at c3
  simp only [Nat.reduceAdd] at c0 c1 c2 c3
  clear hS hv
  go_enter Try.func191, Try.ntmps191
  go_wp2
  go_loopw [10] (fun i' wr => ∃ j : Nat, i' = .int .i64 j ∧ j ≤ 4 ∧ knQ s j = true ∧ w = wr) (fun i _ => 4 - (intOf i).toNat)
  case atStart => exact ⟨0, rfl, by omega, rfl, rfl⟩
  case round =>
    obtain ⟨j, rfl, hj, hall, rfl⟩ := hrel
    have HA : Hid _ := hall
    clear hall
    rcases (by omega : j = 0 ∨ j = 1 ∨ j = 2 ∨ j = 3 ∨ j = 4) with rfl | rfl | rfl | rfl | rfl
    · cases S0 with
      | none =>
        have FB : Hid (knB s = false) := show _ = _ by rw [knB_eq, knQ_no (q := 0) H0.out 4 (by omega)]; rfl
        rw [oI_none] at c0
        go_wp2
        go_ret
        exact ⟨by rw [FB.out]; rfl, rfl⟩
      | some v =>
        have dv : ((v : Int) == -1) = false := by simp
        rw [oI_some] at c0
        go_wp2
        go_round
        case rel => exact ⟨1, by go_num, by omega, by show (knQ s 0 && (s.sl 8).isSome) = true; rw [HA.out, H0.out]; rfl, by first | rfl | trivial⟩
        case measure => simp [intOf]
    · cases S1 with
      | none =>
        have FB : Hid (knB s = false) := show _ = _ by rw [knB_eq, knQ_no (q := 1) H1.out 4 (by omega)]; rfl
        rw [oI_none] at c1
        go_wp2
        go_ret
        exact ⟨by rw [FB.out]; rfl, rfl⟩
      | some v =>
        have dv : ((v : Int) == -1) = false := by simp
        rw [oI_some] at c1
        go_wp2
        go_round
        case rel => exact ⟨2, by go_num, by omega, by show (knQ s 1 && (s.sl 9).isSome) = true; rw [HA.out, H1.out]; rfl, by first | rfl | trivial⟩
        case measure => simp [intOf]
    · cases S2 with
      | none =>
        have FB : Hid (knB s = false) := show _ = _ by rw [knB_eq, knQ_no (q := 2) H2.out 4 (by omega)]; rfl
        rw [oI_none] at c2
        go_wp2
        go_ret
        exact ⟨by rw [FB.out]; rfl, rfl⟩
      | some v =>
        have dv : ((v : Int) == -1) = false := by simp
        rw [oI_some] at c2
        go_wp2
        go_round
        case rel => exact ⟨3, by go_num, by omega, by show (knQ s 2 && (s.sl 10).isSome) = true; rw [HA.out, H2.out]; rfl, by first | rfl | trivial⟩
        case measure => simp [intOf]
    · cases S3 with
      | none =>
        have FB : Hid (knB s = false) := show _ = _ by rw [knB_eq, knQ_no (q := 3) H3.out 4 (by omega)]; rfl
        rw [oI_none] at c3
        go_wp2
        go_ret
        exact ⟨by rw [FB.out]; rfl, rfl⟩
      | some v =>
        have dv : ((v : Int) == -1) = false := by simp
        rw [oI_some] at c3
        go_wp2
        go_round
        case rel => exact ⟨4, by go_num, by omega, by show (knQ s 3 && (s.sl 11).isSome) = true; rw [HA.out, H3.out]; rfl, by first | rfl | trivial⟩
        case measure => simp [intOf]
    · cases S0 with
      | none => exact absurd HA.out (by rw [knQ_no (q := 0) H0.out 4 (by omega)]; decide)
      | some v =>
        obtain ⟨C, HC⟩ : ∃ C, Hid (isC s.l v = C) := ⟨_, rfl⟩
        have FB : Hid (knB s = C) := show _ = _ by rw [knB_eq, HA.out, H0.out]; show (true && isC s.l v) = C; rw [HC.out]; rfl
        rw [oI_some] at c0
        go_wp2_with (go_at_call 187; refine (isConst_any base X M s ml sv v _ HS.out (HV.out v H0.out)).mono ?_; rintro e w2 ⟨rfl, rfl⟩; rw [HC.out])
        go_ret
        exact ⟨by rw [FB.out]; rfl, rfl⟩
/-- The operation that makes flags as the slots tell. -/
def mdO (s : SE) : ON := ⟨7, if (s.l.getD ((s.sl 8).getD 0) onD).k ≤ 12 then (s.l.getD ((s.sl 8).getD 0) onD).k else 0, (s.sl 9).getD 0, (s.sl 10).getD 0, (s.sl 11).getD 0, 0, 0⟩
structure MD (w W : World) (R E : Nat) (x : ON) (sv : Value) : Prop where
  r : W.heap[R]? = some (.cells #[.int .i64 0, .int .i64 0, .int .i64 0, .int .i64 0, .int .i64 0, .int .u32 0, .int .i64 0] 67)
  e : W.heap[E]? = some (.cells #[.int .i64 x.kd, .int .i64 x.w, .int .i64 x.a, .int .i64 x.b, .int .i64 x.c, .int .u32 x.k, .int .i64 x.n] 67)
  bel : Below w.heap.size w W
set_option maxHeartbeats 2000000 in
theorem made_any (base X M : Nat) (s : SE) (ml : List ON) (sv : Value) (v8 v9 v10 v11 : Nat) (w : World) (hS : SW w base X M s ml sv) (h8 : s.sl 8 = some v8) (h9 : s.sl 9 = some v9) (h10 : s.sl 10 = some v10) (h11 : s.sl 11 = some v11) (hv : v8 < s.l.length) :
    Calls Try.prog 192 #[.pointer (some ⟨X, 0, none⟩)] w fun e w' => e = .returned (.agg #[.int .i64 (mdO s).kd, .int .i64 (mdO s).w, .int .i64 (mdO s).a, .int .i64 (mdO s).b, .int .i64 (mdO s).c, .int .u32 (mdO s).k, .int .i64 (mdO s).n]) ∧ Below w.heap.size w w' := by
  obtain ⟨g, cap, hsv, lg, hcap, hc⟩ := owns_at hS.o (by omega)
  have c0 : w.cell? ⟨X, 0, none⟩ = some (.slice (some ⟨g, 0, none⟩) s.l.length cap) := hsv ▸ hS.xb.cell (i := 0) (by omega)
  have m0 := hc v8 5 hv (by omega)
  simp only [onC] at m0
  obtain ⟨K, HK⟩ : ∃ K, Hid ((s.l.getD v8 onD).k = K) := ⟨_, rfl⟩
  rw [HK.out] at m0
  have i0 : (0 : Int) ≤ (v8 : Int) := by omega
  have i1 : (v8 : Int) < (s.l.length : Int) := by omega
  have lX := hS.xb.lt
  have c8 := hS.xb.cell (i := 2 + 8) (by omega)
  have c9 := hS.xb.cell (i := 2 + 9) (by omega)
  have c10 := hS.xb.cell (i := 2 + 10) (by omega)
  have c11 := hS.xb.cell (i := 2 + 11) (by omega)
  rw [se_sl _ _ _ _ (by omega)] at c8 c9 c10 c11
  rw [h8, oI_some] at c8
  rw [h9, oI_some] at c9
  rw [h10, oI_some] at c10
  rw [h11, oI_some] at c11
  simp only [Nat.reduceAdd] at c8 c9 c10 c11
  have HM : Hid (mdO s = ⟨7, if K ≤ 12 then K else 0, v9, v10, v11, 0, 0⟩) := show _ = _ by unfold mdO; rw [h8, h9, h10, h11]; simp only [Option.getD_some]; rw [HK.out]
  obtain ⟨ww, HWW⟩ : ∃ ww, Hid ((if K ≤ 12 then K else 0) = ww) := ⟨_, rfl⟩
  have HM2 : Hid (mdO s = ⟨7, ww, v9, v10, v11, 0, 0⟩) := HM.out.trans (by rw [HWW.out])
  rw [HM2.out]
  have lX1 := Nat.lt_succ_of_lt lX
  have lX2 := Nat.lt_succ_of_lt lX1
  have lg1 := Nat.lt_succ_of_lt lg
  have lg2 := Nat.lt_succ_of_lt lg1
  have neX : X ≠ w.heap.size := by omega
  have neg : g ≠ w.heap.size := by omega
  have neX1 : X ≠ w.heap.size + 1 := by omega
  have neg1 : g ≠ w.heap.size + 1 := by omega
  clear hS hv hsv hcap hc h8 h9 h10 h11
  go_enter Try.func192, Try.ntmps192
  go_upto_region 1 with fail
  go_region
  go_upto_region 2 with fail
  go_quiet (fail)
  by_cases hk : K ≤ 12
  · have hK : (K : Int) ≤ 12 := by omega
    have dK : decide ((K : Int) ≤ 12) = true := decide_eq_true hK
    have k0 : (0 : Int) ≤ (K : Int) := by omega
    have HE : Hid (ww = K) := HWW.out.symm.trans (if_pos hk)
    clear hk
    go_wp2
    exact bodyPost_ret (v := .agg #[.int .i64 7, .int .i64 K, .int .i64 v9, .int .i64 v10, .int .i64 v11, .int .u32 0, .int .i64 0]) (by simp [results, Try.results192, go_sem]) rfl ⟨by rw [HE.out]; rfl, by (repeat first | with_reducible exact Below.refl _ _ | with_reducible exact Below.refl _ _ | with_reducible refine Below.drew ?_ | with_reducible refine below_drewN ?_ _ | with_reducible refine Below.alloc ?_ (by first | (simp; done) | (simp; omega) | omega) _ | with_reducible refine Below.setCell ?_ (by first | (simp; done) | (simp; omega) | omega) _)⟩
  · have hK : ¬ (K : Int) ≤ 12 := by omega
    have dK : decide ((K : Int) ≤ 12) = false := decide_eq_false hK
    have HE : Hid (ww = 0) := HWW.out.symm.trans (if_neg hk)
    clear hk
    go_wp2
    exact bodyPost_ret (v := .agg #[.int .i64 7, .int .i64 0, .int .i64 v9, .int .i64 v10, .int .i64 v11, .int .u32 0, .int .i64 0]) (by simp [results, Try.results192, go_sem]) rfl ⟨by rw [HE.out]; rfl, by (repeat first | with_reducible exact Below.refl _ _ | with_reducible exact Below.refl _ _ | with_reducible refine Below.drew ?_ | with_reducible refine below_drewN ?_ _ | with_reducible refine Below.alloc ?_ (by first | (simp; done) | (simp; omega) | omega) _ | with_reducible refine Below.setCell ?_ (by first | (simp; done) | (simp; omega) | omega) _)⟩
end Go.Proofs.Ytmnifblbacgeoab
