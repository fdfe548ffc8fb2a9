import Derived.Test.YtgkkghphlbgcoaaHS
namespace Go.Proofs.Ytgkkghphlbgcoaa.Ho
open Go.RowKit
set_option maxRecDepth 100000
set_option linter.unusedVariables false
set_option linter.unusedSimpArgs false
set_option maxHeartbeats 2000000 in
theorem renc_ok1 (x : Cd) (w : World) (hk : x.k < 4294967296) (hy : x.x < 4294967296) (h : ¬ x.op < 0) (s : Array UInt8) (most : Int) (hF : fmR x.op = ⟨s, most, 1⟩) (h0l : ¬ x.d < 0) (h0h : ¬ 15 < x.d) (h1l : ¬ x.a < 0) (h1h : ¬ 15 < x.a) (h2l : ¬ x.b < 0) (h2h : ¬ 15 < x.b) (h3l : ¬ x.c < 0) (h3h : ¬ 15 < x.c) (hl : ¬ x.n < 0) (hh : ¬ 65535 < x.n) (D : Dc) (hD : decP (wsF (wsE 1 (fst x).toNat x.k x.x)) 1 0 = D) : Calls Try.prog 9 #[cdV x] w fun e w' => ∃ sv er l, e = .returned (.tuple #[sv, .int .i64 er]) ∧ ((er = 0 ∧ l = wsE 1 (fst x).toNat x.k x.x ∧ (decP (wsF (wsE 1 (fst x).toNat x.k x.x)) 1 0).e = 0 ∧ (decP (wsF (wsE 1 (fst x).toNat x.k x.x)) 1 0).x = x) ∨ (er = 3 ∧ l = [] ∧ ¬ ((decP (wsF (wsE 1 (fst x).toNat x.k x.x)) 1 0).e = 0 ∧ (decP (wsF (wsE 1 (fst x).toNat x.k x.x)) 1 0).x = x))) ∧ Lies w w' sv l ∧ Below w.heap.size w w' := by
  have HF : Hid _ := hF
  have HD : Hid _ := hD
  clear hF hD
  go_enter Try.func9, Try.ntmps9
  go_wp2_with (go_at_call 35; refine (form_any _ _).mono ?_; rintro e w9 ⟨rfl, rfl⟩; rw [HF.out])
  refine wp_loop_rounds 5 ?_
  iterate 4 (rw [rounds_succ]; go_wp2)
  rw [rounds_succ]
  go_upto_region 14 with fail
  refine wp_gen (fun W' => RE1 w W' x) (re1_start w x _) ?_
  intro W hE
  have k0 : W.cell? ⟨w.heap.size, 0, none⟩ = some (.int .i64 x.op) := row_cell hE.bx 0
  have k1 : W.cell? ⟨w.heap.size, 1, none⟩ = some (.int .i64 x.d) := row_cell hE.bx 1
  have k2 : W.cell? ⟨w.heap.size, 2, none⟩ = some (.int .i64 x.a) := row_cell hE.bx 2
  have k3 : W.cell? ⟨w.heap.size, 3, none⟩ = some (.int .i64 x.b) := row_cell hE.bx 3
  have k4 : W.cell? ⟨w.heap.size, 4, none⟩ = some (.int .i64 x.c) := row_cell hE.bx 4
  have k5 : W.cell? ⟨w.heap.size, 5, none⟩ = some (.int .i64 x.n) := row_cell hE.bx 5
  have k6 : W.cell? ⟨w.heap.size, 6, none⟩ = some (.int .u32 x.k) := row_cell hE.bx 6
  have k7 : W.cell? ⟨w.heap.size, 7, none⟩ = some (.int .u32 x.x) := row_cell hE.bx 7
  have lx := row_lt hE.bx
  have HE : Hid _ := hE
  clear hE
  go_region_held3 (fun W' => W'.cell? ⟨w.heap.size, 0, none⟩ = some (.int .i64 x.op) ∧ W'.cell? ⟨w.heap.size, 1, none⟩ = some (.int .i64 x.d) ∧ W'.cell? ⟨w.heap.size, 2, none⟩ = some (.int .i64 x.a) ∧ W'.cell? ⟨w.heap.size, 3, none⟩ = some (.int .i64 x.b) ∧ W'.cell? ⟨w.heap.size, 4, none⟩ = some (.int .i64 x.c) ∧ W'.cell? ⟨w.heap.size, 5, none⟩ = some (.int .i64 x.n) ∧ W'.cell? ⟨w.heap.size, 6, none⟩ = some (.int .u32 x.k) ∧ W'.cell? ⟨w.heap.size, 7, none⟩ = some (.int .u32 x.x)) (first | (simp [go_sem, k0, k1, k2, k3, k4, k5, k6, k7, lx]; done) | (simp [go_sem, k0, k1, k2, k3, k4, k5, k6, k7, lx]; omega)) ((go_at_call 36; refine (first_any x W.drew).mono ?_; rintro e w9 ⟨rfl, rfl⟩))
  go_upto_region 15 with fail
  refine wp_gen (fun W' => RE2 w W' x (W.heap.size + 1) 1) (by first | exact re2_start1 HE.out hk hy | exact (re2_start1 HE.out hk hy).drw) ?_
  clear HE k0 k1 k2 k3 k4 k5 k6 k7 lx
  intro V hV
  have HV : Hid _ := hV
  clear hV
  go_upto_region 16 with (go_at_call 37; refine (rDecode_any (some ⟨W.heap.size + 1, 0, none⟩) 1 3 0 (wsF (wsE 1 (fst x).toNat x.k x.x)) V (.inr ⟨W.heap.size + 1, 0, rfl, by decide, by decide, HV.out.wr⟩)).mono ?_; rintro e w3 ⟨rfl, hb3⟩; rw [HD.out]; have HB3 : Hid _ := hb3; clear hb3)
  refine wp_gen (fun W' => EN2 w W' x D.x w3.heap.size (W.heap.size + 1) 1 (wsF (wsE 1 (fst x).toNat x.k x.x))) (re3_start D.x HV.out HB3.out) ?_
  clear HV HB3
  intro U hU
  have k0 : U.cell? ⟨w.heap.size, 0, none⟩ = some (.int .i64 x.op) := row_cell hU.bx 0
  have y0 : U.cell? ⟨w3.heap.size, 0, none⟩ = some (.int .i64 D.x.op) := row_cell hU.by_ 0
  have k1 : U.cell? ⟨w.heap.size, 1, none⟩ = some (.int .i64 x.d) := row_cell hU.bx 1
  have y1 : U.cell? ⟨w3.heap.size, 1, none⟩ = some (.int .i64 D.x.d) := row_cell hU.by_ 1
  have k2 : U.cell? ⟨w.heap.size, 2, none⟩ = some (.int .i64 x.a) := row_cell hU.bx 2
  have y2 : U.cell? ⟨w3.heap.size, 2, none⟩ = some (.int .i64 D.x.a) := row_cell hU.by_ 2
  have k3 : U.cell? ⟨w.heap.size, 3, none⟩ = some (.int .i64 x.b) := row_cell hU.bx 3
  have y3 : U.cell? ⟨w3.heap.size, 3, none⟩ = some (.int .i64 D.x.b) := row_cell hU.by_ 3
  have k4 : U.cell? ⟨w.heap.size, 4, none⟩ = some (.int .i64 x.c) := row_cell hU.bx 4
  have y4 : U.cell? ⟨w3.heap.size, 4, none⟩ = some (.int .i64 D.x.c) := row_cell hU.by_ 4
  have k5 : U.cell? ⟨w.heap.size, 5, none⟩ = some (.int .i64 x.n) := row_cell hU.bx 5
  have y5 : U.cell? ⟨w3.heap.size, 5, none⟩ = some (.int .i64 D.x.n) := row_cell hU.by_ 5
  have k6 : U.cell? ⟨w.heap.size, 6, none⟩ = some (.int .u32 x.k) := row_cell hU.bx 6
  have y6 : U.cell? ⟨w3.heap.size, 6, none⟩ = some (.int .u32 D.x.k) := row_cell hU.by_ 6
  have k7 : U.cell? ⟨w.heap.size, 7, none⟩ = some (.int .u32 x.x) := row_cell hU.bx 7
  have y7 : U.cell? ⟨w3.heap.size, 7, none⟩ = some (.int .u32 D.x.x) := row_cell hU.by_ 7
  have lx := row_lt hU.bx
  have ly := row_lt hU.by_
  have HU : Hid _ := hU
  clear hU
  by_cases e0 : D.e = 0
  · have g0 : (D.e != 0) = false := by simp [e0]
    go_wp2_with (at_builtin; refine wpList_words rfl _ _ rfl rfl (W.heap.size + 1) 0 1 3 rfl (wsF (wsE 1 (fst x).toNat x.k x.x)) HU.out.wr (by decide) (by decide) U.heap.size rfl ?_; intro c w2 hr2 hb2 hc2; have HR2 : Hid _ := hr2; have HB2 : Hid _ := hb2; have HC2 : Hid _ := hc2; clear hr2 hb2 hc2)
    · have hx : D.x = x := cd_ext _ _ (by assumption) (by assumption) (by assumption) (by assumption) (by assumption) (by assumption) (by assumption) (by assumption)
      go_ret2
      have hs := HU.out.bel.size
      exact ⟨_, 0, wsE 1 (fst x).toNat x.k x.x, rfl, .inl ⟨rfl, rfl, HD.out.symm ▸ e0, HD.out.symm ▸ hx⟩, .inr ⟨U.heap.size, c, rfl, by omega, HC2.out, Nat.le_of_ble_eq_true rfl, HR2.out⟩, HU.out.bel.trans (HB2.out.mono hs)⟩
    all_goals
      have hx : ¬ D.x = x := by
        intro e; first | exact absurd (congrArg Cd.op e) (by assumption) | exact absurd (congrArg Cd.d e) (by assumption) | exact absurd (congrArg Cd.a e) (by assumption) | exact absurd (congrArg Cd.b e) (by assumption) | exact absurd (congrArg Cd.c e) (by assumption) | exact absurd (congrArg Cd.n e) (by assumption) | exact absurd (congrArg (fun z => ((Cd.k z : Nat) : Int)) e) (by assumption) | exact absurd (congrArg (fun z => ((Cd.x z : Nat) : Int)) e) (by assumption)
      go_ret2
      exact ⟨_, 3, [], rfl, .inr ⟨rfl, rfl, HD.out.symm ▸ (fun h => hx h.2)⟩, .inl ⟨rfl, rfl⟩, HU.out.bel⟩
  · have g0 : (D.e != 0) = true := by simp [e0]
    go_wp2
    go_ret2
    exact ⟨_, 3, [], rfl, .inr ⟨rfl, rfl, HD.out.symm ▸ (fun h => e0 h.1)⟩, .inl ⟨rfl, rfl⟩, HU.out.bel⟩
end Go.Proofs.Ytgkkghphlbgcoaa.Ho
namespace Go.Proofs.Ytgkkghphlbgcoaa.Ho
open Go.RowKit
set_option maxRecDepth 100000
set_option linter.unusedVariables false
set_option linter.unusedSimpArgs false
set_option maxHeartbeats 2000000 in
theorem renc_ok2 (x : Cd) (w : World) (hk : x.k < 4294967296) (hy : x.x < 4294967296) (h : ¬ x.op < 0) (s : Array UInt8) (most : Int) (hF : fmR x.op = ⟨s, most, 2⟩) (h0l : ¬ x.d < 0) (h0h : ¬ 15 < x.d) (h1l : ¬ x.a < 0) (h1h : ¬ 15 < x.a) (h2l : ¬ x.b < 0) (h2h : ¬ 15 < x.b) (h3l : ¬ x.c < 0) (h3h : ¬ 15 < x.c) (hl : ¬ x.n < 0) (hh : ¬ 65535 < x.n) (D : Dc) (hD : decP (wsF (wsE 2 (fst x).toNat x.k x.x)) 2 0 = D) : Calls Try.prog 9 #[cdV x] w fun e w' => ∃ sv er l, e = .returned (.tuple #[sv, .int .i64 er]) ∧ ((er = 0 ∧ l = wsE 2 (fst x).toNat x.k x.x ∧ (decP (wsF (wsE 2 (fst x).toNat x.k x.x)) 2 0).e = 0 ∧ (decP (wsF (wsE 2 (fst x).toNat x.k x.x)) 2 0).x = x) ∨ (er = 3 ∧ l = [] ∧ ¬ ((decP (wsF (wsE 2 (fst x).toNat x.k x.x)) 2 0).e = 0 ∧ (decP (wsF (wsE 2 (fst x).toNat x.k x.x)) 2 0).x = x))) ∧ Lies w w' sv l ∧ Below w.heap.size w w' := by
  have HF : Hid _ := hF
  have HD : Hid _ := hD
  clear hF hD
  go_enter Try.func9, Try.ntmps9
  go_wp2_with (go_at_call 35; refine (form_any _ _).mono ?_; rintro e w9 ⟨rfl, rfl⟩; rw [HF.out])
  refine wp_loop_rounds 5 ?_
  iterate 4 (rw [rounds_succ]; go_wp2)
  rw [rounds_succ]
  go_upto_region 14 with fail
  refine wp_gen (fun W' => RE1 w W' x) (re1_start w x _) ?_
  intro W hE
  have k0 : W.cell? ⟨w.heap.size, 0, none⟩ = some (.int .i64 x.op) := row_cell hE.bx 0
  have k1 : W.cell? ⟨w.heap.size, 1, none⟩ = some (.int .i64 x.d) := row_cell hE.bx 1
  have k2 : W.cell? ⟨w.heap.size, 2, none⟩ = some (.int .i64 x.a) := row_cell hE.bx 2
  have k3 : W.cell? ⟨w.heap.size, 3, none⟩ = some (.int .i64 x.b) := row_cell hE.bx 3
  have k4 : W.cell? ⟨w.heap.size, 4, none⟩ = some (.int .i64 x.c) := row_cell hE.bx 4
  have k5 : W.cell? ⟨w.heap.size, 5, none⟩ = some (.int .i64 x.n) := row_cell hE.bx 5
  have k6 : W.cell? ⟨w.heap.size, 6, none⟩ = some (.int .u32 x.k) := row_cell hE.bx 6
  have k7 : W.cell? ⟨w.heap.size, 7, none⟩ = some (.int .u32 x.x) := row_cell hE.bx 7
  have lx := row_lt hE.bx
  have HE : Hid _ := hE
  clear hE
  go_region_held3 (fun W' => W'.cell? ⟨w.heap.size, 0, none⟩ = some (.int .i64 x.op) ∧ W'.cell? ⟨w.heap.size, 1, none⟩ = some (.int .i64 x.d) ∧ W'.cell? ⟨w.heap.size, 2, none⟩ = some (.int .i64 x.a) ∧ W'.cell? ⟨w.heap.size, 3, none⟩ = some (.int .i64 x.b) ∧ W'.cell? ⟨w.heap.size, 4, none⟩ = some (.int .i64 x.c) ∧ W'.cell? ⟨w.heap.size, 5, none⟩ = some (.int .i64 x.n) ∧ W'.cell? ⟨w.heap.size, 6, none⟩ = some (.int .u32 x.k) ∧ W'.cell? ⟨w.heap.size, 7, none⟩ = some (.int .u32 x.x)) (first | (simp [go_sem, k0, k1, k2, k3, k4, k5, k6, k7, lx]; done) | (simp [go_sem, k0, k1, k2, k3, k4, k5, k6, k7, lx]; omega)) ((go_at_call 36; refine (first_any x W.drew).mono ?_; rintro e w9 ⟨rfl, rfl⟩))
  go_upto_region 15 with fail
  refine wp_gen (fun W' => RE2 w W' x (W.heap.size + 1) 2) (by first | exact re2_start2 HE.out hk hy | exact (re2_start2 HE.out hk hy).drw) ?_
  clear HE k0 k1 k2 k3 k4 k5 k6 k7 lx
  intro V hV
  have HV : Hid _ := hV
  clear hV
  go_upto_region 16 with (go_at_call 37; refine (rDecode_any (some ⟨W.heap.size + 1, 0, none⟩) 2 3 0 (wsF (wsE 2 (fst x).toNat x.k x.x)) V (.inr ⟨W.heap.size + 1, 0, rfl, by decide, by decide, HV.out.wr⟩)).mono ?_; rintro e w3 ⟨rfl, hb3⟩; rw [HD.out]; have HB3 : Hid _ := hb3; clear hb3)
  refine wp_gen (fun W' => EN2 w W' x D.x w3.heap.size (W.heap.size + 1) 2 (wsF (wsE 2 (fst x).toNat x.k x.x))) (re3_start D.x HV.out HB3.out) ?_
  clear HV HB3
  intro U hU
  have k0 : U.cell? ⟨w.heap.size, 0, none⟩ = some (.int .i64 x.op) := row_cell hU.bx 0
  have y0 : U.cell? ⟨w3.heap.size, 0, none⟩ = some (.int .i64 D.x.op) := row_cell hU.by_ 0
  have k1 : U.cell? ⟨w.heap.size, 1, none⟩ = some (.int .i64 x.d) := row_cell hU.bx 1
  have y1 : U.cell? ⟨w3.heap.size, 1, none⟩ = some (.int .i64 D.x.d) := row_cell hU.by_ 1
  have k2 : U.cell? ⟨w.heap.size, 2, none⟩ = some (.int .i64 x.a) := row_cell hU.bx 2
  have y2 : U.cell? ⟨w3.heap.size, 2, none⟩ = some (.int .i64 D.x.a) := row_cell hU.by_ 2
  have k3 : U.cell? ⟨w.heap.size, 3, none⟩ = some (.int .i64 x.b) := row_cell hU.bx 3
  have y3 : U.cell? ⟨w3.heap.size, 3, none⟩ = some (.int .i64 D.x.b) := row_cell hU.by_ 3
  have k4 : U.cell? ⟨w.heap.size, 4, none⟩ = some (.int .i64 x.c) := row_cell hU.bx 4
  have y4 : U.cell? ⟨w3.heap.size, 4, none⟩ = some (.int .i64 D.x.c) := row_cell hU.by_ 4
  have k5 : U.cell? ⟨w.heap.size, 5, none⟩ = some (.int .i64 x.n) := row_cell hU.bx 5
  have y5 : U.cell? ⟨w3.heap.size, 5, none⟩ = some (.int .i64 D.x.n) := row_cell hU.by_ 5
  have k6 : U.cell? ⟨w.heap.size, 6, none⟩ = some (.int .u32 x.k) := row_cell hU.bx 6
  have y6 : U.cell? ⟨w3.heap.size, 6, none⟩ = some (.int .u32 D.x.k) := row_cell hU.by_ 6
  have k7 : U.cell? ⟨w.heap.size, 7, none⟩ = some (.int .u32 x.x) := row_cell hU.bx 7
  have y7 : U.cell? ⟨w3.heap.size, 7, none⟩ = some (.int .u32 D.x.x) := row_cell hU.by_ 7
  have lx := row_lt hU.bx
  have ly := row_lt hU.by_
  have HU : Hid _ := hU
  clear hU
  by_cases e0 : D.e = 0
  · have g0 : (D.e != 0) = false := by simp [e0]
    go_wp2_with (at_builtin; refine wpList_words rfl _ _ rfl rfl (W.heap.size + 1) 0 2 3 rfl (wsF (wsE 2 (fst x).toNat x.k x.x)) HU.out.wr (by decide) (by decide) U.heap.size rfl ?_; intro c w2 hr2 hb2 hc2; have HR2 : Hid _ := hr2; have HB2 : Hid _ := hb2; have HC2 : Hid _ := hc2; clear hr2 hb2 hc2)
    · have hx : D.x = x := cd_ext _ _ (by assumption) (by assumption) (by assumption) (by assumption) (by assumption) (by assumption) (by assumption) (by assumption)
      go_ret2
      have hs := HU.out.bel.size
      exact ⟨_, 0, wsE 2 (fst x).toNat x.k x.x, rfl, .inl ⟨rfl, rfl, HD.out.symm ▸ e0, HD.out.symm ▸ hx⟩, .inr ⟨U.heap.size, c, rfl, by omega, HC2.out, Nat.le_of_ble_eq_true rfl, HR2.out⟩, HU.out.bel.trans (HB2.out.mono hs)⟩
    all_goals
      have hx : ¬ D.x = x := by
        intro e; first | exact absurd (congrArg Cd.op e) (by assumption) | exact absurd (congrArg Cd.d e) (by assumption) | exact absurd (congrArg Cd.a e) (by assumption) | exact absurd (congrArg Cd.b e) (by assumption) | exact absurd (congrArg Cd.c e) (by assumption) | exact absurd (congrArg Cd.n e) (by assumption) | exact absurd (congrArg (fun z => ((Cd.k z : Nat) : Int)) e) (by assumption) | exact absurd (congrArg (fun z => ((Cd.x z : Nat) : Int)) e) (by assumption)
      go_ret2
      exact ⟨_, 3, [], rfl, .inr ⟨rfl, rfl, HD.out.symm ▸ (fun h => hx h.2)⟩, .inl ⟨rfl, rfl⟩, HU.out.bel⟩
  · have g0 : (D.e != 0) = true := by simp [e0]
    go_wp2
    go_ret2
    exact ⟨_, 3, [], rfl, .inr ⟨rfl, rfl, HD.out.symm ▸ (fun h => e0 h.1)⟩, .inl ⟨rfl, rfl⟩, HU.out.bel⟩
end Go.Proofs.Ytgkkghphlbgcoaa.Ho
namespace Go.Proofs.Ytgkkghphlbgcoaa.Ho
open Go.RowKit
set_option maxRecDepth 100000
set_option linter.unusedVariables false
set_option linter.unusedSimpArgs false
set_option maxHeartbeats 2000000 in
theorem renc_ok3 (x : Cd) (w : World) (hk : x.k < 4294967296) (hy : x.x < 4294967296) (h : ¬ x.op < 0) (s : Array UInt8) (most : Int) (hF : fmR x.op = ⟨s, most, 3⟩) (h0l : ¬ x.d < 0) (h0h : ¬ 15 < x.d) (h1l : ¬ x.a < 0) (h1h : ¬ 15 < x.a) (h2l : ¬ x.b < 0) (h2h : ¬ 15 < x.b) (h3l : ¬ x.c < 0) (h3h : ¬ 15 < x.c) (hl : ¬ x.n < 0) (hh : ¬ 65535 < x.n) (D : Dc) (hD : decP (wsF (wsE 3 (fst x).toNat x.k x.x)) 3 0 = D) : Calls Try.prog 9 #[cdV x] w fun e w' => ∃ sv er l, e = .returned (.tuple #[sv, .int .i64 er]) ∧ ((er = 0 ∧ l = wsE 3 (fst x).toNat x.k x.x ∧ (decP (wsF (wsE 3 (fst x).toNat x.k x.x)) 3 0).e = 0 ∧ (decP (wsF (wsE 3 (fst x).toNat x.k x.x)) 3 0).x = x) ∨ (er = 3 ∧ l = [] ∧ ¬ ((decP (wsF (wsE 3 (fst x).toNat x.k x.x)) 3 0).e = 0 ∧ (decP (wsF (wsE 3 (fst x).toNat x.k x.x)) 3 0).x = x))) ∧ Lies w w' sv l ∧ Below w.heap.size w w' := by
  have HF : Hid _ := hF
  have HD : Hid _ := hD
  clear hF hD
  go_enter Try.func9, Try.ntmps9
  go_wp2_with (go_at_call 35; refine (form_any _ _).mono ?_; rintro e w9 ⟨rfl, rfl⟩; rw [HF.out])
  refine wp_loop_rounds 5 ?_
  iterate 4 (rw [rounds_succ]; go_wp2)
  rw [rounds_succ]
  go_upto_region 14 with fail
  refine wp_gen (fun W' => RE1 w W' x) (re1_start w x _) ?_
  intro W hE
  have k0 : W.cell? ⟨w.heap.size, 0, none⟩ = some (.int .i64 x.op) := row_cell hE.bx 0
  have k1 : W.cell? ⟨w.heap.size, 1, none⟩ = some (.int .i64 x.d) := row_cell hE.bx 1
  have k2 : W.cell? ⟨w.heap.size, 2, none⟩ = some (.int .i64 x.a) := row_cell hE.bx 2
  have k3 : W.cell? ⟨w.heap.size, 3, none⟩ = some (.int .i64 x.b) := row_cell hE.bx 3
  have k4 : W.cell? ⟨w.heap.size, 4, none⟩ = some (.int .i64 x.c) := row_cell hE.bx 4
  have k5 : W.cell? ⟨w.heap.size, 5, none⟩ = some (.int .i64 x.n) := row_cell hE.bx 5
  have k6 : W.cell? ⟨w.heap.size, 6, none⟩ = some (.int .u32 x.k) := row_cell hE.bx 6
  have k7 : W.cell? ⟨w.heap.size, 7, none⟩ = some (.int .u32 x.x) := row_cell hE.bx 7
  have lx := row_lt hE.bx
  have HE : Hid _ := hE
  clear hE
  go_region_held3 (fun W' => W'.cell? ⟨w.heap.size, 0, none⟩ = some (.int .i64 x.op) ∧ W'.cell? ⟨w.heap.size, 1, none⟩ = some (.int .i64 x.d) ∧ W'.cell? ⟨w.heap.size, 2, none⟩ = some (.int .i64 x.a) ∧ W'.cell? ⟨w.heap.size, 3, none⟩ = some (.int .i64 x.b) ∧ W'.cell? ⟨w.heap.size, 4, none⟩ = some (.int .i64 x.c) ∧ W'.cell? ⟨w.heap.size, 5, none⟩ = some (.int .i64 x.n) ∧ W'.cell? ⟨w.heap.size, 6, none⟩ = some (.int .u32 x.k) ∧ W'.cell? ⟨w.heap.size, 7, none⟩ = some (.int .u32 x.x)) (first | (simp [go_sem, k0, k1, k2, k3, k4, k5, k6, k7, lx]; done) | (simp [go_sem, k0, k1, k2, k3, k4, k5, k6, k7, lx]; omega)) ((go_at_call 36; refine (first_any x W.drew).mono ?_; rintro e w9 ⟨rfl, rfl⟩))
  go_upto_region 15 with fail
  refine wp_gen (fun W' => RE2 w W' x (W.heap.size + 1) 3) (by first | exact re2_start3 HE.out hk hy | exact (re2_start3 HE.out hk hy).drw) ?_
  clear HE k0 k1 k2 k3 k4 k5 k6 k7 lx
  intro V hV
  have HV : Hid _ := hV
  clear hV
  go_upto_region 16 with (go_at_call 37; refine (rDecode_any (some ⟨W.heap.size + 1, 0, none⟩) 3 3 0 (wsF (wsE 3 (fst x).toNat x.k x.x)) V (.inr ⟨W.heap.size + 1, 0, rfl, by decide, by decide, HV.out.wr⟩)).mono ?_; rintro e w3 ⟨rfl, hb3⟩; rw [HD.out]; have HB3 : Hid _ := hb3; clear hb3)
  refine wp_gen (fun W' => EN2 w W' x D.x w3.heap.size (W.heap.size + 1) 3 (wsF (wsE 3 (fst x).toNat x.k x.x))) (re3_start D.x HV.out HB3.out) ?_
  clear HV HB3
  intro U hU
  have k0 : U.cell? ⟨w.heap.size, 0, none⟩ = some (.int .i64 x.op) := row_cell hU.bx 0
  have y0 : U.cell? ⟨w3.heap.size, 0, none⟩ = some (.int .i64 D.x.op) := row_cell hU.by_ 0
  have k1 : U.cell? ⟨w.heap.size, 1, none⟩ = some (.int .i64 x.d) := row_cell hU.bx 1
  have y1 : U.cell? ⟨w3.heap.size, 1, none⟩ = some (.int .i64 D.x.d) := row_cell hU.by_ 1
  have k2 : U.cell? ⟨w.heap.size, 2, none⟩ = some (.int .i64 x.a) := row_cell hU.bx 2
  have y2 : U.cell? ⟨w3.heap.size, 2, none⟩ = some (.int .i64 D.x.a) := row_cell hU.by_ 2
  have k3 : U.cell? ⟨w.heap.size, 3, none⟩ = some (.int .i64 x.b) := row_cell hU.bx 3
  have y3 : U.cell? ⟨w3.heap.size, 3, none⟩ = some (.int .i64 D.x.b) := row_cell hU.by_ 3
  have k4 : U.cell? ⟨w.heap.size, 4, none⟩ = some (.int .i64 x.c) := row_cell hU.bx 4
  have y4 : U.cell? ⟨w3.heap.size, 4, none⟩ = some (.int .i64 D.x.c) := row_cell hU.by_ 4
  have k5 : U.cell? ⟨w.heap.size, 5, none⟩ = some (.int .i64 x.n) := row_cell hU.bx 5
  have y5 : U.cell? ⟨w3.heap.size, 5, none⟩ = some (.int .i64 D.x.n) := row_cell hU.by_ 5
  have k6 : U.cell? ⟨w.heap.size, 6, none⟩ = some (.int .u32 x.k) := row_cell hU.bx 6
  have y6 : U.cell? ⟨w3.heap.size, 6, none⟩ = some (.int .u32 D.x.k) := row_cell hU.by_ 6
  have k7 : U.cell? ⟨w.heap.size, 7, none⟩ = some (.int .u32 x.x) := row_cell hU.bx 7
  have y7 : U.cell? ⟨w3.heap.size, 7, none⟩ = some (.int .u32 D.x.x) := row_cell hU.by_ 7
  have lx := row_lt hU.bx
  have ly := row_lt hU.by_
  have HU : Hid _ := hU
  clear hU
  by_cases e0 : D.e = 0
  · have g0 : (D.e != 0) = false := by simp [e0]
    go_wp2_with (at_builtin; refine wpList_words rfl _ _ rfl rfl (W.heap.size + 1) 0 3 3 rfl (wsF (wsE 3 (fst x).toNat x.k x.x)) HU.out.wr (by decide) (by decide) U.heap.size rfl ?_; intro c w2 hr2 hb2 hc2; have HR2 : Hid _ := hr2; have HB2 : Hid _ := hb2; have HC2 : Hid _ := hc2; clear hr2 hb2 hc2)
    · have hx : D.x = x := cd_ext _ _ (by assumption) (by assumption) (by assumption) (by assumption) (by assumption) (by assumption) (by assumption) (by assumption)
      go_ret2
      have hs := HU.out.bel.size
      exact ⟨_, 0, wsE 3 (fst x).toNat x.k x.x, rfl, .inl ⟨rfl, rfl, HD.out.symm ▸ e0, HD.out.symm ▸ hx⟩, .inr ⟨U.heap.size, c, rfl, by omega, HC2.out, Nat.le_of_ble_eq_true rfl, HR2.out⟩, HU.out.bel.trans (HB2.out.mono hs)⟩
    all_goals
      have hx : ¬ D.x = x := by
        intro e; first | exact absurd (congrArg Cd.op e) (by assumption) | exact absurd (congrArg Cd.d e) (by assumption) | exact absurd (congrArg Cd.a e) (by assumption) | exact absurd (congrArg Cd.b e) (by assumption) | exact absurd (congrArg Cd.c e) (by assumption) | exact absurd (congrArg Cd.n e) (by assumption) | exact absurd (congrArg (fun z => ((Cd.k z : Nat) : Int)) e) (by assumption) | exact absurd (congrArg (fun z => ((Cd.x z : Nat) : Int)) e) (by assumption)
      go_ret2
      exact ⟨_, 3, [], rfl, .inr ⟨rfl, rfl, HD.out.symm ▸ (fun h => hx h.2)⟩, .inl ⟨rfl, rfl⟩, HU.out.bel⟩
  · have g0 : (D.e != 0) = true := by simp [e0]
    go_wp2
    go_ret2
    exact ⟨_, 3, [], rfl, .inr ⟨rfl, rfl, HD.out.symm ▸ (fun h => e0 h.1)⟩, .inl ⟨rfl, rfl⟩, HU.out.bel⟩
end Go.Proofs.Ytgkkghphlbgcoaa.Ho
