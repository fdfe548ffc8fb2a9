import Derived.Test.YtgkkghphlbgcoaaHS
import Derived.Test.YtgkkghphlbgcoaaHU
namespace Go.Proofs.Ytgkkghphlbgcoaa.Ho
open Go.RowKit
set_option maxRecDepth 100000
set_option linter.unusedVariables false
set_option linter.unusedSimpArgs false
theorem row_base {w : World} {b b' e sz n : Nat} {v : Value} {xs : List Value} (h : w.ownsRow b e sz v n xs) (hb : b' ≤ b) : w.ownsRow b' e sz v n xs := ⟨h.1, h.2.elim .inl fun ⟨g, cap, cur, e, h2, r⟩ => .inr ⟨g, cap, cur, e, Nat.le_trans hb h2, r⟩⟩
/-- A copy of words, by append to nothing. -/
theorem wpList_wordsO {w : World} {ops : Array Oper} {rest : List Oper} {o : Oper} {a : Act} {Q : Exit → Act → World → Prop} (hgd : o.guard = none) (s x : Operand)
    (ho : o.op = .call { callee := .builtin .append, args := #[s, x], argTypes := #[32, 32] }) (hs : a.eval s = .slice none 0 0) (b off m c : Nat) (hx : a.eval x = .slice (some ⟨b, off, none⟩) m c) (ws : Nat → Nat) (hr : WR w b off m ws) (hm : 0 < m) (hl : m ≤ 35184372088832) (H : Nat) (hH : w.heap.size = H)
    (h : ∀ cap w', w'.ownsRow H 30 1 (.slice (some ⟨H, 0, none⟩) m cap) m (wdCs ws m) → Below H w w' → m ≤ cap → wpList Try.prog ops Q rest (a.put o.dst (.slice (some ⟨H, 0, none⟩) m cap)) w') : wpList Try.prog ops Q (o :: rest) a w := by
  subst hH
  obtain ⟨i0, hi, hz0, hz1, hz2⟩ := info_parts info24
  refine wpList_append_lies _ hgd s x 32 ho w.heap.size 30 i0 (.int .u32 0) 1 4 Try.underlying32 hi hz0 hz1 hz2 rfl (by decide) (.slice none 0 0) 0 [] hs (World.ownsRow_nil _ _ _ _) ⟨b, off, none⟩ m c (wdCs ws m) hx (by rw [wdCs_len]; omega) (fun j u hu => ?_) (wdCs_one _ _) hm
    (by unfold maxLen; omega) (by omega) (Nat.le_refl _) w.heap.size rfl ?_
  · rw [Addr.add_mid]
    have hj : j < m := by
      rcases Nat.lt_or_ge j m with g | g
      · exact g
      · rw [List.getElem?_eq_none (by rw [wdCs_len]; exact g)] at hu; cases hu
    rw [hr.cell j hj, ← hu, wdCs_get _ _ _ hj]
  intro g cap w1 hown hgrow hat hlt
  have hg : g = w.heap.size := by
    rcases hat with h | h
    · simp [Value.ownBlock] at h
    · exact h
  subst hg
  have hbel : Below w.heap.size w w1 := (Below.refl _ _).grown hgrow (Nat.le_refl _) (fun k hk => by simp [Value.ownBlock] at hk)
  rw [Nat.zero_add] at *
  have hcap : m ≤ cap := by
    rcases hown.2 with ⟨h, -⟩ | ⟨g, c, cur, h, -, hcur, h1, h2, -⟩
    · cases h
    · simp only [Value.slice.injEq, Option.some.injEq, Addr.mk.injEq] at h
      obtain ⟨⟨rfl, -, -⟩, -, rfl⟩ := h
      omega
  exact h cap w1 (by simpa using hown) hbel hcap
theorem encX1 : encP (⟨1, 0, 0, 0, 0, 1, 7, 0⟩ : Cd) = (0, [65537, 7]) := by decide +kernel
set_option maxHeartbeats 8000000 in
theorem renc1 (w : World) : Calls Try.prog 9 #[cdV (⟨1, 0, 0, 0, 0, 1, 7, 0⟩ : Cd)] w fun e w' => ∃ sv, e = .returned (.tuple #[sv, .int .i64 0]) ∧ w'.ownsRow w.heap.size 30 1 sv 2 (wdCs (wsF [65537, 7]) 2) ∧ Below w.heap.size w w' := by
  obtain ⟨x, hx⟩ : ∃ x : Cd, x = (⟨1, 0, 0, 0, 0, 1, 7, 0⟩ : Cd) := ⟨_, rfl⟩
  rw [← hx]
  have h : ¬ x.op < 0 := by rw [hx]; decide
  have hk : x.k < 4294967296 := by rw [hx]; decide
  have hy : x.x < 4294967296 := by rw [hx]; decide
  have hF : fmR x.op = ⟨#[110], 65, 2⟩ := by rw [hx]; rfl
  have h0l : ¬ x.d < 0 := by rw [hx]; decide
  have h0h : ¬ 15 < x.d := by rw [hx]; decide
  have h1l : ¬ x.a < 0 := by rw [hx]; decide
  have h1h : ¬ 15 < x.a := by rw [hx]; decide
  have h2l : ¬ x.b < 0 := by rw [hx]; decide
  have h2h : ¬ 15 < x.b := by rw [hx]; decide
  have h3l : ¬ x.c < 0 := by rw [hx]; decide
  have h3h : ¬ 15 < x.c := by rw [hx]; decide
  have hl : ¬ x.n < 0 := by rw [hx]; decide
  have hh : ¬ 65535 < x.n := by rw [hx]; decide
  have hfs : (fst x).toNat = 65537 := by rw [hx]; decide
  obtain ⟨X, hX⟩ : ∃ X : Cd, X = x := ⟨_, rfl⟩
  have hDe : (decP (wsF (wsE 2 (fst x).toNat x.k x.x)) 2 0).e = 0 := by rw [hx]; decide +kernel
  have hDx : (decP (wsF (wsE 2 (fst x).toNat x.k x.x)) 2 0).x = X := by rw [hX, hx]; decide +kernel
  obtain ⟨D, hD⟩ : ∃ D, decP (wsF (wsE 2 (fst x).toNat x.k x.x)) 2 0 = D := ⟨_, rfl⟩
  obtain ⟨De, Dx, Df, Dn⟩ := D
  rw [hD] at hDe hDx
  dsimp only at hDe hDx
  subst hDe hDx
  have HXX : Hid _ := hX
  have HX : Hid _ := hx
  have HFS : Hid _ := hfs
  have HF : Hid _ := hF
  have HD : Hid _ := hD
  clear hF hD hx hfs hX
  go_enter Try.func9, Try.ntmps9
  go_wp2_with (go_at_call 35; refine (form_any _ _).mono ?_; rintro e w9 ⟨rfl, rfl⟩; rw [HF.out])
  refine wp_loop_rounds 5 ?_
  iterate 4 (rw [rounds_succ]; go_wp2)
  rw [rounds_succ]
  go_upto_region 14 with fail
  refine wp_gen (fun W' => RE1 w W' x) (re1_start w x _) ?_
  intro W hE
  have k0 : W.cell? ⟨w.heap.size, 0, none⟩ = some (.int .i64 x.op) := row_cell hE.bx 0
  have k1 : W.cell? ⟨w.heap.size, 1, none⟩ = some (.int .i64 x.d) := row_cell hE.bx 1
  have k2 : W.cell? ⟨w.heap.size, 2, none⟩ = some (.int .i64 x.a) := row_cell hE.bx 2
  have k3 : W.cell? ⟨w.heap.size, 3, none⟩ = some (.int .i64 x.b) := row_cell hE.bx 3
  have k4 : W.cell? ⟨w.heap.size, 4, none⟩ = some (.int .i64 x.c) := row_cell hE.bx 4
  have k5 : W.cell? ⟨w.heap.size, 5, none⟩ = some (.int .i64 x.n) := row_cell hE.bx 5
  have k6 : W.cell? ⟨w.heap.size, 6, none⟩ = some (.int .u32 x.k) := row_cell hE.bx 6
  have k7 : W.cell? ⟨w.heap.size, 7, none⟩ = some (.int .u32 x.x) := row_cell hE.bx 7
  have lx := row_lt hE.bx
  have HE : Hid _ := hE
  clear hE
  go_region_held3 (fun W' => W'.cell? ⟨w.heap.size, 0, none⟩ = some (.int .i64 x.op) ∧ W'.cell? ⟨w.heap.size, 1, none⟩ = some (.int .i64 x.d) ∧ W'.cell? ⟨w.heap.size, 2, none⟩ = some (.int .i64 x.a) ∧ W'.cell? ⟨w.heap.size, 3, none⟩ = some (.int .i64 x.b) ∧ W'.cell? ⟨w.heap.size, 4, none⟩ = some (.int .i64 x.c) ∧ W'.cell? ⟨w.heap.size, 5, none⟩ = some (.int .i64 x.n) ∧ W'.cell? ⟨w.heap.size, 6, none⟩ = some (.int .u32 x.k) ∧ W'.cell? ⟨w.heap.size, 7, none⟩ = some (.int .u32 x.x)) (first | (simp [go_sem, k0, k1, k2, k3, k4, k5, k6, k7, lx]; done) | (simp [go_sem, k0, k1, k2, k3, k4, k5, k6, k7, lx]; omega)) ((go_at_call 36; refine (first_any x W.drew).mono ?_; rintro e w9 ⟨rfl, rfl⟩))
  go_upto_region 15 with fail
  refine wp_gen (fun W' => RE2 w W' x (W.heap.size + 1) 2) (by first | exact re2_start2 HE.out hk hy | exact (re2_start2 HE.out hk hy).drw) ?_
  clear HE k0 k1 k2 k3 k4 k5 k6 k7 lx
  intro V hV
  have HV : Hid _ := hV
  clear hV
  go_upto_region 16 with (go_at_call 37; refine (rDecode_any (some ⟨W.heap.size + 1, 0, none⟩) 2 3 0 (wsF (wsE 2 (fst x).toNat x.k x.x)) V (.inr ⟨W.heap.size + 1, 0, rfl, by decide, by decide, HV.out.wr⟩)).mono ?_; rintro e w3 ⟨rfl, hb3⟩; rw [HD.out]; have HB3 : Hid _ := hb3; clear hb3)
  refine wp_gen (fun W' => EN2 w W' x Dx w3.heap.size (W.heap.size + 1) 2 (wsF (wsE 2 (fst x).toNat x.k x.x))) (re3_start Dx HV.out HB3.out) ?_
  clear HV HB3
  intro U hU
  have k0 : U.cell? ⟨w.heap.size, 0, none⟩ = some (.int .i64 x.op) := row_cell hU.bx 0
  have y0 : U.cell? ⟨w3.heap.size, 0, none⟩ = some (.int .i64 Dx.op) := row_cell hU.by_ 0
  have k1 : U.cell? ⟨w.heap.size, 1, none⟩ = some (.int .i64 x.d) := row_cell hU.bx 1
  have y1 : U.cell? ⟨w3.heap.size, 1, none⟩ = some (.int .i64 Dx.d) := row_cell hU.by_ 1
  have k2 : U.cell? ⟨w.heap.size, 2, none⟩ = some (.int .i64 x.a) := row_cell hU.bx 2
  have y2 : U.cell? ⟨w3.heap.size, 2, none⟩ = some (.int .i64 Dx.a) := row_cell hU.by_ 2
  have k3 : U.cell? ⟨w.heap.size, 3, none⟩ = some (.int .i64 x.b) := row_cell hU.bx 3
  have y3 : U.cell? ⟨w3.heap.size, 3, none⟩ = some (.int .i64 Dx.b) := row_cell hU.by_ 3
  have k4 : U.cell? ⟨w.heap.size, 4, none⟩ = some (.int .i64 x.c) := row_cell hU.bx 4
  have y4 : U.cell? ⟨w3.heap.size, 4, none⟩ = some (.int .i64 Dx.c) := row_cell hU.by_ 4
  have k5 : U.cell? ⟨w.heap.size, 5, none⟩ = some (.int .i64 x.n) := row_cell hU.bx 5
  have y5 : U.cell? ⟨w3.heap.size, 5, none⟩ = some (.int .i64 Dx.n) := row_cell hU.by_ 5
  have k6 : U.cell? ⟨w.heap.size, 6, none⟩ = some (.int .u32 x.k) := row_cell hU.bx 6
  have y6 : U.cell? ⟨w3.heap.size, 6, none⟩ = some (.int .u32 Dx.k) := row_cell hU.by_ 6
  have k7 : U.cell? ⟨w.heap.size, 7, none⟩ = some (.int .u32 x.x) := row_cell hU.bx 7
  have y7 : U.cell? ⟨w3.heap.size, 7, none⟩ = some (.int .u32 Dx.x) := row_cell hU.by_ 7
  have lx := row_lt hU.bx
  have ly := row_lt hU.by_
  have HU : Hid _ := hU
  clear hU
  go_wp2_with (at_builtin; refine wpList_wordsO rfl _ _ rfl rfl (W.heap.size + 1) 0 2 3 rfl (wsF (wsE 2 (fst x).toNat x.k x.x)) HU.out.wr (by decide) (by decide) U.heap.size rfl ?_; intro c w2 hr2 hb2 hc2; have HR2 : Hid _ := hr2; have HB2 : Hid _ := hb2; have HC2 : Hid _ := hc2; clear hr2 hb2 hc2)
  · go_ret2
    have hs := HU.out.bel.size
    refine ⟨_, rfl, ?_, HU.out.bel.trans (HB2.out.mono hs)⟩
    have h1 := HR2.out
    rw [show wsE 2 (fst x).toNat x.k x.x = [65537, 7] by rw [HFS.out, HX.out]; rfl] at h1
    exact row_base h1 hs
  all_goals
    have hx : ¬ Dx = x := by
      intro e
      subst e
      first | contradiction | (simp_all; done)
    exact absurd HXX.out hx
theorem encX14 : encP (⟨14, 0, 0, 0, 0, 1, 7, 0⟩ : Cd) = (0, [65550, 7]) := by decide +kernel
set_option maxHeartbeats 8000000 in
theorem renc14 (w : World) : Calls Try.prog 9 #[cdV (⟨14, 0, 0, 0, 0, 1, 7, 0⟩ : Cd)] w fun e w' => ∃ sv, e = .returned (.tuple #[sv, .int .i64 0]) ∧ w'.ownsRow w.heap.size 30 1 sv 2 (wdCs (wsF [65550, 7]) 2) ∧ Below w.heap.size w w' := by
  obtain ⟨x, hx⟩ : ∃ x : Cd, x = (⟨14, 0, 0, 0, 0, 1, 7, 0⟩ : Cd) := ⟨_, rfl⟩
  rw [← hx]
  have h : ¬ x.op < 0 := by rw [hx]; decide
  have hk : x.k < 4294967296 := by rw [hx]; decide
  have hy : x.x < 4294967296 := by rw [hx]; decide
  have hF : fmR x.op = ⟨#[110], 65, 2⟩ := by rw [hx]; rfl
  have h0l : ¬ x.d < 0 := by rw [hx]; decide
  have h0h : ¬ 15 < x.d := by rw [hx]; decide
  have h1l : ¬ x.a < 0 := by rw [hx]; decide
  have h1h : ¬ 15 < x.a := by rw [hx]; decide
  have h2l : ¬ x.b < 0 := by rw [hx]; decide
  have h2h : ¬ 15 < x.b := by rw [hx]; decide
  have h3l : ¬ x.c < 0 := by rw [hx]; decide
  have h3h : ¬ 15 < x.c := by rw [hx]; decide
  have hl : ¬ x.n < 0 := by rw [hx]; decide
  have hh : ¬ 65535 < x.n := by rw [hx]; decide
  have hfs : (fst x).toNat = 65550 := by rw [hx]; decide
  obtain ⟨X, hX⟩ : ∃ X : Cd, X = x := ⟨_, rfl⟩
  have hDe : (decP (wsF (wsE 2 (fst x).toNat x.k x.x)) 2 0).e = 0 := by rw [hx]; decide +kernel
  have hDx : (decP (wsF (wsE 2 (fst x).toNat x.k x.x)) 2 0).x = X := by rw [hX, hx]; decide +kernel
  obtain ⟨D, hD⟩ : ∃ D, decP (wsF (wsE 2 (fst x).toNat x.k x.x)) 2 0 = D := ⟨_, rfl⟩
  obtain ⟨De, Dx, Df, Dn⟩ := D
  rw [hD] at hDe hDx
  dsimp only at hDe hDx
  subst hDe hDx
  have HXX : Hid _ := hX
  have HX : Hid _ := hx
  have HFS : Hid _ := hfs
  have HF : Hid _ := hF
  have HD : Hid _ := hD
  clear hF hD hx hfs hX
  go_enter Try.func9, Try.ntmps9
  go_wp2_with (go_at_call 35; refine (form_any _ _).mono ?_; rintro e w9 ⟨rfl, rfl⟩; rw [HF.out])
  refine wp_loop_rounds 5 ?_
  iterate 4 (rw [rounds_succ]; go_wp2)
  rw [rounds_succ]
  go_upto_region 14 with fail
  refine wp_gen (fun W' => RE1 w W' x) (re1_start w x _) ?_
  intro W hE
  have k0 : W.cell? ⟨w.heap.size, 0, none⟩ = some (.int .i64 x.op) := row_cell hE.bx 0
  have k1 : W.cell? ⟨w.heap.size, 1, none⟩ = some (.int .i64 x.d) := row_cell hE.bx 1
  have k2 : W.cell? ⟨w.heap.size, 2, none⟩ = some (.int .i64 x.a) := row_cell hE.bx 2
  have k3 : W.cell? ⟨w.heap.size, 3, none⟩ = some (.int .i64 x.b) := row_cell hE.bx 3
  have k4 : W.cell? ⟨w.heap.size, 4, none⟩ = some (.int .i64 x.c) := row_cell hE.bx 4
  have k5 : W.cell? ⟨w.heap.size, 5, none⟩ = some (.int .i64 x.n) := row_cell hE.bx 5
  have k6 : W.cell? ⟨w.heap.size, 6, none⟩ = some (.int .u32 x.k) := row_cell hE.bx 6
  have k7 : W.cell? ⟨w.heap.size, 7, none⟩ = some (.int .u32 x.x) := row_cell hE.bx 7
  have lx := row_lt hE.bx
  have HE : Hid _ := hE
  clear hE
  go_region_held3 (fun W' => W'.cell? ⟨w.heap.size, 0, none⟩ = some (.int .i64 x.op) ∧ W'.cell? ⟨w.heap.size, 1, none⟩ = some (.int .i64 x.d) ∧ W'.cell? ⟨w.heap.size, 2, none⟩ = some (.int .i64 x.a) ∧ W'.cell? ⟨w.heap.size, 3, none⟩ = some (.int .i64 x.b) ∧ W'.cell? ⟨w.heap.size, 4, none⟩ = some (.int .i64 x.c) ∧ W'.cell? ⟨w.heap.size, 5, none⟩ = some (.int .i64 x.n) ∧ W'.cell? ⟨w.heap.size, 6, none⟩ = some (.int .u32 x.k) ∧ W'.cell? ⟨w.heap.size, 7, none⟩ = some (.int .u32 x.x)) (first | (simp [go_sem, k0, k1, k2, k3, k4, k5, k6, k7, lx]; done) | (simp [go_sem, k0, k1, k2, k3, k4, k5, k6, k7, lx]; omega)) ((go_at_call 36; refine (first_any x W.drew).mono ?_; rintro e w9 ⟨rfl, rfl⟩))
  go_upto_region 15 with fail
  refine wp_gen (fun W' => RE2 w W' x (W.heap.size + 1) 2) (by first | exact re2_start2 HE.out hk hy | exact (re2_start2 HE.out hk hy).drw) ?_
  clear HE k0 k1 k2 k3 k4 k5 k6 k7 lx
  intro V hV
  have HV : Hid _ := hV
  clear hV
  go_upto_region 16 with (go_at_call 37; refine (rDecode_any (some ⟨W.heap.size + 1, 0, none⟩) 2 3 0 (wsF (wsE 2 (fst x).toNat x.k x.x)) V (.inr ⟨W.heap.size + 1, 0, rfl, by decide, by decide, HV.out.wr⟩)).mono ?_; rintro e w3 ⟨rfl, hb3⟩; rw [HD.out]; have HB3 : Hid _ := hb3; clear hb3)
  refine wp_gen (fun W' => EN2 w W' x Dx w3.heap.size (W.heap.size + 1) 2 (wsF (wsE 2 (fst x).toNat x.k x.x))) (re3_start Dx HV.out HB3.out) ?_
  clear HV HB3
  intro U hU
  have k0 : U.cell? ⟨w.heap.size, 0, none⟩ = some (.int .i64 x.op) := row_cell hU.bx 0
  have y0 : U.cell? ⟨w3.heap.size, 0, none⟩ = some (.int .i64 Dx.op) := row_cell hU.by_ 0
  have k1 : U.cell? ⟨w.heap.size, 1, none⟩ = some (.int .i64 x.d) := row_cell hU.bx 1
  have y1 : U.cell? ⟨w3.heap.size, 1, none⟩ = some (.int .i64 Dx.d) := row_cell hU.by_ 1
  have k2 : U.cell? ⟨w.heap.size, 2, none⟩ = some (.int .i64 x.a) := row_cell hU.bx 2
  have y2 : U.cell? ⟨w3.heap.size, 2, none⟩ = some (.int .i64 Dx.a) := row_cell hU.by_ 2
  have k3 : U.cell? ⟨w.heap.size, 3, none⟩ = some (.int .i64 x.b) := row_cell hU.bx 3
  have y3 : U.cell? ⟨w3.heap.size, 3, none⟩ = some (.int .i64 Dx.b) := row_cell hU.by_ 3
  have k4 : U.cell? ⟨w.heap.size, 4, none⟩ = some (.int .i64 x.c) := row_cell hU.bx 4
  have y4 : U.cell? ⟨w3.heap.size, 4, none⟩ = some (.int .i64 Dx.c) := row_cell hU.by_ 4
  have k5 : U.cell? ⟨w.heap.size, 5, none⟩ = some (.int .i64 x.n) := row_cell hU.bx 5
  have y5 : U.cell? ⟨w3.heap.size, 5, none⟩ = some (.int .i64 Dx.n) := row_cell hU.by_ 5
  have k6 : U.cell? ⟨w.heap.size, 6, none⟩ = some (.int .u32 x.k) := row_cell hU.bx 6
  have y6 : U.cell? ⟨w3.heap.size, 6, none⟩ = some (.int .u32 Dx.k) := row_cell hU.by_ 6
  have k7 : U.cell? ⟨w.heap.size, 7, none⟩ = some (.int .u32 x.x) := row_cell hU.bx 7
  have y7 : U.cell? ⟨w3.heap.size, 7, none⟩ = some (.int .u32 Dx.x) := row_cell hU.by_ 7
  have lx := row_lt hU.bx
  have ly := row_lt hU.by_
  have HU : Hid _ := hU
  clear hU
  go_wp2_with (at_builtin; refine wpList_wordsO rfl _ _ rfl rfl (W.heap.size + 1) 0 2 3 rfl (wsF (wsE 2 (fst x).toNat x.k x.x)) HU.out.wr (by decide) (by decide) U.heap.size rfl ?_; intro c w2 hr2 hb2 hc2; have HR2 : Hid _ := hr2; have HB2 : Hid _ := hb2; have HC2 : Hid _ := hc2; clear hr2 hb2 hc2)
  · go_ret2
    have hs := HU.out.bel.size
    refine ⟨_, rfl, ?_, HU.out.bel.trans (HB2.out.mono hs)⟩
    have h1 := HR2.out
    rw [show wsE 2 (fst x).toNat x.k x.x = [65550, 7] by rw [HFS.out, HX.out]; rfl] at h1
    exact row_base h1 hs
  all_goals
    have hx : ¬ Dx = x := by
      intro e
      subst e
      first | contradiction | (simp_all; done)
    exact absurd HXX.out hx
end Go.Proofs.Ytgkkghphlbgcoaa.Ho
