import Derived.Test.YtnojlbahmlmknabHT
namespace Go.Proofs.Ytnojlbahmlmknab
open Go.RowKit
set_option maxRecDepth 100000
set_option linter.unusedVariables false
set_option linter.unusedSimpArgs false
theorem ws_lt (n v k y : Nat) (hv : v < 4294967296) (hk : k < 4294967296) (hy : y < 4294967296) : ∀ i, wsF (wsE n v k y) i < 4294967296 := by
  intro i
  unfold wsF wsE
  rw [List.getD_eq_getElem?_getD, List.getElem?_take]
  split
  · rcases i with _ | _ | _ | i <;> simp <;> omega
  · simp
theorem ws_zero (h : Int) (v k y : Nat) : wsF (wsE (szN h) v k y) 0 = v := by rcases szN_cases h with e | e | e <;> rw [e] <;> rfl
theorem enc_eqn {x : Cd} {k : Nat} (hk : hit x.op = some k) (h1 : x.k < 4294967296) (h2 : x.x < 4294967296) {v : Nat} (hv : v < 4294967296) (h0 : (decP (wsF (wsE (szN (foOf k).has) v x.k x.x)) (szN (foOf k).has) 0).e = 0) (hx : (decP (wsF (wsE (szN (foOf k).has) v x.k x.x)) (szN (foOf k).has) 0).x = x) :
    fst x = v ∧ ly5 (foOf k).has x = v := by
  obtain ⟨a, k', ha, R⟩ := decP_ok (ws_lt _ _ _ _ hv h1 h2) h0
  have ha : a = 0 := by omega
  subst ha
  have hR := R.x
  have hh := R.hit
  have ho := R.ok
  have hX : (decP (wsF (wsE (szN (foOf k).has) v x.k x.x)) (szN (foOf k).has) ((0 : Nat) : Int)).x = x := hx
  rw [hX] at hR
  rw [← hR] at ho
  rw [ws_zero] at hR hh ho
  have hop : x.op = ((v % 256 : Nat) : Int) := by rw [hR]; rfl
  rw [← hop, hk] at hh
  injection hh with hh
  subst hh
  have L : Link (v % 256) k := link_some (Nat.mod_lt _ (by decide)) (by rw [← hop]; exact hk)
  refine ⟨okR_fst ho, ?_⟩
  have := ly_back v _ _ hv L (by rw [← hR]; exact ho)
  rw [← hR] at this
  exact this
theorem red_range {ws : Nat → Nat} {len a k : Nat} (hlt : ∀ i, ws i < 4294967296) (R : Red ws len a k) :
    ((0 ≤ (decP ws len a).x.d ∧ (decP ws len a).x.d ≤ 15) ∧ (0 ≤ (decP ws len a).x.a ∧ (decP ws len a).x.a ≤ 15) ∧ (0 ≤ (decP ws len a).x.b ∧ (decP ws len a).x.b ≤ 15) ∧ (0 ≤ (decP ws len a).x.c ∧ (decP ws len a).x.c ≤ 15)) ∧ 0 ≤ (decP ws len a).x.n ∧ (decP ws len a).x.n ≤ 65535 := by
  rw [R.x]
  unfold xR
  have := hlt a
  refine ⟨⟨?_, ?_, ?_, ?_⟩, ?_⟩ <;> (dsimp only; split <;> omega)
theorem enc_range {x : Cd} {k : Nat} (hk : hit x.op = some k) (h1 : x.k < 4294967296) (h2 : x.x < 4294967296) (h : ¬ (((0 ≤ x.d ∧ x.d ≤ 15) ∧ (0 ≤ x.a ∧ x.a ≤ 15) ∧ (0 ≤ x.b ∧ x.b ≤ 15) ∧ (0 ≤ x.c ∧ x.c ≤ 15)) ∧ 0 ≤ x.n ∧ x.n ≤ 65535)) : encP x = (3, []) :=
  encP_no hk fun hh => h (by
    have hl := ws_lt (szN (foOf k).has) (ly5 (foOf k).has x) x.k x.x (ly5_lt _ _) h1 h2
    obtain ⟨a, k', ha, R⟩ := decP_ok hl hh.1
    have ha : a = 0 := by omega
    subst ha
    have := red_range hl R
    have hX : (decP (wsF (wsE (szN (foOf k).has) (ly5 (foOf k).has x) x.k x.x)) (szN (foOf k).has) ((0 : Nat) : Int)).x = x := hh.2
    rw [hX] at this
    exact this)
theorem rEncode_any (x : Cd) (w : World) (h1 : x.k < 4294967296) (h2 : x.x < 4294967296) :
    Calls Try.prog 27 #[cdV x] w fun e w' => ∃ sv, e = .returned (.tuple #[sv, .int .i64 (encP x).1]) ∧ Lies w w' sv (encP x).2 ∧ Below w.heap.size w w' := by
  have two : hit x.op = none → encP x = (2, []) := fun hk => by unfold encP; rw [hk]
  have fin2 : encP x = (2, []) → (Calls Try.prog 27 #[cdV x] w fun e w' => e = .returned (.tuple #[.slice none 0 0, .int .i64 2]) ∧ Below w.heap.size w w') → Calls Try.prog 27 #[cdV x] w fun e w' => ∃ sv, e = .returned (.tuple #[sv, .int .i64 (encP x).1]) ∧ Lies w w' sv (encP x).2 ∧ Below w.heap.size w w' := fun he hc => by
    refine Calls.mono hc ?_
    rintro e w' ⟨rfl, hb⟩
    rw [he]
    exact ⟨_, rfl, .inl ⟨rfl, rfl⟩, hb⟩
  have fin3 : encP x = (3, []) → (Calls Try.prog 27 #[cdV x] w fun e w' => e = .returned (.tuple #[.slice none 0 0, .int .i64 3]) ∧ Below w.heap.size w w') → Calls Try.prog 27 #[cdV x] w fun e w' => ∃ sv, e = .returned (.tuple #[sv, .int .i64 (encP x).1]) ∧ Lies w w' sv (encP x).2 ∧ Below w.heap.size w w' := fun he hc => by
    refine Calls.mono hc ?_
    rintro e w' ⟨rfl, hb⟩
    rw [he]
    exact ⟨_, rfl, .inl ⟨rfl, rfl⟩, hb⟩
  by_cases h : x.op < 0
  · exact fin2 (two (hit_out (.inl h))) (renc_neg x w h)
  · by_cases hn : (fmR x.op).n = 0
    · refine fin2 (two ?_) (renc_none x w h _ _ (fm_eta _ rfl hn))
      by_cases hb : 255 < x.op
      · exact hit_out (.inr hb)
      · obtain ⟨o, ho⟩ : ∃ o : Nat, x.op = o := ⟨x.op.toNat, by omega⟩
        rw [ho] at hn ⊢
        cases hk : hit (o : Int) with
        | none => rfl
        | some k =>
          have L := link_some (show o < 256 by omega) hk
          rw [L.n] at hn
          rcases szN_cases (foOf k).has with e | e | e <;> omega
    · have hb : ¬ 255 < x.op := fun hb => hn (by rw [fm_out hb])
      obtain ⟨o, ho⟩ : ∃ o : Nat, x.op = o := ⟨x.op.toNat, by omega⟩
      cases hk : hit x.op with
      | none => exact absurd (by rw [ho] at hk ⊢; exact link_none (show o < 256 by omega) hk) hn
      | some k =>
        have L := link_some (show o < 256 by omega) (show hit (o : Int) = some k by rw [← ho]; exact hk)
        have hLn : (fmR x.op).n = szN (foOf k).has := by rw [ho]; exact L.n
        have hnn : (((fmR x.op).n : Int) == 0) = false := by simp; omega
        have rng := enc_range hk h1 h2
        have hF : fmR x.op = ⟨(fmR x.op).s, (fmR x.op).most, (fmR x.op).n⟩ := rfl
        by_cases d1 : x.d < 0
        · exact fin3 (rng (fun r => by omega)) (renc_dlo x w h _ _ _ hF hnn d1)
        by_cases d2 : 15 < x.d
        · exact fin3 (rng (fun r => by omega)) (renc_dhi x w h _ _ _ hF hnn d1 d2)
        by_cases a1 : x.a < 0
        · exact fin3 (rng (fun r => by omega)) (renc_alo x w h _ _ _ hF hnn d1 d2 a1)
        by_cases a2 : 15 < x.a
        · exact fin3 (rng (fun r => by omega)) (renc_ahi x w h _ _ _ hF hnn d1 d2 a1 a2)
        by_cases b1 : x.b < 0
        · exact fin3 (rng (fun r => by omega)) (renc_blo x w h _ _ _ hF hnn d1 d2 a1 a2 b1)
        by_cases b2 : 15 < x.b
        · exact fin3 (rng (fun r => by omega)) (renc_bhi x w h _ _ _ hF hnn d1 d2 a1 a2 b1 b2)
        by_cases c1 : x.c < 0
        · exact fin3 (rng (fun r => by omega)) (renc_clo x w h _ _ _ hF hnn d1 d2 a1 a2 b1 b2 c1)
        by_cases c2 : 15 < x.c
        · exact fin3 (rng (fun r => by omega)) (renc_chi x w h _ _ _ hF hnn d1 d2 a1 a2 b1 b2 c1 c2)
        by_cases n1 : x.n < 0
        · exact fin3 (rng (fun r => by omega)) (renc_nlo x w h _ _ _ hF hnn d1 d2 a1 a2 b1 b2 c1 c2 n1)
        by_cases n2 : 65535 < x.n
        · exact fin3 (rng (fun r => by omega)) (renc_nhi x w h _ _ _ hF hnn d1 d2 a1 a2 b1 b2 c1 c2 n1 n2)
        obtain ⟨f1, f2⟩ := fst_nat x
        have key : (decP (wsF (wsE (szN (foOf k).has) (fst x).toNat x.k x.x)) (szN (foOf k).has) 0).e = 0 ∧ (decP (wsF (wsE (szN (foOf k).has) (fst x).toNat x.k x.x)) (szN (foOf k).has) 0).x = x → encP x = (0, wsE (szN (foOf k).has) (fst x).toNat x.k x.x) := fun hh => by
          obtain ⟨-, e2⟩ := enc_eqn hk h1 h2 f2 hh.1 hh.2
          have := encP_yes hk (by rw [e2]; exact hh.1) (by rw [e2]; exact hh.2)
          rw [e2] at this; exact this
        have key3 : ¬ ((decP (wsF (wsE (szN (foOf k).has) (fst x).toNat x.k x.x)) (szN (foOf k).has) 0).e = 0 ∧ (decP (wsF (wsE (szN (foOf k).has) (fst x).toNat x.k x.x)) (szN (foOf k).has) 0).x = x) → encP x = (3, []) := fun hh => encP_no hk fun g => hh (by
          obtain ⟨e1, -⟩ := enc_eqn hk h1 h2 (ly5_lt _ _) g.1 g.2
          have e3 : (fst x).toNat = ly5 (foOf k).has x := by omega
          rw [e3]; exact g)
        rcases szN_cases (foOf k).has with hz | hz | hz
        · rw [hz] at key key3
          refine (renc_ok1 x w h1 h2 h _ _ (fm_eta _ rfl (hLn.trans hz)) d1 d2 a1 a2 b1 b2 c1 c2 n1 n2 _ rfl).mono ?_
          rintro e w' ⟨sv, er, l, rfl, hcase, hlies, hbel⟩
          rcases hcase with ⟨rfl, rfl, hh⟩ | ⟨rfl, rfl, hh⟩
          · rw [key hh]; exact ⟨sv, rfl, hlies, hbel⟩
          · rw [key3 hh]; exact ⟨sv, rfl, hlies, hbel⟩
        · rw [hz] at key key3
          refine (renc_ok2 x w h1 h2 h _ _ (fm_eta _ rfl (hLn.trans hz)) d1 d2 a1 a2 b1 b2 c1 c2 n1 n2 _ rfl).mono ?_
          rintro e w' ⟨sv, er, l, rfl, hcase, hlies, hbel⟩
          rcases hcase with ⟨rfl, rfl, hh⟩ | ⟨rfl, rfl, hh⟩
          · rw [key hh]; exact ⟨sv, rfl, hlies, hbel⟩
          · rw [key3 hh]; exact ⟨sv, rfl, hlies, hbel⟩
        · rw [hz] at key key3
          refine (renc_ok3 x w h1 h2 h _ _ (fm_eta _ rfl (hLn.trans hz)) d1 d2 a1 a2 b1 b2 c1 c2 n1 n2 _ rfl).mono ?_
          rintro e w' ⟨sv, er, l, rfl, hcase, hlies, hbel⟩
          rcases hcase with ⟨rfl, rfl, hh⟩ | ⟨rfl, rfl, hh⟩
          · rw [key hh]; exact ⟨sv, rfl, hlies, hbel⟩
          · rw [key3 hh]; exact ⟨sv, rfl, hlies, hbel⟩
end Go.Proofs.Ytnojlbahmlmknab
