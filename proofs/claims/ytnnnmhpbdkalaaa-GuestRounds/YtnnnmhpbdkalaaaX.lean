import Derived.Test.YtnnnmhpbdkalaaaU
namespace Go.Proofs.Ytnnnmhpbdkalaaa
open Go.RowKit
set_option linter.unusedVariables false
set_option linter.unusedSimpArgs false

/-! ## What is laid is what the reference lays; what is read has room -/
theorem chR_flat (r D S O im : Int) (h0 : 0 ≤ r) (h1 : r ≤ 4) : (chR r).flatMap (chB D S O im) = chunkR r D S O := by
  rcases (by omega : r = 0 ∨ r = 1 ∨ r = 2 ∨ r = 3 ∨ r = 4) with rfl | rfl | rfl | rfl | rfl <;> rfl
theorem chI_flat (i D S O im : Int) (h0 : 0 ≤ i) (h1 : i ≤ 3) : (chI i).flatMap (chB D S O im) = chunkI i im := by
  rcases (by omega : i = 0 ∨ i = 1 ∨ i = 2 ∨ i = 3) with rfl | rfl | rfl | rfl <;> rfl
theorem low_eq (k : Nat) (hk : k < 32) (D S O : Int) : lowF k D S O = abv (tg k 3) D S O := by
  obtain ⟨-, -, -, -, h5⟩ := row_form ⟨k, hk⟩
  simp only at h5
  unfold lowF
  rcases h5 with ⟨h, h'⟩ | ⟨h, h'⟩ | ⟨h, h'⟩ | ⟨h, h'⟩
  · rw [h', if_neg (by rw [h]; decide), if_neg (by rw [h]; decide), if_neg (by rw [h]; decide)]; rfl
  · rw [h', if_pos h]; rfl
  · rw [h', if_neg (by rw [h]; decide), if_pos h]; rfl
  · rw [h', if_neg (by rw [h]; decide), if_neg (by rw [h]; decide), if_pos h]; rfl
theorem lay_eq (k : Nat) (hk : k < 32) (D S O im : Int) : layK k D S O im = encF k D S O im := by
  obtain ⟨h1, -, -, h4, -⟩ := row_form ⟨k, hk⟩
  obtain ⟨u0, u1, u2, u3⟩ := row_bd2 ⟨k, hk⟩
  obtain ⟨-, -, -, -, q4, q5, -, -⟩ := row_bd ⟨k, hk⟩
  simp only at h1 h4 u0 u1 u2 u3 q4 q5
  unfold layK layL encF
  rw [h1, List.flatMap_append, chR_flat _ _ _ _ _ u2 u3, chI_flat _ _ _ _ _ q4 q5, low_eq k hk, h4, List.append_assoc]

theorem rd_ok (zs : List Int) (first f r i : Int) (hc : (f, r, i) ∈ combos) (b0 : ∀ j, 0 ≤ zs.getD j 0 ∧ zs.getD j 0 ≤ 255) (h0 : 0 ≤ zs.getD 0 0 - first) (h1 : f = 1 → zs.getD 0 0 - first ≤ 15) :
    0 ≤ (rd zs first f r i).D ∧ 0 ≤ (rd zs first f r i).S ∧ 0 ≤ (rd zs first f r i).O ∧ (rd zs first f r i).O ≤ 15 ∧ abv f (rd zs first f r i).D (rd zs first f r i).S (rd zs first f r i).O = if f = 0 then 0 else zs.getD 0 0 - first := by
  have hb := b0 1
  simp only [combos, List.mem_cons, Prod.mk.injEq, List.not_mem_nil, or_false] at hc
  rcases hc with ⟨rfl, rfl, rfl⟩ | ⟨rfl, rfl, rfl⟩ | ⟨rfl, rfl, rfl⟩ | ⟨rfl, rfl, rfl⟩ | ⟨rfl, rfl, rfl⟩ | ⟨rfl, rfl, rfl⟩ | ⟨rfl, rfl, rfl⟩ | ⟨rfl, rfl, rfl⟩ | ⟨rfl, rfl, rfl⟩ | ⟨rfl, rfl, rfl⟩ | ⟨rfl, rfl, rfl⟩ | ⟨rfl, rfl, rfl⟩ | ⟨rfl, rfl, rfl⟩ | ⟨rfl, rfl, rfl⟩ | ⟨rfl, rfl, rfl⟩ | ⟨rfl, rfl, rfl⟩ | ⟨rfl, rfl, rfl⟩ | ⟨rfl, rfl, rfl⟩
  · have eD : (rd zs first 0 0 0).D = 0 := rfl
    have eS : (rd zs first 0 0 0).S = 0 := rfl
    have eO : (rd zs first 0 0 0).O = 0 := rfl
    rw [eD, eS, eO]
    refine ⟨by omega, by omega, by omega, by omega, ?_⟩
    simp [abv]
  · have eD : (rd zs first 0 0 1).D = 0 := rfl
    have eS : (rd zs first 0 0 1).S = 0 := rfl
    have eO : (rd zs first 0 0 1).O = 0 := rfl
    rw [eD, eS, eO]
    refine ⟨by omega, by omega, by omega, by omega, ?_⟩
    simp [abv]
  · have eD : (rd zs first 0 0 2).D = 0 := rfl
    have eS : (rd zs first 0 0 2).S = 0 := rfl
    have eO : (rd zs first 0 0 2).O = 0 := rfl
    rw [eD, eS, eO]
    refine ⟨by omega, by omega, by omega, by omega, ?_⟩
    simp [abv]
  · have eD : (rd zs first 0 0 3).D = 0 := rfl
    have eS : (rd zs first 0 0 3).S = 0 := rfl
    have eO : (rd zs first 0 0 3).O = 0 := rfl
    rw [eD, eS, eO]
    refine ⟨by omega, by omega, by omega, by omega, ?_⟩
    simp [abv]
  · have eD : (rd zs first 0 1 0).D = 0 := rfl
    have eS : (rd zs first 0 1 0).S = zs.getD 1 0 := rfl
    have eO : (rd zs first 0 1 0).O = 0 := rfl
    rw [eD, eS, eO]
    refine ⟨by omega, by omega, by omega, by omega, ?_⟩
    simp [abv]
  · have eD : (rd zs first 0 1 2).D = 0 := rfl
    have eS : (rd zs first 0 1 2).S = zs.getD 1 0 := rfl
    have eO : (rd zs first 0 1 2).O = 0 := rfl
    rw [eD, eS, eO]
    refine ⟨by omega, by omega, by omega, by omega, ?_⟩
    simp [abv]
  · have eD : (rd zs first 0 3 0).D = zs.getD 1 0 % 16 := rfl
    have eS : (rd zs first 0 3 0).S = 0 := rfl
    have eO : (rd zs first 0 3 0).O = zs.getD 1 0 / 16 := rfl
    rw [eD, eS, eO]
    refine ⟨by omega, by omega, by omega, by omega, ?_⟩
    simp [abv]
  · have eD : (rd zs first 0 4 0).D = zs.getD 1 0 / 16 := rfl
    have eS : (rd zs first 0 4 0).S = zs.getD 1 0 % 16 := rfl
    have eO : (rd zs first 0 4 0).O = 0 := rfl
    rw [eD, eS, eO]
    refine ⟨by omega, by omega, by omega, by omega, ?_⟩
    simp [abv]
  · have eD : (rd zs first 0 4 2).D = zs.getD 1 0 / 16 := rfl
    have eS : (rd zs first 0 4 2).S = zs.getD 1 0 % 16 := rfl
    have eO : (rd zs first 0 4 2).O = 0 := rfl
    rw [eD, eS, eO]
    refine ⟨by omega, by omega, by omega, by omega, ?_⟩
    simp [abv]
  · have eD : (rd zs first 1 0 2).D = 0 := rfl
    have eS : (rd zs first 1 0 2).S = 0 := rfl
    have eO : (rd zs first 1 0 2).O = zs.getD 0 0 - first := rfl
    rw [eD, eS, eO]
    refine ⟨by omega, by omega, by omega, by omega, ?_⟩
    simp [abv]
  · have eD : (rd zs first 1 0 3).D = 0 := rfl
    have eS : (rd zs first 1 0 3).S = 0 := rfl
    have eO : (rd zs first 1 0 3).O = zs.getD 0 0 - first := rfl
    rw [eD, eS, eO]
    refine ⟨by omega, by omega, by omega, by omega, ?_⟩
    simp [abv]
  · have eD : (rd zs first 1 2 2).D = zs.getD 1 0 := rfl
    have eS : (rd zs first 1 2 2).S = 0 := rfl
    have eO : (rd zs first 1 2 2).O = zs.getD 0 0 - first := rfl
    rw [eD, eS, eO]
    refine ⟨by omega, by omega, by omega, by omega, ?_⟩
    simp [abv]
  · have eD : (rd zs first 1 2 3).D = zs.getD 1 0 := rfl
    have eS : (rd zs first 1 2 3).S = 0 := rfl
    have eO : (rd zs first 1 2 3).O = zs.getD 0 0 - first := rfl
    rw [eD, eS, eO]
    refine ⟨by omega, by omega, by omega, by omega, ?_⟩
    simp [abv]
  · have eD : (rd zs first 1 4 0).D = zs.getD 1 0 / 16 := rfl
    have eS : (rd zs first 1 4 0).S = zs.getD 1 0 % 16 := rfl
    have eO : (rd zs first 1 4 0).O = zs.getD 0 0 - first := rfl
    rw [eD, eS, eO]
    refine ⟨by omega, by omega, by omega, by omega, ?_⟩
    simp [abv]
  · have eD : (rd zs first 1 4 2).D = zs.getD 1 0 / 16 := rfl
    have eS : (rd zs first 1 4 2).S = zs.getD 1 0 % 16 := rfl
    have eO : (rd zs first 1 4 2).O = zs.getD 0 0 - first := rfl
    rw [eD, eS, eO]
    refine ⟨by omega, by omega, by omega, by omega, ?_⟩
    simp [abv]
  · have eD : (rd zs first 2 0 0).D = 0 := rfl
    have eS : (rd zs first 2 0 0).S = zs.getD 0 0 - first := rfl
    have eO : (rd zs first 2 0 0).O = 0 := rfl
    rw [eD, eS, eO]
    refine ⟨by omega, by omega, by omega, by omega, ?_⟩
    simp [abv]
  · have eD : (rd zs first 3 0 0).D = zs.getD 0 0 - first := rfl
    have eS : (rd zs first 3 0 0).S = 0 := rfl
    have eO : (rd zs first 3 0 0).O = 0 := rfl
    rw [eD, eS, eO]
    refine ⟨by omega, by omega, by omega, by omega, ?_⟩
    simp [abv]
  · have eD : (rd zs first 3 0 3).D = zs.getD 0 0 - first := rfl
    have eS : (rd zs first 3 0 3).S = 0 := rfl
    have eO : (rd zs first 3 0 3).O = 0 := rfl
    rw [eD, eS, eO]
    refine ⟨by omega, by omega, by omega, by omega, ?_⟩
    simp [abv]

theorem row_room : ∀ k : Fin 32, 1 ≤ formI k.val 1 ∧ (tg k.val 3 = 1 → formI k.val 1 ≤ 16) := by decide +kernel

/-- What is read is within its room. -/
theorem dec_room (zs : List Int) (len : Nat) (b0 : ∀ j, 0 ≤ zs.getD j 0 ∧ zs.getD j 0 ≤ 255) (k : Nat) (hk : k < 32) (D S O im : Int) (h : isB (refDec zs len) k D S O im = true) : okF k D S O = true := by
  simp only [isB, decide_eq_true_eq] at h
  obtain ⟨he, hop, hD, hS, hO, -⟩ := h
  unfold refDec at he hop hD hS hO
  by_cases hl : len = 0
  · rw [if_pos hl] at he; cases he
  rw [if_neg hl] at he hop hD hS hO
  cases hh : hitF (zs.getD 0 0) with
  | none => rw [hh] at he; cases he
  | some k' =>
    rw [hh] at he hop hD hS hO
    simp only at he hop hD hS hO
    by_cases h1 : (len : Int) < 1 + szL (formB k')
    · rw [if_pos h1] at he; cases he
    rw [if_neg h1] at he hop hD hS hO
    by_cases h2 : 7 < (stF zs k').D ∨ 7 < (stF zs k').S
    · rw [if_pos h2] at he; cases he
    rw [if_neg h2] at hop hD hS hO
    simp only at hop hD hS hO
    have hkk : k' = k := by omega
    subst hkk
    have hfit : fitF (zs.getD 0 0) k' = true := List.find?_some hh
    simp only [fitF, decide_eq_true_eq] at hfit
    obtain ⟨-, -, -, h4, h5⟩ := row_form ⟨k', hk⟩
    have hco := row_combos ⟨k', hk⟩
    obtain ⟨hr1, hr2⟩ := row_room ⟨k', hk⟩
    simp only at h4 h5 hco hr1 hr2
    have hok := rd_ok zs (tg k' 1) (tg k' 3) (tg k' 4) (tg k' 5) hco b0 (by rw [h4]; omega) (fun hf => by rw [h4]; have := hr2 hf; omega)
    have hst := st_eq zs k' hk
    unfold rdK at hst
    rw [hst, hD, hS, hO] at hok
    obtain ⟨o1, o2, o3, o4, o5⟩ := hok
    rw [hD, hS] at h2
    simp only [okF, decide_eq_true_eq]
    rw [low_eq k' hk, o5]
    split
    · omega
    · rw [h4]; omega

theorem hitO_eq (op : Int) : hitO op = if 0 ≤ op ∧ op < 32 then some op.toNat else none := by
  have ht : ∀ j, j < 32 → tg j 0 = (j : Int) := fun j hj => (row_form ⟨j, hj⟩).2.2.1
  by_cases h : 0 ≤ op ∧ op < 32
  · rw [if_pos h]
    exact hit_some (by omega) (by rw [ht _ (by omega)]; simp; omega) (fun j hj => by rw [ht j (by omega)]; simp; omega)
  · rw [if_neg h]
    exact hit_none (fun j hj => by rw [ht j hj]; simp; omega)

end Go.Proofs.Ytnnnmhpbdkalaaa
