import Derived.Test.YtgkkghphlbgcoaaHU
import Derived.Test.YtgkkghphlbgcoaaCE
namespace Go.Proofs.Ytgkkghphlbgcoaa.Ca
open Go.RowKit Ho
set_option maxRecDepth 100000
set_option linter.unusedVariables false
set_option linter.unusedSimpArgs false
/-- What is read at a word hangs on its own words alone. -/
theorem dec_loc {ws ws' : Nat → Nat} {len len' a a' : Nat} (h : (decP ws len a).e = 0) (hw : ∀ i, i < (decP ws len a).n → ws' (a' + i) = ws (a + i)) (hn : a' + (decP ws len a).n ≤ len') : decP ws' len' a' = decP ws len a := by
  revert h hw hn
  have e1 : ((a : Int)).toNat = a := Int.toNat_natCast a
  have e2 : ((a' : Int)).toNat = a' := Int.toNat_natCast a'
  unfold decP
  rw [e1, e2]
  by_cases c1 : (a : Int) < 0 ∨ (len : Int) < a
  · rw [if_pos c1]; intro h; exact absurd h (show ¬ ((4 : Int) = 0) by decide)
  rw [if_neg c1]
  by_cases c2 : (a : Int) = len
  · rw [if_pos c2]; intro h; exact absurd h (show ¬ ((1 : Int) = 0) by decide)
  rw [if_neg c2]
  cases hk : hit ((ws a % 256 : Nat) : Int) with
  | none => intro h; exact absurd h (show ¬ ((2 : Int) = 0) by decide)
  | some k =>
    dsimp only
    by_cases c3 : (len : Int) < a + szN (foOf k).has
    · rw [if_pos c3]; intro h; exact absurd h (show ¬ ((1 : Int) = 0) by decide)
    rw [if_neg c3]
    by_cases c4 : dcE (foOf k) (ws a) (rdX (foOf k).has (ws a) (if 1 < szN (foOf k).has then ws (a + 1) else 0) (if 2 < szN (foOf k).has then ws (a + 2) else 0)) = 0
    · rw [if_pos c4]
      intro _ hw hn
      have hz := szN_cases (foOf k).has
      dsimp only at hw hn
      have w0 : ws' a' = ws a := hw 0 (by omega)
      have w1 : (if 1 < szN (foOf k).has then ws' (a' + 1) else 0) = (if 1 < szN (foOf k).has then ws (a + 1) else 0) := by
        split
        · next h => exact hw 1 h
        · rfl
      have w2 : (if 2 < szN (foOf k).has then ws' (a' + 2) else 0) = (if 2 < szN (foOf k).has then ws (a + 2) else 0) := by
        split
        · next h => exact hw 2 h
        · rfl
      rw [if_neg (by omega), if_neg (by omega), w0, hk]
      dsimp only
      rw [if_neg (by omega), w1, w2, if_pos c4]
    · rw [if_neg c4]; intro h; exact absurd h (show ¬ ((3 : Int) = 0) by decide)
theorem dec_size {ws : Nat → Nat} {len a : Nat} (hlt : ∀ i, ws i < 4294967296) (h : (decP ws len a).e = 0) : 1 ≤ (decP ws len a).n ∧ (decP ws len a).n ≤ 3 ∧ a + (decP ws len a).n ≤ len := by
  obtain ⟨a', k, ha, R⟩ := decP_ok hlt h
  have ha : a' = a := by omega
  subst ha
  have := R.le
  rw [R.n]
  rcases szN_cases (foOf k).has with e | e | e <;> rw [e] at this ⊢ <;> omega
theorem hit0 : hit 0 = none := by decide
theorem dec_zero {ws : Nat → Nat} {len a : Nat} (h : ws a = 0) : (decP ws len a).e ≠ 0 := by
  unfold decP
  rw [Int.toNat_natCast, h]
  split
  · exact (show ¬ ((4 : Int) = 0) by decide)
  · split
    · exact (show ¬ ((1 : Int) = 0) by decide)
    · rw [show hit (((0 % 256 : Nat)) : Int) = none from hit0]; exact (show ¬ ((2 : Int) = 0) by decide)
/-- An exit: a leave or an if, or what it became. -/
def exOp (o : Int) : Prop := o = 14 ∨ o = 11 ∨ o = 15 ∨ o = 96
def ldOp (o : Int) : Prop := o = 15 ∨ o = 96
instance (o : Int) : Decidable (exOp o) := by unfold exOp; exact inferInstance
instance (o : Int) : Decidable (ldOp o) := by unfold ldOp; exact inferInstance
def othN (v : Nat) : Nat := if v % 256 = 14 then v + 1 else if v % 256 = 15 then v - 1 else if v % 256 = 11 then v + 85 else v - 85
theorem hit14 : hit 14 = some 13 := by decide
theorem hit15 : hit 15 = some 14 := by decide
theorem hit11 : hit 11 = some 10 := by decide
theorem hit96 : hit 96 = some 21 := by decide
theorem dec_op {ws : Nat → Nat} {len a : Nat} (hlt : ∀ i, ws i < 4294967296) (h : (decP ws len a).e = 0) : (decP ws len a).x.op = ((ws a % 256 : Nat) : Int) := by
  obtain ⟨a', k, ha, R⟩ := decP_ok hlt h
  have ha : a' = a := by omega
  subst ha
  rw [R.x]; rfl
theorem hasB_n : hasB #[110] 100 = false ∧ hasB #[110] 97 = false ∧ hasB #[110] 98 = false ∧ hasB #[110] 99 = false ∧ hasB #[110] 110 = true := by decide
theorem hasB_an : hasB #[97, 110] 100 = false ∧ hasB #[97, 110] 97 = true ∧ hasB #[97, 110] 98 = false ∧ hasB #[97, 110] 99 = false ∧ hasB #[97, 110] 110 = true := by decide
theorem xR_n (v u1 u2 : Nat) : xR ⟨#[110], 65, 2⟩ v u1 u2 = ⟨((v % 256 : Nat) : Int), 0, 0, 0, 0, (v : Int) / 65536, u1, 0⟩ := by
  obtain ⟨h1, h2, h3, h4, h5⟩ := hasB_n
  unfold xR; simp only [h1, h2, h3, h4, h5]; rfl
theorem xR_an (v u1 u2 : Nat) : xR ⟨#[97, 110], 65, 2⟩ v u1 u2 = ⟨((v % 256 : Nat) : Int), 0, (v : Int) / 4096 % 16, 0, 0, (v : Int) / 65536, u1, 0⟩ := by
  obtain ⟨h1, h2, h3, h4, h5⟩ := hasB_an
  unfold xR; simp only [h1, h2, h3, h4, h5]; rfl
theorem okR_n (v u1 u2 : Nat) (ho : v % 256 ≠ 12 ∧ v % 256 ≠ 13) : okR ⟨#[110], 65, 2⟩ v (xR ⟨#[110], 65, 2⟩ v u1 u2) = true ↔ v < 4294967296 ∧ v / 256 % 256 = 0 ∧ v / 65536 < 65 := by
  rw [xR_n]
  unfold okR fst
  simp only [hasB_n.2.2.2.2, Bool.and_eq_true, decide_eq_true_eq, Bool.true_and, Bool.not_eq_true', decide_eq_false_iff_not, Bool.and_eq_false_iff, Bool.or_eq_false_iff]
  omega
theorem okR_an (v u1 u2 : Nat) (ho : v % 256 ≠ 12 ∧ v % 256 ≠ 13) : okR ⟨#[97, 110], 65, 2⟩ v (xR ⟨#[97, 110], 65, 2⟩ v u1 u2) = true ↔ v < 4294967296 ∧ v / 256 % 16 = 0 ∧ v / 65536 < 65 := by
  rw [xR_an]
  unfold okR fst
  simp only [hasB_an.2.2.2.2, Bool.and_eq_true, decide_eq_true_eq, Bool.true_and, Bool.not_eq_true', decide_eq_false_iff_not, Bool.and_eq_false_iff, Bool.or_eq_false_iff]
  omega
theorem fm14 : fmR 14 = ⟨#[110], 65, 2⟩ := by rfl
theorem fm15 : fmR 15 = ⟨#[110], 65, 2⟩ := by rfl
theorem fm11 : fmR 11 = ⟨#[97, 110], 65, 2⟩ := by rfl
theorem fm96 : fmR 96 = ⟨#[97, 110], 65, 2⟩ := by rfl
theorem sz13 : szN (foOf 13).has = 2 := by decide
theorem sz14 : szN (foOf 14).has = 2 := by decide
theorem sz10 : szN (foOf 10).has = 2 := by decide
theorem sz21 : szN (foOf 21).has = 2 := by decide
/-- Words that lie well. -/
def vN (v : Nat) : Prop := v < 4294967296 ∧ v / 256 % 256 = 0 ∧ v / 65536 < 65
def vA (v : Nat) : Prop := v < 4294967296 ∧ v / 256 % 16 = 0 ∧ v / 65536 < 65
theorem mk_n {ws : Nat → Nat} {len a op k : Nat} (hlt : ∀ i, ws i < 4294967296) (hm : ws a % 256 = op) (hf : fmR (op : Int) = ⟨#[110], 65, 2⟩) (hk : hit (op : Int) = some k) (hz : szN (foOf k).has = 2) (ho : op ≠ 12 ∧ op ≠ 13) (hl : a + 2 ≤ len) (hv : vN (ws a)) :
    (decP ws len a).e = 0 ∧ (decP ws len a).n = 2 ∧ (decP ws len a).x = ⟨(op : Int), 0, 0, 0, 0, (ws a : Int) / 65536, ws (a + 1), 0⟩ := by
  have hk' : hit ((ws a % 256 : Nat) : Int) = some k := by rw [hm]; exact hk
  obtain ⟨h0, h1⟩ := decP_make (len := len) hlt hk' (by rw [hz]; exact hl) (by rw [hm, hf]; exact (okR_n _ _ _ (by rw [hm]; exact ho)).2 hv)
  refine ⟨h0, ?_, ?_⟩
  · obtain ⟨a', k', ha, R⟩ := decP_ok hlt h0
    have ha : a' = a := by omega
    subst ha
    have := R.hit
    rw [hk'] at this
    cases this
    rw [R.n, hz]
  · rw [h1, hm, hf, xR_n, hm]
theorem mk_a {ws : Nat → Nat} {len a op k : Nat} (hlt : ∀ i, ws i < 4294967296) (hm : ws a % 256 = op) (hf : fmR (op : Int) = ⟨#[97, 110], 65, 2⟩) (hk : hit (op : Int) = some k) (hz : szN (foOf k).has = 2) (ho : op ≠ 12 ∧ op ≠ 13) (hl : a + 2 ≤ len) (hv : vA (ws a)) :
    (decP ws len a).e = 0 ∧ (decP ws len a).n = 2 ∧ (decP ws len a).x = ⟨(op : Int), 0, (ws a : Int) / 4096 % 16, 0, 0, (ws a : Int) / 65536, ws (a + 1), 0⟩ := by
  have hk' : hit ((ws a % 256 : Nat) : Int) = some k := by rw [hm]; exact hk
  obtain ⟨h0, h1⟩ := decP_make (len := len) hlt hk' (by rw [hz]; exact hl) (by rw [hm, hf]; exact (okR_an _ _ _ (by rw [hm]; exact ho)).2 hv)
  refine ⟨h0, ?_, ?_⟩
  · obtain ⟨a', k', ha, R⟩ := decP_ok hlt h0
    have ha : a' = a := by omega
    subst ha
    have := R.hit
    rw [hk'] at this
    cases this
    rw [R.n, hz]
  · rw [h1, hm, hf, xR_an, hm]
theorem un_n {ws : Nat → Nat} {len a op k : Nat} (hlt : ∀ i, ws i < 4294967296) (h : (decP ws len a).e = 0) (hm : ws a % 256 = op) (hf : fmR (op : Int) = ⟨#[110], 65, 2⟩) (hk : hit (op : Int) = some k) (hz : szN (foOf k).has = 2) (ho : op ≠ 12 ∧ op ≠ 13) : vN (ws a) ∧ a + 2 ≤ len := by
  obtain ⟨a', k', ha, R⟩ := decP_ok hlt h
  have ha : a' = a := by omega
  subst ha
  have h1 := R.hit
  rw [hm, hk] at h1
  cases h1
  have h2 := R.ok
  rw [hm, hf] at h2
  have h3 := R.le
  rw [hz] at h3
  exact ⟨(okR_n _ _ _ (by rw [hm]; exact ho)).1 h2, h3⟩
theorem un_a {ws : Nat → Nat} {len a op k : Nat} (hlt : ∀ i, ws i < 4294967296) (h : (decP ws len a).e = 0) (hm : ws a % 256 = op) (hf : fmR (op : Int) = ⟨#[97, 110], 65, 2⟩) (hk : hit (op : Int) = some k) (hz : szN (foOf k).has = 2) (ho : op ≠ 12 ∧ op ≠ 13) : vA (ws a) ∧ a + 2 ≤ len := by
  obtain ⟨a', k', ha, R⟩ := decP_ok hlt h
  have ha : a' = a := by omega
  subst ha
  have h1 := R.hit
  rw [hm, hk] at h1
  cases h1
  have h2 := R.ok
  rw [hm, hf] at h2
  have h3 := R.le
  rw [hz] at h3
  exact ⟨(okR_an _ _ _ (by rw [hm]; exact ho)).1 h2, h3⟩
theorem ws2 (v K : Nat) (hv : v < 4294967296) (hK : K < 4294967296) : ∀ i, wsF [v, K] i < 4294967296 := by
  intro i
  rcases i with _ | _ | i
  · exact hv
  · exact hK
  · show 0 < 4294967296
    decide
theorem enc_two {x : Cd} {k v : Nat} (hk : hit x.op = some k) (hz : szN (foOf k).has = 2) (hK : x.k < 4294967296) (hx0 : x.x = 0) (hv : v < 4294967296) (h0 : (decP (wsF [v, x.k]) 2 0).e = 0) (hx : (decP (wsF [v, x.k]) 2 0).x = x) : encP x = (0, [v, x.k]) := by
  have e0 : wsE (szN (foOf k).has) v x.k x.x = [v, x.k] := by rw [hz]; rfl
  have hl := (enc_eqn hk hK (by rw [hx0]; decide) hv (by rw [e0, hz]; exact h0) (by rw [e0, hz]; exact hx)).2
  have e1 : wsE (szN (foOf k).has) (ly5 (foOf k).has x) x.k x.x = [v, x.k] := by rw [hl]; exact e0
  have := encP_yes hk (by rw [e1, hz]; exact h0) (by rw [e1, hz]; exact hx)
  rw [this, e1]
/-- An exit, all that is wanted of it. -/
structure Exd (ws : Nat → Nat) (len s : Nat) : Prop where
  n : (decP ws len s).n = 2
  le : s + 2 ≤ len
  k : (decP ws len s).x.k = ws (s + 1)
  x : (decP ws len s).x.x = 0
  lt : othN (ws s) < 4294967296
  enc : ∀ K, K < 4294967296 → encP ⟨othF (decP ws len s).x.op, (decP ws len s).x.d, (decP ws len s).x.a, (decP ws len s).x.b, (decP ws len s).x.c, (decP ws len s).x.n, K, (decP ws len s).x.x⟩ = (0, [othN (ws s), K])
  dec : ∀ (ws' : Nat → Nat) (len' : Nat), (∀ i, ws' i < 4294967296) → ws' s = othN (ws s) → s + 2 ≤ len' → (decP ws' len' s).e = 0 ∧ (decP ws' len' s).n = 2 ∧ (decP ws' len' s).x.op = othF (decP ws len s).x.op ∧ (decP ws' len' s).x.k = ws' (s + 1)
theorem exd14 {ws : Nat → Nat} {len s : Nat} (hlt : ∀ i, ws i < 4294967296) (h : (decP ws len s).e = 0) (ho : (decP ws len s).x.op = 14) : Exd ws len s := by
  have hm : ws s % 256 = 14 := by have := dec_op hlt h; omega
  obtain ⟨hv, hl⟩ := un_n hlt h hm fm14 hit14 sz13 (by decide)
  obtain ⟨_, h1, h2⟩ := mk_n (len := len) hlt hm fm14 hit14 sz13 (by decide) hl hv
  have e1 : othN (ws s) = ws s + 1 := by unfold othN; rw [if_pos hm]
  have v1 := hv.1
  have v2 := hv.2.1
  have v3 := hv.2.2
  have hv' : vN (othN (ws s)) := ⟨by omega, by omega, by omega⟩
  have hm' : othN (ws s) % 256 = 15 := by omega
  have eF : othF 14 = 15 := by decide
  have e3 : ((othN (ws s) : Nat) : Int) / 65536 = (ws s : Int) / 65536 := by omega
  have e4 : ((othN (ws s) : Nat) : Int) / 4096 % 16 = (ws s : Int) / 4096 % 16 := by omega
  refine ⟨h1, hl, by rw [h2], by rw [h2], by omega, fun K hK => ?_, fun ws' len' hlt' hw hle => ?_⟩
  · rw [h2]
    have hw2 := ws2 (othN (ws s)) K hv'.1 hK
    obtain ⟨a1, _, a3⟩ := mk_n (ws := wsF [othN (ws s), K]) (len := 2) (a := 0) hw2 (show othN (ws s) % 256 = 15 from hm') fm15 hit15 sz14 (by decide) (by decide) hv'
    refine enc_two (x := ⟨othF (14 : Int), 0, 0, 0, 0, (ws s : Int) / 65536, K, 0⟩) (by rw [eF]; exact hit15) sz14 hK rfl hv'.1 a1 ?_
    refine a3.trans ?_
    rw [eF]
    show (⟨_, 0, 0, 0, 0, ((othN (ws s) : Nat) : Int) / 65536, K, 0⟩ : Cd) = _
    rw [e3]
    rfl
  · obtain ⟨a1, a2, a3⟩ := mk_n (len := len') (a := s) hlt' (by rw [hw]; exact hm') fm15 hit15 sz14 (by decide) hle (by rw [hw]; exact hv')
    refine ⟨a1, a2, ?_, ?_⟩
    · rw [a3, h2]; exact eF.symm
    · rw [a3]
theorem exd15 {ws : Nat → Nat} {len s : Nat} (hlt : ∀ i, ws i < 4294967296) (h : (decP ws len s).e = 0) (ho : (decP ws len s).x.op = 15) : Exd ws len s := by
  have hm : ws s % 256 = 15 := by have := dec_op hlt h; omega
  obtain ⟨hv, hl⟩ := un_n hlt h hm fm15 hit15 sz14 (by decide)
  obtain ⟨_, h1, h2⟩ := mk_n (len := len) hlt hm fm15 hit15 sz14 (by decide) hl hv
  have e1 : othN (ws s) = ws s - 1 := by unfold othN; rw [if_neg (by omega), if_pos hm]
  have v1 := hv.1
  have v2 := hv.2.1
  have v3 := hv.2.2
  have hv' : vN (othN (ws s)) := ⟨by omega, by omega, by omega⟩
  have hm' : othN (ws s) % 256 = 14 := by omega
  have eF : othF 15 = 14 := by decide
  have e3 : ((othN (ws s) : Nat) : Int) / 65536 = (ws s : Int) / 65536 := by omega
  have e4 : ((othN (ws s) : Nat) : Int) / 4096 % 16 = (ws s : Int) / 4096 % 16 := by omega
  refine ⟨h1, hl, by rw [h2], by rw [h2], by omega, fun K hK => ?_, fun ws' len' hlt' hw hle => ?_⟩
  · rw [h2]
    have hw2 := ws2 (othN (ws s)) K hv'.1 hK
    obtain ⟨a1, _, a3⟩ := mk_n (ws := wsF [othN (ws s), K]) (len := 2) (a := 0) hw2 (show othN (ws s) % 256 = 14 from hm') fm14 hit14 sz13 (by decide) (by decide) hv'
    refine enc_two (x := ⟨othF (15 : Int), 0, 0, 0, 0, (ws s : Int) / 65536, K, 0⟩) (by rw [eF]; exact hit14) sz13 hK rfl hv'.1 a1 ?_
    refine a3.trans ?_
    rw [eF]
    show (⟨_, 0, 0, 0, 0, ((othN (ws s) : Nat) : Int) / 65536, K, 0⟩ : Cd) = _
    rw [e3]
    rfl
  · obtain ⟨a1, a2, a3⟩ := mk_n (len := len') (a := s) hlt' (by rw [hw]; exact hm') fm14 hit14 sz13 (by decide) hle (by rw [hw]; exact hv')
    refine ⟨a1, a2, ?_, ?_⟩
    · rw [a3, h2]; exact eF.symm
    · rw [a3]
theorem exd11 {ws : Nat → Nat} {len s : Nat} (hlt : ∀ i, ws i < 4294967296) (h : (decP ws len s).e = 0) (ho : (decP ws len s).x.op = 11) : Exd ws len s := by
  have hm : ws s % 256 = 11 := by have := dec_op hlt h; omega
  obtain ⟨hv, hl⟩ := un_a hlt h hm fm11 hit11 sz10 (by decide)
  obtain ⟨_, h1, h2⟩ := mk_a (len := len) hlt hm fm11 hit11 sz10 (by decide) hl hv
  have e1 : othN (ws s) = ws s + 85 := by unfold othN; rw [if_neg (by omega), if_neg (by omega), if_pos hm]
  have v1 := hv.1
  have v2 := hv.2.1
  have v3 := hv.2.2
  have hv' : vA (othN (ws s)) := ⟨by omega, by omega, by omega⟩
  have hm' : othN (ws s) % 256 = 96 := by omega
  have eF : othF 11 = 96 := by decide
  have e3 : ((othN (ws s) : Nat) : Int) / 65536 = (ws s : Int) / 65536 := by omega
  have e4 : ((othN (ws s) : Nat) : Int) / 4096 % 16 = (ws s : Int) / 4096 % 16 := by omega
  refine ⟨h1, hl, by rw [h2], by rw [h2], by omega, fun K hK => ?_, fun ws' len' hlt' hw hle => ?_⟩
  · rw [h2]
    have hw2 := ws2 (othN (ws s)) K hv'.1 hK
    obtain ⟨a1, _, a3⟩ := mk_a (ws := wsF [othN (ws s), K]) (len := 2) (a := 0) hw2 (show othN (ws s) % 256 = 96 from hm') fm96 hit96 sz21 (by decide) (by decide) hv'
    refine enc_two (x := ⟨othF (11 : Int), 0, (ws s : Int) / 4096 % 16, 0, 0, (ws s : Int) / 65536, K, 0⟩) (by rw [eF]; exact hit96) sz21 hK rfl hv'.1 a1 ?_
    refine a3.trans ?_
    rw [eF]
    show (⟨_, 0, ((othN (ws s) : Nat) : Int) / 4096 % 16, 0, 0, ((othN (ws s) : Nat) : Int) / 65536, K, 0⟩ : Cd) = _
    rw [e3, e4]
    rfl
  · obtain ⟨a1, a2, a3⟩ := mk_a (len := len') (a := s) hlt' (by rw [hw]; exact hm') fm96 hit96 sz21 (by decide) hle (by rw [hw]; exact hv')
    refine ⟨a1, a2, ?_, ?_⟩
    · rw [a3, h2]; exact eF.symm
    · rw [a3]
theorem exd96 {ws : Nat → Nat} {len s : Nat} (hlt : ∀ i, ws i < 4294967296) (h : (decP ws len s).e = 0) (ho : (decP ws len s).x.op = 96) : Exd ws len s := by
  have hm : ws s % 256 = 96 := by have := dec_op hlt h; omega
  obtain ⟨hv, hl⟩ := un_a hlt h hm fm96 hit96 sz21 (by decide)
  obtain ⟨_, h1, h2⟩ := mk_a (len := len) hlt hm fm96 hit96 sz21 (by decide) hl hv
  have e1 : othN (ws s) = ws s - 85 := by unfold othN; rw [if_neg (by omega), if_neg (by omega), if_neg (by omega)]
  have v1 := hv.1
  have v2 := hv.2.1
  have v3 := hv.2.2
  have hv' : vA (othN (ws s)) := ⟨by omega, by omega, by omega⟩
  have hm' : othN (ws s) % 256 = 11 := by omega
  have eF : othF 96 = 11 := by decide
  have e3 : ((othN (ws s) : Nat) : Int) / 65536 = (ws s : Int) / 65536 := by omega
  have e4 : ((othN (ws s) : Nat) : Int) / 4096 % 16 = (ws s : Int) / 4096 % 16 := by omega
  refine ⟨h1, hl, by rw [h2], by rw [h2], by omega, fun K hK => ?_, fun ws' len' hlt' hw hle => ?_⟩
  · rw [h2]
    have hw2 := ws2 (othN (ws s)) K hv'.1 hK
    obtain ⟨a1, _, a3⟩ := mk_a (ws := wsF [othN (ws s), K]) (len := 2) (a := 0) hw2 (show othN (ws s) % 256 = 11 from hm') fm11 hit11 sz10 (by decide) (by decide) hv'
    refine enc_two (x := ⟨othF (96 : Int), 0, (ws s : Int) / 4096 % 16, 0, 0, (ws s : Int) / 65536, K, 0⟩) (by rw [eF]; exact hit11) sz10 hK rfl hv'.1 a1 ?_
    refine a3.trans ?_
    rw [eF]
    show (⟨_, 0, ((othN (ws s) : Nat) : Int) / 4096 % 16, 0, 0, ((othN (ws s) : Nat) : Int) / 65536, K, 0⟩ : Cd) = _
    rw [e3, e4]
    rfl
  · obtain ⟨a1, a2, a3⟩ := mk_a (len := len') (a := s) hlt' (by rw [hw]; exact hm') fm11 hit11 sz10 (by decide) hle (by rw [hw]; exact hv')
    refine ⟨a1, a2, ?_, ?_⟩
    · rw [a3, h2]; exact eF.symm
    · rw [a3]
theorem exd {ws : Nat → Nat} {len s : Nat} (hlt : ∀ i, ws i < 4294967296) (h : (decP ws len s).e = 0) (ho : exOp (decP ws len s).x.op) : Exd ws len s := by
  rcases ho with e | e | e | e
  · exact exd14 hlt h e
  · exact exd11 hlt h e
  · exact exd15 hlt h e
  · exact exd96 hlt h e
end Go.Proofs.Ytgkkghphlbgcoaa.Ca
