import Derived.Test.YtkgbjpdoigdjnaaC1
import Derived.Test.YtkgbjpdoigdjnaaEJ
import Derived.Test.YtkgbjpdoigdjnaaEE
namespace Go.Proofs.Ytkgbjpdoigdjnaa
open Go.RowKit
set_option maxRecDepth 100000
set_option linter.unusedVariables false
set_option linter.unusedSimpArgs false

/-! ## Bounds -/
theorem addF_bd (a b : Nat) (c : Int) : 0 ≤ Fl.addF a b c ∧ Fl.addF a b c ≤ 15 := by
  have h1 := Fl.valF_bd (((a : Int) + b + c) % 4294967296)
  have h2 := Fl.isF_bd (decide (4294967296 ≤ (a : Int) + b + c)) 4 (by omega)
  have h3 := Fl.isF_bd (Fl.pastB (Fl.sgn a + Fl.sgn b + c)) 8 (by omega)
  unfold Fl.addF; omega
theorem subF_bd (a b : Nat) (c : Int) : 0 ≤ Fl.subF a b c ∧ Fl.subF a b c ≤ 15 := by
  have h1 := Fl.valF_bd (((a : Int) - b - c) % 4294967296)
  have h2 := Fl.isF_bd (decide ((a : Int) - b - c < 0)) 4 (by omega)
  have h3 := Fl.isF_bd (Fl.pastB (Fl.sgn a - Fl.sgn b - c)) 8 (by omega)
  unfold Fl.subF; omega
theorem mulF_bd (a b : Nat) : 0 ≤ Fl.mulF a b ∧ Fl.mulF a b ≤ 15 := by
  have h1 := Fl.valF_bd ((a * b % 4294967296 : Nat) : Int)
  have h2 := Fl.isF_bd (decide (4294967296 ≤ a * b)) 12 (by omega)
  unfold Fl.mulF; omega
theorem incF_bd (a old : Nat) : 0 ≤ Fl.incF a old ∧ Fl.incF a old ≤ 15 := by
  have h1 := Fl.valF_bd (((a : Int) + 1) % 4294967296)
  have h2 := Fl.carF_bd old
  have h3 := Fl.isF_bd (Fl.pastB (Fl.sgn a + 1)) 8 (by omega)
  unfold Fl.incF; omega
theorem decF_bd (a old : Nat) : 0 ≤ Fl.decF a old ∧ Fl.decF a old ≤ 15 := by
  have h1 := Fl.valF_bd (((a : Int) - 1) % 4294967296)
  have h2 := Fl.carF_bd old
  have h3 := Fl.isF_bd (Fl.pastB (Fl.sgn a - 1)) 8 (by omega)
  unfold Fl.decF; omega
theorem shlF_bd (a n : Nat) : 0 ≤ Fl.shlF a n ∧ Fl.shlF a n ≤ 15 := by
  have h1 := Fl.valF_bd ((a * 2 ^ n % 4294967296 : Nat) : Int)
  have h2 := Fl.isF_bd (a * 2 ^ n / 4294967296 % 2 == 1) 4 (by omega)
  unfold Fl.shlF; omega
theorem shrF_bd (a n : Nat) : 0 ≤ Fl.shrF a n ∧ Fl.shrF a n ≤ 15 := by
  have h1 := Fl.valF_bd ((a : Int) / 2 ^ n)
  have h2 := Fl.isF_bd ((a : Int) / 2 ^ (n - 1) % 2 == 1) 4 (by omega)
  unfold Fl.shrF; omega
theorem sarF_bd (a n : Nat) : 0 ≤ Fl.sarF a n ∧ Fl.sarF a n ≤ 15 := by
  have h1 := Fl.valF_bd (Fl.sgn a / 2 ^ (n - 1) / 2 % 4294967296)
  have h2 := Fl.isF_bd (Fl.sgn a / 2 ^ (n - 1) % 4294967296 % 2 == 1) 4 (by omega)
  unfold Fl.sarF; omega
theorem rolF_bd (a n old : Nat) : 0 ≤ Fl.rolF a n old ∧ Fl.rolF a n old ≤ 15 := by
  have h2 := Fl.isF_bd (Fl.turN n a % 2 == 1) 4 (by omega)
  unfold Fl.rolF Fl.carF; omega
theorem flagsF_bd (k : Int) (a b old : Nat) : 0 ≤ Fl.flagsF k a b old ∧ Fl.flagsF k a b old ≤ 15 := by
  unfold Fl.flagsF
  by_cases h1 : k = 1
  · rw [if_pos h1]; exact addF_bd ..
  rw [if_neg h1]
  by_cases h2 : k = 2
  · rw [if_pos h2]; exact addF_bd ..
  rw [if_neg h2]
  by_cases h3 : k = 3
  · rw [if_pos h3]; exact subF_bd ..
  rw [if_neg h3]
  by_cases h4 : k = 4
  · rw [if_pos h4]; exact subF_bd ..
  rw [if_neg h4]
  by_cases h5 : k = 5
  · rw [if_pos h5]; have := Fl.valF_bd a; omega
  rw [if_neg h5]
  by_cases h6 : k = 10
  · rw [if_pos h6]; exact mulF_bd ..
  rw [if_neg h6]
  by_cases h7 : k = 11
  · rw [if_pos h7]; exact incF_bd ..
  rw [if_neg h7]
  by_cases h8 : k = 12
  · rw [if_pos h8]; exact decF_bd ..
  rw [if_neg h8]
  by_cases h9 : (k = 6 ∨ k = 7 ∨ k = 8 ∨ k = 9) ∧ 0 < b % 32
  · rw [if_pos h9]
    by_cases g1 : k = 6
    · rw [if_pos g1]; exact shlF_bd ..
    rw [if_neg g1]
    by_cases g2 : k = 7
    · rw [if_pos g2]; exact shrF_bd ..
    rw [if_neg g2]
    by_cases g3 : k = 8
    · rw [if_pos g3]; exact sarF_bd ..
    rw [if_neg g3]
    exact rolF_bd ..
  · rw [if_neg h9]; omega

theorem turN_bd : ∀ (n : Nat) (x : Int), 0 ≤ x → x < 4294967296 → 0 ≤ Fl.turN n x ∧ Fl.turN n x < 4294967296
  | 0, x, h0, h1 => ⟨h0, h1⟩
  | n + 1, x, h0, h1 => turN_bd n _ (Fl.tur1_bd x h0 h1).1 (Fl.tur1_bd x h0 h1).2
theorem recX_bd (o : Int) (a b f : Nat) (ha : a < 4294967296) (hb : b < 4294967296) : 0 ≤ Fl.recX o a b f ∧ Fl.recX o a b f < 4294967296 := by
  have hbit := Fl.bitN_lt o a b ha hb
  unfold Fl.recX
  by_cases h1 : o = 0
  · rw [if_pos h1]; omega
  rw [if_neg h1]
  by_cases h2 : o = 1
  · rw [if_pos h2]; omega
  rw [if_neg h2]
  by_cases h3 : o = 2
  · rw [if_pos h3]; omega
  rw [if_neg h3]
  by_cases h4 : o = 3
  · rw [if_pos h4]; omega
  rw [if_neg h4]
  by_cases h5 : o = 4 ∨ o = 5 ∨ o = 6
  · rw [if_pos h5]; omega
  rw [if_neg h5]
  by_cases h6 : o = 7 ∨ o = 8
  · rw [if_pos h6]; omega
  rw [if_neg h6]
  by_cases h7 : o = 9
  · rw [if_pos h7]
    have := Nat.mod_lt (a * 2 ^ (b % 32)) (show 0 < 4294967296 by omega)
    omega
  rw [if_neg h7]
  by_cases h8 : o = 10
  · rw [if_pos h8]
    have e : (a : Int) / 2 ^ (b % 32) = ((a / 2 ^ (b % 32) : Nat) : Int) := by push_cast; rfl
    have := Nat.div_le_self a (2 ^ (b % 32))
    rw [e]; exact ⟨Int.natCast_nonneg _, by have h2 := Int.ofNat_le.2 this; omega⟩
  rw [if_neg h8]
  by_cases h9 : o = 11
  · rw [if_pos h9]; omega
  rw [if_neg h9]
  by_cases h10 : o = 12
  · rw [if_pos h10]; exact turN_bd _ _ (by omega) (by omega)
  rw [if_neg h10]
  by_cases h11 : o = 13
  · rw [if_pos h11]
    have := Nat.mod_lt (a * b) (show 0 < 4294967296 by omega)
    omega
  rw [if_neg h11]
  by_cases h12 : o = 14 ∧ 0 < b
  · rw [if_pos h12]
    have h2 := Int.ofNat_le.2 (Nat.div_le_self a b)
    exact ⟨Int.natCast_nonneg _, by omega⟩
  rw [if_neg h12]
  by_cases h13 : o = 15 ∧ 0 < b
  · rw [if_pos h13]
    have := Nat.mod_le a b
    omega
  rw [if_neg h13]; omega
/-! ## What operations do, as plain functions -/
structure Sq where
  c : Nat → Nat
  s : MS
  v : Nat → Nat
structure StOk (q : Sq) : Prop where
  c : cxOk q.c
  s : q.s.Ok
  v : cxOk q.v
def stN (w : Int) : Int := if w = 0 then 1 else if w = 1 then 2 else 4
def valV (o : OpR) (q : Sq) : Int := pvalF o q.c (q.v o.a.toNat) (q.v o.b.toNat) (q.v o.c.toNat)
def isV (k : Int) : Prop := k = 1 ∨ k = 2 ∨ k = 4 ∨ k = 5 ∨ k = 6 ∨ k = 7 ∨ k = 8 ∨ k = 17
instance (k : Int) : Decidable (isV k) := by unfold isV; infer_instance
def ldO (o : OpR) (q : Sq) : Option Nat := badN q.s 1 (q.v o.a.toNat) (ldN o.w).toNat
def stO (o : OpR) (q : Sq) : Option Nat := sto q.s (q.v o.a.toNat) (stN o.w)
def nextO (o : OpR) (i : Nat) (q : Sq) : Sq :=
  if o.kind = 3 then ⟨updC q.c o.w.toNat (q.v o.a.toNat), q.s, q.v⟩
  else if o.kind = 9 then ⟨q.c, q.s, updC q.v i (ldW q.s o.w (q.v o.a.toNat))⟩
  else if o.kind = 10 then ⟨q.c, storeT q.s (q.v o.a.toNat) (stN o.w) (q.v o.b.toNat), q.v⟩
  else if isV o.kind then ⟨q.c, q.s, updC q.v i (valV o q).toNat⟩ else q
structure ExR where
  k : Int
  a : Int
  pc : Int
  n : Int
abbrev exR (x : ExR) : Value := .agg #[.int .i64 x.k, .int .u32 x.a, .int .u32 x.pc, .int .i64 x.n]
def exO (o : OpR) (q : Sq) : ExR :=
  if o.kind = 9 then ⟨stK 5 (ldO o q), stA (ldO o q), o.k, o.n⟩
  else if o.kind = 10 then ⟨stK 6 (stO o q), stA (stO o q), o.k, o.n⟩
  else if o.kind = 13 then ⟨o.w, 0, o.k, o.n⟩
  else if o.kind = 14 then ⟨o.w, o.b, o.k, o.n⟩
  else if o.kind = 16 then ⟨0, 0, q.v o.a.toNat, o.n⟩ else ⟨0, 0, o.k, o.n⟩
def leftO (o : OpR) (q : Sq) : Bool :=
  if o.kind = 9 then stK 5 (ldO o q) != 0 else if o.kind = 10 then stK 6 (stO o q) != 0 else if o.kind = 11 then touchB q.s
  else if o.kind = 12 ∨ o.kind = 13 then (q.v o.a.toNat : Int) != 0 else decide (o.kind = 14 ∨ o.kind = 15 ∨ o.kind = 16)
/-- From operation i on, m of them: where it is left, and what is then. -/
def runO (f : Nat → OpR) : Nat → Nat → Sq → Sq × ExR × Int
  | 0, _, q => (q, ⟨0, 0, 0, 0⟩, -1)
  | m + 1, i, q => if leftO (f i) q then (nextO (f i) i q, exO (f i) q, i) else runO f m (i + 1) (nextO (f i) i q)

theorem isF1 (b : Bool) : 0 ≤ Fl.isF b 1 ∧ Fl.isF b 1 < 4294967296 := by have := Fl.isF_bd b 1 (by omega); omega
theorem binF_bd (w : Int) (a b : Nat) (ha : a < 4294967296) (hb : b < 4294967296) : 0 ≤ binF w a b ∧ binF w a b < 4294967296 := by
  have hm := mul_bd a b ha hb
  unfold binF
  by_cases h1 : w < 10
  · rw [if_pos h1]; exact recX_bd _ a b 0 ha hb
  rw [if_neg h1]
  by_cases h2 : w = 10
  · rw [if_pos h2]
    have : a * b / 4294967296 < 4294967296 := Nat.div_lt_of_lt_mul (by omega)
    omega
  rw [if_neg h2]
  by_cases h3 : w = 11
  · rw [if_pos h3]; split
    · omega
    · have h9 := Nat.div_le_self a b
      generalize a / b = d at h9 ⊢
      omega
  rw [if_neg h3]
  by_cases h4 : w = 12
  · rw [if_pos h4]; split
    · omega
    · have h9 := Nat.mod_le a b
      generalize a % b = d at h9 ⊢
      omega
  rw [if_neg h4]
  by_cases h5 : w = 13
  · rw [if_pos h5]; exact isF1 _
  rw [if_neg h5]
  by_cases h6 : w = 14
  · rw [if_pos h6]; exact isF1 _
  rw [if_neg h6]; exact isF1 _
theorem unF_bd (w : Int) (a : Nat) (ha : a < 4294967296) : unF w a < 4294967296 := by
  unfold unF
  repeat' split
  all_goals omega
theorem pvalF_bd (o : OpR) (c : Nat → Nat) (a b d : Nat) (hc : cxOk c) (ha : a < 4294967296) (hb : b < 4294967296) (hd : d < 4294967296) (hk : o.k < 4294967296) : 0 ≤ pvalF o c a b d ∧ pvalF o c a b d < 4294967296 := by
  unfold pvalF valF
  by_cases h1 : o.kind = 2
  · rw [if_pos h1]; have := hc o.w.toNat; omega
  rw [if_neg h1]
  by_cases h2 : o.kind = 17
  · rw [if_pos h2]; have := flagsF_bd (c 8) (c 9) (c 10) (c 11); exact ⟨this.1, by unfold cxF; omega⟩
  rw [if_neg h2]
  by_cases h3 : o.kind = 1
  · rw [if_pos h3]; omega
  rw [if_neg h3]
  by_cases h4 : o.kind = 4
  · rw [if_pos h4]; exact binF_bd _ _ _ ha hb
  rw [if_neg h4]
  by_cases h5 : o.kind = 5
  · rw [if_pos h5]; have := unF_bd o.w a ha; omega
  rw [if_neg h5]
  by_cases h6 : o.kind = 6
  · rw [if_pos h6]; split <;> omega
  rw [if_neg h6]
  by_cases h7 : o.kind = 7
  · rw [if_pos h7]; have := flagsF_bd o.w a b d; omega
  rw [if_neg h7]; exact isF1 _
theorem ldW_bd (s : MS) (k : Int) (a : Nat) (hs : s.Ok) : ldW s k a < 4294967296 := by
  have hn : ldN k = 1 ∨ ldN k = 2 ∨ ldN k = 4 := by unfold ldN; repeat' split
                                                    all_goals omega
  obtain ⟨x, e, hx⟩ := ldX_nat s a (ldN k) hs hn
  unfold ldW
  rw [e]
  split
  · exact unF_bd _ _ (by omega)
  · split
    · exact unF_bd _ _ (by omega)
    · omega
theorem updC_ok {v : Nat → Nat} (h : cxOk v) (i x : Nat) (hx : x < 4294967296) : cxOk (updC v i x) := fun j => by
  unfold updC
  split
  · exact hx
  · exact h j
theorem nextO_ok (o : OpR) (i : Nat) (q : Sq) (h : StOk q) (hk : o.k < 4294967296) : StOk (nextO o i q) := by
  unfold nextO
  by_cases h1 : o.kind = 3
  · rw [if_pos h1]; exact ⟨updC_ok h.c _ _ (h.v _), h.s, h.v⟩
  rw [if_neg h1]
  by_cases h2 : o.kind = 9
  · rw [if_pos h2]; exact ⟨h.c, h.s, updC_ok h.v _ _ (ldW_bd _ _ _ h.s)⟩
  rw [if_neg h2]
  by_cases h3 : o.kind = 10
  · rw [if_pos h3]; exact ⟨h.c, ok_storeT h.s _ _ _, h.v⟩
  rw [if_neg h3]
  by_cases h4 : isV o.kind
  · rw [if_pos h4]
    have := pvalF_bd o q.c (q.v o.a.toNat) (q.v o.b.toNat) (q.v o.c.toNat) h.c (h.v _) (h.v _) (h.v _) hk
    exact ⟨h.c, h.s, updC_ok h.v _ _ (by unfold valV; omega)⟩
  rw [if_neg h4]; exact h

/-! ## What Check lets pass -/
structure OpGood (n : Nat) (o : OpR) : Prop where
  k1 : 1 ≤ o.kind
  k2 : o.kind ≤ 17
  lo : (rr o.kind).lo ≤ o.w
  hi : o.w ≤ (rr o.kind).hi
  a : 0 ≤ o.a ∧ o.a < n
  b : o.kind ≠ 14 → 0 ≤ o.b ∧ o.b < n
  b14 : o.kind = 14 → 0 ≤ o.b ∧ o.b ≤ 4294967295
  c : 0 ≤ o.c ∧ o.c < n
theorem opGood_of (count : Int) (n : Nat) (f : Nat → OpR) (i : Nat) (hi : i < n) (h : opErr count n f i = 0) : OpGood n (f i) := by
  unfold opErr at h
  by_cases e1 : eOp (f i) = true
  · rw [if_pos e1] at h; omega
  rw [if_neg e1] at h
  by_cases e2 : fieldBad (flT (f i).kind.toNat) (f i) count = true
  · rw [if_pos e2] at h; omega
  rw [if_neg e2] at h
  by_cases e3 : takenBad (flT (f i).kind.toNat) (f i) f i = true
  · rw [if_pos e3] at h; omega
  clear h
  simp only [eOp, Bool.or_eq_true, Bool.not_eq_true', decide_eq_true_eq, not_or, Bool.not_eq_false, isK_iff] at e1
  obtain ⟨⟨⟨k1, k2⟩, e1⟩, e1'⟩ := e1
  generalize hx : flT (f i).kind.toNat = x at e2 e3
  have hg : x.hg = true → (f i).kind = 14 := fun h => by
    rw [← hx] at h
    obtain ⟨k, hk⟩ : ∃ k : Nat, (f i).kind = k := ⟨(f i).kind.toNat, by omega⟩
    rw [hk] at h k1 k2 ⊢
    have : k ≤ 17 := by omega
    simp only [Int.toNat_natCast] at h
    have hk17 : k = 1 ∨ k = 2 ∨ k = 3 ∨ k = 4 ∨ k = 5 ∨ k = 6 ∨ k = 7 ∨ k = 8 ∨ k = 9 ∨ k = 10 ∨ k = 11 ∨ k = 12 ∨ k = 13 ∨ k = 14 ∨ k = 15 ∨ k = 16 ∨ k = 17 := by omega
    clear hk hx k1 k2 this
    rcases hk17 with rfl | rfl | rfl | rfl | rfl | rfl | rfl | rfl | rfl | rfl | rfl | rfl | rfl | rfl | rfl | rfl | rfl <;> first | rfl | (exact absurd h (by decide))
  have hg2 : (f i).kind = 14 → x.hg = true ∧ x.hb = false := fun h => by rw [← hx, h]; exact ⟨rfl, rfl⟩
  simp only [fieldBad, takenBad, bd, bg, tk, gvn, Bool.or_eq_true, Bool.and_eq_true, bne_iff_ne, ne_eq, Bool.not_eq_true', decide_eq_true_eq, decide_eq_false_iff_not, Bool.or_eq_false_iff, Bool.and_eq_false_iff, not_or, not_and, Bool.not_eq_false, Classical.not_not] at e2 e3
  obtain ⟨⟨⟨⟨⟨⟨a1, a2⟩, a3⟩, -⟩, -⟩, a6⟩, -⟩ := e2
  obtain ⟨⟨t1, t2⟩, t3⟩ := e3
  refine ⟨k1, k2, by omega, by omega, ?_, fun h14 => ?_, fun h14 => ?_, ?_⟩
  · by_cases ha : x.ha = true
    · have := (t1 ha).1; omega
    · have : (f i).a = 0 := by apply Classical.byContradiction; intro hne; exact ha (a1 hne)
      omega
  · have hgf : ¬ x.hg = true := fun hh => h14 (hg hh)
    by_cases hb : x.hb = true
    · have := (t2 hb).1; omega
    · have : (f i).b = 0 := by
        apply Classical.byContradiction; intro hne
        have h9 := a2 hne
        simp [hb, hgf] at h9
      omega
  · have := a6 (hg2 h14).1
    omega
  · by_cases hc : x.hc = true
    · have := (t3 hc).1; omega
    · have : (f i).c = 0 := by apply Classical.byContradiction; intro hne; exact hc (a3 hne)
      omega
theorem scan_ok (count : Int) (n : Nat) (f : Nat → OpR) : ∀ (m i : Nat), i + m = n → (scan count n f m i).1 = 0 → (∀ j, i ≤ j → j < n → opErr count n f j = 0) ∧ 0 < n
  | 0, i, hi, h => by
    refine ⟨fun j h1 h2 => by omega, ?_⟩
    simp only [scan, endR] at h
    by_cases e : n = 0
    · rw [if_pos (Or.inl e)] at h; simp at h
    · omega
  | m + 1, i, hi, h => by
    simp only [scan] at h
    by_cases e : opErr count n f i = 0
    · rw [if_pos e] at h
      have := scan_ok count n f m (i + 1) (by omega) h
      refine ⟨fun j h1 h2 => ?_, this.2⟩
      by_cases ej : j = i
      · rw [ej]; exact e
      · exact this.1 j (by omega) h2
    · rw [if_neg e] at h; exact absurd h e
theorem check_good (count bytes : Int) (n : Nat) (f : Nat → OpR) (h : (checkF count bytes n f).1 = 0) : n ≤ 2048 ∧ 0 < n ∧ ∀ j, j < n → OpGood n (f j) := by
  unfold checkF at h
  by_cases e : 2048 < n
  · rw [if_pos e] at h; simp at h
  rw [if_neg e] at h
  by_cases e2 : (0 ≤ count ∧ count ≤ 64) ∧ (0 ≤ bytes ∧ bytes ≤ 384)
  · rw [if_pos e2] at h
    have := scan_ok count n f n 0 (by omega) h
    exact ⟨by omega, this.2, fun j hj => opGood_of count n f j hj (this.1 j (by omega) hj)⟩
  · rw [if_neg e2] at h; simp at h
end Go.Proofs.Ytkgbjpdoigdjnaa
