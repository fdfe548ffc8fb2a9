import Derived.Test.YtmnifblbacgeoabVEB
import Derived.Test.YtmnifblbacgeoabVJ32
namespace Go.Proofs.Ytmnifblbacgeoab.Va
open Go.RowKit
set_option maxRecDepth 100000
set_option linter.unusedVariables false
theorem addF_bd (a b : Nat) (c : Int) : 0 ≤ Fl.addF a b c ∧ Fl.addF a b c ≤ 15 := by
  have h1 := Fl.valF_bd (((a : Int) + b + c) % 4294967296)
  have h2 := Fl.isF_bd (decide (4294967296 ≤ (a : Int) + b + c)) 4 (by omega)
  have h3 := Fl.isF_bd (Fl.pastB (Fl.sgn a + Fl.sgn b + c)) 8 (by omega)
  unfold Fl.addF; omega
theorem subF_bd (a b : Nat) (c : Int) : 0 ≤ Fl.subF a b c ∧ Fl.subF a b c ≤ 15 := by
  have h1 := Fl.valF_bd (((a : Int) - b - c) % 4294967296)
  have h2 := Fl.isF_bd (decide ((a : Int) - b - c < 0)) 4 (by omega)
  have h3 := Fl.isF_bd (Fl.pastB (Fl.sgn a - Fl.sgn b - c)) 8 (by omega)
  unfold Fl.subF; omega
theorem mulF_bd (a b : Nat) : 0 ≤ Fl.mulF a b ∧ Fl.mulF a b ≤ 15 := by
  have h1 := Fl.valF_bd ((a * b % 4294967296 : Nat) : Int)
  have h2 := Fl.isF_bd (decide (4294967296 ≤ a * b)) 12 (by omega)
  unfold Fl.mulF; omega
theorem incF_bd (a old : Nat) : 0 ≤ Fl.incF a old ∧ Fl.incF a old ≤ 15 := by
  have h1 := Fl.valF_bd (((a : Int) + 1) % 4294967296)
  have h2 := Fl.carF_bd old
  have h3 := Fl.isF_bd (Fl.pastB (Fl.sgn a + 1)) 8 (by omega)
  unfold Fl.incF; omega
theorem decF_bd (a old : Nat) : 0 ≤ Fl.decF a old ∧ Fl.decF a old ≤ 15 := by
  have h1 := Fl.valF_bd (((a : Int) - 1) % 4294967296)
  have h2 := Fl.carF_bd old
  have h3 := Fl.isF_bd (Fl.pastB (Fl.sgn a - 1)) 8 (by omega)
  unfold Fl.decF; omega
theorem shlF_bd (a n : Nat) : 0 ≤ Fl.shlF a n ∧ Fl.shlF a n ≤ 15 := by
  have h1 := Fl.valF_bd ((a * 2 ^ n % 4294967296 : Nat) : Int)
  have h2 := Fl.isF_bd (a * 2 ^ n / 4294967296 % 2 == 1) 4 (by omega)
  unfold Fl.shlF; omega
theorem shrF_bd (a n : Nat) : 0 ≤ Fl.shrF a n ∧ Fl.shrF a n ≤ 15 := by
  have h1 := Fl.valF_bd ((a : Int) / 2 ^ n)
  have h2 := Fl.isF_bd ((a : Int) / 2 ^ (n - 1) % 2 == 1) 4 (by omega)
  unfold Fl.shrF; omega
theorem sarF_bd (a n : Nat) : 0 ≤ Fl.sarF a n ∧ Fl.sarF a n ≤ 15 := by
  have h1 := Fl.valF_bd (Fl.sgn a / 2 ^ (n - 1) / 2 % 4294967296)
  have h2 := Fl.isF_bd (Fl.sgn a / 2 ^ (n - 1) % 4294967296 % 2 == 1) 4 (by omega)
  unfold Fl.sarF; omega
theorem rolF_bd (a n old : Nat) : 0 ≤ Fl.rolF a n old ∧ Fl.rolF a n old ≤ 15 := by
  have h2 := Fl.isF_bd (Fl.turN n a % 2 == 1) 4 (by omega)
  unfold Fl.rolF Fl.carF; omega
theorem flagsF_bd (k : Int) (a b old : Nat) : 0 ≤ Fl.flagsF k a b old ∧ Fl.flagsF k a b old ≤ 15 := by
  unfold Fl.flagsF
  by_cases h1 : k = 1
  · rw [if_pos h1]; exact addF_bd ..
  rw [if_neg h1]
  by_cases h2 : k = 2
  · rw [if_pos h2]; exact addF_bd ..
  rw [if_neg h2]
  by_cases h3 : k = 3
  · rw [if_pos h3]; exact subF_bd ..
  rw [if_neg h3]
  by_cases h4 : k = 4
  · rw [if_pos h4]; exact subF_bd ..
  rw [if_neg h4]
  by_cases h5 : k = 5
  · rw [if_pos h5]; have := Fl.valF_bd a; omega
  rw [if_neg h5]
  by_cases h6 : k = 10
  · rw [if_pos h6]; exact mulF_bd ..
  rw [if_neg h6]
  by_cases h7 : k = 11
  · rw [if_pos h7]; exact incF_bd ..
  rw [if_neg h7]
  by_cases h8 : k = 12
  · rw [if_pos h8]; exact decF_bd ..
  rw [if_neg h8]
  by_cases h9 : (k = 6 ∨ k = 7 ∨ k = 8 ∨ k = 9) ∧ 0 < b % 32
  · rw [if_pos h9]
    by_cases g1 : k = 6
    · rw [if_pos g1]; exact shlF_bd ..
    rw [if_neg g1]
    by_cases g2 : k = 7
    · rw [if_pos g2]; exact shrF_bd ..
    rw [if_neg g2]
    by_cases g3 : k = 8
    · rw [if_pos g3]; exact sarF_bd ..
    rw [if_neg g3]
    exact rolF_bd ..
  · rw [if_neg h9]; omega

theorem turN_bd : ∀ (n : Nat) (x : Int), 0 ≤ x → x < 4294967296 → 0 ≤ Fl.turN n x ∧ Fl.turN n x < 4294967296
  | 0, x, h0, h1 => ⟨h0, h1⟩
  | n + 1, x, h0, h1 => turN_bd n _ (Fl.tur1_bd x h0 h1).1 (Fl.tur1_bd x h0 h1).2
theorem recX_bd (o : Int) (a b f : Nat) (ha : a < 4294967296) (hb : b < 4294967296) : 0 ≤ Fl.recX o a b f ∧ Fl.recX o a b f < 4294967296 := by
  have hbit := Fl.bitN_lt o a b ha hb
  unfold Fl.recX
  by_cases h1 : o = 0
  · rw [if_pos h1]; omega
  rw [if_neg h1]
  by_cases h2 : o = 1
  · rw [if_pos h2]; omega
  rw [if_neg h2]
  by_cases h3 : o = 2
  · rw [if_pos h3]; omega
  rw [if_neg h3]
  by_cases h4 : o = 3
  · rw [if_pos h4]; omega
  rw [if_neg h4]
  by_cases h5 : o = 4 ∨ o = 5 ∨ o = 6
  · rw [if_pos h5]; omega
  rw [if_neg h5]
  by_cases h6 : o = 7 ∨ o = 8
  · rw [if_pos h6]; omega
  rw [if_neg h6]
  by_cases h7 : o = 9
  · rw [if_pos h7]
    have := Nat.mod_lt (a * 2 ^ (b % 32)) (show 0 < 4294967296 by omega)
    omega
  rw [if_neg h7]
  by_cases h8 : o = 10
  · rw [if_pos h8]
    have e : (a : Int) / 2 ^ (b % 32) = ((a / 2 ^ (b % 32) : Nat) : Int) := by push_cast; rfl
    have := Nat.div_le_self a (2 ^ (b % 32))
    rw [e]; exact ⟨Int.natCast_nonneg _, by have h2 := Int.ofNat_le.2 this; omega⟩
  rw [if_neg h8]
  by_cases h9 : o = 11
  · rw [if_pos h9]; omega
  rw [if_neg h9]
  by_cases h10 : o = 12
  · rw [if_pos h10]; exact turN_bd _ _ (by omega) (by omega)
  rw [if_neg h10]
  by_cases h11 : o = 13
  · rw [if_pos h11]
    have := Nat.mod_lt (a * b) (show 0 < 4294967296 by omega)
    omega
  rw [if_neg h11]
  by_cases h12 : o = 14 ∧ 0 < b
  · rw [if_pos h12]
    have h2 := Int.ofNat_le.2 (Nat.div_le_self a b)
    exact ⟨Int.natCast_nonneg _, by omega⟩
  rw [if_neg h12]
  by_cases h13 : o = 15 ∧ 0 < b
  · rw [if_pos h13]
    have := Nat.mod_le a b
    omega
  rw [if_neg h13]; omega
theorem isF1 (b : Bool) : 0 ≤ Fl.isF b 1 ∧ Fl.isF b 1 < 4294967296 := by have := Fl.isF_bd b 1 (by omega); omega
theorem binF_bd (w : Int) (a b : Nat) (ha : a < 4294967296) (hb : b < 4294967296) : 0 ≤ binF w a b ∧ binF w a b < 4294967296 := by
  have hm := mul_bd a b ha hb
  unfold binF
  by_cases h1 : w < 10
  · rw [if_pos h1]; exact recX_bd _ a b 0 ha hb
  rw [if_neg h1]
  by_cases h2 : w = 10
  · rw [if_pos h2]
    have : a * b / 4294967296 < 4294967296 := Nat.div_lt_of_lt_mul (by omega)
    omega
  rw [if_neg h2]
  by_cases h3 : w = 11
  · rw [if_pos h3]; split
    · omega
    · have h9 := Nat.div_le_self a b
      generalize a / b = d at h9 ⊢
      omega
  rw [if_neg h3]
  by_cases h4 : w = 12
  · rw [if_pos h4]; split
    · omega
    · have h9 := Nat.mod_le a b
      generalize a % b = d at h9 ⊢
      omega
  rw [if_neg h4]
  by_cases h5 : w = 13
  · rw [if_pos h5]; exact isF1 _
  rw [if_neg h5]
  by_cases h6 : w = 14
  · rw [if_pos h6]; exact isF1 _
  rw [if_neg h6]; exact isF1 _
theorem unF_bd (w : Int) (a : Nat) (ha : a < 4294967296) : unF w a < 4294967296 := by
  unfold unF
  repeat' split
  all_goals omega
end Go.Proofs.Ytmnifblbacgeoab.Va
