import Derived.Test.YtcdphcbjmpgjmaaFA
namespace Go.Proofs.Ytcdphcbjmpgjmaa.Fl
open Go.RowKit
set_option maxRecDepth 100000
set_option linter.unusedVariables false

structure BitR (o : Int) (a b j : Nat) (x : Int) : Prop where
  le : j ≤ 32
  eq : x = ((bitN o a b / 2 ^ j : Nat) : Int)
  lt : bitN o a b < 4294967296

theorem bits_one (o : Int) (a b t : Nat) (P Q : Nat) (hP : P = a / 2 ^ t % 2) (hQ : Q = b / 2 ^ t % 2) (ha : a < 4294967296) (hb : b < 4294967296) :
    bitN o a b / 2 ^ t = 2 * (bitN o a b / 2 ^ (t + 1)) + (if o = 5 then P + Q - P * Q else if o = 6 then (P + Q) % 2 else P * Q) := by
  rw [bit_low (bitN o a b) t]
  congr 1
  unfold bitN
  subst hP hQ
  split
  · rw [bit_or]
  · split
    · rw [bit_xor]
    · rw [bit_and]

set_option maxHeartbeats 1000000 in
theorem bits_any (o : Int) (a b : Nat) (w : World) (ha : a < 4294967296) (hb : b < 4294967296) : Calls Try.prog 66 #[.int .i64 o, .int .u32 a, .int .u32 b] w fun e w' => e = .returned (.int .u32 (bitN o a b)) ∧ w = w' := by
  have hlt := bitN_lt o a b ha hb
  have HLT : Hid (bitN o a b < 4294967296) := hlt
  have ha0 : (0 : Int) ≤ a := by omega
  have ha1 : (a : Int) < 4294967296 := by omega
  have hb0 : (0 : Int) ≤ b := by omega
  have hb1 : (b : Int) < 4294967296 := by omega
  clear hlt
  have hc : ((o == 5) = true) ∨ ((o == 5) = false ∧ (o == 6) = true) ∨ ((o == 5) = false ∧ (o == 6) = false) := by
    cases h5 : (o == 5)
    · cases h6 : (o == 6)
      · exact .inr (.inr ⟨rfl, rfl⟩)
      · exact .inr (.inl ⟨rfl, rfl⟩)
    · exact .inl rfl
  go_enter Try.func66, Try.ntmps66
  go_wp2
  go_loop [7, 8] (fun xx kk => ∃ (j : Nat) (x : Int), kk = .int .i64 ((j : Int) - 1) ∧ xx = .int .u32 x ∧ BitR o a b j x) (fun _ kk => (intOf kk + 1).toNat)
  case atStart => exact ⟨32, 0, rfl, rfl, ⟨Nat.le_refl _, by rw [Nat.div_eq_of_lt HLT.out]; rfl, HLT.out⟩⟩
  case round =>
    obtain ⟨j, x, rfl, rfl, hj, hx, hl⟩ := hrel
    cases j with
    | zero =>
      have hz : ((0 : Nat) : Int) - 1 = -1 := rfl
      rw [hz]
      have HX : Hid (x = (bitN o a b : Int)) := show _ = _ by simpa using hx
      clear hx hz
      go_wp2
      go_ret
      exact ⟨ret_int HX.out, rfl⟩
    | succ t =>
      have e : ((t + 1 : Nat) : Int) - 1 = (t : Int) := by omega
      rw [e]
      obtain ⟨P, hP⟩ : ∃ P, P = a / 2 ^ t % 2 := ⟨_, rfl⟩
      obtain ⟨Q, hQ⟩ : ∃ Q, Q = b / 2 ^ t % 2 := ⟨_, rfl⟩
      have H1 : Hid (bitN o a b / 2 ^ t = 2 * (bitN o a b / 2 ^ (t + 1)) + (if o = 5 then P + Q - P * Q else if o = 6 then (P + Q) % 2 else P * Q)) := bits_one o a b t P Q hP hQ ha hb
      have HX : Hid (x = ((bitN o a b / 2 ^ (t + 1) : Nat) : Int)) := hx
      have ht0 : (0 : Int) ≤ t := by omega
      have ht1 : (t : Int) ≤ 31 := by omega
      clear hx e
      have hPb : P = 0 ∨ P = 1 := by omega
      have hQb : Q = 0 ∨ Q = 1 := by omega
      obtain ⟨A, hA⟩ : ∃ A : Nat, a / 2 ^ t = A := ⟨_, rfl⟩
      obtain ⟨B, hB⟩ : ∃ B : Nat, b / 2 ^ t = B := ⟨_, rfl⟩
      rw [hA] at hP
      rw [hB] at hQ
      have hAi : (a : Int) / 2 ^ t = (A : Int) := by rw [← hA]; simp
      have hBi : (b : Int) / 2 ^ t = (B : Int) := by rw [← hB]; simp
      have hA0 : (0 : Int) ≤ A := by omega
      have hB0 : (0 : Int) ≤ B := by omega
      have hA1 : (A : Int) < 4294967296 := by have : A ≤ a := by rw [← hA]; exact Nat.div_le_self _ _
                                              omega
      have hB1 : (B : Int) < 4294967296 := by have : B ≤ b := by rw [← hB]; exact Nat.div_le_self _ _
                                              omega
      have hAm : (A : Int) % 2 = (P : Int) := by omega
      have hBm : (B : Int) % 2 = (Q : Int) := by omega
      obtain ⟨y, hy⟩ : ∃ y : Nat, bitN o a b / 2 ^ (t + 1) = y := ⟨_, rfl⟩
      have hxy : x = (y : Int) := by rw [HX.out, hy]
      have hle : bitN o a b / 2 ^ t < 4294967296 := Nat.lt_of_le_of_lt (Nat.div_le_self _ _) hl
      obtain ⟨z, hz⟩ : ∃ z : Nat, bitN o a b / 2 ^ t = z := ⟨_, rfl⟩
      have hzz : z = 2 * y + (if o = 5 then P + Q - P * Q else if o = 6 then (P + Q) % 2 else P * Q) := by rw [← hz, H1.out, hy]
      have HZ : Hid (bitN o a b / 2 ^ t = z) := hz
      rw [hz] at hle
      have HJ : Hid (t ≤ 32 ∧ bitN o a b < 4294967296) := ⟨by omega, hl⟩
      have hy0 : (0 : Int) ≤ y := by omega
      subst hxy
      clear hA hB hP hQ hy H1 HX HLT hz hl hj
      rcases hc with h5 | ⟨h5, h6⟩ | ⟨h5, h6⟩
      · have ho : o = 5 := by simpa using h5
        subst ho
        clear h5
        rcases hPb with rfl | rfl <;> rcases hQb with rfl | rfl
        all_goals
          simp at hzz
          have hy2 : 2 * (y : Int) + 1 ≤ 4294967296 := by omega
          have HY : Hid (z < 4294967296 ∧ z = z) := ⟨hle, rfl⟩
          have hzi : (z : Int) < 4294967296 := by omega
          subst hzz
          go_wp2
          go_round
          case rel => exact ⟨t, _, by go_num, by go_num, ⟨HJ.out.1, by rw [HZ.out]; go_num, HJ.out.2⟩⟩
          case measure => simp [intOf]
      · have ho : o = 6 := by simpa using h6
        subst ho
        clear h5 h6
        rcases hPb with rfl | rfl <;> rcases hQb with rfl | rfl
        all_goals
          simp at hzz
          have hy2 : 2 * (y : Int) + 1 ≤ 4294967296 := by omega
          have hzi : (z : Int) < 4294967296 := by omega
          subst hzz
          go_wp2
          go_round
          case rel => exact ⟨t, _, by go_num, by go_num, ⟨HJ.out.1, by rw [HZ.out]; go_num, HJ.out.2⟩⟩
          case measure => simp [intOf]
      · have ho5 : ¬ o = 5 := by simpa using h5
        have ho6 : ¬ o = 6 := by simpa using h6
        rw [if_neg ho5, if_neg ho6] at hzz
        clear ho5 ho6
        rcases hPb with rfl | rfl <;> rcases hQb with rfl | rfl
        all_goals
          simp at hzz
          have hy2 : 2 * (y : Int) + 1 ≤ 4294967296 := by omega
          have hzi : (z : Int) < 4294967296 := by omega
          subst hzz
          go_wp2
          go_round
          case rel => exact ⟨t, _, by go_num, by go_num, ⟨HJ.out.1, by rw [HZ.out]; go_num, HJ.out.2⟩⟩
          case measure => simp [intOf]
end Go.Proofs.Ytcdphcbjmpgjmaa.Fl
