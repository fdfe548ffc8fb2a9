import Derived.Test.YtcdphcbjmpgjmaaIA
namespace Go.Proofs.Ytcdphcbjmpgjmaa
open Go.RowKit
set_option maxRecDepth 100000
set_option linter.unusedVariables false
set_option linter.unusedSimpArgs false

/-! ## Sums, differences, products -/
theorem add32_me (a b c v o : Nat) (w : World) (hv : (v : Int) = ((a : Int) + b + c) % 4294967296) (ho : (o : Int) = ((a : Int) + b + c) / 4294967296) (ha : a < 4294967296) (hb : b < 4294967296) (hc : c ≤ 1) :
    Calls Try.prog 107 #[.int .u32 a, .int .u32 b, .int .u32 c] w fun e w' => e = .returned (.tuple #[.int .u32 v, .int .u32 o]) ∧ w = w' := by
  rw [hv, ho]; exact add32 a b c w ha hb hc
theorem sub32_me (a b c v o : Nat) (w : World) (hv : (v : Int) = ((a : Int) - b - c) % 4294967296) (ho : (o : Int) = Fl.isF (decide ((a : Int) - b - c < 0)) 1) (ha : a < 4294967296) (hb : b < 4294967296) (hc : c ≤ 1) :
    Calls Try.prog 108 #[.int .u32 a, .int .u32 b, .int .u32 c] w fun e w' => e = .returned (.tuple #[.int .u32 v, .int .u32 o]) ∧ w = w' := by
  rw [ho]; exact sub32 a b c v w hv ha hb hc
theorem isF_one (b : Bool) (k : Int) : Fl.isF b 1 * k = Fl.isF b k := by unfold Fl.isF; cases b <;> simp
theorem isF_nat (b : Bool) : ∃ p : Nat, (p : Int) = Fl.isF b 1 ∧ p ≤ 1 := by
  refine ⟨(Fl.isF b 1).toNat, ?_, ?_⟩ <;> have := Fl.isF_bd b 1 (by omega) <;> omega
set_option maxHeartbeats 2000000 in
theorem reckoned1 (a b c : Nat) (w : World) (ha : a < 4294967296) (hb : b < 4294967296) (hc : c ≤ 1) :
    Calls Try.prog 95 #[.int .u8 1, .int .u32 a, .int .u32 b, .int .u32 c] w fun e w' => e = .returned (.tuple #[.int .u32 (((a : Int) + b + c) % 4294967296), .int .u32 (Fl.addF a b c)]) ∧ w = w' := by
  obtain ⟨v, hv⟩ : ∃ v : Nat, (v : Int) = ((a : Int) + b + c) % 4294967296 := ⟨(((a : Int) + b + c) % 4294967296).toNat, by omega⟩
  obtain ⟨o, ho⟩ : ∃ o : Nat, (o : Int) = ((a : Int) + b + c) / 4294967296 := ⟨(((a : Int) + b + c) / 4294967296).toNat, by omega⟩
  obtain ⟨p, hp, hpl⟩ := isF_nat (Fl.pastB (Fl.sgn a + Fl.sgn b + c))
  have hvl : v < 4294967296 := by omega
  have hol : o ≤ 1 := by omega
  have h4 := (over_add a b v c ha hb hvl (by omega) hv).trans hp.symm
  have h1 : bits .xor .u32 (a : Int) v = ((a ^^^ v : Nat) : Int) := Go.u32_xor_nat _ _ ha hvl
  have h2 : bits .xor .u32 (b : Int) v = ((b ^^^ v : Nat) : Int) := Go.u32_xor_nat _ _ hb hvl
  have h3 : bits .and .u32 ((a ^^^ v : Nat) : Int) ((b ^^^ v : Nat) : Int) = (((a ^^^ v) &&& (b ^^^ v) : Nat) : Int) := Go.u32_and_nat _ _ (xor_lt ha hvl) (xor_lt hb hvl)
  have k1 := xor_lt ha hvl
  have k2 := xor_lt hb hvl
  have k3 : (a ^^^ v) &&& (b ^^^ v) < 4294967296 := and_lt k1
  generalize a ^^^ v = x1 at *
  generalize b ^^^ v = x2 at *
  generalize x1 &&& x2 = x3 at *
  have HE : Hid (Fl.valF v + o * 4 + p * 8 = Fl.addF a b c) := by
    rw [hv, hp, isF_one]
    unfold Fl.addF
    have : (o : Int) = Fl.isF (decide (4294967296 ≤ (a : Int) + b + c)) 1 := by
      unfold Fl.isF
      by_cases h : 4294967296 ≤ (a : Int) + b + c <;> simp [h] <;> omega
    rw [this, isF_one]
    rfl
  have HV : Hid _ := hv
  have HO : Hid _ := ho
  have HP : Hid _ := hp
  clear hv ho hp
  go_enter Try.func95, Try.ntmps95
  go_wp2_with (first
    | (go_at_call 107; refine (add32_me a b c v o _ HV.out HO.out ha hb hc).mono ?_; rintro e w1 ⟨rfl, rfl⟩)
    | (go_at_call 106; refine (flagsOf_any v o p _ hvl hol hpl).mono ?_; rintro e w1 ⟨rfl, rfl⟩))
  go_ret2
  exact ⟨ret2 HV.out HE.out, rfl⟩
set_option maxHeartbeats 2000000 in
theorem reckoned2 (a b c : Nat) (w : World) (ha : a < 4294967296) (hb : b < 4294967296) (hc : c ≤ 1) :
    Calls Try.prog 95 #[.int .u8 2, .int .u32 a, .int .u32 b, .int .u32 c] w fun e w' => e = .returned (.tuple #[.int .u32 (((a : Int) - b - c) % 4294967296), .int .u32 (Fl.subF a b c)]) ∧ w = w' := by
  obtain ⟨v, hv⟩ : ∃ v : Nat, (v : Int) = ((a : Int) - b - c) % 4294967296 := ⟨(((a : Int) - b - c) % 4294967296).toNat, by omega⟩
  obtain ⟨o, ho, hol⟩ := isF_nat (decide ((a : Int) - b - c < 0))
  obtain ⟨p, hp, hpl⟩ := isF_nat (Fl.pastB (Fl.sgn a - Fl.sgn b - c))
  have hvl : v < 4294967296 := by omega
  have h4 := (over_sub a b v c ha hb hvl (by omega) hv).trans hp.symm
  have h1 : bits .xor .u32 (a : Int) b = ((a ^^^ b : Nat) : Int) := Go.u32_xor_nat _ _ ha hb
  have h2 : bits .xor .u32 (a : Int) v = ((a ^^^ v : Nat) : Int) := Go.u32_xor_nat _ _ ha hvl
  have h3 : bits .and .u32 ((a ^^^ b : Nat) : Int) ((a ^^^ v : Nat) : Int) = (((a ^^^ b) &&& (a ^^^ v) : Nat) : Int) := Go.u32_and_nat _ _ (xor_lt ha hb) (xor_lt ha hvl)
  have k1 := xor_lt ha hb
  have k2 := xor_lt ha hvl
  have k3 : (a ^^^ b) &&& (a ^^^ v) < 4294967296 := and_lt k1
  generalize a ^^^ b = x1 at *
  generalize a ^^^ v = x2 at *
  generalize x1 &&& x2 = x3 at *
  have HE : Hid (Fl.valF v + o * 4 + p * 8 = Fl.subF a b c) := by
    rw [hv, hp, ho, isF_one, isF_one]
    rfl
  have HV : Hid _ := hv
  have HO : Hid _ := ho
  have HP : Hid _ := hp
  clear hv ho hp
  go_enter Try.func95, Try.ntmps95
  go_wp2_with (first
    | (go_at_call 108; refine (sub32_me a b c v o _ HV.out HO.out ha hb hc).mono ?_; rintro e w1 ⟨rfl, rfl⟩)
    | (go_at_call 106; refine (flagsOf_any v o p _ hvl hol hpl).mono ?_; rintro e w1 ⟨rfl, rfl⟩))
  go_ret2
  exact ⟨ret2 HV.out HE.out, rfl⟩
set_option maxHeartbeats 2000000 in
theorem reckoned3 (a b c : Nat) (w : World) (ha : a < 4294967296) (hb : b < 4294967296) :
    Calls Try.prog 95 #[.int .u8 3, .int .u32 a, .int .u32 b, .int .u32 c] w fun e w' => e = .returned (.tuple #[.int .u32 a, .int .u32 (Fl.valF a)]) ∧ w = w' := by
  go_enter Try.func95, Try.ntmps95
  go_wp2_with (go_at_call 106; refine (flagsOf_any a 0 0 _ ha (by omega) (by omega)).mono ?_; rintro e w1 ⟨rfl, rfl⟩)
  go_ret2
  exact ⟨ret2 rfl (by simp), rfl⟩
end Go.Proofs.Ytcdphcbjmpgjmaa
