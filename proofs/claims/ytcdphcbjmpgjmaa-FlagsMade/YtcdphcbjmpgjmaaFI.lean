import Derived.Test.YtcdphcbjmpgjmaaFE
import Derived.OwnWalk
namespace Go.Proofs.Ytcdphcbjmpgjmaa.Fl
open Go.RowKit
set_option maxRecDepth 100000
set_option linter.unusedVariables false

theorem flags5z (x f : Nat) (w : World) (hx : x < 4294967296) (hf : f < 4294967296) : Calls Try.prog 28 #[.int .i64 5, .int .u32 x, .int .u32 0, .int .u32 f] w fun e w' => e = .returned (.int .u32 (valF x)) ∧ w = w' := flags5 x 0 f w hx (by omega) hf
theorem bits_me (o : Int) (a b x : Nat) (w : World) (hx : bitN o a b = x) (ha : a < 4294967296) (hb : b < 4294967296) : Calls Try.prog 66 #[.int .i64 o, .int .u32 a, .int .u32 b] w fun e w' => e = .returned (.int .u32 x) ∧ w = w' := by
  subst hx; exact bits_any o a b w ha hb
theorem carF_eq (f : Nat) : (f : Int) / 4 % 2 = carF f := by unfold carF; omega

set_option maxHeartbeats 1000000 in
theorem reck0 (a b f : Nat) (w : World) (ha : a < 4294967296) (hb : b < 4294967296) (hf : f < 4294967296) : Calls Try.prog 26 #[.int .i64 0, .int .u32 a, .int .u32 b, .int .u32 f] w fun e w' => e = .returned (.tuple #[.int .u32 (((a : Int) + b) % 4294967296), .int .u32 (flagsF 1 a b f), .bool true]) ∧ w = w' := by
  have ha0 : (0 : Int) ≤ a := by omega
  have ha1 : (a : Int) < 4294967296 := by omega
  have hb0 : (0 : Int) ≤ b := by omega
  have hb1 : (b : Int) < 4294967296 := by omega
  have hf0 : (0 : Int) ≤ f := by omega
  have hf1 : (f : Int) < 4294967296 := by omega
  go_enter Try.func26, Try.ntmps26
  go_wp2_with first
    | (go_at_call 65; refine (word_any _ _ (by omega) (by omega)).mono ?_; rintro e w' ⟨rfl, rfl⟩)
    | (go_at_call 28; refine (flags_any 1 a b f _ (by omega) (by omega) hf).mono ?_; rintro e w' ⟨rfl, rfl⟩)
  go_ret3
  exact ⟨rfl, rfl⟩

set_option maxHeartbeats 1000000 in
theorem reck1 (a b f : Nat) (w : World) (ha : a < 4294967296) (hb : b < 4294967296) (hf : f < 4294967296) : Calls Try.prog 26 #[.int .i64 1, .int .u32 a, .int .u32 b, .int .u32 f] w fun e w' => e = .returned (.tuple #[.int .u32 (((a : Int) + b + carF f) % 4294967296), .int .u32 (flagsF 2 a b f), .bool true]) ∧ w = w' := by
  have ha0 : (0 : Int) ≤ a := by omega
  have ha1 : (a : Int) < 4294967296 := by omega
  have hb0 : (0 : Int) ≤ b := by omega
  have hb1 : (b : Int) < 4294967296 := by omega
  have hf0 : (0 : Int) ≤ f := by omega
  have hf1 : (f : Int) < 4294967296 := by omega
  have hc := carF_eq f
  have hc0 := carF_bd f
  obtain ⟨c, hcc⟩ : ∃ c, carF f = c := ⟨_, rfl⟩
  rw [hcc] at hc hc0
  rw [hcc]
  obtain ⟨hc1, hc2⟩ := hc0
  clear hcc
  go_enter Try.func26, Try.ntmps26
  go_wp2_with first
    | (go_at_call 65; refine (word_any _ _ (by omega) (by omega)).mono ?_; rintro e w' ⟨rfl, rfl⟩)
    | (go_at_call 28; refine (flags_any 2 a b f _ (by omega) (by omega) hf).mono ?_; rintro e w' ⟨rfl, rfl⟩)
  go_ret3
  exact ⟨rfl, rfl⟩

set_option maxHeartbeats 1000000 in
theorem reck2 (a b f : Nat) (w : World) (ha : a < 4294967296) (hb : b < 4294967296) (hf : f < 4294967296) : Calls Try.prog 26 #[.int .i64 2, .int .u32 a, .int .u32 b, .int .u32 f] w fun e w' => e = .returned (.tuple #[.int .u32 (((a : Int) - b) % 4294967296), .int .u32 (flagsF 3 a b f), .bool true]) ∧ w = w' := by
  have ha0 : (0 : Int) ≤ a := by omega
  have ha1 : (a : Int) < 4294967296 := by omega
  have hb0 : (0 : Int) ≤ b := by omega
  have hb1 : (b : Int) < 4294967296 := by omega
  have hf0 : (0 : Int) ≤ f := by omega
  have hf1 : (f : Int) < 4294967296 := by omega
  go_enter Try.func26, Try.ntmps26
  go_wp2_with first
    | (go_at_call 65; refine (word_any _ _ (by omega) (by omega)).mono ?_; rintro e w' ⟨rfl, rfl⟩)
    | (go_at_call 28; refine (flags_any 3 a b f _ (by omega) (by omega) hf).mono ?_; rintro e w' ⟨rfl, rfl⟩)
  go_ret3
  exact ⟨rfl, rfl⟩

set_option maxHeartbeats 1000000 in
theorem reck3 (a b f : Nat) (w : World) (ha : a < 4294967296) (hb : b < 4294967296) (hf : f < 4294967296) : Calls Try.prog 26 #[.int .i64 3, .int .u32 a, .int .u32 b, .int .u32 f] w fun e w' => e = .returned (.tuple #[.int .u32 (((a : Int) - b - carF f) % 4294967296), .int .u32 (flagsF 4 a b f), .bool true]) ∧ w = w' := by
  have ha0 : (0 : Int) ≤ a := by omega
  have ha1 : (a : Int) < 4294967296 := by omega
  have hb0 : (0 : Int) ≤ b := by omega
  have hb1 : (b : Int) < 4294967296 := by omega
  have hf0 : (0 : Int) ≤ f := by omega
  have hf1 : (f : Int) < 4294967296 := by omega
  have hc := carF_eq f
  have hc0 := carF_bd f
  obtain ⟨c, hcc⟩ : ∃ c, carF f = c := ⟨_, rfl⟩
  rw [hcc] at hc hc0
  rw [hcc]
  obtain ⟨hc1, hc2⟩ := hc0
  clear hcc
  go_enter Try.func26, Try.ntmps26
  go_wp2_with first
    | (go_at_call 65; refine (word_any _ _ (by omega) (by omega)).mono ?_; rintro e w' ⟨rfl, rfl⟩)
    | (go_at_call 28; refine (flags_any 4 a b f _ (by omega) (by omega) hf).mono ?_; rintro e w' ⟨rfl, rfl⟩)
  go_ret3
  exact ⟨rfl, rfl⟩

set_option maxHeartbeats 1000000 in
theorem reck4 (a b f : Nat) (w : World) (ha : a < 4294967296) (hb : b < 4294967296) (hf : f < 4294967296) : Calls Try.prog 26 #[.int .i64 4, .int .u32 a, .int .u32 b, .int .u32 f] w fun e w' => e = .returned (.tuple #[.int .u32 ((bitN 4 a b : Int)), .int .u32 (valF (bitN 4 a b)), .bool true]) ∧ w = w' := by
  have ha0 : (0 : Int) ≤ a := by omega
  have ha1 : (a : Int) < 4294967296 := by omega
  have hb0 : (0 : Int) ≤ b := by omega
  have hb1 : (b : Int) < 4294967296 := by omega
  have hf0 : (0 : Int) ≤ f := by omega
  have hf1 : (f : Int) < 4294967296 := by omega
  obtain ⟨x, hx0⟩ : ∃ x, bitN 4 a b = x := ⟨_, rfl⟩
  have hx : x < 4294967296 := by rw [← hx0]; exact bitN_lt 4 a b ha hb
  have HX : Hid (bitN 4 a b = x) := hx0
  rw [hx0]
  clear hx0
  go_enter Try.func26, Try.ntmps26
  go_wp2_with first
    | (go_at_call 66; refine (bits_me 4 a b x _ HX.out ha hb).mono ?_; rintro e w' ⟨rfl, rfl⟩)
    | (go_at_call 28; refine (flags5z x f _ hx hf).mono ?_; rintro e w' ⟨rfl, rfl⟩)
  go_ret3
  exact ⟨rfl, rfl⟩

set_option maxHeartbeats 1000000 in
theorem reck5 (a b f : Nat) (w : World) (ha : a < 4294967296) (hb : b < 4294967296) (hf : f < 4294967296) : Calls Try.prog 26 #[.int .i64 5, .int .u32 a, .int .u32 b, .int .u32 f] w fun e w' => e = .returned (.tuple #[.int .u32 ((bitN 5 a b : Int)), .int .u32 (valF (bitN 5 a b)), .bool true]) ∧ w = w' := by
  have ha0 : (0 : Int) ≤ a := by omega
  have ha1 : (a : Int) < 4294967296 := by omega
  have hb0 : (0 : Int) ≤ b := by omega
  have hb1 : (b : Int) < 4294967296 := by omega
  have hf0 : (0 : Int) ≤ f := by omega
  have hf1 : (f : Int) < 4294967296 := by omega
  obtain ⟨x, hx0⟩ : ∃ x, bitN 5 a b = x := ⟨_, rfl⟩
  have hx : x < 4294967296 := by rw [← hx0]; exact bitN_lt 5 a b ha hb
  have HX : Hid (bitN 5 a b = x) := hx0
  rw [hx0]
  clear hx0
  go_enter Try.func26, Try.ntmps26
  go_wp2_with first
    | (go_at_call 66; refine (bits_me 5 a b x _ HX.out ha hb).mono ?_; rintro e w' ⟨rfl, rfl⟩)
    | (go_at_call 28; refine (flags5z x f _ hx hf).mono ?_; rintro e w' ⟨rfl, rfl⟩)
  go_ret3
  exact ⟨rfl, rfl⟩

set_option maxHeartbeats 1000000 in
theorem reck6 (a b f : Nat) (w : World) (ha : a < 4294967296) (hb : b < 4294967296) (hf : f < 4294967296) : Calls Try.prog 26 #[.int .i64 6, .int .u32 a, .int .u32 b, .int .u32 f] w fun e w' => e = .returned (.tuple #[.int .u32 ((bitN 6 a b : Int)), .int .u32 (valF (bitN 6 a b)), .bool true]) ∧ w = w' := by
  have ha0 : (0 : Int) ≤ a := by omega
  have ha1 : (a : Int) < 4294967296 := by omega
  have hb0 : (0 : Int) ≤ b := by omega
  have hb1 : (b : Int) < 4294967296 := by omega
  have hf0 : (0 : Int) ≤ f := by omega
  have hf1 : (f : Int) < 4294967296 := by omega
  obtain ⟨x, hx0⟩ : ∃ x, bitN 6 a b = x := ⟨_, rfl⟩
  have hx : x < 4294967296 := by rw [← hx0]; exact bitN_lt 6 a b ha hb
  have HX : Hid (bitN 6 a b = x) := hx0
  rw [hx0]
  clear hx0
  go_enter Try.func26, Try.ntmps26
  go_wp2_with first
    | (go_at_call 66; refine (bits_me 6 a b x _ HX.out ha hb).mono ?_; rintro e w' ⟨rfl, rfl⟩)
    | (go_at_call 28; refine (flags5z x f _ hx hf).mono ?_; rintro e w' ⟨rfl, rfl⟩)
  go_ret3
  exact ⟨rfl, rfl⟩

set_option maxHeartbeats 1000000 in
theorem reck7 (a b f : Nat) (w : World) (ha : a < 4294967296) (hb : b < 4294967296) (hf : f < 4294967296) : Calls Try.prog 26 #[.int .i64 7, .int .u32 a, .int .u32 b, .int .u32 f] w fun e w' => e = .returned (.tuple #[.int .u32 ((a : Int)), .int .u32 (flagsF 3 a b f), .bool true]) ∧ w = w' := by
  have ha0 : (0 : Int) ≤ a := by omega
  have ha1 : (a : Int) < 4294967296 := by omega
  have hb0 : (0 : Int) ≤ b := by omega
  have hb1 : (b : Int) < 4294967296 := by omega
  have hf0 : (0 : Int) ≤ f := by omega
  have hf1 : (f : Int) < 4294967296 := by omega
  go_enter Try.func26, Try.ntmps26
  go_wp2_with first
    | (go_at_call 28; refine (flags_any 3 a b f _ (by omega) (by omega) hf).mono ?_; rintro e w' ⟨rfl, rfl⟩)
  go_ret3
  exact ⟨rfl, rfl⟩

set_option maxHeartbeats 1000000 in
theorem reck8 (a b f : Nat) (w : World) (ha : a < 4294967296) (hb : b < 4294967296) (hf : f < 4294967296) : Calls Try.prog 26 #[.int .i64 8, .int .u32 a, .int .u32 b, .int .u32 f] w fun e w' => e = .returned (.tuple #[.int .u32 ((a : Int)), .int .u32 (valF (bitN 4 a b)), .bool true]) ∧ w = w' := by
  have ha0 : (0 : Int) ≤ a := by omega
  have ha1 : (a : Int) < 4294967296 := by omega
  have hb0 : (0 : Int) ≤ b := by omega
  have hb1 : (b : Int) < 4294967296 := by omega
  have hf0 : (0 : Int) ≤ f := by omega
  have hf1 : (f : Int) < 4294967296 := by omega
  obtain ⟨x, hx0⟩ : ∃ x, bitN 4 a b = x := ⟨_, rfl⟩
  have hx : x < 4294967296 := by rw [← hx0]; exact bitN_lt 4 a b ha hb
  have HX : Hid (bitN 4 a b = x) := hx0
  rw [hx0]
  clear hx0
  go_enter Try.func26, Try.ntmps26
  go_wp2_with first
    | (go_at_call 66; refine (bits_me 4 a b x _ HX.out ha hb).mono ?_; rintro e w' ⟨rfl, rfl⟩)
    | (go_at_call 28; refine (flags5z x f _ hx hf).mono ?_; rintro e w' ⟨rfl, rfl⟩)
  go_ret3
  exact ⟨rfl, rfl⟩
end Go.Proofs.Ytcdphcbjmpgjmaa.Fl
