import Derived.Test.YtkgbjpdoigdjnaaJ04
namespace Go.Proofs.Ytkgbjpdoigdjnaa.Fl
open Go.RowKit
set_option maxRecDepth 100000
set_option linter.unusedVariables false

set_option maxHeartbeats 2000000 in
theorem holds8 (f : Nat) (w : World) (hf : f < 4294967296) : Calls Try.prog 34 #[.int .i64 8, .int .u32 f] w fun e w' => e = .returned (.bool (holdsF 8 f)) ∧ Below w.heap.size w w' := by
  have hf0 : (0 : Int) ≤ f := by omega
  have hf1 : (f : Int) < 4294967296 := by omega
  obtain ⟨z, hz⟩ : ∃ z, ((f : Int) % 2 == 1) = z := ⟨_, rfl⟩
  obtain ⟨n, hn⟩ : ∃ z, ((f : Int) / 2 % 2 == 1) = z := ⟨_, rfl⟩
  obtain ⟨y, hy⟩ : ∃ z, ((f : Int) / 4 % 2 == 1) = z := ⟨_, rfl⟩
  obtain ⟨v, hv⟩ : ∃ z, ((f : Int) / 8 % 2 == 1) = z := ⟨_, rfl⟩
  have HE : Hid (holdsF 8 f = holdsZ 8 z n y v) := show _ = _ by unfold holdsF; rw [hz, hn, hy, hv]
  rw [HE.out]
  clear HE
  cases z <;> cases y
  all_goals
    go_enter Try.func34, Try.ntmps34
    go_wp2
    go_ret
    exact ⟨by cases n <;> cases v <;> rfl, (Below.refl _ _).alloc (Nat.le_refl _) _⟩

set_option maxHeartbeats 2000000 in
theorem holds9 (f : Nat) (w : World) (hf : f < 4294967296) : Calls Try.prog 34 #[.int .i64 9, .int .u32 f] w fun e w' => e = .returned (.bool (holdsF 9 f)) ∧ Below w.heap.size w w' := by
  have hf0 : (0 : Int) ≤ f := by omega
  have hf1 : (f : Int) < 4294967296 := by omega
  obtain ⟨z, hz⟩ : ∃ z, ((f : Int) % 2 == 1) = z := ⟨_, rfl⟩
  obtain ⟨n, hn⟩ : ∃ z, ((f : Int) / 2 % 2 == 1) = z := ⟨_, rfl⟩
  obtain ⟨y, hy⟩ : ∃ z, ((f : Int) / 4 % 2 == 1) = z := ⟨_, rfl⟩
  obtain ⟨v, hv⟩ : ∃ z, ((f : Int) / 8 % 2 == 1) = z := ⟨_, rfl⟩
  have HE : Hid (holdsF 9 f = holdsZ 9 z n y v) := show _ = _ by unfold holdsF; rw [hz, hn, hy, hv]
  rw [HE.out]
  clear HE
  cases z <;> cases y
  all_goals
    go_enter Try.func34, Try.ntmps34
    go_wp2
    go_ret
    exact ⟨by cases n <;> cases v <;> rfl, (Below.refl _ _).alloc (Nat.le_refl _) _⟩

set_option maxHeartbeats 2000000 in
theorem holds10 (f : Nat) (w : World) (hf : f < 4294967296) : Calls Try.prog 34 #[.int .i64 10, .int .u32 f] w fun e w' => e = .returned (.bool (holdsF 10 f)) ∧ Below w.heap.size w w' := by
  have hf0 : (0 : Int) ≤ f := by omega
  have hf1 : (f : Int) < 4294967296 := by omega
  obtain ⟨z, hz⟩ : ∃ z, ((f : Int) % 2 == 1) = z := ⟨_, rfl⟩
  obtain ⟨n, hn⟩ : ∃ z, ((f : Int) / 2 % 2 == 1) = z := ⟨_, rfl⟩
  obtain ⟨y, hy⟩ : ∃ z, ((f : Int) / 4 % 2 == 1) = z := ⟨_, rfl⟩
  obtain ⟨v, hv⟩ : ∃ z, ((f : Int) / 8 % 2 == 1) = z := ⟨_, rfl⟩
  have HE : Hid (holdsF 10 f = holdsZ 10 z n y v) := show _ = _ by unfold holdsF; rw [hz, hn, hy, hv]
  rw [HE.out]
  clear HE
  cases z <;> cases y
  all_goals
    go_enter Try.func34, Try.ntmps34
    go_wp2
    go_ret
    exact ⟨by cases n <;> cases v <;> rfl, (Below.refl _ _).alloc (Nat.le_refl _) _⟩

set_option maxHeartbeats 2000000 in
theorem holds11 (f : Nat) (w : World) (hf : f < 4294967296) : Calls Try.prog 34 #[.int .i64 11, .int .u32 f] w fun e w' => e = .returned (.bool (holdsF 11 f)) ∧ Below w.heap.size w w' := by
  have hf0 : (0 : Int) ≤ f := by omega
  have hf1 : (f : Int) < 4294967296 := by omega
  obtain ⟨z, hz⟩ : ∃ z, ((f : Int) % 2 == 1) = z := ⟨_, rfl⟩
  obtain ⟨n, hn⟩ : ∃ z, ((f : Int) / 2 % 2 == 1) = z := ⟨_, rfl⟩
  obtain ⟨y, hy⟩ : ∃ z, ((f : Int) / 4 % 2 == 1) = z := ⟨_, rfl⟩
  obtain ⟨v, hv⟩ : ∃ z, ((f : Int) / 8 % 2 == 1) = z := ⟨_, rfl⟩
  have HE : Hid (holdsF 11 f = holdsZ 11 z n y v) := show _ = _ by unfold holdsF; rw [hz, hn, hy, hv]
  rw [HE.out]
  clear HE
  cases z <;> cases y
  all_goals
    go_enter Try.func34, Try.ntmps34
    go_wp2
    go_ret
    exact ⟨by cases n <;> cases v <;> rfl, (Below.refl _ _).alloc (Nat.le_refl _) _⟩
end Go.Proofs.Ytkgbjpdoigdjnaa.Fl

namespace Go.Proofs.Ytkgbjpdoigdjnaa.Fl
open Go.RowKit
set_option maxRecDepth 100000
set_option linter.unusedVariables false

set_option maxHeartbeats 2000000 in
theorem holds12 (f : Nat) (w : World) (hf : f < 4294967296) : Calls Try.prog 34 #[.int .i64 12, .int .u32 f] w fun e w' => e = .returned (.bool (holdsF 12 f)) ∧ Below w.heap.size w w' := by
  have hf0 : (0 : Int) ≤ f := by omega
  have hf1 : (f : Int) < 4294967296 := by omega
  obtain ⟨z, hz⟩ : ∃ z, ((f : Int) % 2 == 1) = z := ⟨_, rfl⟩
  obtain ⟨n, hn⟩ : ∃ z, ((f : Int) / 2 % 2 == 1) = z := ⟨_, rfl⟩
  obtain ⟨y, hy⟩ : ∃ z, ((f : Int) / 4 % 2 == 1) = z := ⟨_, rfl⟩
  obtain ⟨v, hv⟩ : ∃ z, ((f : Int) / 8 % 2 == 1) = z := ⟨_, rfl⟩
  have HE : Hid (holdsF 12 f = holdsZ 12 z n y v) := show _ = _ by unfold holdsF; rw [hz, hn, hy, hv]
  rw [HE.out]
  clear HE
  cases z <;> cases y
  all_goals
    go_enter Try.func34, Try.ntmps34
    go_wp2
    go_ret
    exact ⟨by cases n <;> cases v <;> rfl, (Below.refl _ _).alloc (Nat.le_refl _) _⟩

set_option maxHeartbeats 2000000 in
theorem holds13 (f : Nat) (w : World) (hf : f < 4294967296) : Calls Try.prog 34 #[.int .i64 13, .int .u32 f] w fun e w' => e = .returned (.bool (holdsF 13 f)) ∧ Below w.heap.size w w' := by
  have hf0 : (0 : Int) ≤ f := by omega
  have hf1 : (f : Int) < 4294967296 := by omega
  obtain ⟨z, hz⟩ : ∃ z, ((f : Int) % 2 == 1) = z := ⟨_, rfl⟩
  obtain ⟨n, hn⟩ : ∃ z, ((f : Int) / 2 % 2 == 1) = z := ⟨_, rfl⟩
  obtain ⟨y, hy⟩ : ∃ z, ((f : Int) / 4 % 2 == 1) = z := ⟨_, rfl⟩
  obtain ⟨v, hv⟩ : ∃ z, ((f : Int) / 8 % 2 == 1) = z := ⟨_, rfl⟩
  have HE : Hid (holdsF 13 f = holdsZ 13 z n y v) := show _ = _ by unfold holdsF; rw [hz, hn, hy, hv]
  rw [HE.out]
  clear HE
  cases z <;> cases y
  all_goals
    go_enter Try.func34, Try.ntmps34
    go_wp2
    go_ret
    exact ⟨by cases n <;> cases v <;> rfl, (Below.refl _ _).alloc (Nat.le_refl _) _⟩

set_option maxHeartbeats 2000000 in
theorem holds14 (f : Nat) (w : World) (hf : f < 4294967296) : Calls Try.prog 34 #[.int .i64 14, .int .u32 f] w fun e w' => e = .returned (.bool (holdsF 14 f)) ∧ Below w.heap.size w w' := by
  have hf0 : (0 : Int) ≤ f := by omega
  have hf1 : (f : Int) < 4294967296 := by omega
  obtain ⟨z, hz⟩ : ∃ z, ((f : Int) % 2 == 1) = z := ⟨_, rfl⟩
  obtain ⟨n, hn⟩ : ∃ z, ((f : Int) / 2 % 2 == 1) = z := ⟨_, rfl⟩
  obtain ⟨y, hy⟩ : ∃ z, ((f : Int) / 4 % 2 == 1) = z := ⟨_, rfl⟩
  obtain ⟨v, hv⟩ : ∃ z, ((f : Int) / 8 % 2 == 1) = z := ⟨_, rfl⟩
  have HE : Hid (holdsF 14 f = holdsZ 14 z n y v) := show _ = _ by unfold holdsF; rw [hz, hn, hy, hv]
  rw [HE.out]
  clear HE
  cases z <;> cases y
  all_goals
    go_enter Try.func34, Try.ntmps34
    go_wp2
    go_ret
    exact ⟨by cases n <;> cases v <;> rfl, (Below.refl _ _).alloc (Nat.le_refl _) _⟩

set_option maxHeartbeats 2000000 in
theorem holds15 (f : Nat) (w : World) (hf : f < 4294967296) : Calls Try.prog 34 #[.int .i64 15, .int .u32 f] w fun e w' => e = .returned (.bool (holdsF 15 f)) ∧ Below w.heap.size w w' := by
  have hf0 : (0 : Int) ≤ f := by omega
  have hf1 : (f : Int) < 4294967296 := by omega
  obtain ⟨z, hz⟩ : ∃ z, ((f : Int) % 2 == 1) = z := ⟨_, rfl⟩
  obtain ⟨n, hn⟩ : ∃ z, ((f : Int) / 2 % 2 == 1) = z := ⟨_, rfl⟩
  obtain ⟨y, hy⟩ : ∃ z, ((f : Int) / 4 % 2 == 1) = z := ⟨_, rfl⟩
  obtain ⟨v, hv⟩ : ∃ z, ((f : Int) / 8 % 2 == 1) = z := ⟨_, rfl⟩
  have HE : Hid (holdsF 15 f = holdsZ 15 z n y v) := show _ = _ by unfold holdsF; rw [hz, hn, hy, hv]
  rw [HE.out]
  clear HE
  cases z <;> cases y
  all_goals
    go_enter Try.func34, Try.ntmps34
    go_wp2
    go_ret
    exact ⟨by cases n <;> cases v <;> rfl, (Below.refl _ _).alloc (Nat.le_refl _) _⟩
end Go.Proofs.Ytkgbjpdoigdjnaa.Fl
