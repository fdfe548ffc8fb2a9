import Derived.Test.YtcdphcbjmpgjmaaFH
import Derived.Test.YtcdphcbjmpgjmaaID
namespace Go.Proofs.Ytcdphcbjmpgjmaa
open Go.RowKit
set_option maxRecDepth 100000
set_option linter.unusedVariables false
set_option linter.unusedSimpArgs false

/-! ## The table of Holds -/
def hoL : List Value := [.int .u32 8, .bool false, .bool false, .int .u32 4, .bool false, .bool false, .int .u32 1, .bool false, .bool false, .int .u32 5, .bool false, .bool false, .int .u32 2, .bool false, .bool false, .int .u32 0, .bool true, .bool false, .int .u32 1, .bool true, .bool false, .int .u32 0, .bool false, .bool true]
def hoC : Array Value := hoL.toArray
def hoZ : Array Value := #[.int .u32 0, .bool false, .bool false, .int .u32 0, .bool false, .bool false, .int .u32 0, .bool false, .bool false, .int .u32 0, .bool false, .bool false, .int .u32 0, .bool false, .bool false, .int .u32 0, .bool false, .bool false, .int .u32 0, .bool false, .bool false, .int .u32 0, .bool false, .bool false]
theorem ho_info : (Try.prog.info? 124).map (fun i => (i.zero, i.size)) = some (some (.agg hoZ), 24) := by kernel_rfl
theorem ho_low : ∀ f : Fin 16, ∀ S : Fin 16, ((f.val &&& S.val : Nat) != 0) = ((f.val % 2 == 1 && S.val % 2 == 1) || (f.val / 2 % 2 == 1 && S.val / 2 % 2 == 1) || (f.val / 4 % 2 == 1 && S.val / 4 % 2 == 1) || (f.val / 8 % 2 == 1 && S.val / 8 % 2 == 1)) := by decide +kernel
theorem ho_bits (f : Nat) (S : Nat) (hf : f < 4294967296) (hS : S < 16) : (bits .and .u32 (f : Int) (S : Int) != 0) = (((f : Int) % 2 == 1 && (S : Int) % 2 == 1) || ((f : Int) / 2 % 2 == 1 && (S : Int) / 2 % 2 == 1) || ((f : Int) / 4 % 2 == 1 && (S : Int) / 4 % 2 == 1) || ((f : Int) / 8 % 2 == 1 && (S : Int) / 8 % 2 == 1)) := by
  rw [Go.u32_and_nat _ _ hf (by omega)]
  have e : f &&& S = (f % 16) &&& S := by
    have h1 : S = 15 &&& S := by rw [Nat.and_comm]; exact (Go.nat_mask4 S ▸ (Nat.mod_eq_of_lt hS).symm)
    have h2 : f % 16 = f &&& 15 := (Go.nat_mask4 f).symm
    rw [h2, Nat.and_assoc, ← h1]
  have h := ho_low ⟨f % 16, by omega⟩ ⟨S, hS⟩
  simp only at h
  rw [e]
  have c : ∀ x : Nat, (((x : Nat) : Int) != 0) = (x != 0) := fun x => by rw [Bool.eq_iff_iff]; simp
  have g : ∀ x d : Nat, ((x : Int) / (d : Int) % 2 == 1) = (x / d % 2 == 1) := fun x d => by
    rw [Bool.eq_iff_iff]; simp only [beq_iff_eq]; rw [← Int.natCast_ediv]; omega
  have g1 : ∀ x : Nat, ((x : Int) % 2 == 1) = (x % 2 == 1) := fun x => by rw [Bool.eq_iff_iff]; simp only [beq_iff_eq]; omega
  rw [c, h]
  have e1 : f % 16 % 2 = f % 2 := by omega
  have e2 : f % 16 / 2 % 2 = f / 2 % 2 := by omega
  have e4 : f % 16 / 4 % 2 = f / 4 % 2 := by omega
  have e8 : f % 16 / 8 % 2 = f / 8 % 2 := by omega
  have k2 := g f 2
  have k4 := g f 4
  have k8 := g f 8
  have l2 := g S 2
  have l4 := g S 4
  have l8 := g S 8
  simp only [Int.cast_ofNat_Int] at k2 k4 k8 l2 l4 l8
  rw [e1, e2, e4, e8, k2, k4, k8, l2, l4, l8, g1, g1]
end Go.Proofs.Ytcdphcbjmpgjmaa
