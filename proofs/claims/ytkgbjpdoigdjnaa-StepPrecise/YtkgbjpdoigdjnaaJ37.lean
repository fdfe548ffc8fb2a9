import Derived.Test.YtkgbjpdoigdjnaaJ35
import Derived.Test.YtkgbjpdoigdjnaaJ36
import Derived.Test.YtkgbjpdoigdjnaaJ32
import Derived.Test.YtkgbjpdoigdjnaaJ07
import Derived.Test.YtkgbjpdoigdjnaaJ33
import Derived.Test.YtkgbjpdoigdjnaaJ34
namespace Go.Proofs.Ytkgbjpdoigdjnaa
open Go.RowKit
set_option maxRecDepth 100000
set_option linter.unusedVariables false
set_option linter.unusedSimpArgs false

theorem preck_any (o : Int) (a b f : Nat) (w : World) (ha : a < 4294967296) (hb : b < 4294967296) (hf : f < 4294967296) :
    Calls Try.prog 29 #[.int .i64 o, .int .u32 a, .int .u32 b, .int .u32 f] w fun e w' => e = .returned (.tuple #[.int .u32 (Fl.recX o a b f), .int .u32 (Fl.recFl o a b f), .bool (Fl.recOk o b)]) ∧ Below w.heap.size w w' := by
  by_cases hlo : o < 0
  · have e1 : Fl.recX o a b f = 0 := by unfold Fl.recX; repeat rw [if_neg (by omega)]
    have e2 : Fl.recFl o a b f = 0 := by unfold Fl.recFl; repeat rw [if_neg (by omega)]
    have e3 : Fl.recOk o b = false := decide_eq_false (by omega)
    rw [e1, e2, e3]; exact rk_lo o a b f w hlo
  by_cases hhi : 15 < o
  · have e1 : Fl.recX o a b f = 0 := by unfold Fl.recX; repeat rw [if_neg (by omega)]
    have e2 : Fl.recFl o a b f = 0 := by unfold Fl.recFl; repeat rw [if_neg (by omega)]
    have e3 : Fl.recOk o b = false := decide_eq_false (by omega)
    rw [e1, e2, e3]; exact rk_hi o a b f w hhi
  have hc : o = 0 ∨ o = 1 ∨ o = 2 ∨ o = 3 ∨ o = 4 ∨ o = 5 ∨ o = 6 ∨ o = 7 ∨ o = 8 ∨ o = 9 ∨ o = 10 ∨ o = 11 ∨ o = 12 ∨ o = 13 ∨ o = 14 ∨ o = 15 := by omega
  rcases hc with rfl | rfl | rfl | rfl | rfl | rfl | rfl | rfl | rfl | rfl | rfl | rfl | rfl | rfl | rfl | rfl
  · have e1 : Fl.recX 0 a b f = wkX 1 a b f := by simp [Fl.recX, wkX]
    have e2 : Fl.recFl 0 a b f = Fl.flagsF 1 a b f := by simp [Fl.recFl, Fl.flagsF]
    have e3 : Fl.recOk 0 b = true := by simp [Fl.recOk]
    rw [e1, e2, e3]
    cases hz : ((b : Int) == 0)
    · exact rk0n a b f w ha hb hf hz
    · exact rk0z a b f w ha hb hf hz
  · have e1 : Fl.recX 1 a b f = wkX 2 a b f := by simp [Fl.recX, wkX]
    have e2 : Fl.recFl 1 a b f = Fl.flagsF 2 a b f := by simp [Fl.recFl, Fl.flagsF]
    have e3 : Fl.recOk 1 b = true := by simp [Fl.recOk]
    rw [e1, e2, e3]
    cases hz : ((b : Int) == 0)
    · exact rk1n a b f w ha hb hf hz
    · exact rk1z a b f w ha hb hf hz
  · have e1 : Fl.recX 2 a b f = wkX 3 a b f := by simp [Fl.recX, wkX]
    have e2 : Fl.recFl 2 a b f = Fl.flagsF 3 a b f := by simp [Fl.recFl, Fl.flagsF]
    have e3 : Fl.recOk 2 b = true := by simp [Fl.recOk]
    rw [e1, e2, e3]
    cases hz : ((b : Int) == 0)
    · exact rk2n a b f w ha hb hf hz
    · exact rk2z a b f w ha hb hf hz
  · have e1 : Fl.recX 3 a b f = wkX 4 a b f := by simp [Fl.recX, wkX]
    have e2 : Fl.recFl 3 a b f = Fl.flagsF 4 a b f := by simp [Fl.recFl, Fl.flagsF]
    have e3 : Fl.recOk 3 b = true := by simp [Fl.recOk]
    rw [e1, e2, e3]
    cases hz : ((b : Int) == 0)
    · exact rk3n a b f w ha hb hf hz
    · exact rk3z a b f w ha hb hf hz
  · have e1 : Fl.recX 4 a b f = wkX 5 (Fl.bitN 4 a b) b f := by simp [Fl.recX, wkX]
    have e2 : Fl.recFl 4 a b f = Fl.flagsF 5 (Fl.bitN 4 a b) b f := by simp [Fl.recFl, Fl.flagsF]
    have e3 : Fl.recOk 4 b = true := by simp [Fl.recOk]
    rw [e1, e2, e3]
    cases hz : ((b : Int) == 0)
    · exact rk4n a b f _ w rfl (Fl.bitN_lt 4 a b ha hb) ha hb hf hz
    · exact rk4z a b f _ w rfl (Fl.bitN_lt 4 a b ha hb) ha hb hf hz
  · have e1 : Fl.recX 5 a b f = wkX 5 (Fl.bitN 5 a b) b f := by simp [Fl.recX, wkX]
    have e2 : Fl.recFl 5 a b f = Fl.flagsF 5 (Fl.bitN 5 a b) b f := by simp [Fl.recFl, Fl.flagsF]
    have e3 : Fl.recOk 5 b = true := by simp [Fl.recOk]
    rw [e1, e2, e3]
    cases hz : ((b : Int) == 0)
    · exact rk5n a b f _ w rfl (Fl.bitN_lt 5 a b ha hb) ha hb hf hz
    · exact rk5z a b f _ w rfl (Fl.bitN_lt 5 a b ha hb) ha hb hf hz
  · have e1 : Fl.recX 6 a b f = wkX 5 (Fl.bitN 6 a b) b f := by simp [Fl.recX, wkX]
    have e2 : Fl.recFl 6 a b f = Fl.flagsF 5 (Fl.bitN 6 a b) b f := by simp [Fl.recFl, Fl.flagsF]
    have e3 : Fl.recOk 6 b = true := by simp [Fl.recOk]
    rw [e1, e2, e3]
    cases hz : ((b : Int) == 0)
    · exact rk6n a b f _ w rfl (Fl.bitN_lt 6 a b ha hb) ha hb hf hz
    · exact rk6z a b f _ w rfl (Fl.bitN_lt 6 a b ha hb) ha hb hf hz
  · have e1 : Fl.recX 7 a b f = (a : Int) := by simp [Fl.recX, wkX]
    have e2 : Fl.recFl 7 a b f = Fl.flagsF 3 a b f := by simp [Fl.recFl, Fl.flagsF]
    have e3 : Fl.recOk 7 b = true := by simp [Fl.recOk]
    rw [e1, e2, e3]
    cases hz : ((b : Int) == 0)
    · exact rk7n a b f w ha hb hf hz
    · exact rk7z a b f w ha hb hf hz
  · have e1 : Fl.recX 8 a b f = (a : Int) := by simp [Fl.recX, wkX]
    have e2 : Fl.recFl 8 a b f = Fl.flagsF 5 (Fl.bitN 4 a b) b f := by simp [Fl.recFl, Fl.flagsF]
    have e3 : Fl.recOk 8 b = true := by simp [Fl.recOk]
    rw [e1, e2, e3]
    cases hz : ((b : Int) == 0)
    · exact rk8n a b f _ w rfl (Fl.bitN_lt 4 a b ha hb) ha hb hf hz
    · exact rk8z a b f _ w rfl (Fl.bitN_lt 4 a b ha hb) ha hb hf hz
  · have e1 : Fl.recX 9 a b f = wkX 6 a b f := by simp [Fl.recX, wkX]
    have e2 : Fl.recFl 9 a b f = Fl.flagsF 6 a b f := by simp [Fl.recFl, Fl.flagsF]
    have e3 : Fl.recOk 9 b = true := by simp [Fl.recOk]
    rw [e1, e2, e3]
    cases hz : ((b : Int) == 0)
    · exact rk9n a b f w ha hb hf hz
    · exact rk9z a b f w ha hb hf hz
  · have e1 : Fl.recX 10 a b f = wkX 7 a b f := by simp [Fl.recX, wkX]
    have e2 : Fl.recFl 10 a b f = Fl.flagsF 7 a b f := by simp [Fl.recFl, Fl.flagsF]
    have e3 : Fl.recOk 10 b = true := by simp [Fl.recOk]
    rw [e1, e2, e3]
    cases hz : ((b : Int) == 0)
    · exact rk10n a b f w ha hb hf hz
    · exact rk10z a b f w ha hb hf hz
  · have e1 : Fl.recX 11 a b f = wkX 8 a b f := by simp [Fl.recX, wkX]
    have e2 : Fl.recFl 11 a b f = Fl.flagsF 8 a b f := by simp [Fl.recFl, Fl.flagsF]
    have e3 : Fl.recOk 11 b = true := by simp [Fl.recOk]
    rw [e1, e2, e3]
    cases hz : ((b : Int) == 0)
    · exact rk11n a b f w ha hb hf hz
    · exact rk11z a b f w ha hb hf hz
  · have e1 : Fl.recX 12 a b f = wkX 9 a b f := by simp [Fl.recX, wkX]
    have e2 : Fl.recFl 12 a b f = Fl.flagsF 9 a b f := by simp [Fl.recFl, Fl.flagsF]
    have e3 : Fl.recOk 12 b = true := by simp [Fl.recOk]
    rw [e1, e2, e3]
    cases hz : ((b : Int) == 0)
    · exact rk12n a b f w ha hb hf hz
    · exact rk12z a b f w ha hb hf hz
  · have e1 : Fl.recX 13 a b f = wkX 10 a b f := by simp [Fl.recX, wkX]
    have e2 : Fl.recFl 13 a b f = Fl.flagsF 10 a b f := by simp [Fl.recFl, Fl.flagsF]
    have e3 : Fl.recOk 13 b = true := by simp [Fl.recOk]
    rw [e1, e2, e3]
    cases hz : ((b : Int) == 0)
    · exact rk13n a b f w ha hb hf hz
    · exact rk13z a b f w ha hb hf hz
  · by_cases hz : b = 0
    · subst hz
      have e1 : Fl.recX 14 a 0 f = 0 := by simp [Fl.recX]
      have e2 : Fl.recFl 14 a 0 f = 0 := by simp [Fl.recFl]
      have e3 : Fl.recOk 14 0 = false := by simp [Fl.recOk]
      rw [e1, e2, e3]; exact rk14z a f w
    · have h0 : 0 < b := by omega
      have e1 : Fl.recX 14 a b f = wkX 5 (a / b) b f := by simp [Fl.recX, wkX, h0]
      have e2 : Fl.recFl 14 a b f = Fl.flagsF 5 (a / b) b f := by simp [Fl.recFl, Fl.flagsF, h0]
      have e3 : Fl.recOk 14 b = true := by simp [Fl.recOk, h0]
      rw [e1, e2, e3]; exact rk14n a b f _ w rfl h0 (Nat.lt_of_le_of_lt (Nat.div_le_self _ _) ha) ha hb hf (by simp; omega)
  · by_cases hz : b = 0
    · subst hz
      have e1 : Fl.recX 15 a 0 f = 0 := by simp [Fl.recX]
      have e2 : Fl.recFl 15 a 0 f = 0 := by simp [Fl.recFl]
      have e3 : Fl.recOk 15 0 = false := by simp [Fl.recOk]
      rw [e1, e2, e3]; exact rk15z a f w
    · have h0 : 0 < b := by omega
      have e1 : Fl.recX 15 a b f = wkX 5 (a % b) b f := by simp [Fl.recX, wkX, h0]
      have e2 : Fl.recFl 15 a b f = Fl.flagsF 5 (a % b) b f := by simp [Fl.recFl, Fl.flagsF, h0]
      have e3 : Fl.recOk 15 b = true := by simp [Fl.recOk, h0]
      rw [e1, e2, e3]; exact rk15n a b f _ w rfl h0 (Nat.lt_of_le_of_lt (Nat.mod_le _ _) ha) ha hb hf (by simp; omega)
end Go.Proofs.Ytkgbjpdoigdjnaa

namespace Go.Proofs.Ytkgbjpdoigdjnaa
open Go.RowKit
set_option maxRecDepth 100000
set_option linter.unusedVariables false
set_option linter.unusedSimpArgs false
theorem pholds_any (c : Int) (f : Nat) (w : World) (hf : f < 4294967296) (hc64 : c ≤ 9223372036854775807) : Calls Try.prog 33 #[.int .i64 c, .int .u32 f] w fun e w' => e = .returned (.bool (Fl.holdsF c f)) ∧ Below w.heap.size w w' := by
  by_cases hlo : c < 0
  · rw [show Fl.holdsF c f = false from by unfold Fl.holdsF Fl.holdsZ; rw [if_pos (Or.inl hlo)]]; exact ho_lo c f w hlo
  by_cases hhi : 15 < c
  · rw [show Fl.holdsF c f = false from by unfold Fl.holdsF Fl.holdsZ; rw [if_pos (Or.inr hhi)]]; exact ho_hi c f w ⟨hhi, hc64⟩
  have hc : c = 0 ∨ c = 1 ∨ c = 2 ∨ c = 3 ∨ c = 4 ∨ c = 5 ∨ c = 6 ∨ c = 7 ∨ c = 8 ∨ c = 9 ∨ c = 10 ∨ c = 11 ∨ c = 12 ∨ c = 13 ∨ c = 14 ∨ c = 15 := by omega
  rcases hc with rfl | rfl | rfl | rfl | rfl | rfl | rfl | rfl | rfl | rfl | rfl | rfl | rfl | rfl | rfl | rfl
  · exact ph0 f w hf
  · exact ph1 f w hf
  · exact ph2 f w hf
  · exact ph3 f w hf
  · exact ph4 f w hf
  · exact ph5 f w hf
  · exact ph6 f w hf
  · exact ph7 f w hf
  · exact ph8 f w hf
  · exact ph9 f w hf
  · exact ph10 f w hf
  · exact ph11 f w hf
  · exact ph12 f w hf
  · exact ph13 f w hf
  · exact ph14 f w hf
  · exact ph15 f w hf
end Go.Proofs.Ytkgbjpdoigdjnaa
