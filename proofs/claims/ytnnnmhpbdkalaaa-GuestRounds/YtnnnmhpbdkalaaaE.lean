import Derived.Test.YtnnnmhpbdkalaaaD
namespace Go.Proofs.Ytnnnmhpbdkalaaa
open Go.RowKit

/-! ## crossgrainref1: find, Size -/
def formI (k j : Nat) : Int := match formV[k * 4 + j]? with | some (.int _ n) => n | _ => 0
def formS (k j : Nat) : ByteArray := match formV[k * 4 + j]? with | some (.string s) => s | _ => ByteArray.empty

theorem form_ok (k : Nat) (hk : k < 32) : formV[k * 4 + 0]? = some (.int .i64 (formI k 0)) ∧ formV[k * 4 + 1]? = some (.int .i64 (formI k 1)) ∧ formV[k * 4 + 2]? = some (.string (formS k 2)) ∧ formV[k * 4 + 3]? = some (.string (formS k 3)) := by
  match k, hk with
  | 0, _ => exact ⟨rfl, rfl, rfl, rfl⟩
  | 1, _ => exact ⟨rfl, rfl, rfl, rfl⟩
  | 2, _ => exact ⟨rfl, rfl, rfl, rfl⟩
  | 3, _ => exact ⟨rfl, rfl, rfl, rfl⟩
  | 4, _ => exact ⟨rfl, rfl, rfl, rfl⟩
  | 5, _ => exact ⟨rfl, rfl, rfl, rfl⟩
  | 6, _ => exact ⟨rfl, rfl, rfl, rfl⟩
  | 7, _ => exact ⟨rfl, rfl, rfl, rfl⟩
  | 8, _ => exact ⟨rfl, rfl, rfl, rfl⟩
  | 9, _ => exact ⟨rfl, rfl, rfl, rfl⟩
  | 10, _ => exact ⟨rfl, rfl, rfl, rfl⟩
  | 11, _ => exact ⟨rfl, rfl, rfl, rfl⟩
  | 12, _ => exact ⟨rfl, rfl, rfl, rfl⟩
  | 13, _ => exact ⟨rfl, rfl, rfl, rfl⟩
  | 14, _ => exact ⟨rfl, rfl, rfl, rfl⟩
  | 15, _ => exact ⟨rfl, rfl, rfl, rfl⟩
  | 16, _ => exact ⟨rfl, rfl, rfl, rfl⟩
  | 17, _ => exact ⟨rfl, rfl, rfl, rfl⟩
  | 18, _ => exact ⟨rfl, rfl, rfl, rfl⟩
  | 19, _ => exact ⟨rfl, rfl, rfl, rfl⟩
  | 20, _ => exact ⟨rfl, rfl, rfl, rfl⟩
  | 21, _ => exact ⟨rfl, rfl, rfl, rfl⟩
  | 22, _ => exact ⟨rfl, rfl, rfl, rfl⟩
  | 23, _ => exact ⟨rfl, rfl, rfl, rfl⟩
  | 24, _ => exact ⟨rfl, rfl, rfl, rfl⟩
  | 25, _ => exact ⟨rfl, rfl, rfl, rfl⟩
  | 26, _ => exact ⟨rfl, rfl, rfl, rfl⟩
  | 27, _ => exact ⟨rfl, rfl, rfl, rfl⟩
  | 28, _ => exact ⟨rfl, rfl, rfl, rfl⟩
  | 29, _ => exact ⟨rfl, rfl, rfl, rfl⟩
  | 30, _ => exact ⟨rfl, rfl, rfl, rfl⟩
  | 31, _ => exact ⟨rfl, rfl, rfl, rfl⟩
  | n + 32, h => omega
theorem form_bd : ∀ k : Fin 32, 0 ≤ formI k.val 0 ∧ formI k.val 0 ≤ 255 ∧ 0 ≤ formI k.val 1 ∧ formI k.val 1 ≤ 16 := by decide +kernel

theorem form_at (k j : Nat) (v : Value) (h : formV[k * 4 + j]? = some v) : formCells[k * 4 + j]? = some v := by
  simp only [formCells, List.getElem?_toArray]; exact h

def fitF (x : Int) (k : Nat) : Bool := decide (formI k 0 ≤ x ∧ x < formI k 0 + formI k 1)
def hitF (x : Int) : Option Nat := hit (fitF x)
def opF (x : Int) : Int := match hitF x with | some k => k | none => -1

set_option maxRecDepth 100000 in
set_option maxHeartbeats 1000000 in
theorem refind_any (x : Int) (w : World) (h0 : 0 ≤ x) (h1 : x ≤ 255) :
    Calls Try.prog 19 #[.int .i64 x] w fun e w' => e = .returned (.int .i64 (opF x)) ∧ Below w.heap.size w w' := by
  go_enter Try.func19, Try.ntmps19
  go_wp2_with (go_at_call 20; refine (forms_any _).mono ?_; rintro e w1 ⟨rfl, rfl⟩)
  go_loopw [7] (fun i wr => ∃ k : Nat, k ≤ 32 ∧ i = .int .i64 k ∧ (∀ j, j < k → fitF x j = false) ∧ Below (w.heap.size + 1) (w.alloc (.cells formCells 46)) wr) (fun i _ => 32 - (intOf i).toNat)
  case atStart => exact ⟨0, by omega, rfl, fun j hj => by omega, Below.refl _ _⟩
  case round =>
    obtain ⟨k, hk, rfl, hno, hbel⟩ := hrel
    have hbw : Below w.heap.size w wr := ((Below.refl _ _).alloc (Nat.le_refl _) _).trans (hbel.mono (by omega))
    have hsz : w.heap.size < wr.heap.size := by have := hbel.size; simp at this; omega
    by_cases hlt : k < 32
    · have hrow : ∀ j v, formV[k * 4 + j]? = some v → wr.cell? ⟨w.heap.size, k * 4 + j, none⟩ = some v := fun j v hv => by
        rw [info_cells hbel rfl]; exact form_at k j v hv
      obtain ⟨e0, e1, e2, e3⟩ := form_ok k hlt
      have c0 := hrow 0 _ e0
      have c1 := hrow 1 _ e1
      have c2 := hrow 2 _ e2
      have c3 := hrow 3 _ e3
      have hbd := form_bd ⟨k, hlt⟩
      simp only [Nat.add_zero] at c0
      simp only at hbd
      obtain ⟨b0, b1, b2, b3⟩ := hbd
      clear hrow e0 e1 e2 e3
      by_cases hge : formI k 0 ≤ x
      · by_cases hl2 : x < formI k 0 + formI k 1
        · have hyes : fitF x k = true := by simp [fitF, hge, hl2]
          go_wp2
          go_ret
          exact ⟨by simp only [opF, hitF, hit_some hlt hyes hno]; rfl, hbw.alloc (by omega) _⟩
        · have hnot : fitF x k = false := by simp [fitF]; omega
          go_wp2
          go_roundw
          case rel => exact ⟨k + 1, by omega, by go_num, fun j hj => by rcases Nat.lt_succ_iff_lt_or_eq.1 hj with h | h; exact hno j h; rw [h]; exact hnot, hbel.alloc (by omega) _⟩
          case measure => simp [intOf]; omega
      · have hnot : fitF x k = false := by simp [fitF]; omega
        go_wp2
        go_roundw
        case rel => exact ⟨k + 1, by omega, by go_num, fun j hj => by rcases Nat.lt_succ_iff_lt_or_eq.1 hj with h | h; exact hno j h; rw [h]; exact hnot, hbel.alloc (by omega) _⟩
        case measure => simp [intOf]; omega
    · go_wp2
      go_ret
      exact ⟨by simp only [opF, hitF, hit_none (fun j hj => hno j (by omega))]; rfl, hbw⟩

end Go.Proofs.Ytnnnmhpbdkalaaa
