import Derived.Test.YtnojlbahmlmknabHI
import Derived.Test.YtnojlbahmlmknabHN1
import Derived.Test.YtnojlbahmlmknabHN2
import Derived.Test.YtnojlbahmlmknabHN3
namespace Go.Proofs.Ytnojlbahmlmknab
open Go.RowKit
set_option maxRecDepth 100000
set_option linter.unusedVariables false
set_option linter.unusedSimpArgs false
/-- An instruction's words, as so many as it has. -/
def wsE (n w0 k y : Nat) : List Nat := ([w0, k, y] : List Nat).take n
def wsF (l : List Nat) : Nat → Nat := fun i => l.getD i 0
theorem wsE_len {h : Int} {w0 k y : Nat} : (wsE (szN h) w0 k y).length = szN h := by
  rcases szN_cases h with e | e | e <;> rw [e] <;> rfl
theorem szN_le3 (h : Int) : szN h ≤ 3 := by rcases szN_cases h with e | e | e <;> rw [e] <;> decide
theorem cd_ext (a b : Cd) (h1 : a.op = b.op) (h2 : a.d = b.d) (h3 : a.a = b.a) (h4 : a.b = b.b) (h5 : a.c = b.c) (h6 : a.n = b.n) (h7 : (a.k : Int) = b.k) (h8 : (a.x : Int) = b.x) : a = b := by
  cases a; cases b; simp only at h1 h2 h3 h4 h5 h6 h7 h8
  have h7' := Int.ofNat.inj h7
  have h8' := Int.ofNat.inj h8
  subst h1 h2 h3 h4 h5 h6 h7' h8'; rfl
/-- What is written. -/
def encP (x : Cd) : Int × List Nat :=
  match hit x.op with
  | none => (2, [])
  | some k => if (decP (wsF (wsE (szN (foOf k).has) (ly5 (foOf k).has x) x.k x.x)) (szN (foOf k).has) 0).e = 0 ∧ (decP (wsF (wsE (szN (foOf k).has) (ly5 (foOf k).has x) x.k x.x)) (szN (foOf k).has) 0).x = x then (0, wsE (szN (foOf k).has) (ly5 (foOf k).has x) x.k x.x) else (3, [])
theorem encP_yes {x : Cd} {k : Nat} (hk : hit x.op = some k) (h0 : (decP (wsF (wsE (szN (foOf k).has) (ly5 (foOf k).has x) x.k x.x)) (szN (foOf k).has) 0).e = 0) (hx : (decP (wsF (wsE (szN (foOf k).has) (ly5 (foOf k).has x) x.k x.x)) (szN (foOf k).has) 0).x = x) : encP x = (0, wsE (szN (foOf k).has) (ly5 (foOf k).has x) x.k x.x) := by
  unfold encP; rw [hk]; exact if_pos ⟨h0, hx⟩
theorem encP_no {x : Cd} {k : Nat} (hk : hit x.op = some k) (h : ¬ ((decP (wsF (wsE (szN (foOf k).has) (ly5 (foOf k).has x) x.k x.x)) (szN (foOf k).has) 0).e = 0 ∧ (decP (wsF (wsE (szN (foOf k).has) (ly5 (foOf k).has x) x.k x.x)) (szN (foOf k).has) 0).x = x)) : encP x = (3, []) := by
  unfold encP; rw [hk]; exact if_neg h
/-- A list of words that lies in new memory; or none. -/
def Lies (w0 w : World) (sv : Value) (l : List Nat) : Prop :=
  (l = [] ∧ sv = .slice none 0 0) ∨ ∃ b cap, sv = .slice (some ⟨b, 0, none⟩) l.length cap ∧ w0.heap.size ≤ b ∧ l.length ≤ cap ∧ l.length ≤ 3 ∧ WR w b 0 l.length (wsF l)
theorem szN_le (h : Int) : szN h ≤ 140737488355328 := by rcases szN_cases h with e | e | e <;> rw [e] <;> decide
theorem lay_any (f : Fo) (x : Cd) (w : World) (hk : x.k < 4294967296) (hy : x.x < 4294967296) :
    Calls Try.prog 60 #[.agg (foA f), cdV x] w fun e w' => ∃ b, e = .returned (.slice (some ⟨b, 0, none⟩) (szN f.has) (szN f.has)) ∧ w.heap.size ≤ b ∧ WR w' b 0 (szN f.has) (wsF (wsE (szN f.has) (ly5 f.has x) x.k x.x)) ∧ Below w.heap.size w w' := by
  rcases szN_cases f.has with h | h | h
  · refine (lay1_any f x w h).mono ?_
    rintro e w' ⟨rfl, hb, hbel⟩
    rw [h]
    refine ⟨_, rfl, by omega, ⟨fun i hi => ?_, fun i => ?_, row_lt hb⟩, hbel⟩
    · rw [row_cell hb, Nat.zero_add]
      rcases (by omega : i = 0) with rfl <;> rfl
    · have h5 := ly5_lt f.has x
      rcases i with _ | _ | _ | i <;> simp [wsF, wsE] <;> omega
  · refine (lay2_any f x w h).mono ?_
    rintro e w' ⟨rfl, hb, hbel⟩
    rw [h]
    refine ⟨_, rfl, by omega, ⟨fun i hi => ?_, fun i => ?_, row_lt hb⟩, hbel⟩
    · rw [row_cell hb, Nat.zero_add]
      rcases (by omega : i = 0 ∨ i = 1) with rfl | rfl <;> rfl
    · have h5 := ly5_lt f.has x
      rcases i with _ | _ | _ | i <;> simp [wsF, wsE] <;> omega
  · refine (lay3_any f x w h).mono ?_
    rintro e w' ⟨rfl, hb, hbel⟩
    rw [h]
    refine ⟨_, rfl, by omega, ⟨fun i hi => ?_, fun i => ?_, row_lt hb⟩, hbel⟩
    · rw [row_cell hb, Nat.zero_add]
      rcases (by omega : i = 0 ∨ i = 1 ∨ i = 2) with rfl | rfl | rfl <;> rfl
    · have h5 := ly5_lt f.has x
      rcases i with _ | _ | _ | i <;> simp [wsF, wsE] <;> omega
end Go.Proofs.Ytnojlbahmlmknab
