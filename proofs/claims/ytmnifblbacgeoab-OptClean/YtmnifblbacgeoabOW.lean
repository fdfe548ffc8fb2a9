import Derived.Test.YtmnifblbacgeoabOT
namespace Go.Proofs.Ytmnifblbacgeoab
open Go.RowKit
open Go.Maps
set_option maxRecDepth 100000
set_option linter.unusedVariables false
set_option linter.unusedSimpArgs false

/-! ## the law's own functions -/

theorem tks_1 (w0 a b c kk nn : Nat) (w : World) : Calls Try.prog 65 #[.agg #[.int .i64 1, .int .i64 w0, .int .i64 a, .int .i64 b, .int .i64 c, .int .u32 kk, .int .i64 nn]] w fun e w' => ∃ p cp, e = .returned (.slice p 0 cp) ∧ (0 < 0 → ∃ H, p = some ⟨H, 0, none⟩ ∧ w.heap.size ≤ H ∧ w'.heap[H]? = some (.cells #[] 3)) ∧ Below w.heap.size w w' := by
  go_enter Try.func65, Try.ntmps65
  go_wp2
  go_ret
  exact ⟨none, 0, rfl, fun h => absurd h (Nat.not_lt_zero _), by (repeat first | with_reducible exact Below.refl _ _ | with_reducible exact Below.refl _ _ | with_reducible refine Below.drew ?_ | with_reducible refine below_drewN ?_ _ | with_reducible refine Below.alloc ?_ (by first | (simp; done) | (simp; omega) | omega) _ | with_reducible refine Below.setCell ?_ (by first | (simp; done) | (simp; omega) | omega) _)⟩

theorem tks_2 (w0 a b c kk nn : Nat) (w : World) : Calls Try.prog 65 #[.agg #[.int .i64 2, .int .i64 w0, .int .i64 a, .int .i64 b, .int .i64 c, .int .u32 kk, .int .i64 nn]] w fun e w' => ∃ p cp, e = .returned (.slice p 0 cp) ∧ (0 < 0 → ∃ H, p = some ⟨H, 0, none⟩ ∧ w.heap.size ≤ H ∧ w'.heap[H]? = some (.cells #[] 3)) ∧ Below w.heap.size w w' := by
  go_enter Try.func65, Try.ntmps65
  go_wp2
  go_ret
  exact ⟨none, 0, rfl, fun h => absurd h (Nat.not_lt_zero _), by (repeat first | with_reducible exact Below.refl _ _ | with_reducible exact Below.refl _ _ | with_reducible refine Below.drew ?_ | with_reducible refine below_drewN ?_ _ | with_reducible refine Below.alloc ?_ (by first | (simp; done) | (simp; omega) | omega) _ | with_reducible refine Below.setCell ?_ (by first | (simp; done) | (simp; omega) | omega) _)⟩

theorem tks_3 (w0 a b c kk nn : Nat) (w : World) : Calls Try.prog 65 #[.agg #[.int .i64 3, .int .i64 w0, .int .i64 a, .int .i64 b, .int .i64 c, .int .u32 kk, .int .i64 nn]] w fun e w' => ∃ p cp, e = .returned (.slice p 1 cp) ∧ (0 < 1 → ∃ H, p = some ⟨H, 0, none⟩ ∧ w.heap.size ≤ H ∧ w'.heap[H]? = some (.cells #[.int .i64 a] 3)) ∧ Below w.heap.size w w' := by
  go_enter Try.func65, Try.ntmps65
  go_wp2
  go_ret
  exact ⟨some ⟨w.heap.size + 1, 0, none⟩, 1, rfl, fun _ => ⟨w.heap.size + 1, rfl, Nat.le_succ _, (al2 w _ _).2⟩, by (repeat first | with_reducible exact Below.refl _ _ | with_reducible exact Below.refl _ _ | with_reducible refine Below.drew ?_ | with_reducible refine below_drewN ?_ _ | with_reducible refine Below.alloc ?_ (by first | (simp; done) | (simp; omega) | omega) _ | with_reducible refine Below.setCell ?_ (by first | (simp; done) | (simp; omega) | omega) _)⟩

theorem tks_4 (w0 a b c kk nn : Nat) (w : World) : Calls Try.prog 65 #[.agg #[.int .i64 4, .int .i64 w0, .int .i64 a, .int .i64 b, .int .i64 c, .int .u32 kk, .int .i64 nn]] w fun e w' => ∃ p cp, e = .returned (.slice p 2 cp) ∧ (0 < 2 → ∃ H, p = some ⟨H, 0, none⟩ ∧ w.heap.size ≤ H ∧ w'.heap[H]? = some (.cells #[.int .i64 a, .int .i64 b] 3)) ∧ Below w.heap.size w w' := by
  go_enter Try.func65, Try.ntmps65
  go_wp2
  go_ret
  exact ⟨some ⟨w.heap.size + 1, 0, none⟩, 2, rfl, fun _ => ⟨w.heap.size + 1, rfl, Nat.le_succ _, (al2 w _ _).2⟩, by (repeat first | with_reducible exact Below.refl _ _ | with_reducible exact Below.refl _ _ | with_reducible refine Below.drew ?_ | with_reducible refine below_drewN ?_ _ | with_reducible refine Below.alloc ?_ (by first | (simp; done) | (simp; omega) | omega) _ | with_reducible refine Below.setCell ?_ (by first | (simp; done) | (simp; omega) | omega) _)⟩

theorem tks_5 (w0 a b c kk nn : Nat) (w : World) : Calls Try.prog 65 #[.agg #[.int .i64 5, .int .i64 w0, .int .i64 a, .int .i64 b, .int .i64 c, .int .u32 kk, .int .i64 nn]] w fun e w' => ∃ p cp, e = .returned (.slice p 1 cp) ∧ (0 < 1 → ∃ H, p = some ⟨H, 0, none⟩ ∧ w.heap.size ≤ H ∧ w'.heap[H]? = some (.cells #[.int .i64 a] 3)) ∧ Below w.heap.size w w' := by
  go_enter Try.func65, Try.ntmps65
  go_wp2
  go_ret
  exact ⟨some ⟨w.heap.size + 1, 0, none⟩, 1, rfl, fun _ => ⟨w.heap.size + 1, rfl, Nat.le_succ _, (al2 w _ _).2⟩, by (repeat first | with_reducible exact Below.refl _ _ | with_reducible exact Below.refl _ _ | with_reducible refine Below.drew ?_ | with_reducible refine below_drewN ?_ _ | with_reducible refine Below.alloc ?_ (by first | (simp; done) | (simp; omega) | omega) _ | with_reducible refine Below.setCell ?_ (by first | (simp; done) | (simp; omega) | omega) _)⟩

theorem tks_6 (w0 a b c kk nn : Nat) (w : World) : Calls Try.prog 65 #[.agg #[.int .i64 6, .int .i64 w0, .int .i64 a, .int .i64 b, .int .i64 c, .int .u32 kk, .int .i64 nn]] w fun e w' => ∃ p cp, e = .returned (.slice p 3 cp) ∧ (0 < 3 → ∃ H, p = some ⟨H, 0, none⟩ ∧ w.heap.size ≤ H ∧ w'.heap[H]? = some (.cells #[.int .i64 a, .int .i64 b, .int .i64 c] 3)) ∧ Below w.heap.size w w' := by
  go_enter Try.func65, Try.ntmps65
  go_wp2
  go_ret
  exact ⟨some ⟨w.heap.size + 1, 0, none⟩, 3, rfl, fun _ => ⟨w.heap.size + 1, rfl, Nat.le_succ _, (al2 w _ _).2⟩, by (repeat first | with_reducible exact Below.refl _ _ | with_reducible exact Below.refl _ _ | with_reducible refine Below.drew ?_ | with_reducible refine below_drewN ?_ _ | with_reducible refine Below.alloc ?_ (by first | (simp; done) | (simp; omega) | omega) _ | with_reducible refine Below.setCell ?_ (by first | (simp; done) | (simp; omega) | omega) _)⟩

theorem tks_7 (w0 a b c kk nn : Nat) (w : World) : Calls Try.prog 65 #[.agg #[.int .i64 7, .int .i64 w0, .int .i64 a, .int .i64 b, .int .i64 c, .int .u32 kk, .int .i64 nn]] w fun e w' => ∃ p cp, e = .returned (.slice p 3 cp) ∧ (0 < 3 → ∃ H, p = some ⟨H, 0, none⟩ ∧ w.heap.size ≤ H ∧ w'.heap[H]? = some (.cells #[.int .i64 a, .int .i64 b, .int .i64 c] 3)) ∧ Below w.heap.size w w' := by
  go_enter Try.func65, Try.ntmps65
  go_wp2
  go_ret
  exact ⟨some ⟨w.heap.size + 1, 0, none⟩, 3, rfl, fun _ => ⟨w.heap.size + 1, rfl, Nat.le_succ _, (al2 w _ _).2⟩, by (repeat first | with_reducible exact Below.refl _ _ | with_reducible exact Below.refl _ _ | with_reducible refine Below.drew ?_ | with_reducible refine below_drewN ?_ _ | with_reducible refine Below.alloc ?_ (by first | (simp; done) | (simp; omega) | omega) _ | with_reducible refine Below.setCell ?_ (by first | (simp; done) | (simp; omega) | omega) _)⟩

theorem tks_8 (w0 a b c kk nn : Nat) (w : World) : Calls Try.prog 65 #[.agg #[.int .i64 8, .int .i64 w0, .int .i64 a, .int .i64 b, .int .i64 c, .int .u32 kk, .int .i64 nn]] w fun e w' => ∃ p cp, e = .returned (.slice p 1 cp) ∧ (0 < 1 → ∃ H, p = some ⟨H, 0, none⟩ ∧ w.heap.size ≤ H ∧ w'.heap[H]? = some (.cells #[.int .i64 a] 3)) ∧ Below w.heap.size w w' := by
  go_enter Try.func65, Try.ntmps65
  go_wp2
  go_ret
  exact ⟨some ⟨w.heap.size + 1, 0, none⟩, 1, rfl, fun _ => ⟨w.heap.size + 1, rfl, Nat.le_succ _, (al2 w _ _).2⟩, by (repeat first | with_reducible exact Below.refl _ _ | with_reducible exact Below.refl _ _ | with_reducible refine Below.drew ?_ | with_reducible refine below_drewN ?_ _ | with_reducible refine Below.alloc ?_ (by first | (simp; done) | (simp; omega) | omega) _ | with_reducible refine Below.setCell ?_ (by first | (simp; done) | (simp; omega) | omega) _)⟩

theorem tks_9 (w0 a b c kk nn : Nat) (w : World) : Calls Try.prog 65 #[.agg #[.int .i64 9, .int .i64 w0, .int .i64 a, .int .i64 b, .int .i64 c, .int .u32 kk, .int .i64 nn]] w fun e w' => ∃ p cp, e = .returned (.slice p 1 cp) ∧ (0 < 1 → ∃ H, p = some ⟨H, 0, none⟩ ∧ w.heap.size ≤ H ∧ w'.heap[H]? = some (.cells #[.int .i64 a] 3)) ∧ Below w.heap.size w w' := by
  go_enter Try.func65, Try.ntmps65
  go_wp2
  go_ret
  exact ⟨some ⟨w.heap.size + 1, 0, none⟩, 1, rfl, fun _ => ⟨w.heap.size + 1, rfl, Nat.le_succ _, (al2 w _ _).2⟩, by (repeat first | with_reducible exact Below.refl _ _ | with_reducible exact Below.refl _ _ | with_reducible refine Below.drew ?_ | with_reducible refine below_drewN ?_ _ | with_reducible refine Below.alloc ?_ (by first | (simp; done) | (simp; omega) | omega) _ | with_reducible refine Below.setCell ?_ (by first | (simp; done) | (simp; omega) | omega) _)⟩

theorem tks_10 (w0 a b c kk nn : Nat) (w : World) : Calls Try.prog 65 #[.agg #[.int .i64 10, .int .i64 w0, .int .i64 a, .int .i64 b, .int .i64 c, .int .u32 kk, .int .i64 nn]] w fun e w' => ∃ p cp, e = .returned (.slice p 2 cp) ∧ (0 < 2 → ∃ H, p = some ⟨H, 0, none⟩ ∧ w.heap.size ≤ H ∧ w'.heap[H]? = some (.cells #[.int .i64 a, .int .i64 b] 3)) ∧ Below w.heap.size w w' := by
  go_enter Try.func65, Try.ntmps65
  go_wp2
  go_ret
  exact ⟨some ⟨w.heap.size + 1, 0, none⟩, 2, rfl, fun _ => ⟨w.heap.size + 1, rfl, Nat.le_succ _, (al2 w _ _).2⟩, by (repeat first | with_reducible exact Below.refl _ _ | with_reducible exact Below.refl _ _ | with_reducible refine Below.drew ?_ | with_reducible refine below_drewN ?_ _ | with_reducible refine Below.alloc ?_ (by first | (simp; done) | (simp; omega) | omega) _ | with_reducible refine Below.setCell ?_ (by first | (simp; done) | (simp; omega) | omega) _)⟩

theorem tks_11 (w0 a b c kk nn : Nat) (w : World) : Calls Try.prog 65 #[.agg #[.int .i64 11, .int .i64 w0, .int .i64 a, .int .i64 b, .int .i64 c, .int .u32 kk, .int .i64 nn]] w fun e w' => ∃ p cp, e = .returned (.slice p 0 cp) ∧ (0 < 0 → ∃ H, p = some ⟨H, 0, none⟩ ∧ w.heap.size ≤ H ∧ w'.heap[H]? = some (.cells #[] 3)) ∧ Below w.heap.size w w' := by
  go_enter Try.func65, Try.ntmps65
  go_wp2
  go_ret
  exact ⟨none, 0, rfl, fun h => absurd h (Nat.not_lt_zero _), by (repeat first | with_reducible exact Below.refl _ _ | with_reducible exact Below.refl _ _ | with_reducible refine Below.drew ?_ | with_reducible refine below_drewN ?_ _ | with_reducible refine Below.alloc ?_ (by first | (simp; done) | (simp; omega) | omega) _ | with_reducible refine Below.setCell ?_ (by first | (simp; done) | (simp; omega) | omega) _)⟩

theorem tks_12 (w0 a b c kk nn : Nat) (w : World) : Calls Try.prog 65 #[.agg #[.int .i64 12, .int .i64 w0, .int .i64 a, .int .i64 b, .int .i64 c, .int .u32 kk, .int .i64 nn]] w fun e w' => ∃ p cp, e = .returned (.slice p 1 cp) ∧ (0 < 1 → ∃ H, p = some ⟨H, 0, none⟩ ∧ w.heap.size ≤ H ∧ w'.heap[H]? = some (.cells #[.int .i64 a] 3)) ∧ Below w.heap.size w w' := by
  go_enter Try.func65, Try.ntmps65
  go_wp2
  go_ret
  exact ⟨some ⟨w.heap.size + 1, 0, none⟩, 1, rfl, fun _ => ⟨w.heap.size + 1, rfl, Nat.le_succ _, (al2 w _ _).2⟩, by (repeat first | with_reducible exact Below.refl _ _ | with_reducible exact Below.refl _ _ | with_reducible refine Below.drew ?_ | with_reducible refine below_drewN ?_ _ | with_reducible refine Below.alloc ?_ (by first | (simp; done) | (simp; omega) | omega) _ | with_reducible refine Below.setCell ?_ (by first | (simp; done) | (simp; omega) | omega) _)⟩

theorem tks_13 (w0 a b c kk nn : Nat) (w : World) : Calls Try.prog 65 #[.agg #[.int .i64 13, .int .i64 w0, .int .i64 a, .int .i64 b, .int .i64 c, .int .u32 kk, .int .i64 nn]] w fun e w' => ∃ p cp, e = .returned (.slice p 1 cp) ∧ (0 < 1 → ∃ H, p = some ⟨H, 0, none⟩ ∧ w.heap.size ≤ H ∧ w'.heap[H]? = some (.cells #[.int .i64 a] 3)) ∧ Below w.heap.size w w' := by
  go_enter Try.func65, Try.ntmps65
  go_wp2
  go_ret
  exact ⟨some ⟨w.heap.size + 1, 0, none⟩, 1, rfl, fun _ => ⟨w.heap.size + 1, rfl, Nat.le_succ _, (al2 w _ _).2⟩, by (repeat first | with_reducible exact Below.refl _ _ | with_reducible exact Below.refl _ _ | with_reducible refine Below.drew ?_ | with_reducible refine below_drewN ?_ _ | with_reducible refine Below.alloc ?_ (by first | (simp; done) | (simp; omega) | omega) _ | with_reducible refine Below.setCell ?_ (by first | (simp; done) | (simp; omega) | omega) _)⟩

theorem tks_14 (w0 a b c kk nn : Nat) (w : World) : Calls Try.prog 65 #[.agg #[.int .i64 14, .int .i64 w0, .int .i64 a, .int .i64 b, .int .i64 c, .int .u32 kk, .int .i64 nn]] w fun e w' => ∃ p cp, e = .returned (.slice p 0 cp) ∧ (0 < 0 → ∃ H, p = some ⟨H, 0, none⟩ ∧ w.heap.size ≤ H ∧ w'.heap[H]? = some (.cells #[] 3)) ∧ Below w.heap.size w w' := by
  go_enter Try.func65, Try.ntmps65
  go_wp2
  go_ret
  exact ⟨none, 0, rfl, fun h => absurd h (Nat.not_lt_zero _), by (repeat first | with_reducible exact Below.refl _ _ | with_reducible exact Below.refl _ _ | with_reducible refine Below.drew ?_ | with_reducible refine below_drewN ?_ _ | with_reducible refine Below.alloc ?_ (by first | (simp; done) | (simp; omega) | omega) _ | with_reducible refine Below.setCell ?_ (by first | (simp; done) | (simp; omega) | omega) _)⟩

theorem tks_15 (w0 a b c kk nn : Nat) (w : World) : Calls Try.prog 65 #[.agg #[.int .i64 15, .int .i64 w0, .int .i64 a, .int .i64 b, .int .i64 c, .int .u32 kk, .int .i64 nn]] w fun e w' => ∃ p cp, e = .returned (.slice p 0 cp) ∧ (0 < 0 → ∃ H, p = some ⟨H, 0, none⟩ ∧ w.heap.size ≤ H ∧ w'.heap[H]? = some (.cells #[] 3)) ∧ Below w.heap.size w w' := by
  go_enter Try.func65, Try.ntmps65
  go_wp2
  go_ret
  exact ⟨none, 0, rfl, fun h => absurd h (Nat.not_lt_zero _), by (repeat first | with_reducible exact Below.refl _ _ | with_reducible exact Below.refl _ _ | with_reducible refine Below.drew ?_ | with_reducible refine below_drewN ?_ _ | with_reducible refine Below.alloc ?_ (by first | (simp; done) | (simp; omega) | omega) _ | with_reducible refine Below.setCell ?_ (by first | (simp; done) | (simp; omega) | omega) _)⟩

theorem tks_16 (w0 a b c kk nn : Nat) (w : World) : Calls Try.prog 65 #[.agg #[.int .i64 16, .int .i64 w0, .int .i64 a, .int .i64 b, .int .i64 c, .int .u32 kk, .int .i64 nn]] w fun e w' => ∃ p cp, e = .returned (.slice p 1 cp) ∧ (0 < 1 → ∃ H, p = some ⟨H, 0, none⟩ ∧ w.heap.size ≤ H ∧ w'.heap[H]? = some (.cells #[.int .i64 a] 3)) ∧ Below w.heap.size w w' := by
  go_enter Try.func65, Try.ntmps65
  go_wp2
  go_ret
  exact ⟨some ⟨w.heap.size + 1, 0, none⟩, 1, rfl, fun _ => ⟨w.heap.size + 1, rfl, Nat.le_succ _, (al2 w _ _).2⟩, by (repeat first | with_reducible exact Below.refl _ _ | with_reducible exact Below.refl _ _ | with_reducible refine Below.drew ?_ | with_reducible refine below_drewN ?_ _ | with_reducible refine Below.alloc ?_ (by first | (simp; done) | (simp; omega) | omega) _ | with_reducible refine Below.setCell ?_ (by first | (simp; done) | (simp; omega) | omega) _)⟩

theorem tks_17 (w0 a b c kk nn : Nat) (w : World) : Calls Try.prog 65 #[.agg #[.int .i64 17, .int .i64 w0, .int .i64 a, .int .i64 b, .int .i64 c, .int .u32 kk, .int .i64 nn]] w fun e w' => ∃ p cp, e = .returned (.slice p 0 cp) ∧ (0 < 0 → ∃ H, p = some ⟨H, 0, none⟩ ∧ w.heap.size ≤ H ∧ w'.heap[H]? = some (.cells #[] 3)) ∧ Below w.heap.size w w' := by
  go_enter Try.func65, Try.ntmps65
  go_wp2
  go_ret
  exact ⟨none, 0, rfl, fun h => absurd h (Nat.not_lt_zero _), by (repeat first | with_reducible exact Below.refl _ _ | with_reducible exact Below.refl _ _ | with_reducible refine Below.drew ?_ | with_reducible refine below_drewN ?_ _ | with_reducible refine Below.alloc ?_ (by first | (simp; done) | (simp; omega) | omega) _ | with_reducible refine Below.setCell ?_ (by first | (simp; done) | (simp; omega) | omega) _)⟩

def argA (o : ON) (t : Nat) : Array Value := match t with | 0 => #[] | 1 => #[.int .i64 o.a] | 2 => #[.int .i64 o.a, .int .i64 o.b] | _ => #[.int .i64 o.a, .int .i64 o.b, .int .i64 o.c]
theorem argA_at (o : ON) (t q : Nat) (h : q < t) (ht : t ≤ 3) : (argA o t)[q]? = some (.int .i64 (arg o q)) := by
  rcases (by omega : t = 1 ∨ t = 2 ∨ t = 3) with rfl | rfl | rfl
  · rcases (by omega : q = 0) with rfl; rfl
  · rcases (by omega : q = 0 ∨ q = 1) with rfl | rfl <;> rfl
  · rcases (by omega : q = 0 ∨ q = 1 ∨ q = 2) with rfl | rfl | rfl <;> rfl
theorem tks_any (o : ON) (w : World) (h1 : 1 ≤ o.kd) (h2 : o.kd ≤ 17) : Calls Try.prog 65 #[.agg #[.int .i64 o.kd, .int .i64 o.w, .int .i64 o.a, .int .i64 o.b, .int .i64 o.c, .int .u32 o.k, .int .i64 o.n]] w fun e w' => ∃ p cp, e = .returned (.slice p (tkN o.kd) cp) ∧ (0 < tkN o.kd → ∃ H, p = some ⟨H, 0, none⟩ ∧ w.heap.size ≤ H ∧ w'.heap[H]? = some (.cells (argA o (tkN o.kd)) 3)) ∧ Below w.heap.size w w' := by
  obtain ⟨kd, w0, a, b, c, kk, nn⟩ := o
  simp only at h1 h2
  rcases (by omega : kd = 1 ∨ kd = 2 ∨ kd = 3 ∨ kd = 4 ∨ kd = 5 ∨ kd = 6 ∨ kd = 7 ∨ kd = 8 ∨ kd = 9 ∨ kd = 10 ∨ kd = 11 ∨ kd = 12 ∨ kd = 13 ∨ kd = 14 ∨ kd = 15 ∨ kd = 16 ∨ kd = 17) with rfl | rfl | rfl | rfl | rfl | rfl | rfl | rfl | rfl | rfl | rfl | rfl | rfl | rfl | rfl | rfl | rfl
  · exact tks_1 w0 a b c kk nn w
  · exact tks_2 w0 a b c kk nn w
  · exact tks_3 w0 a b c kk nn w
  · exact tks_4 w0 a b c kk nn w
  · exact tks_5 w0 a b c kk nn w
  · exact tks_6 w0 a b c kk nn w
  · exact tks_7 w0 a b c kk nn w
  · exact tks_8 w0 a b c kk nn w
  · exact tks_9 w0 a b c kk nn w
  · exact tks_10 w0 a b c kk nn w
  · exact tks_11 w0 a b c kk nn w
  · exact tks_12 w0 a b c kk nn w
  · exact tks_13 w0 a b c kk nn w
  · exact tks_14 w0 a b c kk nn w
  · exact tks_15 w0 a b c kk nn w
  · exact tks_16 w0 a b c kk nn w
  · exact tks_17 w0 a b c kk nn w

theorem pure_any (k : Nat) (w : World) : Calls Try.prog 67 #[.int .i64 k] w fun e w' => e = .returned (.bool (isP k)) ∧ w = w' := by
  by_cases h1 : k = 1
  · subst h1
    go_enter Try.func67, Try.ntmps67; go_wp2; go_ret; exact ⟨rfl, rfl⟩
  have i1 : ¬ (k : Int) = 1 := by omega
  have d1 : ((k : Int) == 1) = false := by simpa using i1
  by_cases h4 : 4 ≤ k
  · have i4 : (4 : Int) ≤ (k : Int) := by omega
    have d4 : decide ((4 : Int) ≤ (k : Int)) = true := decide_eq_true i4
    by_cases h8 : k ≤ 8
    · have i8 : (k : Int) ≤ 8 := by omega
      have d8 : decide ((k : Int) ≤ 8) = true := decide_eq_true i8
      rw [show isP k = true by simp [isP, h4, h8]]
      clear h1 h4 h8
      go_enter Try.func67, Try.ntmps67; go_wp2; go_ret; exact ⟨rfl, rfl⟩
    · have i8 : ¬ (k : Int) ≤ 8 := by omega
      have d8 : decide ((k : Int) ≤ 8) = false := decide_eq_false i8
      rw [show isP k = false by simp [isP, h1, h8]]
      clear h1 h4 h8
      go_enter Try.func67, Try.ntmps67; go_wp2; go_ret; exact ⟨rfl, rfl⟩
  · have i4 : ¬ (4 : Int) ≤ (k : Int) := by omega
    have d4 : decide ((4 : Int) ≤ (k : Int)) = false := decide_eq_false i4
    rw [show isP k = false by simp [isP, h1, h4]]
    clear h1 h4
    go_enter Try.func67, Try.ntmps67; go_wp2; go_ret; exact ⟨rfl, rfl⟩
def lvB (k : Nat) : Bool := decide (9 ≤ k) && decide (k ≤ 13)
theorem leaves_any (k : Nat) (w : World) : Calls Try.prog 68 #[.int .i64 k] w fun e w' => e = .returned (.bool (lvB k)) ∧ w = w' := by
  by_cases h4 : 9 ≤ k
  · have i4 : (9 : Int) ≤ (k : Int) := by omega
    have d4 : decide ((9 : Int) ≤ (k : Int)) = true := decide_eq_true i4
    by_cases h8 : k ≤ 13
    · have i8 : (k : Int) ≤ 13 := by omega
      have d8 : decide ((k : Int) ≤ 13) = true := decide_eq_true i8
      rw [show lvB k = true by simp [lvB, h4, h8]]
      clear h4 h8
      go_enter Try.func68, Try.ntmps68; go_wp2; go_ret; exact ⟨rfl, rfl⟩
    · have i8 : ¬ (k : Int) ≤ 13 := by omega
      have d8 : decide ((k : Int) ≤ 13) = false := decide_eq_false i8
      rw [show lvB k = false by simp [lvB, h8]]
      clear h4 h8
      go_enter Try.func68, Try.ntmps68; go_wp2; go_ret; exact ⟨rfl, rfl⟩
  · have i4 : ¬ (9 : Int) ≤ (k : Int) := by omega
    have d4 : decide ((9 : Int) ≤ (k : Int)) = false := decide_eq_false i4
    rw [show lvB k = false by simp [lvB, h4]]
    clear h4
    go_enter Try.func68, Try.ntmps68; go_wp2; go_ret; exact ⟨rfl, rfl⟩
/-- Operations that lie, of a world that others turn only above. -/
structure LW (w W : World) (b off n : Nat) (h : Nat → ON) : Prop where
  ops : OpsR w (some ⟨b, off, none⟩) n (fun i => rO (h i))
  lb : b < w.heap.size
  bel : Below w.heap.size w W
theorem LW.at_ {w W : World} {b off n : Nat} {h : Nat → ON} (x : LW w W b off n h) (j : Nat) (hj : j < n) : OpAt W b (off + j * 7) (rO (h j)) := by
  obtain ⟨b', off', e, hb, hc⟩ := x.ops (by omega)
  cases e
  exact (hc j hj).below x.bel hb
end Go.Proofs.Ytmnifblbacgeoab
