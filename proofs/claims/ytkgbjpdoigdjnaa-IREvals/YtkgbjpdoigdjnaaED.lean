import Derived.Test.YtkgbjpdoigdjnaaJ03
import Derived.Test.YtkgbjpdoigdjnaaAC
import Derived.Test.YtkgbjpdoigdjnaaEC
namespace Go.Proofs.Ytkgbjpdoigdjnaa
open Go.RowKit
set_option maxRecDepth 100000
set_option linter.unusedVariables false
set_option linter.unusedSimpArgs false

/-! ## What load and store of a block do -/
def ldN (k : Int) : Int := if k = 0 then 1 else if k = 1 then 1 else if k = 2 then 2 else if k = 3 then 2 else 4
def ldW (s : MS) (k : Int) (a : Nat) : Nat := if k = 1 then unF 2 (ldX s a (ldN k)).toNat else if k = 3 then unF 3 (ldX s a (ldN k)).toNat else (ldX s a (ldN k)).toNat
theorem rcell {w : World} {X : Nat} {A : Array Value} {T : TypeId} (h : w.heap[X]? = some (.cells A T)) (o : Nat) : w.cell? ⟨X, o, none⟩ = A[o]? := cell_of_row _ _ o _ _ (0, 0) h
theorem rfr {w : World} {X : Nat} {A : Array Value} {T : TypeId} (h : w.heap[X]? = some (.cells A T)) (o : Nat) : w.frozen? ⟨X, o, none⟩ = false := frozen_of_row _ _ o _ _ h
theorem rlt {w : World} {X : Nat} {A : Array Value} {T : TypeId} (h : w.heap[X]? = some (.cells A T)) : X < w.heap.size := by
  rcases Nat.lt_or_ge X w.heap.size with g | g
  · exact g
  · rw [Array.getElem?_eq_none g] at h; cases h
theorem bal_old (w : World) (o : Obj) (b : Nat) (h : b < w.heap.size) : (w.alloc o).heap[b]? = w.heap[b]? := ((Below.refl w.heap.size w).alloc (Nat.le_refl _) o).block b h
theorem bal3 (w : World) (o1 o2 o3 : Obj) : (((w.alloc o1).alloc o2).alloc o3).heap[w.heap.size + 1 + 1]? = some o3 := by
  have := heap_alloc_last ((w.alloc o1).alloc o2) o3
  rwa [show ((w.alloc o1).alloc o2).heap.size = w.heap.size + 1 + 1 by simp] at this
theorem ldX_nat (s : MS) (a : Nat) (n : Int) (hs : s.Ok) (hn : n = 1 ∨ n = 2 ∨ n = 4) : ∃ v : Nat, ldX s a n = v ∧ v < 4294967296 := by
  have h := ldv_bd s.B a hs.by_ n.toNat
  unfold ldX
  split
  · refine ⟨(ldv s.B a n.toNat).toNat, by omega, ?_⟩
    have : (256 : Int) ^ n.toNat ≤ 4294967296 := by rcases hn with rfl | rfl | rfl <;> decide
    omega
  · exact ⟨0, rfl, by omega⟩
set_option maxHeartbeats 1000000 in
theorem rld0 (k : RB) (a v : Nat) (s : MS) (w : World) (o : Option Nat) (ha : a < 4294967296) (hs : s.Ok) (h : RM w k s) (hx : ldX s a 1 = v) (hv : v < 4294967296) (ho : badN s 1 a 1 = o) :
    Calls Try.prog 143 #[.pointer (some ⟨k.y, 0, none⟩), .int .i64 0, .int .u32 a] w fun e w' => e = .returned (.tuple #[.int .u32 v, .agg #[.int .i64 (stK 5 o), .int .u32 (stA o)]]) ∧ Below w.heap.size w w' := by
  have HC : Hid (∀ W, Below w.heap.size w W → Calls Try.prog 74 #[.pointer (some ⟨k.y, 0, none⟩), .int .u32 a, .int .i64 1] W fun e w' => e = .returned (.tuple #[.int .u32 v, .agg #[.int .i64 (stK 5 o), .int .u32 (stA o)]]) ∧ Below W.heap.size W w') := show ∀ W, _ from fun W hW => by
    have := rload_tot k a 1 s W ha hs (h.below hW (Nat.le_refl _))
    rw [hx, show badN s 1 a (1 : Int).toNat = o from ho] at this
    exact this
  clear hx ho h hs
  generalize stK 5 o = kk at *
  generalize stA o = aa at *
  go_enter Try.func143, Try.ntmps143
  go_wp2_with (first
    | (go_at_call 74; refine (HC.out _ ?_).mono ?_; (focus ((repeat first | with_reducible exact Below.refl _ _ | with_reducible exact hB | with_reducible refine Below.drew ?_ | with_reducible refine Below.alloc ?_ (by first | (simp; done) | (simp; omega) | omega) _ | with_reducible refine Below.setCell ?_ (by first | (simp; done) | (simp; omega) | omega) _))); rintro e w1 ⟨rfl, h1⟩; have HB7 : Hid (w1.heap[w.heap.size]? = some (.cells #[.int .i64 0, .int .u32 0] 66)) := (h1.block _ (by simp; omega)).trans ((bal_old _ _ _ (by simp)).trans (heap_alloc_last w _)); have HBB : Hid (Below w.heap.size w w1) := (Below.trans (by (repeat first | with_reducible exact Below.refl _ _ | with_reducible exact hB | with_reducible refine Below.drew ?_ | with_reducible refine Below.alloc ?_ (by first | (simp; done) | (simp; omega) | omega) _ | with_reducible refine Below.setCell ?_ (by first | (simp; done) | (simp; omega) | omega) _)) (h1.mono (by simp; omega))); have q0 : w1.cell? ⟨w.heap.size, 0, none⟩ = some (.int .i64 0) := rcell HB7.out 0; have q1 : w1.cell? ⟨w.heap.size, 1, none⟩ = some (.int .u32 0) := rcell HB7.out 1; have fr := rfr HB7.out; have l7 := rlt HB7.out; have l7b := Nat.lt_succ_of_lt l7; clear h1))
  all_goals go_region
  all_goals go_wp2
  all_goals exact bodyPost_ret (v := .tuple #[.int .u32 v, .agg #[.int .i64 kk, .int .u32 aa]]) (by simp [results, Try.results143, go_sem, q0, q1, fr, l7]) rfl ⟨rfl, by
    have hB := HBB.out
    (repeat first | with_reducible exact Below.refl _ _ | with_reducible exact hB | with_reducible refine Below.drew ?_ | with_reducible refine Below.alloc ?_ (by first | (simp; done) | (simp; omega) | omega) _ | with_reducible refine Below.setCell ?_ (by first | (simp; done) | (simp; omega) | omega) _)⟩
set_option maxHeartbeats 1000000 in
theorem rld1 (k : RB) (a v : Nat) (s : MS) (w : World) (o : Option Nat) (ha : a < 4294967296) (hs : s.Ok) (h : RM w k s) (hx : ldX s a 1 = v) (hv : v < 4294967296) (ho : badN s 1 a 1 = o) :
    Calls Try.prog 143 #[.pointer (some ⟨k.y, 0, none⟩), .int .i64 1, .int .u32 a] w fun e w' => e = .returned (.tuple #[.int .u32 (unF 2 v : Nat), .agg #[.int .i64 (stK 5 o), .int .u32 (stA o)]]) ∧ Below w.heap.size w w' := by
  have HC : Hid (∀ W, Below w.heap.size w W → Calls Try.prog 74 #[.pointer (some ⟨k.y, 0, none⟩), .int .u32 a, .int .i64 1] W fun e w' => e = .returned (.tuple #[.int .u32 v, .agg #[.int .i64 (stK 5 o), .int .u32 (stA o)]]) ∧ Below W.heap.size W w') := show ∀ W, _ from fun W hW => by
    have := rload_tot k a 1 s W ha hs (h.below hW (Nat.le_refl _))
    rw [hx, show badN s 1 a (1 : Int).toNat = o from ho] at this
    exact this
  clear hx ho h hs
  generalize stK 5 o = kk at *
  generalize stA o = aa at *
  go_enter Try.func143, Try.ntmps143
  go_wp2_with (first
    | (go_at_call 74; refine (HC.out _ ?_).mono ?_; (focus ((repeat first | with_reducible exact Below.refl _ _ | with_reducible exact hB | with_reducible refine Below.drew ?_ | with_reducible refine Below.alloc ?_ (by first | (simp; done) | (simp; omega) | omega) _ | with_reducible refine Below.setCell ?_ (by first | (simp; done) | (simp; omega) | omega) _))); rintro e w1 ⟨rfl, h1⟩; have HB7 : Hid (w1.heap[w.heap.size]? = some (.cells #[.int .i64 0, .int .u32 0] 66)) := (h1.block _ (by simp; omega)).trans ((bal_old _ _ _ (by simp)).trans (heap_alloc_last w _)); have HBB : Hid (Below w.heap.size w w1) := (Below.trans (by (repeat first | with_reducible exact Below.refl _ _ | with_reducible exact hB | with_reducible refine Below.drew ?_ | with_reducible refine Below.alloc ?_ (by first | (simp; done) | (simp; omega) | omega) _ | with_reducible refine Below.setCell ?_ (by first | (simp; done) | (simp; omega) | omega) _)) (h1.mono (by simp; omega))); have q0 : w1.cell? ⟨w.heap.size, 0, none⟩ = some (.int .i64 0) := rcell HB7.out 0; have q1 : w1.cell? ⟨w.heap.size, 1, none⟩ = some (.int .u32 0) := rcell HB7.out 1; have fr := rfr HB7.out; have l7 := rlt HB7.out; have l7b := Nat.lt_succ_of_lt l7; clear h1)
    | (go_at_call 167; refine (run_any 2 v _ hv (by decide)).mono ?_; rintro e w2 ⟨rfl, rfl⟩))
  all_goals go_region
  all_goals go_wp2
  all_goals exact bodyPost_ret (v := .tuple #[.int .u32 (unF 2 v : Nat), .agg #[.int .i64 kk, .int .u32 aa]]) (by simp [results, Try.results143, go_sem, q0, q1, fr, l7]) rfl ⟨rfl, by
    have hB := HBB.out
    (repeat first | with_reducible exact Below.refl _ _ | with_reducible exact hB | with_reducible refine Below.drew ?_ | with_reducible refine Below.alloc ?_ (by first | (simp; done) | (simp; omega) | omega) _ | with_reducible refine Below.setCell ?_ (by first | (simp; done) | (simp; omega) | omega) _)⟩
set_option maxHeartbeats 1000000 in
theorem rld2 (k : RB) (a v : Nat) (s : MS) (w : World) (o : Option Nat) (ha : a < 4294967296) (hs : s.Ok) (h : RM w k s) (hx : ldX s a 2 = v) (hv : v < 4294967296) (ho : badN s 1 a 2 = o) :
    Calls Try.prog 143 #[.pointer (some ⟨k.y, 0, none⟩), .int .i64 2, .int .u32 a] w fun e w' => e = .returned (.tuple #[.int .u32 v, .agg #[.int .i64 (stK 5 o), .int .u32 (stA o)]]) ∧ Below w.heap.size w w' := by
  have HC : Hid (∀ W, Below w.heap.size w W → Calls Try.prog 74 #[.pointer (some ⟨k.y, 0, none⟩), .int .u32 a, .int .i64 2] W fun e w' => e = .returned (.tuple #[.int .u32 v, .agg #[.int .i64 (stK 5 o), .int .u32 (stA o)]]) ∧ Below W.heap.size W w') := show ∀ W, _ from fun W hW => by
    have := rload_tot k a 2 s W ha hs (h.below hW (Nat.le_refl _))
    rw [hx, show badN s 1 a (2 : Int).toNat = o from ho] at this
    exact this
  clear hx ho h hs
  generalize stK 5 o = kk at *
  generalize stA o = aa at *
  go_enter Try.func143, Try.ntmps143
  go_wp2_with (first
    | (go_at_call 74; refine (HC.out _ ?_).mono ?_; (focus ((repeat first | with_reducible exact Below.refl _ _ | with_reducible exact hB | with_reducible refine Below.drew ?_ | with_reducible refine Below.alloc ?_ (by first | (simp; done) | (simp; omega) | omega) _ | with_reducible refine Below.setCell ?_ (by first | (simp; done) | (simp; omega) | omega) _))); rintro e w1 ⟨rfl, h1⟩; have HB7 : Hid (w1.heap[w.heap.size]? = some (.cells #[.int .i64 0, .int .u32 0] 66)) := (h1.block _ (by simp; omega)).trans ((bal_old _ _ _ (by simp)).trans (heap_alloc_last w _)); have HBB : Hid (Below w.heap.size w w1) := (Below.trans (by (repeat first | with_reducible exact Below.refl _ _ | with_reducible exact hB | with_reducible refine Below.drew ?_ | with_reducible refine Below.alloc ?_ (by first | (simp; done) | (simp; omega) | omega) _ | with_reducible refine Below.setCell ?_ (by first | (simp; done) | (simp; omega) | omega) _)) (h1.mono (by simp; omega))); have q0 : w1.cell? ⟨w.heap.size, 0, none⟩ = some (.int .i64 0) := rcell HB7.out 0; have q1 : w1.cell? ⟨w.heap.size, 1, none⟩ = some (.int .u32 0) := rcell HB7.out 1; have fr := rfr HB7.out; have l7 := rlt HB7.out; have l7b := Nat.lt_succ_of_lt l7; clear h1))
  all_goals go_region
  all_goals go_wp2
  all_goals exact bodyPost_ret (v := .tuple #[.int .u32 v, .agg #[.int .i64 kk, .int .u32 aa]]) (by simp [results, Try.results143, go_sem, q0, q1, fr, l7]) rfl ⟨rfl, by
    have hB := HBB.out
    (repeat first | with_reducible exact Below.refl _ _ | with_reducible exact hB | with_reducible refine Below.drew ?_ | with_reducible refine Below.alloc ?_ (by first | (simp; done) | (simp; omega) | omega) _ | with_reducible refine Below.setCell ?_ (by first | (simp; done) | (simp; omega) | omega) _)⟩
set_option maxHeartbeats 1000000 in
theorem rld3 (k : RB) (a v : Nat) (s : MS) (w : World) (o : Option Nat) (ha : a < 4294967296) (hs : s.Ok) (h : RM w k s) (hx : ldX s a 2 = v) (hv : v < 4294967296) (ho : badN s 1 a 2 = o) :
    Calls Try.prog 143 #[.pointer (some ⟨k.y, 0, none⟩), .int .i64 3, .int .u32 a] w fun e w' => e = .returned (.tuple #[.int .u32 (unF 3 v : Nat), .agg #[.int .i64 (stK 5 o), .int .u32 (stA o)]]) ∧ Below w.heap.size w w' := by
  have HC : Hid (∀ W, Below w.heap.size w W → Calls Try.prog 74 #[.pointer (some ⟨k.y, 0, none⟩), .int .u32 a, .int .i64 2] W fun e w' => e = .returned (.tuple #[.int .u32 v, .agg #[.int .i64 (stK 5 o), .int .u32 (stA o)]]) ∧ Below W.heap.size W w') := show ∀ W, _ from fun W hW => by
    have := rload_tot k a 2 s W ha hs (h.below hW (Nat.le_refl _))
    rw [hx, show badN s 1 a (2 : Int).toNat = o from ho] at this
    exact this
  clear hx ho h hs
  generalize stK 5 o = kk at *
  generalize stA o = aa at *
  go_enter Try.func143, Try.ntmps143
  go_wp2_with (first
    | (go_at_call 74; refine (HC.out _ ?_).mono ?_; (focus ((repeat first | with_reducible exact Below.refl _ _ | with_reducible exact hB | with_reducible refine Below.drew ?_ | with_reducible refine Below.alloc ?_ (by first | (simp; done) | (simp; omega) | omega) _ | with_reducible refine Below.setCell ?_ (by first | (simp; done) | (simp; omega) | omega) _))); rintro e w1 ⟨rfl, h1⟩; have HB7 : Hid (w1.heap[w.heap.size]? = some (.cells #[.int .i64 0, .int .u32 0] 66)) := (h1.block _ (by simp; omega)).trans ((bal_old _ _ _ (by simp)).trans (heap_alloc_last w _)); have HBB : Hid (Below w.heap.size w w1) := (Below.trans (by (repeat first | with_reducible exact Below.refl _ _ | with_reducible exact hB | with_reducible refine Below.drew ?_ | with_reducible refine Below.alloc ?_ (by first | (simp; done) | (simp; omega) | omega) _ | with_reducible refine Below.setCell ?_ (by first | (simp; done) | (simp; omega) | omega) _)) (h1.mono (by simp; omega))); have q0 : w1.cell? ⟨w.heap.size, 0, none⟩ = some (.int .i64 0) := rcell HB7.out 0; have q1 : w1.cell? ⟨w.heap.size, 1, none⟩ = some (.int .u32 0) := rcell HB7.out 1; have fr := rfr HB7.out; have l7 := rlt HB7.out; have l7b := Nat.lt_succ_of_lt l7; clear h1)
    | (go_at_call 167; refine (run_any 3 v _ hv (by decide)).mono ?_; rintro e w2 ⟨rfl, rfl⟩))
  all_goals go_region
  all_goals go_wp2
  all_goals exact bodyPost_ret (v := .tuple #[.int .u32 (unF 3 v : Nat), .agg #[.int .i64 kk, .int .u32 aa]]) (by simp [results, Try.results143, go_sem, q0, q1, fr, l7]) rfl ⟨rfl, by
    have hB := HBB.out
    (repeat first | with_reducible exact Below.refl _ _ | with_reducible exact hB | with_reducible refine Below.drew ?_ | with_reducible refine Below.alloc ?_ (by first | (simp; done) | (simp; omega) | omega) _ | with_reducible refine Below.setCell ?_ (by first | (simp; done) | (simp; omega) | omega) _)⟩
set_option maxHeartbeats 1000000 in
theorem rld4 (k : RB) (a v : Nat) (s : MS) (w : World) (o : Option Nat) (ha : a < 4294967296) (hs : s.Ok) (h : RM w k s) (hx : ldX s a 4 = v) (hv : v < 4294967296) (ho : badN s 1 a 4 = o) :
    Calls Try.prog 143 #[.pointer (some ⟨k.y, 0, none⟩), .int .i64 4, .int .u32 a] w fun e w' => e = .returned (.tuple #[.int .u32 v, .agg #[.int .i64 (stK 5 o), .int .u32 (stA o)]]) ∧ Below w.heap.size w w' := by
  have HC : Hid (∀ W, Below w.heap.size w W → Calls Try.prog 74 #[.pointer (some ⟨k.y, 0, none⟩), .int .u32 a, .int .i64 4] W fun e w' => e = .returned (.tuple #[.int .u32 v, .agg #[.int .i64 (stK 5 o), .int .u32 (stA o)]]) ∧ Below W.heap.size W w') := show ∀ W, _ from fun W hW => by
    have := rload_tot k a 4 s W ha hs (h.below hW (Nat.le_refl _))
    rw [hx, show badN s 1 a (4 : Int).toNat = o from ho] at this
    exact this
  clear hx ho h hs
  generalize stK 5 o = kk at *
  generalize stA o = aa at *
  go_enter Try.func143, Try.ntmps143
  go_wp2_with (first
    | (go_at_call 74; refine (HC.out _ ?_).mono ?_; (focus ((repeat first | with_reducible exact Below.refl _ _ | with_reducible exact hB | with_reducible refine Below.drew ?_ | with_reducible refine Below.alloc ?_ (by first | (simp; done) | (simp; omega) | omega) _ | with_reducible refine Below.setCell ?_ (by first | (simp; done) | (simp; omega) | omega) _))); rintro e w1 ⟨rfl, h1⟩; have HB7 : Hid (w1.heap[w.heap.size]? = some (.cells #[.int .i64 0, .int .u32 0] 66)) := (h1.block _ (by simp; omega)).trans ((bal_old _ _ _ (by simp)).trans (heap_alloc_last w _)); have HBB : Hid (Below w.heap.size w w1) := (Below.trans (by (repeat first | with_reducible exact Below.refl _ _ | with_reducible exact hB | with_reducible refine Below.drew ?_ | with_reducible refine Below.alloc ?_ (by first | (simp; done) | (simp; omega) | omega) _ | with_reducible refine Below.setCell ?_ (by first | (simp; done) | (simp; omega) | omega) _)) (h1.mono (by simp; omega))); have q0 : w1.cell? ⟨w.heap.size, 0, none⟩ = some (.int .i64 0) := rcell HB7.out 0; have q1 : w1.cell? ⟨w.heap.size, 1, none⟩ = some (.int .u32 0) := rcell HB7.out 1; have fr := rfr HB7.out; have l7 := rlt HB7.out; have l7b := Nat.lt_succ_of_lt l7; clear h1))
  all_goals go_region
  all_goals go_wp2
  all_goals exact bodyPost_ret (v := .tuple #[.int .u32 v, .agg #[.int .i64 kk, .int .u32 aa]]) (by simp [results, Try.results143, go_sem, q0, q1, fr, l7]) rfl ⟨rfl, by
    have hB := HBB.out
    (repeat first | with_reducible exact Below.refl _ _ | with_reducible exact hB | with_reducible refine Below.drew ?_ | with_reducible refine Below.alloc ?_ (by first | (simp; done) | (simp; omega) | omega) _ | with_reducible refine Below.setCell ?_ (by first | (simp; done) | (simp; omega) | omega) _)⟩
set_option maxHeartbeats 1000000 in
set_option maxHeartbeats 1000000 in
set_option maxHeartbeats 1000000 in
set_option maxHeartbeats 1000000 in
set_option maxHeartbeats 1000000 in
theorem sig8p (a : Nat) (ha : a < 4294967296) : wrap32 ((a : Int) * 16777216 % 4294967296) / 16777216 % 4294967296 = ((unF 2 a : Nat) : Int) := by
  have hw : wrap32 ((a * 16777216 % 4294967296 : Nat) : Int) = Fl.sgn (a * 16777216 % 4294967296 : Nat) := wrap32_sgn _ (by omega)
  rw [show ((a : Int) * 16777216 % 4294967296) = ((a * 16777216 % 4294967296 : Nat) : Int) by omega, hw]
  unfold Fl.sgn unF
  simp only [show (2 : Int) = 0 ↔ False by decide, show (2 : Int) = 1 ↔ False by decide, if_false, if_true]
  split <;> split <;> omega
theorem sig16p (a : Nat) (ha : a < 4294967296) : wrap32 ((a : Int) * 65536 % 4294967296) / 65536 % 4294967296 = ((unF 3 a : Nat) : Int) := by
  have hw : wrap32 ((a * 65536 % 4294967296 : Nat) : Int) = Fl.sgn (a * 65536 % 4294967296 : Nat) := wrap32_sgn _ (by omega)
  rw [show ((a : Int) * 65536 % 4294967296) = ((a * 65536 % 4294967296 : Nat) : Int) by omega, hw]
  unfold Fl.sgn unF
  simp only [show (3 : Int) = 0 ↔ False by decide, show (3 : Int) = 1 ↔ False by decide, show (3 : Int) = 2 ↔ False by decide, if_false, if_true]
  split <;> split <;> omega
theorem pld0 (X : Nat) (a v : Nat) (s : MS) (w : World) (o : Option Nat) (ha : a < 4294967296) (hs : s.Ok) (h : PM w X s) (hx : ldX s a 1 = v) (hv : v < 4294967296) (ho : badN s 1 a 1 = o) :
    Calls Try.prog 164 #[.pointer (some ⟨X, 0, none⟩), .int .i64 0, .int .u32 a] w fun e w' => e = .returned (.tuple #[.int .u32 v, .agg #[.int .i64 (stK 5 o), .int .u32 (stA o)]]) ∧ Below w.heap.size w w' :=
  acl0 X a v s w o ha hs h hx hv ho
theorem pld1 (X : Nat) (a v : Nat) (s : MS) (w : World) (o : Option Nat) (ha : a < 4294967296) (hs : s.Ok) (h : PM w X s) (hx : ldX s a 1 = v) (hv : v < 4294967296) (ho : badN s 1 a 1 = o) :
    Calls Try.prog 164 #[.pointer (some ⟨X, 0, none⟩), .int .i64 1, .int .u32 a] w fun e w' => e = .returned (.tuple #[.int .u32 (unF 2 v : Nat), .agg #[.int .i64 (stK 5 o), .int .u32 (stA o)]]) ∧ Below w.heap.size w w' :=
  acl1 X a v s w o ha hs h hx hv ho _ (sig8p v hv)
theorem pld2 (X : Nat) (a v : Nat) (s : MS) (w : World) (o : Option Nat) (ha : a < 4294967296) (hs : s.Ok) (h : PM w X s) (hx : ldX s a 2 = v) (hv : v < 4294967296) (ho : badN s 1 a 2 = o) :
    Calls Try.prog 164 #[.pointer (some ⟨X, 0, none⟩), .int .i64 2, .int .u32 a] w fun e w' => e = .returned (.tuple #[.int .u32 v, .agg #[.int .i64 (stK 5 o), .int .u32 (stA o)]]) ∧ Below w.heap.size w w' :=
  acl2 X a v s w o ha hs h hx hv ho
theorem pld3 (X : Nat) (a v : Nat) (s : MS) (w : World) (o : Option Nat) (ha : a < 4294967296) (hs : s.Ok) (h : PM w X s) (hx : ldX s a 2 = v) (hv : v < 4294967296) (ho : badN s 1 a 2 = o) :
    Calls Try.prog 164 #[.pointer (some ⟨X, 0, none⟩), .int .i64 3, .int .u32 a] w fun e w' => e = .returned (.tuple #[.int .u32 (unF 3 v : Nat), .agg #[.int .i64 (stK 5 o), .int .u32 (stA o)]]) ∧ Below w.heap.size w w' :=
  acl3 X a v s w o ha hs h hx hv ho _ (sig16p v hv)
theorem pld4 (X : Nat) (a v : Nat) (s : MS) (w : World) (o : Option Nat) (ha : a < 4294967296) (hs : s.Ok) (h : PM w X s) (hx : ldX s a 4 = v) (hv : v < 4294967296) (ho : badN s 1 a 4 = o) :
    Calls Try.prog 164 #[.pointer (some ⟨X, 0, none⟩), .int .i64 4, .int .u32 a] w fun e w' => e = .returned (.tuple #[.int .u32 v, .agg #[.int .i64 (stK 5 o), .int .u32 (stA o)]]) ∧ Below w.heap.size w w' :=
  acl4 X a v s w o ha hs h hx hv ho
end Go.Proofs.Ytkgbjpdoigdjnaa
