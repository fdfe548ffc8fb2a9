import Derived.Test.YtkgbjpdoigdjnaaJ03
namespace Go.Proofs.Ytkgbjpdoigdjnaa
open Go.RowKit
set_option maxRecDepth 100000
set_option linter.unusedVariables false
set_option linter.unusedSimpArgs false

/-! ## Loads and stores of numbers: package access -/
theorem ac_cell {w : World} {X : Nat} {A : Array Value} {T : TypeId} (h : w.heap[X]? = some (.cells A T)) (o : Nat) : w.cell? ⟨X, o, none⟩ = A[o]? := cell_of_row _ _ o _ _ (0, 0) h
theorem ac_fr {w : World} {X : Nat} {A : Array Value} {T : TypeId} (h : w.heap[X]? = some (.cells A T)) (o : Nat) : w.frozen? ⟨X, o, none⟩ = false := frozen_of_row _ _ o _ _ h
theorem ac_lt {w : World} {X : Nat} {A : Array Value} {T : TypeId} (h : w.heap[X]? = some (.cells A T)) : X < w.heap.size := by
  rcases Nat.lt_or_ge X w.heap.size with g | g
  · exact g
  · rw [Array.getElem?_eq_none g] at h; cases h
theorem ac_old (w : World) (o : Obj) (b : Nat) (h : b < w.heap.size) : (w.alloc o).heap[b]? = w.heap[b]? := ((Below.refl w.heap.size w).alloc (Nat.le_refl _) o).block b h
theorem ac_3 (w : World) (o1 o2 o3 : Obj) : (((w.alloc o1).alloc o2).alloc o3).heap[w.heap.size + 1 + 1]? = some o3 := by
  have := heap_alloc_last ((w.alloc o1).alloc o2) o3
  rwa [show ((w.alloc o1).alloc o2).heap.size = w.heap.size + 1 + 1 by simp] at this
set_option maxHeartbeats 1000000 in
theorem acl0 (X : Nat) (a v : Nat) (s : MS) (w : World) (o : Option Nat) (ha : a < 4294967296) (hs : s.Ok) (h : PM w X s) (hx : ldX s a 1 = v) (hv : v < 4294967296) (ho : badN s 1 a 1 = o) :
    Calls Try.prog 164 #[.pointer (some ⟨X, 0, none⟩), .int .i64 0, .int .u32 a] w fun e w' => e = .returned (.tuple #[.int .u32 v, .agg #[.int .i64 (stK 5 o), .int .u32 (stA o)]]) ∧ Below w.heap.size w w' := by
  have HC : Hid (∀ W, Below w.heap.size w W → Calls Try.prog 73 #[.pointer (some ⟨X, 0, none⟩), .int .u32 a, .int .i64 1] W fun e w' => e = .returned (.tuple #[.int .u32 v, .agg #[.int .i64 (stK 5 o), .int .u32 (stA o)]]) ∧ Below W.heap.size W w') := show ∀ W, _ from fun W hW => by
    have := load_tot X a 1 s W ha hs (h.below hW h.lt)
    rw [hx, show badN s 1 a (1 : Int).toNat = o from ho] at this
    exact this
  clear hx ho h hs
  generalize stK 5 o = kk at *
  generalize stA o = aa at *
  go_enter Try.func164, Try.ntmps164
  go_wp2_with (go_at_call 73; refine (HC.out _ ?_).mono ?_; (focus ((repeat first | with_reducible exact Below.refl _ _ | with_reducible exact hB | with_reducible refine Below.drew ?_ | with_reducible refine Below.alloc ?_ (by first | (simp; done) | (simp; omega) | omega) _ | with_reducible refine Below.setCell ?_ (by first | (simp; done) | (simp; omega) | omega) _))); rintro e w1 ⟨rfl, h1⟩; have HB7 : Hid (w1.heap[w.heap.size]? = some (.cells #[.int .i64 0, .int .u32 0] 66)) := (h1.block _ (by simp; omega)).trans ((ac_old _ _ _ (by simp; omega)).trans ((ac_old _ _ _ (by simp)).trans (heap_alloc_last w _))); have HBB : Hid (Below w.heap.size w w1) := (Below.trans (by (repeat first | with_reducible exact Below.refl _ _ | with_reducible exact hB | with_reducible refine Below.drew ?_ | with_reducible refine Below.alloc ?_ (by first | (simp; done) | (simp; omega) | omega) _ | with_reducible refine Below.setCell ?_ (by first | (simp; done) | (simp; omega) | omega) _)) (h1.mono (by simp; omega))); have q0 : w1.cell? ⟨w.heap.size, 0, none⟩ = some (.int .i64 0) := ac_cell HB7.out 0; have q1 : w1.cell? ⟨w.heap.size, 1, none⟩ = some (.int .u32 0) := ac_cell HB7.out 1; have fr := ac_fr HB7.out; have l7 := ac_lt HB7.out; have l7b := Nat.lt_succ_of_lt l7; have HB9 : Hid (w1.heap[w.heap.size + 1 + 1]? = some (.cells #[.int .i64 1, .bool false] 234)) := (h1.block _ (by simp)).trans (ac_3 w _ _ _); have z0 : w1.cell? ⟨w.heap.size + 1 + 1, 0, none⟩ = some (.int .i64 1) := ac_cell HB9.out 0; have z1 : w1.cell? ⟨w.heap.size + 1 + 1, 1, none⟩ = some (.bool false) := ac_cell HB9.out 1; have l9 := ac_lt HB9.out; have l9b := Nat.lt_succ_of_lt l9; clear h1)
  all_goals go_region
  all_goals go_wp2
  all_goals exact bodyPost_ret (v := .tuple #[.int .u32 v, .agg #[.int .i64 kk, .int .u32 aa]]) (by simp [results, Try.results164, go_sem, q0, q1, fr, l7]) rfl ⟨rfl, by
    have hB := HBB.out
    (repeat first | with_reducible exact Below.refl _ _ | with_reducible exact hB | with_reducible refine Below.drew ?_ | with_reducible refine Below.alloc ?_ (by first | (simp; done) | (simp; omega) | omega) _ | with_reducible refine Below.setCell ?_ (by first | (simp; done) | (simp; omega) | omega) _)⟩
set_option maxHeartbeats 1000000 in
theorem acl1 (X : Nat) (a v : Nat) (s : MS) (w : World) (o : Option Nat) (ha : a < 4294967296) (hs : s.Ok) (h : PM w X s) (hx : ldX s a 1 = v) (hv : v < 4294967296) (ho : badN s 1 a 1 = o) (r : Nat) (hr : wrap32 ((v : Int) * 16777216 % 4294967296) / 16777216 % 4294967296 = (r : Int)) :
    Calls Try.prog 164 #[.pointer (some ⟨X, 0, none⟩), .int .i64 1, .int .u32 a] w fun e w' => e = .returned (.tuple #[.int .u32 r, .agg #[.int .i64 (stK 5 o), .int .u32 (stA o)]]) ∧ Below w.heap.size w w' := by
  have HC : Hid (∀ W, Below w.heap.size w W → Calls Try.prog 73 #[.pointer (some ⟨X, 0, none⟩), .int .u32 a, .int .i64 1] W fun e w' => e = .returned (.tuple #[.int .u32 v, .agg #[.int .i64 (stK 5 o), .int .u32 (stA o)]]) ∧ Below W.heap.size W w') := show ∀ W, _ from fun W hW => by
    have := load_tot X a 1 s W ha hs (h.below hW h.lt)
    rw [hx, show badN s 1 a (1 : Int).toNat = o from ho] at this
    exact this
  clear hx ho h hs
  generalize stK 5 o = kk at *
  generalize stA o = aa at *
  go_enter Try.func164, Try.ntmps164
  go_wp2_with (go_at_call 73; refine (HC.out _ ?_).mono ?_; (focus ((repeat first | with_reducible exact Below.refl _ _ | with_reducible exact hB | with_reducible refine Below.drew ?_ | with_reducible refine Below.alloc ?_ (by first | (simp; done) | (simp; omega) | omega) _ | with_reducible refine Below.setCell ?_ (by first | (simp; done) | (simp; omega) | omega) _))); rintro e w1 ⟨rfl, h1⟩; have HB7 : Hid (w1.heap[w.heap.size]? = some (.cells #[.int .i64 0, .int .u32 0] 66)) := (h1.block _ (by simp; omega)).trans ((ac_old _ _ _ (by simp; omega)).trans ((ac_old _ _ _ (by simp)).trans (heap_alloc_last w _))); have HBB : Hid (Below w.heap.size w w1) := (Below.trans (by (repeat first | with_reducible exact Below.refl _ _ | with_reducible exact hB | with_reducible refine Below.drew ?_ | with_reducible refine Below.alloc ?_ (by first | (simp; done) | (simp; omega) | omega) _ | with_reducible refine Below.setCell ?_ (by first | (simp; done) | (simp; omega) | omega) _)) (h1.mono (by simp; omega))); have q0 : w1.cell? ⟨w.heap.size, 0, none⟩ = some (.int .i64 0) := ac_cell HB7.out 0; have q1 : w1.cell? ⟨w.heap.size, 1, none⟩ = some (.int .u32 0) := ac_cell HB7.out 1; have fr := ac_fr HB7.out; have l7 := ac_lt HB7.out; have l7b := Nat.lt_succ_of_lt l7; have HB9 : Hid (w1.heap[w.heap.size + 1 + 1]? = some (.cells #[.int .i64 1, .bool true] 234)) := (h1.block _ (by simp)).trans (ac_3 w _ _ _); have z0 : w1.cell? ⟨w.heap.size + 1 + 1, 0, none⟩ = some (.int .i64 1) := ac_cell HB9.out 0; have z1 : w1.cell? ⟨w.heap.size + 1 + 1, 1, none⟩ = some (.bool true) := ac_cell HB9.out 1; have l9 := ac_lt HB9.out; have l9b := Nat.lt_succ_of_lt l9; clear h1)
  all_goals go_region
  all_goals go_wp2
  all_goals exact bodyPost_ret (v := .tuple #[.int .u32 r, .agg #[.int .i64 kk, .int .u32 aa]]) (by simp [results, Try.results164, go_sem, q0, q1, fr, l7, hr]) rfl ⟨rfl, by
    have hB := HBB.out
    (repeat first | with_reducible exact Below.refl _ _ | with_reducible exact hB | with_reducible refine Below.drew ?_ | with_reducible refine Below.alloc ?_ (by first | (simp; done) | (simp; omega) | omega) _ | with_reducible refine Below.setCell ?_ (by first | (simp; done) | (simp; omega) | omega) _)⟩
set_option maxHeartbeats 1000000 in
theorem acl2 (X : Nat) (a v : Nat) (s : MS) (w : World) (o : Option Nat) (ha : a < 4294967296) (hs : s.Ok) (h : PM w X s) (hx : ldX s a 2 = v) (hv : v < 4294967296) (ho : badN s 1 a 2 = o) :
    Calls Try.prog 164 #[.pointer (some ⟨X, 0, none⟩), .int .i64 2, .int .u32 a] w fun e w' => e = .returned (.tuple #[.int .u32 v, .agg #[.int .i64 (stK 5 o), .int .u32 (stA o)]]) ∧ Below w.heap.size w w' := by
  have HC : Hid (∀ W, Below w.heap.size w W → Calls Try.prog 73 #[.pointer (some ⟨X, 0, none⟩), .int .u32 a, .int .i64 2] W fun e w' => e = .returned (.tuple #[.int .u32 v, .agg #[.int .i64 (stK 5 o), .int .u32 (stA o)]]) ∧ Below W.heap.size W w') := show ∀ W, _ from fun W hW => by
    have := load_tot X a 2 s W ha hs (h.below hW h.lt)
    rw [hx, show badN s 1 a (2 : Int).toNat = o from ho] at this
    exact this
  clear hx ho h hs
  generalize stK 5 o = kk at *
  generalize stA o = aa at *
  go_enter Try.func164, Try.ntmps164
  go_wp2_with (go_at_call 73; refine (HC.out _ ?_).mono ?_; (focus ((repeat first | with_reducible exact Below.refl _ _ | with_reducible exact hB | with_reducible refine Below.drew ?_ | with_reducible refine Below.alloc ?_ (by first | (simp; done) | (simp; omega) | omega) _ | with_reducible refine Below.setCell ?_ (by first | (simp; done) | (simp; omega) | omega) _))); rintro e w1 ⟨rfl, h1⟩; have HB7 : Hid (w1.heap[w.heap.size]? = some (.cells #[.int .i64 0, .int .u32 0] 66)) := (h1.block _ (by simp; omega)).trans ((ac_old _ _ _ (by simp; omega)).trans ((ac_old _ _ _ (by simp)).trans (heap_alloc_last w _))); have HBB : Hid (Below w.heap.size w w1) := (Below.trans (by (repeat first | with_reducible exact Below.refl _ _ | with_reducible exact hB | with_reducible refine Below.drew ?_ | with_reducible refine Below.alloc ?_ (by first | (simp; done) | (simp; omega) | omega) _ | with_reducible refine Below.setCell ?_ (by first | (simp; done) | (simp; omega) | omega) _)) (h1.mono (by simp; omega))); have q0 : w1.cell? ⟨w.heap.size, 0, none⟩ = some (.int .i64 0) := ac_cell HB7.out 0; have q1 : w1.cell? ⟨w.heap.size, 1, none⟩ = some (.int .u32 0) := ac_cell HB7.out 1; have fr := ac_fr HB7.out; have l7 := ac_lt HB7.out; have l7b := Nat.lt_succ_of_lt l7; have HB9 : Hid (w1.heap[w.heap.size + 1 + 1]? = some (.cells #[.int .i64 2, .bool false] 234)) := (h1.block _ (by simp)).trans (ac_3 w _ _ _); have z0 : w1.cell? ⟨w.heap.size + 1 + 1, 0, none⟩ = some (.int .i64 2) := ac_cell HB9.out 0; have z1 : w1.cell? ⟨w.heap.size + 1 + 1, 1, none⟩ = some (.bool false) := ac_cell HB9.out 1; have l9 := ac_lt HB9.out; have l9b := Nat.lt_succ_of_lt l9; clear h1)
  all_goals go_region
  all_goals go_wp2
  all_goals exact bodyPost_ret (v := .tuple #[.int .u32 v, .agg #[.int .i64 kk, .int .u32 aa]]) (by simp [results, Try.results164, go_sem, q0, q1, fr, l7]) rfl ⟨rfl, by
    have hB := HBB.out
    (repeat first | with_reducible exact Below.refl _ _ | with_reducible exact hB | with_reducible refine Below.drew ?_ | with_reducible refine Below.alloc ?_ (by first | (simp; done) | (simp; omega) | omega) _ | with_reducible refine Below.setCell ?_ (by first | (simp; done) | (simp; omega) | omega) _)⟩
set_option maxHeartbeats 1000000 in
theorem acl3 (X : Nat) (a v : Nat) (s : MS) (w : World) (o : Option Nat) (ha : a < 4294967296) (hs : s.Ok) (h : PM w X s) (hx : ldX s a 2 = v) (hv : v < 4294967296) (ho : badN s 1 a 2 = o) (r : Nat) (hr : wrap32 ((v : Int) * 65536 % 4294967296) / 65536 % 4294967296 = (r : Int)) :
    Calls Try.prog 164 #[.pointer (some ⟨X, 0, none⟩), .int .i64 3, .int .u32 a] w fun e w' => e = .returned (.tuple #[.int .u32 r, .agg #[.int .i64 (stK 5 o), .int .u32 (stA o)]]) ∧ Below w.heap.size w w' := by
  have HC : Hid (∀ W, Below w.heap.size w W → Calls Try.prog 73 #[.pointer (some ⟨X, 0, none⟩), .int .u32 a, .int .i64 2] W fun e w' => e = .returned (.tuple #[.int .u32 v, .agg #[.int .i64 (stK 5 o), .int .u32 (stA o)]]) ∧ Below W.heap.size W w') := show ∀ W, _ from fun W hW => by
    have := load_tot X a 2 s W ha hs (h.below hW h.lt)
    rw [hx, show badN s 1 a (2 : Int).toNat = o from ho] at this
    exact this
  clear hx ho h hs
  generalize stK 5 o = kk at *
  generalize stA o = aa at *
  go_enter Try.func164, Try.ntmps164
  go_wp2_with (go_at_call 73; refine (HC.out _ ?_).mono ?_; (focus ((repeat first | with_reducible exact Below.refl _ _ | with_reducible exact hB | with_reducible refine Below.drew ?_ | with_reducible refine Below.alloc ?_ (by first | (simp; done) | (simp; omega) | omega) _ | with_reducible refine Below.setCell ?_ (by first | (simp; done) | (simp; omega) | omega) _))); rintro e w1 ⟨rfl, h1⟩; have HB7 : Hid (w1.heap[w.heap.size]? = some (.cells #[.int .i64 0, .int .u32 0] 66)) := (h1.block _ (by simp; omega)).trans ((ac_old _ _ _ (by simp; omega)).trans ((ac_old _ _ _ (by simp)).trans (heap_alloc_last w _))); have HBB : Hid (Below w.heap.size w w1) := (Below.trans (by (repeat first | with_reducible exact Below.refl _ _ | with_reducible exact hB | with_reducible refine Below.drew ?_ | with_reducible refine Below.alloc ?_ (by first | (simp; done) | (simp; omega) | omega) _ | with_reducible refine Below.setCell ?_ (by first | (simp; done) | (simp; omega) | omega) _)) (h1.mono (by simp; omega))); have q0 : w1.cell? ⟨w.heap.size, 0, none⟩ = some (.int .i64 0) := ac_cell HB7.out 0; have q1 : w1.cell? ⟨w.heap.size, 1, none⟩ = some (.int .u32 0) := ac_cell HB7.out 1; have fr := ac_fr HB7.out; have l7 := ac_lt HB7.out; have l7b := Nat.lt_succ_of_lt l7; have HB9 : Hid (w1.heap[w.heap.size + 1 + 1]? = some (.cells #[.int .i64 2, .bool true] 234)) := (h1.block _ (by simp)).trans (ac_3 w _ _ _); have z0 : w1.cell? ⟨w.heap.size + 1 + 1, 0, none⟩ = some (.int .i64 2) := ac_cell HB9.out 0; have z1 : w1.cell? ⟨w.heap.size + 1 + 1, 1, none⟩ = some (.bool true) := ac_cell HB9.out 1; have l9 := ac_lt HB9.out; have l9b := Nat.lt_succ_of_lt l9; clear h1)
  all_goals go_region
  all_goals go_wp2
  all_goals exact bodyPost_ret (v := .tuple #[.int .u32 r, .agg #[.int .i64 kk, .int .u32 aa]]) (by simp [results, Try.results164, go_sem, q0, q1, fr, l7, hr]) rfl ⟨rfl, by
    have hB := HBB.out
    (repeat first | with_reducible exact Below.refl _ _ | with_reducible exact hB | with_reducible refine Below.drew ?_ | with_reducible refine Below.alloc ?_ (by first | (simp; done) | (simp; omega) | omega) _ | with_reducible refine Below.setCell ?_ (by first | (simp; done) | (simp; omega) | omega) _)⟩
set_option maxHeartbeats 1000000 in
theorem acl4 (X : Nat) (a v : Nat) (s : MS) (w : World) (o : Option Nat) (ha : a < 4294967296) (hs : s.Ok) (h : PM w X s) (hx : ldX s a 4 = v) (hv : v < 4294967296) (ho : badN s 1 a 4 = o) :
    Calls Try.prog 164 #[.pointer (some ⟨X, 0, none⟩), .int .i64 4, .int .u32 a] w fun e w' => e = .returned (.tuple #[.int .u32 v, .agg #[.int .i64 (stK 5 o), .int .u32 (stA o)]]) ∧ Below w.heap.size w w' := by
  have HC : Hid (∀ W, Below w.heap.size w W → Calls Try.prog 73 #[.pointer (some ⟨X, 0, none⟩), .int .u32 a, .int .i64 4] W fun e w' => e = .returned (.tuple #[.int .u32 v, .agg #[.int .i64 (stK 5 o), .int .u32 (stA o)]]) ∧ Below W.heap.size W w') := show ∀ W, _ from fun W hW => by
    have := load_tot X a 4 s W ha hs (h.below hW h.lt)
    rw [hx, show badN s 1 a (4 : Int).toNat = o from ho] at this
    exact this
  clear hx ho h hs
  generalize stK 5 o = kk at *
  generalize stA o = aa at *
  go_enter Try.func164, Try.ntmps164
  go_wp2_with (go_at_call 73; refine (HC.out _ ?_).mono ?_; (focus ((repeat first | with_reducible exact Below.refl _ _ | with_reducible exact hB | with_reducible refine Below.drew ?_ | with_reducible refine Below.alloc ?_ (by first | (simp; done) | (simp; omega) | omega) _ | with_reducible refine Below.setCell ?_ (by first | (simp; done) | (simp; omega) | omega) _))); rintro e w1 ⟨rfl, h1⟩; have HB7 : Hid (w1.heap[w.heap.size]? = some (.cells #[.int .i64 0, .int .u32 0] 66)) := (h1.block _ (by simp; omega)).trans ((ac_old _ _ _ (by simp; omega)).trans ((ac_old _ _ _ (by simp)).trans (heap_alloc_last w _))); have HBB : Hid (Below w.heap.size w w1) := (Below.trans (by (repeat first | with_reducible exact Below.refl _ _ | with_reducible exact hB | with_reducible refine Below.drew ?_ | with_reducible refine Below.alloc ?_ (by first | (simp; done) | (simp; omega) | omega) _ | with_reducible refine Below.setCell ?_ (by first | (simp; done) | (simp; omega) | omega) _)) (h1.mono (by simp; omega))); have q0 : w1.cell? ⟨w.heap.size, 0, none⟩ = some (.int .i64 0) := ac_cell HB7.out 0; have q1 : w1.cell? ⟨w.heap.size, 1, none⟩ = some (.int .u32 0) := ac_cell HB7.out 1; have fr := ac_fr HB7.out; have l7 := ac_lt HB7.out; have l7b := Nat.lt_succ_of_lt l7; have HB9 : Hid (w1.heap[w.heap.size + 1 + 1]? = some (.cells #[.int .i64 4, .bool false] 234)) := (h1.block _ (by simp)).trans (ac_3 w _ _ _); have z0 : w1.cell? ⟨w.heap.size + 1 + 1, 0, none⟩ = some (.int .i64 4) := ac_cell HB9.out 0; have z1 : w1.cell? ⟨w.heap.size + 1 + 1, 1, none⟩ = some (.bool false) := ac_cell HB9.out 1; have l9 := ac_lt HB9.out; have l9b := Nat.lt_succ_of_lt l9; clear h1)
  all_goals go_region
  all_goals go_wp2
  all_goals exact bodyPost_ret (v := .tuple #[.int .u32 v, .agg #[.int .i64 kk, .int .u32 aa]]) (by simp [results, Try.results164, go_sem, q0, q1, fr, l7]) rfl ⟨rfl, by
    have hB := HBB.out
    (repeat first | with_reducible exact Below.refl _ _ | with_reducible exact hB | with_reducible refine Below.drew ?_ | with_reducible refine Below.alloc ?_ (by first | (simp; done) | (simp; omega) | omega) _ | with_reducible refine Below.setCell ?_ (by first | (simp; done) | (simp; omega) | omega) _)⟩
set_option maxHeartbeats 1000000 in
theorem acs0 (X : Nat) (a v : Nat) (s : MS) (w : World) (o : Option Nat) (ha : a < 4294967296) (hv : v < 4294967296) (hs : s.Ok) (h : PM w X s) (ho : sto s a 1 = o) :
    Calls Try.prog 165 #[.pointer (some ⟨X, 0, none⟩), .int .i64 0, .int .u32 a, .int .u32 v] w fun e w' => e = .returned (.agg #[.int .i64 (stK 6 o), .int .u32 (stA o)]) ∧ PM w' X (storeT s a 1 v) ∧ Chg [X] w w' := by
  have HC : Hid (∀ W, Below w.heap.size w W → Calls Try.prog 75 #[.pointer (some ⟨X, 0, none⟩), .int .u32 a, .int .i64 1, .int .u32 v] W fun e w' => e = .returned (.agg #[.int .i64 (stK 6 o), .int .u32 (stA o)]) ∧ PM w' X (storeT s a 1 v) ∧ Chg [X] W w') := show ∀ W, _ from fun W hW => by
    have := store_tot X a v 1 s W ha hv hs (h.below hW h.lt)
    rw [ho] at this
    exact this
  have HX : Hid (X < w.heap.size) := h.lt
  clear ho h hs
  generalize stK 6 o = kk at *
  generalize stA o = aa at *
  go_enter Try.func165, Try.ntmps165
  go_wp2_with (go_at_call 75; refine (HC.out _ ?_).mono ?_; (focus ((repeat first | with_reducible exact Below.refl _ _ | with_reducible exact hB | with_reducible refine Below.drew ?_ | with_reducible refine Below.alloc ?_ (by first | (simp; done) | (simp; omega) | omega) _ | with_reducible refine Below.setCell ?_ (by first | (simp; done) | (simp; omega) | omega) _))); rintro e w1 ⟨rfl, hp, hc⟩; have HPM : Hid _ := hp; have hXl := HX.out; have HB8 : Hid (w1.heap[w.heap.size]? = some (.cells #[.int .i64 0, .int .u32 0] 66)) := (hc.block _ (by simp; omega) (by simp; omega)).trans ((ac_old _ _ _ (by simp)).trans (heap_alloc_last w _)); have HCH : Hid _ := hc; have q0 : w1.cell? ⟨w.heap.size, 0, none⟩ = some (.int .i64 0) := ac_cell HB8.out 0; have q1 : w1.cell? ⟨w.heap.size, 1, none⟩ = some (.int .u32 0) := ac_cell HB8.out 1; have fr := ac_fr HB8.out; have l8 := ac_lt HB8.out; clear hp hc)
  exact bodyPost_ret (v := .agg #[.int .i64 kk, .int .u32 aa]) (by simp [results, Try.results165, go_sem, q0, q1, fr, l8]) rfl ⟨rfl, HPM.out.of_block ((Below.heap_setCell _ _ _ X (Nat.ne_of_lt HX.out)).trans (Below.heap_setCell _ _ _ X (Nat.ne_of_lt HX.out))), Chg.new (Chg.trans (Chg.of_below [X] (((Below.refl w.heap.size w).alloc (Nat.le_refl _) _).alloc (by simp) _)) HCH.out) (Nat.le_refl _) (((Only.refl _ w1).setCell 0 _).setCell 1 _)⟩
set_option maxHeartbeats 1000000 in
theorem acs1 (X : Nat) (a v : Nat) (s : MS) (w : World) (o : Option Nat) (ha : a < 4294967296) (hv : v < 4294967296) (hs : s.Ok) (h : PM w X s) (ho : sto s a 2 = o) :
    Calls Try.prog 165 #[.pointer (some ⟨X, 0, none⟩), .int .i64 1, .int .u32 a, .int .u32 v] w fun e w' => e = .returned (.agg #[.int .i64 (stK 6 o), .int .u32 (stA o)]) ∧ PM w' X (storeT s a 2 v) ∧ Chg [X] w w' := by
  have HC : Hid (∀ W, Below w.heap.size w W → Calls Try.prog 75 #[.pointer (some ⟨X, 0, none⟩), .int .u32 a, .int .i64 2, .int .u32 v] W fun e w' => e = .returned (.agg #[.int .i64 (stK 6 o), .int .u32 (stA o)]) ∧ PM w' X (storeT s a 2 v) ∧ Chg [X] W w') := show ∀ W, _ from fun W hW => by
    have := store_tot X a v 2 s W ha hv hs (h.below hW h.lt)
    rw [ho] at this
    exact this
  have HX : Hid (X < w.heap.size) := h.lt
  clear ho h hs
  generalize stK 6 o = kk at *
  generalize stA o = aa at *
  go_enter Try.func165, Try.ntmps165
  go_wp2_with (go_at_call 75; refine (HC.out _ ?_).mono ?_; (focus ((repeat first | with_reducible exact Below.refl _ _ | with_reducible exact hB | with_reducible refine Below.drew ?_ | with_reducible refine Below.alloc ?_ (by first | (simp; done) | (simp; omega) | omega) _ | with_reducible refine Below.setCell ?_ (by first | (simp; done) | (simp; omega) | omega) _))); rintro e w1 ⟨rfl, hp, hc⟩; have HPM : Hid _ := hp; have hXl := HX.out; have HB8 : Hid (w1.heap[w.heap.size]? = some (.cells #[.int .i64 0, .int .u32 0] 66)) := (hc.block _ (by simp; omega) (by simp; omega)).trans ((ac_old _ _ _ (by simp)).trans (heap_alloc_last w _)); have HCH : Hid _ := hc; have q0 : w1.cell? ⟨w.heap.size, 0, none⟩ = some (.int .i64 0) := ac_cell HB8.out 0; have q1 : w1.cell? ⟨w.heap.size, 1, none⟩ = some (.int .u32 0) := ac_cell HB8.out 1; have fr := ac_fr HB8.out; have l8 := ac_lt HB8.out; clear hp hc)
  exact bodyPost_ret (v := .agg #[.int .i64 kk, .int .u32 aa]) (by simp [results, Try.results165, go_sem, q0, q1, fr, l8]) rfl ⟨rfl, HPM.out.of_block ((Below.heap_setCell _ _ _ X (Nat.ne_of_lt HX.out)).trans (Below.heap_setCell _ _ _ X (Nat.ne_of_lt HX.out))), Chg.new (Chg.trans (Chg.of_below [X] (((Below.refl w.heap.size w).alloc (Nat.le_refl _) _).alloc (by simp) _)) HCH.out) (Nat.le_refl _) (((Only.refl _ w1).setCell 0 _).setCell 1 _)⟩
set_option maxHeartbeats 1000000 in
theorem acs2 (X : Nat) (a v : Nat) (s : MS) (w : World) (o : Option Nat) (ha : a < 4294967296) (hv : v < 4294967296) (hs : s.Ok) (h : PM w X s) (ho : sto s a 4 = o) :
    Calls Try.prog 165 #[.pointer (some ⟨X, 0, none⟩), .int .i64 2, .int .u32 a, .int .u32 v] w fun e w' => e = .returned (.agg #[.int .i64 (stK 6 o), .int .u32 (stA o)]) ∧ PM w' X (storeT s a 4 v) ∧ Chg [X] w w' := by
  have HC : Hid (∀ W, Below w.heap.size w W → Calls Try.prog 75 #[.pointer (some ⟨X, 0, none⟩), .int .u32 a, .int .i64 4, .int .u32 v] W fun e w' => e = .returned (.agg #[.int .i64 (stK 6 o), .int .u32 (stA o)]) ∧ PM w' X (storeT s a 4 v) ∧ Chg [X] W w') := show ∀ W, _ from fun W hW => by
    have := store_tot X a v 4 s W ha hv hs (h.below hW h.lt)
    rw [ho] at this
    exact this
  have HX : Hid (X < w.heap.size) := h.lt
  clear ho h hs
  generalize stK 6 o = kk at *
  generalize stA o = aa at *
  go_enter Try.func165, Try.ntmps165
  go_wp2_with (go_at_call 75; refine (HC.out _ ?_).mono ?_; (focus ((repeat first | with_reducible exact Below.refl _ _ | with_reducible exact hB | with_reducible refine Below.drew ?_ | with_reducible refine Below.alloc ?_ (by first | (simp; done) | (simp; omega) | omega) _ | with_reducible refine Below.setCell ?_ (by first | (simp; done) | (simp; omega) | omega) _))); rintro e w1 ⟨rfl, hp, hc⟩; have HPM : Hid _ := hp; have hXl := HX.out; have HB8 : Hid (w1.heap[w.heap.size]? = some (.cells #[.int .i64 0, .int .u32 0] 66)) := (hc.block _ (by simp; omega) (by simp; omega)).trans ((ac_old _ _ _ (by simp)).trans (heap_alloc_last w _)); have HCH : Hid _ := hc; have q0 : w1.cell? ⟨w.heap.size, 0, none⟩ = some (.int .i64 0) := ac_cell HB8.out 0; have q1 : w1.cell? ⟨w.heap.size, 1, none⟩ = some (.int .u32 0) := ac_cell HB8.out 1; have fr := ac_fr HB8.out; have l8 := ac_lt HB8.out; clear hp hc)
  exact bodyPost_ret (v := .agg #[.int .i64 kk, .int .u32 aa]) (by simp [results, Try.results165, go_sem, q0, q1, fr, l8]) rfl ⟨rfl, HPM.out.of_block ((Below.heap_setCell _ _ _ X (Nat.ne_of_lt HX.out)).trans (Below.heap_setCell _ _ _ X (Nat.ne_of_lt HX.out))), Chg.new (Chg.trans (Chg.of_below [X] (((Below.refl w.heap.size w).alloc (Nat.le_refl _) _).alloc (by simp) _)) HCH.out) (Nat.le_refl _) (((Only.refl _ w1).setCell 0 _).setCell 1 _)⟩
end Go.Proofs.Ytkgbjpdoigdjnaa
