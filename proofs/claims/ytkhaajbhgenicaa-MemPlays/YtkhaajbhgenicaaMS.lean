import Derived.Test.YtkhaajbhgenicaaMR
namespace Go.Proofs.Ytkhaajbhgenicaa
open Go.RowKit
set_option maxRecDepth 100000
set_option linter.unusedVariables false

theorem Below.toChg {w w' : World} {n : Nat} (S : List Nat) (h : Below n w w') (hn : w.heap.size ≤ n) : Chg S w w' :=
  ⟨h.os, h.tape, h.output, h.size, fun k hk _ => h.block k (by omega)⟩
theorem Both.fin {w w' : World} {X : Nat} {k : RB} {s : MS} (h : Both w X k s) (hb : Below w.heap.size w w') : Fin w X k w' := ⟨⟨s, h.below hb (Nat.le_refl _)⟩, Chg.of_below _ hb⟩
theorem Own.bel {w w1 w2 : World} {A N V : Int} {bp : Option Addr} {n c : Nat} {on : Bool} (h : Own w w1 A N V bp n c on) (hb : Below w1.heap.size w1 w2) : Own w w2 A N V bp n c on :=
  own_of2 (S := []) h (Chg.of_below _ hb) (by simp) (Nat.le_of_lt (lt_of_cell h.f1))

set_option maxHeartbeats 2000000 in
theorem step3 (X A : Nat) (k : RB) (N V : Int) (bp : Option Addr) (n c : Nat) (on : Bool) (s : MS) (w : World) (h : Both w X k s) (hA : A < 4294967296) :
    Calls Try.prog 19 #[.pointer (some ⟨X, 0, none⟩), .pointer (some ⟨k.y, 0, none⟩), .agg (stepC 3 A N V bp n c on)] w fun e w' => e = .returned (.bool true) ∧ Fin w X k w' := by
  have HB : Hid (Both w X k s) := h
  clear h
  have hB0 : Both (w.alloc (.cells (stepC 3 A N V bp n c on) 46)) X k s := HB.out.alloc _
  have O0 : Own w (w.alloc (.cells (stepC 3 A N V bp n c on) 46)) A N V bp n c on := own_of (Chg.refl _ _) HB.out.ltX
  have L0 : Below w.heap.size w (w.alloc (.cells (stepC 3 A N V bp n c on) 46)) := (Below.refl _ _).alloc (Nat.le_refl _) _
  go_enter Try.func19, Try.ntmps19
  go_wp2_with first
    | (go_at_call 35; refine (load_tot X A N s _ hA HB.out.ok hB0.pm).mono ?_; rintro e w1 ⟨rfl, hL1⟩; have O1 := O0.bel hL1; have p1 := O1.f1; have p2 := O1.f2; have hz1 : w.heap.size < w1.heap.size := lt_of_cell p1; have HB1 : Hid (Both w1 X k s) := hB0.below hL1 (Nat.le_refl _); have HL1 : Hid (Below w.heap.size w w1) := L0.trans (hL1.mono (by simp)); clear hL1)
    | (go_at_call 36; refine (rload_tot k A N s _ hA HB.out.ok (HB1.out.alloc _).rm).mono ?_; rintro e w2 ⟨rfl, hL2⟩; obtain ⟨t2, t3, -, hz2⟩ := own2 hL2; have HL2 : Hid (Below w.heap.size w w2) := (HL1.out.alloc (by omega) _).trans (hL2.mono (by simp; omega)); clear hL2)
  go_ret
  exact ⟨rfl, HB.out.fin (HL2.out.alloc (by omega) _)⟩

set_option maxHeartbeats 2000000 in
theorem step8 (X : Nat) (k : RB) (A N V : Int) (bp : Option Addr) (n c : Nat) (on : Bool) (s : MS) (w : World) (h : Both w X k s) :
    Calls Try.prog 19 #[.pointer (some ⟨X, 0, none⟩), .pointer (some ⟨k.y, 0, none⟩), .agg (stepC 8 A N V bp n c on)] w fun e w' => e = .returned (.bool true) ∧ Fin w X k w' := by
  have HB : Hid (Both w X k s) := h
  clear h
  have L0 : Hid (Below w.heap.size w (w.alloc (.cells (stepC 8 A N V bp n c on) 46))) := (Below.refl _ _).alloc (Nat.le_refl _) _
  have HB0 : Hid (Both (w.alloc (.cells (stepC 8 A N V bp n c on) 46)) X k s) := HB.out.alloc _
  by_cases h0 : 0 ≤ N
  · by_cases h1 : N < 256
    · obtain ⟨p, rfl⟩ : ∃ p : Nat, N = p := ⟨N.toNat, by omega⟩
      have hp : p < 256 := by omega
      have e : rightV s p = s.R p := if_pos ⟨h0, h1⟩
      have hr := HB.out.rm
      have d1 := hr.c1
      have c1 := hr.ri p hp
      have ly := hr.lty
      have lr := hr.ltr
      have HE : Hid (rightV s p = s.R p) := e
      clear hr e
      go_enter Try.func19, Try.ntmps19
      go_wp2
      go_region
      all_goals
        go_wp2_with (go_at_call 45; refine (rights_tot X p s _ HB0.out.drew.pm).mono ?_; rintro e w1 ⟨rfl, rfl⟩; rw [HE.out])
        go_ret
        exact ⟨rfl, HB.out.fin L0.out.drew⟩
    · have HE : Hid (rightV s N = 0) := if_neg (fun h => h1 h.2)
      have d1 : decide (N < 256) = false := decide_eq_false h1
      go_enter Try.func19, Try.ntmps19
      go_wp2_with (go_at_call 45; refine (rights_tot X N s _ HB0.out.pm).mono ?_; rintro e w1 ⟨rfl, rfl⟩; rw [HE.out])
      go_ret
      exact ⟨rfl, HB.out.fin L0.out⟩
  · have HE : Hid (rightV s N = 0) := if_neg (fun h => h0 h.1)
    have d1 : decide (0 ≤ N) = false := decide_eq_false h0
    go_enter Try.func19, Try.ntmps19
    go_wp2_with (go_at_call 45; refine (rights_tot X N s _ HB0.out.pm).mono ?_; rintro e w1 ⟨rfl, rfl⟩; rw [HE.out])
    go_ret
    exact ⟨rfl, HB.out.fin L0.out⟩

set_option maxHeartbeats 2000000 in
theorem step9 (X : Nat) (k : RB) (A N V : Int) (bp : Option Addr) (n c : Nat) (on : Bool) (s : MS) (w : World) (h : Both w X k s) :
    Calls Try.prog 19 #[.pointer (some ⟨X, 0, none⟩), .pointer (some ⟨k.y, 0, none⟩), .agg (stepC 9 A N V bp n c on)] w fun e w' => e = .returned (.bool true) ∧ Fin w X k w' := by
  have HB : Hid (Both w X k s) := h
  clear h
  have L0 : Hid (Below w.heap.size w (w.alloc (.cells (stepC 9 A N V bp n c on) 46))) := (Below.refl _ _).alloc (Nat.le_refl _) _
  have HB0 : Hid (Both (w.alloc (.cells (stepC 9 A N V bp n c on) 46)) X k s) := HB.out.alloc _
  go_enter Try.func19, Try.ntmps19
  go_wp2_with first
    | (go_at_call 46; refine (touched_any X s _ HB0.out.pm).mono ?_; rintro e w1 ⟨rfl, rfl⟩)
    | (go_at_call 47; refine (rtouched_any k s _ HB0.out.rm).mono ?_; rintro e w1 ⟨rfl, rfl⟩)
  go_ret
  exact ⟨rfl, HB.out.fin L0.out⟩

set_option maxHeartbeats 2000000 in
theorem stepN (X : Nat) (k : RB) (kind A N V : Int) (bp : Option Addr) (n c : Nat) (on : Bool) (s : MS) (w : World) (h : Both w X k s) (hk : kind < 0 ∨ 9 < kind) :
    Calls Try.prog 19 #[.pointer (some ⟨X, 0, none⟩), .pointer (some ⟨k.y, 0, none⟩), .agg (stepC kind A N V bp n c on)] w fun e w' => e = .returned (.bool true) ∧ Fin w X k w' := by
  have HB : Hid (Both w X k s) := h
  clear h
  have L0 : Hid (Below w.heap.size w (w.alloc (.cells (stepC kind A N V bp n c on) 46))) := (Below.refl _ _).alloc (Nat.le_refl _) _
  have e0 : (kind == 0) = false := by simp; omega
  have e1 : (kind == 1) = false := by simp; omega
  have e2 : (kind == 2) = false := by simp; omega
  have e3 : (kind == 3) = false := by simp; omega
  have e4 : (kind == 4) = false := by simp; omega
  have e5 : (kind == 5) = false := by simp; omega
  have e6 : (kind == 6) = false := by simp; omega
  have e7 : (kind == 7) = false := by simp; omega
  have e8 : (kind == 8) = false := by simp; omega
  have e9 : (kind == 9) = false := by simp; omega
  clear hk
  go_enter Try.func19, Try.ntmps19
  go_wp2
  go_ret
  exact ⟨rfl, HB.out.fin L0.out⟩
end Go.Proofs.Ytkhaajbhgenicaa
