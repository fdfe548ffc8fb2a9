import Derived.Test.YtkhaajbhgenicaaMU
namespace Go.Proofs.Ytkhaajbhgenicaa
open Go.RowKit
set_option maxRecDepth 100000
set_option linter.unusedVariables false

theorem out_chg {p : Option Addr} {m B : Nat} {z : Nat → Int} {S : List Nat} {w2 w3 : World} (h : 0 < m → ∃ H, p = some ⟨H, 0, none⟩ ∧ B ≤ H ∧ NR w2 H m z) (hc : Chg S w2 w3) (hS : ∀ x ∈ S, x < B) : 0 < m → ∃ H, p = some ⟨H, 0, none⟩ ∧ B ≤ H ∧ NR w3 H m z := fun hm => by
  obtain ⟨H, hp, hB, hN⟩ := h hm
  exact ⟨H, hp, hB, hN.of_block (hc.block H (lt_of_cell (hN.cell 0 hm)) (fun hx => by have := hS _ hx; omega))⟩
theorem out_row {w w1 : World} {o : Obj} {p : Option Addr} {m : Nat} {z : Nat → Int} (h : Out (w.alloc o) w1 p m z) : 0 < m → ∃ H, p = some ⟨H, 0, none⟩ ∧ w.heap.size + 1 ≤ H ∧ NR w1 H m z := fun hm => by
  obtain ⟨H, hp, hB, hN⟩ := h.row hm; exact ⟨H, hp, by simpa using hB, hN⟩

set_option maxHeartbeats 4000000 in
theorem step1 (X : Nat) (k : RB) (A N V : Int) (bp : Option Addr) (n c : Nat) (on : Bool) (z : Nat → Int) (s : MS) (w : World) (h : Both w X k s) (hN : I64 N) (ar : AR w X k bp n z) :
    Calls Try.prog 19 #[.pointer (some ⟨X, 0, none⟩), .pointer (some ⟨k.y, 0, none⟩), .agg (stepC 1 A N V bp n c on)] w fun e w' => e = .returned (.bool true) ∧ Fin w X k w' := by
  have HB : Hid (Both w X k s) := h
  have HI : Hid (I64 N) := hN
  have hle := ar.le
  have hni : (n : Int) ≤ 140737488355328 := by omega
  have HNL : Hid (n ≤ maxLen ∧ n ≤ 140737488355328) := ⟨by unfold maxLen; omega, hle⟩
  have HLOW : Hid (∀ b off, 0 < n → bp = some ⟨b, off, none⟩ → b < w.heap.size) := fun b off h0 hp => by
    obtain ⟨b', off', hp', hb, -⟩ := ar.row h0
    rw [hp] at hp'; cases hp'; exact hb
  have M0 : Mid w X k s s A N V bp n c on z (w.alloc (.cells (stepC 1 A N V bp n c on) 46)) :=
    ⟨h.pm.alloc _, h.rm.alloc _, own_of (Chg.refl _ _) HB.out.ltX, ar.chg (Chg.refl _ _).al, (Chg.refl _ _).al, fun x hx => by
      rcases List.mem_cons.1 hx with rfl | hx
      · exact h.pm.lt
      · exact h.rm.lt x hx⟩
  have HBD : Hid (∀ i, i < n → 0 ≤ z i ∧ z i ≤ 255) := ar.bd
  clear h hN hle ar
  go_enter Try.func19, Try.ntmps19
  go_wp2_with first
    | (go_at_call 7; refine (twin_any bp n c z _ HNL.out.2 M0.ar.sr).mono ?_; rintro e w1 ⟨p1, c1, rfl, hO⟩; have M1 := M0.bel hO.bel (by simp) HLOW.out; have o2 := M1.own.f2; have o4 := M1.own.f4; have HO : Hid (0 < n → ∃ H, p1 = some ⟨H, 0, none⟩ ∧ w.heap.size + 1 ≤ H ∧ NR w1 H n z) := out_row hO; clear hO)
    | (go_at_call 31; refine (poke_tot X N p1 n c1 z s _ HI.out (out_sr HO.out) M1.pm).mono ?_; rintro e w2 ⟨rfl, hP2, hC2⟩; have M2 := M1.chgX HB.out.ne hP2 hC2; have o22 := M2.own.f2; have o24 := M2.own.f4; have HO2 : Hid (0 < n → ∃ H, p1 = some ⟨H, 0, none⟩ ∧ w.heap.size + 1 ≤ H ∧ NR w2 H n z) := out_chg HO.out hC2 (fun x hx => Nat.lt_succ_of_lt (HB.out.ltX x hx)); clear hP2 hC2)
    | (go_at_call 10; refine (same_any p1 bp n c1 c z _ HNL.out.1 (out_sr HO2.out) M2.ar.sr).mono ?_; rintro e w3 ⟨rfl, hL3⟩; have M3 := M2.bel hL3 (lt_of_cell M2.own.f2) HLOW.out; have HX3 : Hid (XR (w.heap.size + 1) w3 p1 n z 0 w3) := XR.start (out_keep HO2.out hL3); clear hL3)
  go_loopw [68] (fun i wr => ∃ j : Nat, i = .int .i64 j ∧ XR (w.heap.size + 1) w3 p1 n z j wr) (fun i _ => n - (intOf i).toNat)
  case atStart => exact ⟨0, rfl, HX3.out⟩
  case round =>
    obtain ⟨j, rfl, hx⟩ := hrel
    have HX : Hid (XR (w.heap.size + 1) w3 p1 n z j wr) := hx
    by_cases hlt : j < n
    · obtain ⟨H, rfl, hH, hc, hf⟩ := hx.row (by omega)
      have cj := hc j (Nat.le_refl _) hlt
      have fj := hf j
      have hji : (j : Int) < n := by omega
      have hj0 : (0 : Int) ≤ j := by omega
      clear hx hc hf M0 M1 M2 M3
      go_wp2
      go_roundw
      case rel => exact ⟨j + 1, by go_num, HX.out.next hlt _ hH⟩
      case measure => simp [intOf]; omega
    · have hle := hx.le
      have hji : ¬ (j : Int) < n := by omega
      have M4 := M3.bel hx.bel (Nat.le_refl _) HLOW.out
      have o42 := M4.own.f2
      have o44 := M4.own.f4
      clear hx hle M0 M1 M2 M3
      go_wp2_with (go_at_call 32; refine (rpoke_tot k N bp n c z s _ HI.out HNL.out.1 M4.ar.sr M4.ar.far M4.rm).mono ?_; rintro e w5 ⟨rfl, hR5, hC5⟩; have M5 := M4.chgK HB.out.ne hR5 hC5; have HF : Hid (Fin w X k w5) := ⟨⟨_, ⟨M5.pm, M5.rm, ok_pokeT HB.out.ok _ _ _ HBD.out, HB.out.ne⟩⟩, M5.chg⟩; clear hR5 hC5 M4 M5)
      go_ret
      exact ⟨rfl, HF.out⟩

/-- A step, whatever it is. -/
theorem step_any (X A V : Nat) (k : RB) (kind N : Int) (bp : Option Addr) (n c : Nat) (on : Bool) (z : Nat → Int) (s : MS) (w : World) (h : Both w X k s) (hA : A < 4294967296) (hV : V < 4294967296) (hN : I64 N) (ar : AR w X k bp n z) :
    Calls Try.prog 19 #[.pointer (some ⟨X, 0, none⟩), .pointer (some ⟨k.y, 0, none⟩), .agg (stepC kind A N V bp n c on)] w fun e w' => e = .returned (.bool true) ∧ Fin w X k w' := by
  by_cases hk : kind < 0 ∨ 9 < kind
  · exact stepN X k kind A N V bp n c on s w h hk
  · have hc : kind = 0 ∨ kind = 1 ∨ kind = 2 ∨ kind = 3 ∨ kind = 4 ∨ kind = 5 ∨ kind = 6 ∨ kind = 7 ∨ kind = 8 ∨ kind = 9 := by omega
    rcases hc with rfl | rfl | rfl | rfl | rfl | rfl | rfl | rfl | rfl | rfl
    · exact step0 X A k N V bp n c on s w h hA
    · exact step1 X k A N V bp n c on z s w h hN ar
    · exact step2 X A k N V bp n c on s w h hA
    · exact step3 X A k N V bp n c on s w h hA
    · exact step4 X A V k N bp n c on s w h hA hV
    · exact step5 X A k N V bp n c on s w h hA
    · exact step6 X k A N V bp n c on s w h
    · exact step7 X k A N V bp n c on s w h
    · exact step8 X k A N V bp n c on s w h
    · exact step9 X k A N V bp n c on s w h
end Go.Proofs.Ytkhaajbhgenicaa
