import Derived.Test.YtkhaajbhgenicaaMP
namespace Go.Proofs.Ytkhaajbhgenicaa
open Go.RowKit
set_option maxRecDepth 100000
set_option linter.unusedVariables false

theorem below_drewN {B : Nat} {w0 w : World} (h : Below B w0 w) (n : Nat) : Below B w0 (w.drewN n) := ⟨h.os, h.tape, h.output, h.size, h.block⟩

theorem same_yes (b1 o1 c1 b2 o2 c2 n : Nat) (z : Nat → Int) (w : World) (hn : (n : Int) ≤ 9223372036854775807)
    (h1 : ∀ i, i < n → w.cell? ⟨b1, o1 + i, none⟩ = some (.int .u8 (z i))) (h2 : ∀ i, i < n → w.cell? ⟨b2, o2 + i, none⟩ = some (.int .u8 (z i))) :
    Calls Try.prog 10 #[.slice (some ⟨b1, o1, none⟩) n c1, .slice (some ⟨b2, o2, none⟩) n c2] w fun e w' => e = .returned (.bool true) ∧ Below w.heap.size w w' := by
  have H1 : Hid (∀ i, i < n → w.cell? ⟨b1, o1 + i, none⟩ = some (.int .u8 (z i))) := h1
  have H2 : Hid (∀ i, i < n → w.cell? ⟨b2, o2 + i, none⟩ = some (.int .u8 (z i))) := h2
  clear h1 h2
  go_enter Try.func10, Try.ntmps10
  go_wp2
  go_loopw [13] (fun i wr => ∃ k m : Nat, k ≤ n ∧ i = .int .i64 k ∧ wr = w.drewN m) (fun i _ => n - (intOf i).toNat)
  case atStart => exact ⟨0, 0, by omega, rfl, rfl⟩
  case round =>
    obtain ⟨k, m, hk, rfl, rfl⟩ := hrel
    by_cases hlt : k < n
    · have c1' := H1.out k hlt
      have c2' := H2.out k hlt
      have hki : (k : Int) < n := by omega
      have hk0 : (0 : Int) ≤ k := by omega
      go_wp2
      go_quiet (fail)
      go_wp2
      go_roundw
      case rel => exact ⟨k + 1, _, by omega, by go_num, rfl⟩
      case measure => simp [intOf]; omega
    · go_wp2
      go_ret
      exact ⟨rfl, below_drewN (Below.refl _ _) _⟩
theorem same_zero (a1 a2 : Option Addr) (c1 c2 : Nat) (w : World) :
    Calls Try.prog 10 #[.slice a1 0 c1, .slice a2 0 c2] w fun e w' => e = .returned (.bool true) ∧ Below w.heap.size w w' := by
  go_enter Try.func10, Try.ntmps10
  go_wp2
  refine wp_loop_rounds 1 ?_
  rw [rounds_succ]
  go_wp2
  go_ret
  exact ⟨rfl, Below.refl _ _⟩
theorem same_any (p1 p2 : Option Addr) (n c1 c2 : Nat) (z : Nat → Int) (w : World) (hn : n ≤ maxLen) (h1 : SR w p1 n z) (h2 : SR w p2 n z) :
    Calls Try.prog 10 #[.slice p1 n c1, .slice p2 n c2] w fun e w' => e = .returned (.bool true) ∧ Below w.heap.size w w' := by
  unfold maxLen at hn
  by_cases h0 : n = 0
  · subst h0; exact same_zero p1 p2 c1 c2 w
  · obtain ⟨b1, o1, rfl, r1⟩ := h1 (by omega)
    obtain ⟨b2, o2, rfl, r2⟩ := h2 (by omega)
    exact same_yes b1 o1 c1 b2 o2 c2 n z w (by omega) r1 r2

theorem twin_any (bp : Option Addr) (n c : Nat) (z : Nat → Int) (w : World) (hn : n ≤ 140737488355328) (hz : SR w bp n z) :
    Calls Try.prog 7 #[.slice bp n c] w fun e w' => ∃ p c', e = .returned (.slice p n c') ∧ Out w w' p n z := by
  by_cases h0 : n = 0
  · subst h0
    clear hz hn
    cases bp
    all_goals
      go_enter Try.func7, Try.ntmps7
      go_wp2
      go_ret
      exact ⟨_, _, rfl, Below.refl _ _, fun h => by omega⟩
  · obtain ⟨b, off, rfl, hr⟩ := hz (by omega)
    have HT : TwinPre w ⟨b, off, none⟩ n z := ⟨fun j u hv => by obtain ⟨hj, rfl⟩ := byteCs_at _ _ _ _ hv; rw [Addr.add_mid]; exact hr j hj, by omega, hn⟩
    clear hz hn hr h0
    go_enter Try.func7, Try.ntmps7
    go_wp2_with (refine wpList_twin rfl (.const (.slice none 0 0)) (.tmp 3) rfl rfl ⟨b, off, none⟩ _ n _ rfl rfl z HT w.heap.size rfl ?_; intro cap' w1 hN hB hlt _ _)
    go_ret
    exact ⟨_, _, rfl, hB, fun _ => ⟨_, rfl, Nat.le_refl _, hN⟩⟩

theorem Out.sr {w w' : World} {p : Option Addr} {m : Nat} {z : Nat → Int} (h : Out w w' p m z) : SR w' p m z := fun hm => by
  obtain ⟨H, rfl, -, hN⟩ := h.row hm
  exact hN.sr hm
theorem whole_same {w w1 : World} {k : RB} {s : MS} {p1 : Option Addr} {c1 : Nat} (hO : Out w w1 p1 65536 (fun i => s.B ((0 : Int).toNat + i))) (hR : RM w1 k s) :
    Calls Try.prog 10 #[.slice p1 65536 c1, .slice (some ⟨k.b, 0, none⟩) 65536 65536] w1 fun e w' => e = .returned (.bool true) ∧ Below w1.heap.size w1 w' :=
  same_any p1 _ 65536 c1 65536 (fun i => s.B ((0 : Int).toNat + i)) w1 (by unfold maxLen; omega) hO.sr (fun _ => ⟨k.b, 0, rfl, fun i hi => by rw [hR.by_ _ (by omega)]; rfl⟩)

theorem whole_any (X : Nat) (k : RB) (s : MS) (w : World) (h : PM w X s) (hr : RM w k s) :
    Calls Try.prog 20 #[.pointer (some ⟨X, 0, none⟩), .pointer (some ⟨k.y, 0, none⟩)] w fun e w' => e = .returned (.bool true) ∧ Below w.heap.size w w' := by
  have HP : Hid (PM w X s) := h
  have HR : Hid (RM w k s) := hr
  have HA : Hid (I64 0) := ⟨by omega, by omega⟩
  have HE : Hid (peekM 0 65536 = 65536 ∧ peekE 0 65536 = 0) := ⟨rfl, rfl⟩
  have hlty := hr.lty
  clear h hr
  go_enter Try.func20, Try.ntmps20
  go_wp2_with first
    | (go_at_call 33; refine (peek_tot X 0 65536 s _ HA.out HP.out).mono ?_; rintro e w1 ⟨p1, c1, rfl, hO⟩; rw [HE.out.1, HE.out.2] at *; have hr1 : RM w1 k s := HR.out.below hO.bel (Nat.le_refl _); have e0 := hr1.c0; have HR1 : Hid (RM w1 k s) := hr1; have HO : Hid (Out w w1 p1 65536 (fun i => s.B ((0 : Int).toNat + i))) := hO; clear hr1 hO)
    | (go_at_call 10; refine (whole_same HO.out HR1.out).mono ?_; rintro e w2 ⟨rfl, hB2⟩)
  go_ret
  exact ⟨rfl, HO.out.bel.trans (hB2.mono HO.out.bel.size)⟩
end Go.Proofs.Ytkhaajbhgenicaa
