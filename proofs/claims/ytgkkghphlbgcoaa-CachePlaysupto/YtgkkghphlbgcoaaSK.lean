import Derived.Test.YtgkkghphlbgcoaaSC
import Derived.Test.YtgkkghphlbgcoaaSI
import Derived.Lib.BitFns
import Derived.Sort.LotD5
import Derived.Laws.Bits64
import Derived.Sort.Row
import Derived.Laws.Bits64b
namespace Go.Proofs.Ytgkkghphlbgcoaa.So
open Go.RowKit
set_option maxRecDepth 100000
set_option linter.unusedVariables false
set_option linter.unusedSimpArgs false
theorem bl_eq (x : Nat) : x < 2 ^ 64 → Lib.bitLen x = Sort.bitsLen x := by
  induction x using Nat.strongRecOn with
  | ind x ih =>
    intro h
    by_cases h0 : x = 0
    · subst h0; rfl
    · rw [Lib.bitLen_half x h0 h, ih (x / 2) (by omega) (by omega)]
      unfold Sort.bitsLen
      by_cases h1 : x / 2 = 0
      · have : x = 1 := by omega
        subst this; decide
      · rw [if_neg h1, if_neg h0, Nat.log2_def x, if_pos (by omega)]; omega
set_option maxHeartbeats 4000000 in
theorem l64_any (x : Nat) (w : World) (h : x ≤ 140737488355328) :
    Calls Try.prog 85 #[.int .u64 x] w fun e w' => e = .returned (.int .i64 (Sort.bitsLen x)) ∧ w = w' := by
  rw [← bl_eq x (by omega)]
  obtain ⟨L, hL⟩ : ∃ L, Lib.bitLen x = L := ⟨_, rfl⟩
  rw [hL]
  have HL : Hid (Lib.bitLen x + 0 = L) := hL
  clear hL
  go_enter Try.func85, Try.ntmps85
  generalize hT : (ByteArray.mk _) = T
  have hT2 : T = Lib.len8tab := by rw [← hT]; rfl
  have HT : Hid _ := hT2
  clear hT hT2
  by_cases h0 : 4294967296 ≤ x
  · have g0 : decide ((4294967296 : Int) ≤ (x : Int)) = true := decide_eq_true (by omega)
    have g0' : (4294967296 : Int) ≤ (x : Int) := by omega
    obtain ⟨v0, hv0⟩ : ∃ v0, x / 4294967296 = v0 := ⟨_, rfl⟩
    have t0 : (x : Int) / 4294967296 = (v0 : Int) := by omega
    have b0 : v0 ≤ 32768 := by omega
    have e0 := Lib.bitLen_shift32 x h0 (by omega)
    rw [hv0] at e0
    replace HL : Hid (Lib.bitLen v0 + 32 = L) := (by have := HL.out; omega : Lib.bitLen v0 + 32 = L)
    clear e0 hv0
    go_upto_region 4 with fail
    have g1 : decide ((65536 : Int) ≤ (v0 : Int)) = false := decide_eq_false (by omega)
    have g1' : ¬ (65536 : Int) ≤ (v0 : Int) := by omega
    go_upto_region 7 with fail
    by_cases h2 : 256 ≤ v0
    · have g2 : decide ((256 : Int) ≤ (v0 : Int)) = true := decide_eq_true (by omega)
      have g2' : (256 : Int) ≤ (v0 : Int) := by omega
      obtain ⟨v2, hv2⟩ : ∃ v2, v0 / 256 = v2 := ⟨_, rfl⟩
      have t2 : (v0 : Int) / 256 = (v2 : Int) := by omega
      have b2 : v2 ≤ 128 := by omega
      have e2 := Lib.bitLen_shift8 v0 h2 (by omega)
      rw [hv2] at e2
      replace HL : Hid (Lib.bitLen v2 + 40 = L) := (by have := HL.out; omega : Lib.bitLen v2 + 40 = L)
      clear e2 hv2
      go_upto_region 10 with fail
      obtain ⟨m, hm⟩ : ∃ m, Lib.bitLen v2 = m := ⟨_, rfl⟩
      have hm8 : m ≤ 8 := by rw [← hm]; exact Lib.bitLen_le8 ⟨v2, by omega⟩
      have hlen : Lib.len8 (v2 : Int) = (m : Int) := by rw [Lib.len8_of _ (by omega) (by omega), Int.toNat_natCast, hm]
      have hLm : L = 40 + m := by have := HL.out; omega
      have hs : IntKind.i64.wrap (40 + (m : Int)) = (L : Int) := by rw [IntWalk.i64_in _ (by omega)]; omega
      have hw : IntKind.i64.wrap (m : Int) = (m : Int) := IntWalk.i64_in _ (by omega)
      have hv8 : (v2 : Int) % 256 = (v2 : Int) := by omega
      have HX : Hid _ := hLm
      have hrun : ∀ w', (Instr.index 9 (.string T) (.int .u8 (v2 : Int))).run Try.prog w' = .ok (.int .u8 (m : Int)) w' := fun w' => by rw [HT.out, Lib.run_index_len8tab w' 9 .u8 (v2 : Int) (by rfl) (by omega) (by omega), hlen]
      clear hLm hm HL hlen HT
      go_wp2
      go_ret
      exact ⟨by first | rfl | (have := HX.out; obtain rfl : L = m := (by omega); rfl), rfl⟩
    · have g2 : decide ((256 : Int) ≤ (v0 : Int)) = false := decide_eq_false (by omega)
      have g2' : ¬ (256 : Int) ≤ (v0 : Int) := by omega
      go_upto_region 10 with fail
      obtain ⟨m, hm⟩ : ∃ m, Lib.bitLen v0 = m := ⟨_, rfl⟩
      have hm8 : m ≤ 8 := by rw [← hm]; exact Lib.bitLen_le8 ⟨v0, by omega⟩
      have hlen : Lib.len8 (v0 : Int) = (m : Int) := by rw [Lib.len8_of _ (by omega) (by omega), Int.toNat_natCast, hm]
      have hLm : L = 32 + m := by have := HL.out; omega
      have hs : IntKind.i64.wrap (32 + (m : Int)) = (L : Int) := by rw [IntWalk.i64_in _ (by omega)]; omega
      have hw : IntKind.i64.wrap (m : Int) = (m : Int) := IntWalk.i64_in _ (by omega)
      have hv8 : (v0 : Int) % 256 = (v0 : Int) := by omega
      have HX : Hid _ := hLm
      have hrun : ∀ w', (Instr.index 9 (.string T) (.int .u8 (v0 : Int))).run Try.prog w' = .ok (.int .u8 (m : Int)) w' := fun w' => by rw [HT.out, Lib.run_index_len8tab w' 9 .u8 (v0 : Int) (by rfl) (by omega) (by omega), hlen]
      clear hLm hm HL hlen HT
      go_wp2
      go_ret
      exact ⟨by first | rfl | (have := HX.out; obtain rfl : L = m := (by omega); rfl), rfl⟩
  · have g0 : decide ((4294967296 : Int) ≤ (x : Int)) = false := decide_eq_false (by omega)
    have g0' : ¬ (4294967296 : Int) ≤ (x : Int) := by omega
    go_upto_region 4 with fail
    by_cases h1 : 65536 ≤ x
    · have g1 : decide ((65536 : Int) ≤ (x : Int)) = true := decide_eq_true (by omega)
      have g1' : (65536 : Int) ≤ (x : Int) := by omega
      obtain ⟨v1, hv1⟩ : ∃ v1, x / 65536 = v1 := ⟨_, rfl⟩
      have t1 : (x : Int) / 65536 = (v1 : Int) := by omega
      have b1 : v1 ≤ 65535 := by omega
      have e1 := Lib.bitLen_shift16 x h1 (by omega)
      rw [hv1] at e1
      replace HL : Hid (Lib.bitLen v1 + 16 = L) := (by have := HL.out; omega : Lib.bitLen v1 + 16 = L)
      clear e1 hv1
      go_upto_region 7 with fail
      by_cases h2 : 256 ≤ v1
      · have g2 : decide ((256 : Int) ≤ (v1 : Int)) = true := decide_eq_true (by omega)
        have g2' : (256 : Int) ≤ (v1 : Int) := by omega
        obtain ⟨v2, hv2⟩ : ∃ v2, v1 / 256 = v2 := ⟨_, rfl⟩
        have t2 : (v1 : Int) / 256 = (v2 : Int) := by omega
        have b2 : v2 ≤ 255 := by omega
        have e2 := Lib.bitLen_shift8 v1 h2 (by omega)
        rw [hv2] at e2
        replace HL : Hid (Lib.bitLen v2 + 24 = L) := (by have := HL.out; omega : Lib.bitLen v2 + 24 = L)
        clear e2 hv2
        go_upto_region 10 with fail
        obtain ⟨m, hm⟩ : ∃ m, Lib.bitLen v2 = m := ⟨_, rfl⟩
        have hm8 : m ≤ 8 := by rw [← hm]; exact Lib.bitLen_le8 ⟨v2, by omega⟩
        have hlen : Lib.len8 (v2 : Int) = (m : Int) := by rw [Lib.len8_of _ (by omega) (by omega), Int.toNat_natCast, hm]
        have hLm : L = 24 + m := by have := HL.out; omega
        have hs : IntKind.i64.wrap (24 + (m : Int)) = (L : Int) := by rw [IntWalk.i64_in _ (by omega)]; omega
        have hw : IntKind.i64.wrap (m : Int) = (m : Int) := IntWalk.i64_in _ (by omega)
        have hv8 : (v2 : Int) % 256 = (v2 : Int) := by omega
        have HX : Hid _ := hLm
        have hrun : ∀ w', (Instr.index 9 (.string T) (.int .u8 (v2 : Int))).run Try.prog w' = .ok (.int .u8 (m : Int)) w' := fun w' => by rw [HT.out, Lib.run_index_len8tab w' 9 .u8 (v2 : Int) (by rfl) (by omega) (by omega), hlen]
        clear hLm hm HL hlen HT
        go_wp2
        go_ret
        exact ⟨by first | rfl | (have := HX.out; obtain rfl : L = m := (by omega); rfl), rfl⟩
      · have g2 : decide ((256 : Int) ≤ (v1 : Int)) = false := decide_eq_false (by omega)
        have g2' : ¬ (256 : Int) ≤ (v1 : Int) := by omega
        go_upto_region 10 with fail
        obtain ⟨m, hm⟩ : ∃ m, Lib.bitLen v1 = m := ⟨_, rfl⟩
        have hm8 : m ≤ 8 := by rw [← hm]; exact Lib.bitLen_le8 ⟨v1, by omega⟩
        have hlen : Lib.len8 (v1 : Int) = (m : Int) := by rw [Lib.len8_of _ (by omega) (by omega), Int.toNat_natCast, hm]
        have hLm : L = 16 + m := by have := HL.out; omega
        have hs : IntKind.i64.wrap (16 + (m : Int)) = (L : Int) := by rw [IntWalk.i64_in _ (by omega)]; omega
        have hw : IntKind.i64.wrap (m : Int) = (m : Int) := IntWalk.i64_in _ (by omega)
        have hv8 : (v1 : Int) % 256 = (v1 : Int) := by omega
        have HX : Hid _ := hLm
        have hrun : ∀ w', (Instr.index 9 (.string T) (.int .u8 (v1 : Int))).run Try.prog w' = .ok (.int .u8 (m : Int)) w' := fun w' => by rw [HT.out, Lib.run_index_len8tab w' 9 .u8 (v1 : Int) (by rfl) (by omega) (by omega), hlen]
        clear hLm hm HL hlen HT
        go_wp2
        go_ret
        exact ⟨by first | rfl | (have := HX.out; obtain rfl : L = m := (by omega); rfl), rfl⟩
    · have g1 : decide ((65536 : Int) ≤ (x : Int)) = false := decide_eq_false (by omega)
      have g1' : ¬ (65536 : Int) ≤ (x : Int) := by omega
      go_upto_region 7 with fail
      by_cases h2 : 256 ≤ x
      · have g2 : decide ((256 : Int) ≤ (x : Int)) = true := decide_eq_true (by omega)
        have g2' : (256 : Int) ≤ (x : Int) := by omega
        obtain ⟨v2, hv2⟩ : ∃ v2, x / 256 = v2 := ⟨_, rfl⟩
        have t2 : (x : Int) / 256 = (v2 : Int) := by omega
        have b2 : v2 ≤ 255 := by omega
        have e2 := Lib.bitLen_shift8 x h2 (by omega)
        rw [hv2] at e2
        replace HL : Hid (Lib.bitLen v2 + 8 = L) := (by have := HL.out; omega : Lib.bitLen v2 + 8 = L)
        clear e2 hv2
        go_upto_region 10 with fail
        obtain ⟨m, hm⟩ : ∃ m, Lib.bitLen v2 = m := ⟨_, rfl⟩
        have hm8 : m ≤ 8 := by rw [← hm]; exact Lib.bitLen_le8 ⟨v2, by omega⟩
        have hlen : Lib.len8 (v2 : Int) = (m : Int) := by rw [Lib.len8_of _ (by omega) (by omega), Int.toNat_natCast, hm]
        have hLm : L = 8 + m := by have := HL.out; omega
        have hs : IntKind.i64.wrap (8 + (m : Int)) = (L : Int) := by rw [IntWalk.i64_in _ (by omega)]; omega
        have hw : IntKind.i64.wrap (m : Int) = (m : Int) := IntWalk.i64_in _ (by omega)
        have hv8 : (v2 : Int) % 256 = (v2 : Int) := by omega
        have HX : Hid _ := hLm
        have hrun : ∀ w', (Instr.index 9 (.string T) (.int .u8 (v2 : Int))).run Try.prog w' = .ok (.int .u8 (m : Int)) w' := fun w' => by rw [HT.out, Lib.run_index_len8tab w' 9 .u8 (v2 : Int) (by rfl) (by omega) (by omega), hlen]
        clear hLm hm HL hlen HT
        go_wp2
        go_ret
        exact ⟨by first | rfl | (have := HX.out; obtain rfl : L = m := (by omega); rfl), rfl⟩
      · have g2 : decide ((256 : Int) ≤ (x : Int)) = false := decide_eq_false (by omega)
        have g2' : ¬ (256 : Int) ≤ (x : Int) := by omega
        go_upto_region 10 with fail
        obtain ⟨m, hm⟩ : ∃ m, Lib.bitLen x = m := ⟨_, rfl⟩
        have hm8 : m ≤ 8 := by rw [← hm]; exact Lib.bitLen_le8 ⟨x, by omega⟩
        have hlen : Lib.len8 (x : Int) = (m : Int) := by rw [Lib.len8_of _ (by omega) (by omega), Int.toNat_natCast, hm]
        have hLm : L = 0 + m := by have := HL.out; omega
        have hs : IntKind.i64.wrap (0 + (m : Int)) = (L : Int) := by rw [IntWalk.i64_in _ (by omega)]; omega
        have hw : IntKind.i64.wrap (m : Int) = (m : Int) := IntWalk.i64_in _ (by omega)
        have hv8 : (x : Int) % 256 = (x : Int) := by omega
        have HX : Hid _ := hLm
        have hrun : ∀ w', (Instr.index 9 (.string T) (.int .u8 (x : Int))).run Try.prog w' = .ok (.int .u8 (m : Int)) w' := fun w' => by rw [HT.out, Lib.run_index_len8tab w' 9 .u8 (x : Int) (by rfl) (by omega) (by omega), hlen]
        clear hLm hm HL hlen HT
        go_wp2
        go_ret
        exact ⟨by first | rfl | (have := HX.out; obtain rfl : L = m := (by omega); rfl), rfl⟩
theorem len_any (x : Nat) (w : World) (h : x ≤ 140737488355328) :
    Calls Try.prog 69 #[.int .u64 x] w fun e w' => e = .returned (.int .i64 (Sort.bitsLen x)) ∧ w = w' := by
  obtain ⟨L, hL⟩ : ∃ L, Sort.bitsLen x = L := ⟨_, rfl⟩
  have h1 := l64_any x w h
  rw [hL] at h1 ⊢
  have H1 : Hid _ := h1
  clear hL h1
  go_enter Try.func69, Try.ntmps69
  go_wp2_with (go_at_call 85; refine Calls.mono H1.out ?_; rintro e w1 ⟨rfl, rfl⟩)
  go_ret
  exact ⟨rfl, rfl⟩
theorem two_pow (k : Nat) (hk : k ≤ 62) : IntKind.u64.wrap ((2 : Int) ^ k) = ((2 ^ k : Nat) : Int) := by
  have h : (2 : Nat) ^ k ≤ 2 ^ 62 := Nat.pow_le_pow_right (by decide) hk
  have e : ((2 : Int) ^ k) = ((2 ^ k : Nat) : Int) := by simp
  rw [IntKind.wrap_u64, e]
  generalize (2 : Nat) ^ k = p at h
  omega
theorem np_any (x : Nat) (w : World) (h : x ≤ 140737488355328) :
    Calls Try.prog 89 #[.int .i64 x] w fun e w' => e = .returned (.int .u64 ((2 ^ Sort.bitsLen x : Nat) : Int)) ∧ w = w' := by
  have hk : Sort.bitsLen x ≤ 62 := (Sort.bitsLen_le_iff x 62).2 (by omega)
  have h1 := len_any x w h
  obtain ⟨L, hL⟩ : ∃ L, Sort.bitsLen x = L := ⟨_, rfl⟩
  rw [hL] at h1 hk ⊢
  obtain ⟨Z, hZ⟩ : ∃ Z : Nat, 2 ^ L = Z := ⟨_, rfl⟩
  have hp := two_pow L hk
  rw [hZ] at hp ⊢
  have hx : IntKind.u64.wrap (x : Int) = (x : Int) := by rw [IntKind.wrap_u64]; omega
  have H1 : Hid _ := h1
  clear hL h1 hZ
  go_enter Try.func89, Try.ntmps89
  go_wp2_with (go_at_call 69; refine Calls.mono H1.out ?_; rintro e w1 ⟨rfl, rfl⟩)
  go_ret
  exact ⟨rfl, rfl⟩
theorem set_set (w : World) (b o : Nat) (v v' : Value) : (w.setCell ⟨b, o, none⟩ v).setCell ⟨b, o, none⟩ v' = w.setCell ⟨b, o, none⟩ v' := by
  rw [Sort.setCell_eq, Sort.setCell_eq, Sort.mapBlock_mapBlock, Sort.setCell_eq]
  congr 1
  funext c
  simp
theorem xn_any (S X : Nat) (hX : X < 18446744073709551616) (w : World) (hc : w.cell? ⟨S, 0, none⟩ = some (.int .u64 X)) (hf : w.frozen? ⟨S, 0, none⟩ = false) :
    Calls Try.prog 90 #[.pointer (some ⟨S, 0, none⟩)] w fun e w' => e = .returned (.int .u64 (Sort.xorNextN X : Nat)) ∧ ∃ k, w' = (w.setCell ⟨S, 0, none⟩ (.int .u64 (Sort.xorNextN X : Nat))).drewN k := by
  obtain ⟨A, hA⟩ : ∃ A : Nat, X ^^^ (X * 8192 % 18446744073709551616) = A := ⟨_, rfl⟩
  obtain ⟨B, hB⟩ : ∃ B : Nat, A ^^^ (A / 128) = B := ⟨_, rfl⟩
  obtain ⟨C, hC⟩ : ∃ C : Nat, B ^^^ (B * 131072 % 18446744073709551616) = C := ⟨_, rfl⟩
  have lA : A < 18446744073709551616 := by rw [← hA]; exact Nat.xor_lt_two_pow (n := 64) (by omega) (by omega)
  have lB : B < 18446744073709551616 := by rw [← hB]; exact Nat.xor_lt_two_pow (n := 64) (by omega) (by omega)
  have e1 : bits .xor .u64 (X : Int) (IntKind.u64.wrap ((X : Int) * 8192)) = (A : Int) := by
    rw [IntKind.wrap_u64, show ((X : Int) * 8192 % 18446744073709551616) = ((X * 8192 % 18446744073709551616 : Nat) : Int) by omega, bits_xor_u64_nat _ _ hX (by omega), hA]
  have e2 : bits .xor .u64 (A : Int) ((A : Int) / 128) = (B : Int) := by
    rw [show ((A : Int) / 128) = ((A / 128 : Nat) : Int) by omega, bits_xor_u64_nat _ _ lA (by omega), hB]
  have e3 : bits .xor .u64 (B : Int) (IntKind.u64.wrap ((B : Int) * 131072)) = (C : Int) := by
    rw [IntKind.wrap_u64, show ((B : Int) * 131072 % 18446744073709551616) = ((B * 131072 % 18446744073709551616 : Nat) : Int) by omega, bits_xor_u64_nat _ _ lB (by omega), hC]
  have hv : Sort.xorNextN X = C := by unfold Sort.xorNextN; simp only [hA, hB, hC]
  rw [hv]
  clear hA hB hC hv
  have hss : ∀ v v', (w.setCell ⟨S, 0, none⟩ v).setCell ⟨S, 0, none⟩ v' = w.setCell ⟨S, 0, none⟩ v' := set_set w S 0
  go_enter Try.func90, Try.ntmps90
  go_wp2
  go_region
  all_goals go_wp2
  all_goals go_region
  all_goals go_wp2
  all_goals go_region
  all_goals go_wp2
  go_ret
  exact ⟨rfl, 3, rfl⟩
end Go.Proofs.Ytgkkghphlbgcoaa.So
namespace Go.Proofs.Ytgkkghphlbgcoaa.So
open Go.RowKit
set_option maxRecDepth 100000
set_option linter.unusedVariables false
set_option linter.unusedSimpArgs false
structure SX (w wr : World) (B : Nat) (d : Array Nat) (n S X : Nat) : Prop where
  s : SW w wr B d n
  c : wr.cell? ⟨S, 0, none⟩ = some (.int .u64 X)
  f : wr.frozen? ⟨S, 0, none⟩ = false
  l : S < wr.heap.size
  g : w.heap.size ≤ S
  ne : B ≠ S
  lx : X < 18446744073709551616
theorem SX.drw {w wr : World} {B n S X : Nat} {d : Array Nat} (h : SX w wr B d n S X) : SX w wr.drew B d n S X := ⟨h.s.drw, h.c, h.f, h.l, h.g, h.ne, h.lx⟩
theorem SX.drwN {w wr : World} {B n S X : Nat} {d : Array Nat} (h : SX w wr B d n S X) (k : Nat) : SX w (wr.drewN k) B d n S X := ⟨h.s.drwN k, h.c, h.f, h.l, h.g, h.ne, h.lx⟩
theorem SX.up {w wr : World} {B n S X : Nat} {d : Array Nat} (h : SX w wr B d n S X) (v : Nat) (hv : v < 18446744073709551616) : SX w (wr.setCell ⟨S, 0, none⟩ (.int .u64 v)) B d n S v :=
  ⟨⟨⟨fun i hi => by rw [World.cell?_setCell_other _ _ _ _ (by intro e; cases e; exact h.ne rfl)]; exact h.s.r.c i hi, fun i => by rw [World.frozen?_setCell]; exact h.s.r.fz i, by simpa using h.s.r.lt⟩, h.s.z, ⟨h.s.ch.os, h.s.ch.tape, h.s.ch.output, by simpa using h.s.ch.size, fun k hk hs => (Below.heap_setCell _ _ _ k (fun e => by have := h.g; have e : k = S := e; omega)).trans (h.s.ch.block k hk hs)⟩⟩, World.cell?_setCell_same _ _ _ h.c, by rw [World.frozen?_setCell]; exact h.f, by simpa using h.l, h.g, h.ne, hv⟩
theorem SX.new {w wr : World} {B n : Nat} {d : Array Nat} (h : SW w wr B d n) (v : Nat) (hv : v < 18446744073709551616) : SX w (wr.alloc (.cells #[.int .u64 v] 147)) B d n wr.heap.size v :=
  ⟨⟨⟨fun i hi => by rw [World.cell?_alloc_past _ _ _ h.r.lt]; exact h.r.c i hi, fun i => by rw [World.frozen?_alloc_past _ _ _ h.r.lt]; exact h.r.fz i, by have := h.r.lt; simp only [World.size_alloc]; omega⟩, h.z, h.ch.alloc _⟩, by simp, World.frozen?_alloc_at _ _ _ _ rfl, by simp, h.ch.size, Nat.ne_of_lt h.r.lt, hv⟩
theorem SX.swp {w wr : World} {B n S X : Nat} {d : Array Nat} (h : SX w wr B d n S X) (i j : Nat) (hi : i < n) (hj : j < n) : SX w ((wr.setCell ⟨B, i, none⟩ (.int .u32 ((d[j]! : Nat) : Int))).setCell ⟨B, j, none⟩ (.int .u32 ((d[i]! : Nat) : Int))) B (Sort.swp d i j) n S X :=
  ⟨h.s.swp i j hi hj, by rw [World.cell?_setCell_other _ _ _ _ (by intro e; cases e; exact h.ne rfl), World.cell?_setCell_other _ _ _ _ (by intro e; cases e; exact h.ne rfl)]; exact h.c, by rw [World.frozen?_setCell, World.frozen?_setCell]; exact h.f, by simpa using h.l, h.g, h.ne, h.lx⟩
theorem xs_any (B n S X : Nat) (d : Array Nat) (w0 w : World) (h : SX w0 w B d n S X) :
    Calls Try.prog 90 #[.pointer (some ⟨S, 0, none⟩)] w fun e w' => e = .returned (.int .u64 (Sort.xorNextN X : Nat)) ∧ SX w0 w' B d n S (Sort.xorNextN X) :=
  Calls.mono (xn_any S X h.lx w h.c h.f) fun e w' ⟨he, k, hk⟩ => ⟨he, by rw [hk]; exact (h.up _ (Sort.xorNextN_lt X h.lx)).drwN k⟩
def bpL (a l M : Nat) : Nat → Nat → UInt64 × Array Nat → Array Nat
  | 0, _, st => st.2
  | m + 1, i, st => bpL a l M m (i + 1) (Sort.breakStep a l M st i)
theorem bp_eq {a b l M i0 : Nat} (d : Array Nat) (hl : b - a = l) (h8 : 8 ≤ l) (hM : 2 ^ Sort.bitsLen l = M) (hi : a + l / 4 * 2 - 1 = i0) : Sort.breakPatterns d a b = bpL a l M 3 i0 (UInt64.ofNat l, d) := by
  unfold Sort.breakPatterns
  dsimp only
  rw [hl, if_pos h8, hi, Nat.one_shiftLeft, hM]
  rfl
theorem bp_go {a l M m i X x : Nat} {r : UInt64} {d : Array Nat} (hX : Sort.xorNextN r.toNat = X) (hx : a + (if X &&& (M - 1) ≥ l then (X &&& (M - 1)) - l else X &&& (M - 1)) = x) : bpL a l M (m + 1) i (r, d) = bpL a l M m (i + 1) (Sort.xorNext r, Sort.swp d i x) ∧ (Sort.xorNext r).toNat = X := by
  refine ⟨?_, by rw [Sort.xorNext_toNat, hX]⟩
  rw [bpL, Sort.breakStep]
  dsimp only
  rw [Sort.xorNext_toNat, hX, hx]
set_option maxHeartbeats 4000000 in
theorem bp_any (B n cap a b : Nat) (d : Array Nat) (w0 w : World) (hR : SW w0 w B d n) (hab : 12 < b - a) (hb : b ≤ n) (hn : n ≤ 140737488355328) :
    Calls Try.prog 77 #[.slice (some ⟨B, 0, none⟩) n cap, .int .i64 a, .int .i64 b] w fun e w' => e = .returned (.tuple #[]) ∧ SW w0 w' B (Sort.breakPatterns d a b) n := by
  have HR : Hid _ := hR
  have lB := hR.r.lt
  clear hR
  obtain ⟨l, hl⟩ : ∃ l, b - a = l := ⟨_, rfl⟩
  obtain ⟨M, hM⟩ : ∃ M, 2 ^ Sort.bitsLen l = M := ⟨_, rfl⟩
  obtain ⟨q2, hq2⟩ : ∃ q2, l / 4 * 2 = q2 := ⟨_, rfl⟩
  obtain ⟨j, hj⟩ : ∃ j, a + q2 = j := ⟨_, rfl⟩
  obtain ⟨i0, hi0⟩ : ∃ i0, j = i0 + 1 := ⟨j - 1, by omega⟩
  obtain ⟨j2, hj2⟩ : ∃ j2, j + 1 = j2 := ⟨_, rfl⟩
  have hl9 : l ≤ 140737488355328 := by omega
  have M2 : M ≤ 2 * l := by rw [← hM]; exact Sort.two_pow_bitsLen_le (by omega)
  have M0 : 1 ≤ M := by rw [← hM]; exact Nat.pos_of_ne_zero (by simp)
  obtain ⟨M1, hM1⟩ : ∃ M1, M = M1 + 1 := ⟨M - 1, by omega⟩
  rw [bp_eq d hl (by omega) hM (show a + l / 4 * 2 - 1 = i0 by rw [hq2, hj, hi0]; rfl)]
  obtain ⟨R, hRR⟩ : ∃ R, bpL a l M 3 i0 (UInt64.ofNat l, d) = R := ⟨_, rfl⟩
  rw [hRR]
  have hnp := np_any l
  rw [hM] at hnp
  have HNP : Hid _ := hnp
  have t1 : IntKind.i64.wrap ((b : Int) - (a : Int)) = (l : Int) := wr_sub (by omega) (by omega)
  have t2 : IntKind.i64.wrap ((l : Int) / 4 * 2) = (q2 : Int) := by rw [IntWalk.i64_in _ (by omega)]; omega
  have t3 : IntKind.i64.wrap ((a : Int) + (q2 : Int)) = (j : Int) := wr_add hj (by omega)
  have t4 : IntKind.i64.wrap ((j : Int) - 1) = (i0 : Int) := wr_dec hi0 (by omega)
  have t5 : IntKind.i64.wrap ((j : Int) + 1) = (j2 : Int) := wr_one hj2 (by omega)
  have t6 : IntKind.u64.wrap ((M : Int) - 1) = (M1 : Int) := by rw [IntKind.wrap_u64]; omega
  have t7 : IntKind.u64.wrap (l : Int) = (l : Int) := by rw [IntKind.wrap_u64]; omega
  have g8 : decide ((8 : Int) ≤ (l : Int)) = true := decide_eq_true (by omega)
  have g8' : (8 : Int) ≤ (l : Int) := by omega
  have hRl : (UInt64.ofNat l).toNat = l := by rw [UInt64.toNat_ofNat']; omega
  have HH : Hid _ := And.intro hl (And.intro hi0 (And.intro hj2 (And.intro hM1 (And.intro hj hq2))))
  have HRR : Hid _ := And.intro hRR hRl
  clear hl hM hq2 hj hi0 hj2 hM1 hRR hRl hnp
  go_enter Try.func77, Try.ntmps77
  go_wp2_with (go_at_call 89; fail)
  refine Calls.mono (HNP.out _ hl9) ?_
  rintro e w1 ⟨rfl, rfl⟩
  dsimp only
  go_wp2
  go_loopw [9] (fun v wr => ∃ (m i : Nat) (r : UInt64) (d' : Array Nat), v = .int .i64 i ∧ i + m = i0 + 3 ∧ m ≤ 3 ∧ SX w0 wr B d' n w.heap.size r.toNat ∧ bpL a l M m i (r, d') = R) (fun v _ => (i0 + 3 : Nat) - (intOf v).toNat)
  case atStart => exact ⟨3, i0, UInt64.ofNat l, d, rfl, rfl, Nat.le_refl _, by rw [HRR.out.2]; exact SX.new HR.out l (by omega), HRR.out.1⟩
  case round =>
    obtain ⟨m, i, r, d1, rfl, him, hm3, hS, hE⟩ := hrel
    have HS : Hid _ := hS
    have HE : Hid _ := hE
    clear hS hE
    cases m with
    | zero =>
      have g9 : decide ((i : Int) ≤ (j2 : Int)) = false := decide_eq_false (by have := HH.out; omega)
      have g9' : ¬ (i : Int) ≤ (j2 : Int) := by have := HH.out; omega
      clear him hm3
      go_wp2
      go_end0
      exact ⟨rfl, by rw [← HE.out]; exact HS.out.s⟩
    | succ m =>
      have g9 : decide ((i : Int) ≤ (j2 : Int)) = true := decide_eq_true (by have := HH.out; omega)
      have g9' : (i : Int) ≤ (j2 : Int) := by have := HH.out; omega
      obtain ⟨X, hX⟩ : ∃ X, Sort.xorNextN r.toNat = X := ⟨_, rfl⟩
      obtain ⟨o, ho⟩ : ∃ o, X &&& M1 = o := ⟨_, rfl⟩
      obtain ⟨i1, hi1⟩ : ∃ i1, i + 1 = i1 := ⟨_, rfl⟩
      have lX : X < 18446744073709551616 := by rw [← hX]; exact Sort.xorNextN_lt _ HS.out.lx
      have lo : o ≤ M1 := by rw [← ho]; exact Nat.and_le_right
      have lo2 : o < 2 * l := by have := HH.out; omega
      have hand : bits .and .u64 (X : Int) (M1 : Int) = (o : Int) := by rw [bits_and_u64_nat _ _ lX (by have := HH.out; omega), ho]
      have t8 : IntKind.i64.wrap (o : Int) = (o : Int) := IntWalk.i64_in _ (by omega)
      have t9 : IntKind.i64.wrap ((i : Int) + 1) = (i1 : Int) := wr_one hi1 (by have := HH.out; omega)
      have HX : Hid _ := hX
      have HO : Hid _ := ho
      have HM : Hid _ := And.intro him (And.intro hi1 hm3)
      clear him hm3 ho hi1 lX
      have HN := xs_any B n w.heap.size r.toNat d1 w0
      rw [hX] at HN
      have HN : Hid _ := HN
      clear hX
      go_wp2_with (go_at_call 90; fail)
      refine Calls.mono (HN.out _ HS.out) ?_
      rintro e w2 ⟨rfl, hW⟩
      have HW : Hid _ := hW
      dsimp only
      clear HN HS
      by_cases hol : l ≤ o
      · have go : decide ((l : Int) ≤ (o : Int)) = true := decide_eq_true (by omega)
        have go' : (l : Int) ≤ (o : Int) := by omega
        obtain ⟨o1, ho1⟩ : ∃ o1, o - l = o1 := ⟨_, rfl⟩
        have ta : IntKind.i64.wrap ((o : Int) - (l : Int)) = (o1 : Int) := wr_sub (by omega) (by omega)
        obtain ⟨x, hx⟩ : ∃ x, a + o1 = x := ⟨_, rfl⟩
        have tb : IntKind.i64.wrap ((a : Int) + (o1 : Int)) = (x : Int) := wr_add hx (by omega)
        have hx' : a + (if X &&& (M - 1) ≥ l then (X &&& (M - 1)) - l else X &&& (M - 1)) = x := by rw [HH.out.2.2.2.1, Nat.add_sub_cancel, HO.out, if_pos hol, ho1, hx]
        have hxn : x < n := by have := HH.out; omega
        have hin : i < n := by have := HH.out; have := HM.out; omega
        have c1 := hW.s.at i hin
        have c0 := hW.s.at x hxn
        have f1 := hW.s.r.fz i
        have f0 := hW.s.r.fz x
        have lB := hW.s.r.lt
        have p0 : (0 : Int) ≤ (i : Int) := by omega
        have p1 : (i : Int) < n := by omega
        have q0 : (0 : Int) ≤ (x : Int) := by omega
        have q1 : (x : Int) < n := by omega
        have HB : Hid (i < n ∧ x < n) := ⟨hin, hxn⟩
        have HG : Hid _ := bp_go (m := m) (i := i) (d := d1) HX.out hx'
        clear hW hx hx' ho1 hxn hin
        by_cases hix : i = x
        · subst hix
          clear c0 f0 q0 q1
          go_upto_region 10 with fail
          go_region
          go_wp2
          go_roundw
          case rel => exact ⟨m, i1, Sort.xorNext r, Sort.swp d1 i i, rfl, by have := HM.out; omega, by have := HM.out; omega, by rw [HG.out.2]; exact by (focus (repeat first | with_reducible exact HW.out.swp i i HB.out.1 HB.out.2 | with_reducible exact (HW.out.drwN _).swp i i HB.out.1 HB.out.2 | with_reducible refine SX.drw ?_ | with_reducible refine SX.drwN ?_ _)), by rw [← HE.out, HG.out.1, HM.out.2.1]⟩
          case measure => have := HM.out; simp [intOf]; omega
        · have nx : ¬ x = i := fun h => hix h.symm
          go_upto_region 10 with fail
          go_region
          go_wp2
          go_roundw
          case rel => exact ⟨m, i1, Sort.xorNext r, Sort.swp d1 i x, rfl, by have := HM.out; omega, by have := HM.out; omega, by rw [HG.out.2]; exact by (focus (repeat first | with_reducible exact HW.out.swp i x HB.out.1 HB.out.2 | with_reducible exact (HW.out.drwN _).swp i x HB.out.1 HB.out.2 | with_reducible refine SX.drw ?_ | with_reducible refine SX.drwN ?_ _)), by rw [← HE.out, HG.out.1, HM.out.2.1]⟩
          case measure => have := HM.out; simp [intOf]; omega
      · have go : decide ((l : Int) ≤ (o : Int)) = false := decide_eq_false (by omega)
        have go' : ¬ (l : Int) ≤ (o : Int) := by omega
        obtain ⟨x, hx⟩ : ∃ x, a + o = x := ⟨_, rfl⟩
        have tb : IntKind.i64.wrap ((a : Int) + (o : Int)) = (x : Int) := wr_add hx (by omega)
        have hx' : a + (if X &&& (M - 1) ≥ l then (X &&& (M - 1)) - l else X &&& (M - 1)) = x := by rw [HH.out.2.2.2.1, Nat.add_sub_cancel, HO.out, if_neg hol, hx]
        have hxn : x < n := by have := HH.out; omega
        have hin : i < n := by have := HH.out; have := HM.out; omega
        have c1 := hW.s.at i hin
        have c0 := hW.s.at x hxn
        have f1 := hW.s.r.fz i
        have f0 := hW.s.r.fz x
        have lB := hW.s.r.lt
        have p0 : (0 : Int) ≤ (i : Int) := by omega
        have p1 : (i : Int) < n := by omega
        have q0 : (0 : Int) ≤ (x : Int) := by omega
        have q1 : (x : Int) < n := by omega
        have HB : Hid (i < n ∧ x < n) := ⟨hin, hxn⟩
        have HG : Hid _ := bp_go (m := m) (i := i) (d := d1) HX.out hx'
        clear hW hx hx' hxn hin
        by_cases hix : i = x
        · subst hix
          clear c0 f0 q0 q1
          go_upto_region 10 with fail
          go_region
          go_wp2
          go_roundw
          case rel => exact ⟨m, i1, Sort.xorNext r, Sort.swp d1 i i, rfl, by have := HM.out; omega, by have := HM.out; omega, by rw [HG.out.2]; exact by (focus (repeat first | with_reducible exact HW.out.swp i i HB.out.1 HB.out.2 | with_reducible exact (HW.out.drwN _).swp i i HB.out.1 HB.out.2 | with_reducible refine SX.drw ?_ | with_reducible refine SX.drwN ?_ _)), by rw [← HE.out, HG.out.1, HM.out.2.1]⟩
          case measure => have := HM.out; simp [intOf]; omega
        · have nx : ¬ x = i := fun h => hix h.symm
          go_upto_region 10 with fail
          go_region
          go_wp2
          go_roundw
          case rel => exact ⟨m, i1, Sort.xorNext r, Sort.swp d1 i x, rfl, by have := HM.out; omega, by have := HM.out; omega, by rw [HG.out.2]; exact by (focus (repeat first | with_reducible exact HW.out.swp i x HB.out.1 HB.out.2 | with_reducible exact (HW.out.drwN _).swp i x HB.out.1 HB.out.2 | with_reducible refine SX.drw ?_ | with_reducible refine SX.drwN ?_ _)), by rw [← HE.out, HG.out.1, HM.out.2.1]⟩
          case measure => have := HM.out; simp [intOf]; omega
end Go.Proofs.Ytgkkghphlbgcoaa.So
