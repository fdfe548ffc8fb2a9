import Derived.Test.YtkgbjpdoigdjnabOR
set_option linter.unusedVariables false
set_option linter.unusedSimpArgs false
set_option maxHeartbeats 2000000
namespace Go.Proofs.Ytkgbjpdoigdjnab
open Go.RowKit
open Go.Maps
set_option maxRecDepth 100000
theorem asks_5 (base X Tb n : Nat) (d : ND) (w0 a b c kk nn : Nat) (w : World) (hN : NWo w base X Tb n d) (hb : base ≤ w.heap.size) (hi : ∀ q, q < tkN 5 → arg ⟨5, w0, a, b, c, kk, nn⟩ q < n) :
  Calls Try.prog 119 #[.pointer (some ⟨X, 0, none⟩), .agg #[.int .i64 5, .int .i64 w0, .int .i64 a, .int .i64 b, .int .i64 c, .int .u32 kk, .int .i64 nn]] w fun e w' => e = .returned (.tuple #[]) ∧ NWo w' base X Tb n (askN d ⟨5, w0, a, b, c, kk, nn⟩) ∧ KN base X Tb w w' := by
 have HR : Hid (ru (5 : Int) = ⟨0, 6, 1, 0, true, false, false⟩) := show _ = _ by rfl
 have HN : Hid _ := hN
 have HB : Hid (base ≤ w.heap.size) := hb
 have HI : Hid (∀ q, q < tkN 5 → arg ⟨5, w0, a, b, c, kk, nn⟩ q < n) := hi
 have HX : Hid (X < w.heap.size) := hN.xb.lt
 have HTb : Hid (Tb < w.heap.size) := hN.tb.lt
 have HE : Hid (askN d ⟨5, w0, a, b, c, kk, nn⟩ = ⟨tkSet d.tk ⟨5, w0, a, b, c, kk, nn⟩ 1, d.sn⟩) := show _ = _ by rfl
 rw [HE.out]
 clear hN hb hi
 go_enter Try.func119, Try.ntmps119
 go_upto_region 3 with (go_at_call 117; refine (ruleOf_me (5 : Int) _ _ HR.out).mono ?_; rintro e w1 ⟨rfl, h1⟩; have H1 : Hid _ := h1; have hk := (h1.block w.heap.size (by simp)).trans (heap_alloc_last _ _); have k0 := row_cell hk 0; have k1 := row_cell hk 1; have k2 := row_cell hk 2; have k3 := row_cell hk 3; have k4 := row_cell hk 4; have kl := row_lt hk; clear h1 hk)
 refine wp_gen (fun W' => AW w W' base X Tb n ⟨tkSet d.tk ⟨5, w0, a, b, c, kk, nn⟩ 0, d.sn⟩ w1.heap.size (w1.heap.size + 1) ⟨5, w0, a, b, c, kk, nn⟩ #[.int .u8 0, .int .u8 6, .int .u8 1, .int .u8 0, .bool true, .bool false, .bool false]) (AW.start (w1 := w1) (d := ⟨tkSet d.tk ⟨5, w0, a, b, c, kk, nn⟩ 0, d.sn⟩) (o := ⟨5, w0, a, b, c, kk, nn⟩) (rc := #[.int .u8 0, .int .u8 6, .int .u8 1, .int .u8 0, .bool true, .bool false, .bool false]) HN.out HB.out H1.out) ?_
 clear k0 k1 k2 k3 k4 kl H1
 intro V hV
 have HV : Hid _ := hV
 have r2 := row_cell hV.r 2
 have rl := row_lt hV.r
 have ll := row_lt hV.l
 clear hV
 go_wp2
 go_loopw [22] (fun i' wr => ∃ j : Nat, i' = .int .i64 j ∧ j ≤ 1 ∧ AW w wr base X Tb n ⟨tkSet d.tk ⟨5, w0, a, b, c, kk, nn⟩ j, d.sn⟩ w1.heap.size (w1.heap.size + 1) ⟨5, w0, a, b, c, kk, nn⟩ #[.int .u8 0, .int .u8 6, .int .u8 1, .int .u8 0, .bool true, .bool false, .bool false]) (fun i _ => 1 - (intOf i).toNat)
 case atStart => exact ⟨0, rfl, by omega, HV.out⟩
 case round =>
  obtain ⟨j, rfl, hj, hW⟩ := hrel
  have HWr : Hid _ := hW
  have l6 := row_lt hW.l
  have r5 := row_cell hW.r 5
  have rl := row_lt hW.r
  have b0 := row_cell hW.bx 0
  have b1 := row_cell hW.bx 1
  have bl := row_lt hW.bx
  have xl := hW.nw.xb.lt
  have x0 : wr.cell? ⟨X, 0, none⟩ = some (.slice (some ⟨Tb, 0, none⟩) n n) := hW.nw.xb.cell (i := 0) (by omega)
  have c0 : wr.cell? ⟨w1.heap.size + 1, 0, none⟩ = some (.int .i64 a) := row_cell hW.l 0
  have c1 : wr.cell? ⟨w1.heap.size + 1, 1, none⟩ = some (.int .i64 b) := row_cell hW.l 1
  have c2 : wr.cell? ⟨w1.heap.size + 1, 2, none⟩ = some (.int .i64 c) := row_cell hW.l 2
  clear hW HV
  rcases (by omega : j = 0 ∨ j = 1) with rfl | rfl
  ·have i0 : (0 : Int) ≤ (a : Int) := by omega
   have i1 : (a : Int) < (n : Int) := Int.ofNat_lt.2 (HI.out 0 (by decide))
   have ct : wr.cell? ⟨Tb, a, none⟩ = some (.bool (tkSet d.tk ⟨5, w0, a, b, c, kk, nn⟩ 0 a)) := HWr.out.nw.tb.cell (i := a) (HI.out 0 (by decide))
   have tf := HWr.out.nw.tb.frozen
   have tl := HWr.out.nw.tb.lt
   go_wp2
   go_round
   case rel => exact ⟨1, by go_num, by omega, HWr.out.tk HX.out HTb.out a⟩
   case measure => simp [intOf]
  ·
   go_wp2
   go_end0
   exact ⟨rfl, HWr.out.nw, HWr.out.kn⟩
theorem asks_6 (base X Tb n : Nat) (d : ND) (w0 a b c kk nn : Nat) (w : World) (hN : NWo w base X Tb n d) (hb : base ≤ w.heap.size) (hi : ∀ q, q < tkN 6 → arg ⟨6, w0, a, b, c, kk, nn⟩ q < n) :
  Calls Try.prog 119 #[.pointer (some ⟨X, 0, none⟩), .agg #[.int .i64 6, .int .i64 w0, .int .i64 a, .int .i64 b, .int .i64 c, .int .u32 kk, .int .i64 nn]] w fun e w' => e = .returned (.tuple #[]) ∧ NWo w' base X Tb n (askN d ⟨6, w0, a, b, c, kk, nn⟩) ∧ KN base X Tb w w' := by
 have HR : Hid (ru (6 : Int) = ⟨0, 0, 3, 0, true, false, false⟩) := show _ = _ by rfl
 have HN : Hid _ := hN
 have HB : Hid (base ≤ w.heap.size) := hb
 have HI : Hid (∀ q, q < tkN 6 → arg ⟨6, w0, a, b, c, kk, nn⟩ q < n) := hi
 have HX : Hid (X < w.heap.size) := hN.xb.lt
 have HTb : Hid (Tb < w.heap.size) := hN.tb.lt
 have HE : Hid (askN d ⟨6, w0, a, b, c, kk, nn⟩ = ⟨tkSet d.tk ⟨6, w0, a, b, c, kk, nn⟩ 3, d.sn⟩) := show _ = _ by rfl
 rw [HE.out]
 clear hN hb hi
 go_enter Try.func119, Try.ntmps119
 go_upto_region 3 with (go_at_call 117; refine (ruleOf_me (6 : Int) _ _ HR.out).mono ?_; rintro e w1 ⟨rfl, h1⟩; have H1 : Hid _ := h1; have hk := (h1.block w.heap.size (by simp)).trans (heap_alloc_last _ _); have k0 := row_cell hk 0; have k1 := row_cell hk 1; have k2 := row_cell hk 2; have k3 := row_cell hk 3; have k4 := row_cell hk 4; have kl := row_lt hk; clear h1 hk)
 refine wp_gen (fun W' => AW w W' base X Tb n ⟨tkSet d.tk ⟨6, w0, a, b, c, kk, nn⟩ 0, d.sn⟩ w1.heap.size (w1.heap.size + 1) ⟨6, w0, a, b, c, kk, nn⟩ #[.int .u8 0, .int .u8 0, .int .u8 3, .int .u8 0, .bool true, .bool false, .bool false]) (AW.start (w1 := w1) (d := ⟨tkSet d.tk ⟨6, w0, a, b, c, kk, nn⟩ 0, d.sn⟩) (o := ⟨6, w0, a, b, c, kk, nn⟩) (rc := #[.int .u8 0, .int .u8 0, .int .u8 3, .int .u8 0, .bool true, .bool false, .bool false]) HN.out HB.out H1.out) ?_
 clear k0 k1 k2 k3 k4 kl H1
 intro V hV
 have HV : Hid _ := hV
 have r2 := row_cell hV.r 2
 have rl := row_lt hV.r
 have ll := row_lt hV.l
 clear hV
 go_wp2
 go_loopw [22] (fun i' wr => ∃ j : Nat, i' = .int .i64 j ∧ j ≤ 3 ∧ AW w wr base X Tb n ⟨tkSet d.tk ⟨6, w0, a, b, c, kk, nn⟩ j, d.sn⟩ w1.heap.size (w1.heap.size + 1) ⟨6, w0, a, b, c, kk, nn⟩ #[.int .u8 0, .int .u8 0, .int .u8 3, .int .u8 0, .bool true, .bool false, .bool false]) (fun i _ => 3 - (intOf i).toNat)
 case atStart => exact ⟨0, rfl, by omega, HV.out⟩
 case round =>
  obtain ⟨j, rfl, hj, hW⟩ := hrel
  have HWr : Hid _ := hW
  have l6 := row_lt hW.l
  have r5 := row_cell hW.r 5
  have rl := row_lt hW.r
  have b0 := row_cell hW.bx 0
  have b1 := row_cell hW.bx 1
  have bl := row_lt hW.bx
  have xl := hW.nw.xb.lt
  have x0 : wr.cell? ⟨X, 0, none⟩ = some (.slice (some ⟨Tb, 0, none⟩) n n) := hW.nw.xb.cell (i := 0) (by omega)
  have c0 : wr.cell? ⟨w1.heap.size + 1, 0, none⟩ = some (.int .i64 a) := row_cell hW.l 0
  have c1 : wr.cell? ⟨w1.heap.size + 1, 1, none⟩ = some (.int .i64 b) := row_cell hW.l 1
  have c2 : wr.cell? ⟨w1.heap.size + 1, 2, none⟩ = some (.int .i64 c) := row_cell hW.l 2
  clear hW HV
  rcases (by omega : j = 0 ∨ j = 1 ∨ j = 2 ∨ j = 3) with rfl | rfl | rfl | rfl
  ·have i0 : (0 : Int) ≤ (a : Int) := by omega
   have i1 : (a : Int) < (n : Int) := Int.ofNat_lt.2 (HI.out 0 (by decide))
   have ct : wr.cell? ⟨Tb, a, none⟩ = some (.bool (tkSet d.tk ⟨6, w0, a, b, c, kk, nn⟩ 0 a)) := HWr.out.nw.tb.cell (i := a) (HI.out 0 (by decide))
   have tf := HWr.out.nw.tb.frozen
   have tl := HWr.out.nw.tb.lt
   go_wp2
   go_round
   case rel => exact ⟨1, by go_num, by omega, HWr.out.tk HX.out HTb.out a⟩
   case measure => simp [intOf]
  ·have i0 : (0 : Int) ≤ (b : Int) := by omega
   have i1 : (b : Int) < (n : Int) := Int.ofNat_lt.2 (HI.out 1 (by decide))
   have ct : wr.cell? ⟨Tb, b, none⟩ = some (.bool (tkSet d.tk ⟨6, w0, a, b, c, kk, nn⟩ 1 b)) := HWr.out.nw.tb.cell (i := b) (HI.out 1 (by decide))
   have tf := HWr.out.nw.tb.frozen
   have tl := HWr.out.nw.tb.lt
   go_wp2
   go_round
   case rel => exact ⟨2, by go_num, by omega, HWr.out.tk HX.out HTb.out b⟩
   case measure => simp [intOf]
  ·have i0 : (0 : Int) ≤ (c : Int) := by omega
   have i1 : (c : Int) < (n : Int) := Int.ofNat_lt.2 (HI.out 2 (by decide))
   have ct : wr.cell? ⟨Tb, c, none⟩ = some (.bool (tkSet d.tk ⟨6, w0, a, b, c, kk, nn⟩ 2 c)) := HWr.out.nw.tb.cell (i := c) (HI.out 2 (by decide))
   have tf := HWr.out.nw.tb.frozen
   have tl := HWr.out.nw.tb.lt
   go_wp2
   go_round
   case rel => exact ⟨3, by go_num, by omega, HWr.out.tk HX.out HTb.out c⟩
   case measure => simp [intOf]
  ·
   go_wp2
   go_end0
   exact ⟨rfl, HWr.out.nw, HWr.out.kn⟩
theorem asks_7 (base X Tb n : Nat) (d : ND) (w0 a b c kk nn : Nat) (w : World) (hN : NWo w base X Tb n d) (hb : base ≤ w.heap.size) (hi : ∀ q, q < tkN 7 → arg ⟨7, w0, a, b, c, kk, nn⟩ q < n) :
  Calls Try.prog 119 #[.pointer (some ⟨X, 0, none⟩), .agg #[.int .i64 7, .int .i64 w0, .int .i64 a, .int .i64 b, .int .i64 c, .int .u32 kk, .int .i64 nn]] w fun e w' => e = .returned (.tuple #[]) ∧ NWo w' base X Tb n (askN d ⟨7, w0, a, b, c, kk, nn⟩) ∧ KN base X Tb w w' := by
 have HR : Hid (ru (7 : Int) = ⟨0, 12, 3, 0, true, false, false⟩) := show _ = _ by rfl
 have HN : Hid _ := hN
 have HB : Hid (base ≤ w.heap.size) := hb
 have HI : Hid (∀ q, q < tkN 7 → arg ⟨7, w0, a, b, c, kk, nn⟩ q < n) := hi
 have HX : Hid (X < w.heap.size) := hN.xb.lt
 have HTb : Hid (Tb < w.heap.size) := hN.tb.lt
 have HE : Hid (askN d ⟨7, w0, a, b, c, kk, nn⟩ = ⟨tkSet d.tk ⟨7, w0, a, b, c, kk, nn⟩ 3, d.sn⟩) := show _ = _ by rfl
 rw [HE.out]
 clear hN hb hi
 go_enter Try.func119, Try.ntmps119
 go_upto_region 3 with (go_at_call 117; refine (ruleOf_me (7 : Int) _ _ HR.out).mono ?_; rintro e w1 ⟨rfl, h1⟩; have H1 : Hid _ := h1; have hk := (h1.block w.heap.size (by simp)).trans (heap_alloc_last _ _); have k0 := row_cell hk 0; have k1 := row_cell hk 1; have k2 := row_cell hk 2; have k3 := row_cell hk 3; have k4 := row_cell hk 4; have kl := row_lt hk; clear h1 hk)
 refine wp_gen (fun W' => AW w W' base X Tb n ⟨tkSet d.tk ⟨7, w0, a, b, c, kk, nn⟩ 0, d.sn⟩ w1.heap.size (w1.heap.size + 1) ⟨7, w0, a, b, c, kk, nn⟩ #[.int .u8 0, .int .u8 12, .int .u8 3, .int .u8 0, .bool true, .bool false, .bool false]) (AW.start (w1 := w1) (d := ⟨tkSet d.tk ⟨7, w0, a, b, c, kk, nn⟩ 0, d.sn⟩) (o := ⟨7, w0, a, b, c, kk, nn⟩) (rc := #[.int .u8 0, .int .u8 12, .int .u8 3, .int .u8 0, .bool true, .bool false, .bool false]) HN.out HB.out H1.out) ?_
 clear k0 k1 k2 k3 k4 kl H1
 intro V hV
 have HV : Hid _ := hV
 have r2 := row_cell hV.r 2
 have rl := row_lt hV.r
 have ll := row_lt hV.l
 clear hV
 go_wp2
 go_loopw [22] (fun i' wr => ∃ j : Nat, i' = .int .i64 j ∧ j ≤ 3 ∧ AW w wr base X Tb n ⟨tkSet d.tk ⟨7, w0, a, b, c, kk, nn⟩ j, d.sn⟩ w1.heap.size (w1.heap.size + 1) ⟨7, w0, a, b, c, kk, nn⟩ #[.int .u8 0, .int .u8 12, .int .u8 3, .int .u8 0, .bool true, .bool false, .bool false]) (fun i _ => 3 - (intOf i).toNat)
 case atStart => exact ⟨0, rfl, by omega, HV.out⟩
 case round =>
  obtain ⟨j, rfl, hj, hW⟩ := hrel
  have HWr : Hid _ := hW
  have l6 := row_lt hW.l
  have r5 := row_cell hW.r 5
  have rl := row_lt hW.r
  have b0 := row_cell hW.bx 0
  have b1 := row_cell hW.bx 1
  have bl := row_lt hW.bx
  have xl := hW.nw.xb.lt
  have x0 : wr.cell? ⟨X, 0, none⟩ = some (.slice (some ⟨Tb, 0, none⟩) n n) := hW.nw.xb.cell (i := 0) (by omega)
  have c0 : wr.cell? ⟨w1.heap.size + 1, 0, none⟩ = some (.int .i64 a) := row_cell hW.l 0
  have c1 : wr.cell? ⟨w1.heap.size + 1, 1, none⟩ = some (.int .i64 b) := row_cell hW.l 1
  have c2 : wr.cell? ⟨w1.heap.size + 1, 2, none⟩ = some (.int .i64 c) := row_cell hW.l 2
  clear hW HV
  rcases (by omega : j = 0 ∨ j = 1 ∨ j = 2 ∨ j = 3) with rfl | rfl | rfl | rfl
  ·have i0 : (0 : Int) ≤ (a : Int) := by omega
   have i1 : (a : Int) < (n : Int) := Int.ofNat_lt.2 (HI.out 0 (by decide))
   have ct : wr.cell? ⟨Tb, a, none⟩ = some (.bool (tkSet d.tk ⟨7, w0, a, b, c, kk, nn⟩ 0 a)) := HWr.out.nw.tb.cell (i := a) (HI.out 0 (by decide))
   have tf := HWr.out.nw.tb.frozen
   have tl := HWr.out.nw.tb.lt
   go_wp2
   go_round
   case rel => exact ⟨1, by go_num, by omega, HWr.out.tk HX.out HTb.out a⟩
   case measure => simp [intOf]
  ·have i0 : (0 : Int) ≤ (b : Int) := by omega
   have i1 : (b : Int) < (n : Int) := Int.ofNat_lt.2 (HI.out 1 (by decide))
   have ct : wr.cell? ⟨Tb, b, none⟩ = some (.bool (tkSet d.tk ⟨7, w0, a, b, c, kk, nn⟩ 1 b)) := HWr.out.nw.tb.cell (i := b) (HI.out 1 (by decide))
   have tf := HWr.out.nw.tb.frozen
   have tl := HWr.out.nw.tb.lt
   go_wp2
   go_round
   case rel => exact ⟨2, by go_num, by omega, HWr.out.tk HX.out HTb.out b⟩
   case measure => simp [intOf]
  ·have i0 : (0 : Int) ≤ (c : Int) := by omega
   have i1 : (c : Int) < (n : Int) := Int.ofNat_lt.2 (HI.out 2 (by decide))
   have ct : wr.cell? ⟨Tb, c, none⟩ = some (.bool (tkSet d.tk ⟨7, w0, a, b, c, kk, nn⟩ 2 c)) := HWr.out.nw.tb.cell (i := c) (HI.out 2 (by decide))
   have tf := HWr.out.nw.tb.frozen
   have tl := HWr.out.nw.tb.lt
   go_wp2
   go_round
   case rel => exact ⟨3, by go_num, by omega, HWr.out.tk HX.out HTb.out c⟩
   case measure => simp [intOf]
  ·
   go_wp2
   go_end0
   exact ⟨rfl, HWr.out.nw, HWr.out.kn⟩
theorem asks_8 (base X Tb n : Nat) (d : ND) (w0 a b c kk nn : Nat) (w : World) (hN : NWo w base X Tb n d) (hb : base ≤ w.heap.size) (hi : ∀ q, q < tkN 8 → arg ⟨8, w0, a, b, c, kk, nn⟩ q < n) :
  Calls Try.prog 119 #[.pointer (some ⟨X, 0, none⟩), .agg #[.int .i64 8, .int .i64 w0, .int .i64 a, .int .i64 b, .int .i64 c, .int .u32 kk, .int .i64 nn]] w fun e w' => e = .returned (.tuple #[]) ∧ NWo w' base X Tb n (askN d ⟨8, w0, a, b, c, kk, nn⟩) ∧ KN base X Tb w w' := by
 have HR : Hid (ru (8 : Int) = ⟨0, 15, 1, 0, true, false, false⟩) := show _ = _ by rfl
 have HN : Hid _ := hN
 have HB : Hid (base ≤ w.heap.size) := hb
 have HI : Hid (∀ q, q < tkN 8 → arg ⟨8, w0, a, b, c, kk, nn⟩ q < n) := hi
 have HX : Hid (X < w.heap.size) := hN.xb.lt
 have HTb : Hid (Tb < w.heap.size) := hN.tb.lt
 have HE : Hid (askN d ⟨8, w0, a, b, c, kk, nn⟩ = ⟨tkSet d.tk ⟨8, w0, a, b, c, kk, nn⟩ 1, d.sn⟩) := show _ = _ by rfl
 rw [HE.out]
 clear hN hb hi
 go_enter Try.func119, Try.ntmps119
 go_upto_region 3 with (go_at_call 117; refine (ruleOf_me (8 : Int) _ _ HR.out).mono ?_; rintro e w1 ⟨rfl, h1⟩; have H1 : Hid _ := h1; have hk := (h1.block w.heap.size (by simp)).trans (heap_alloc_last _ _); have k0 := row_cell hk 0; have k1 := row_cell hk 1; have k2 := row_cell hk 2; have k3 := row_cell hk 3; have k4 := row_cell hk 4; have kl := row_lt hk; clear h1 hk)
 refine wp_gen (fun W' => AW w W' base X Tb n ⟨tkSet d.tk ⟨8, w0, a, b, c, kk, nn⟩ 0, d.sn⟩ w1.heap.size (w1.heap.size + 1) ⟨8, w0, a, b, c, kk, nn⟩ #[.int .u8 0, .int .u8 15, .int .u8 1, .int .u8 0, .bool true, .bool false, .bool false]) (AW.start (w1 := w1) (d := ⟨tkSet d.tk ⟨8, w0, a, b, c, kk, nn⟩ 0, d.sn⟩) (o := ⟨8, w0, a, b, c, kk, nn⟩) (rc := #[.int .u8 0, .int .u8 15, .int .u8 1, .int .u8 0, .bool true, .bool false, .bool false]) HN.out HB.out H1.out) ?_
 clear k0 k1 k2 k3 k4 kl H1
 intro V hV
 have HV : Hid _ := hV
 have r2 := row_cell hV.r 2
 have rl := row_lt hV.r
 have ll := row_lt hV.l
 clear hV
 go_wp2
 go_loopw [22] (fun i' wr => ∃ j : Nat, i' = .int .i64 j ∧ j ≤ 1 ∧ AW w wr base X Tb n ⟨tkSet d.tk ⟨8, w0, a, b, c, kk, nn⟩ j, d.sn⟩ w1.heap.size (w1.heap.size + 1) ⟨8, w0, a, b, c, kk, nn⟩ #[.int .u8 0, .int .u8 15, .int .u8 1, .int .u8 0, .bool true, .bool false, .bool false]) (fun i _ => 1 - (intOf i).toNat)
 case atStart => exact ⟨0, rfl, by omega, HV.out⟩
 case round =>
  obtain ⟨j, rfl, hj, hW⟩ := hrel
  have HWr : Hid _ := hW
  have l6 := row_lt hW.l
  have r5 := row_cell hW.r 5
  have rl := row_lt hW.r
  have b0 := row_cell hW.bx 0
  have b1 := row_cell hW.bx 1
  have bl := row_lt hW.bx
  have xl := hW.nw.xb.lt
  have x0 : wr.cell? ⟨X, 0, none⟩ = some (.slice (some ⟨Tb, 0, none⟩) n n) := hW.nw.xb.cell (i := 0) (by omega)
  have c0 : wr.cell? ⟨w1.heap.size + 1, 0, none⟩ = some (.int .i64 a) := row_cell hW.l 0
  have c1 : wr.cell? ⟨w1.heap.size + 1, 1, none⟩ = some (.int .i64 b) := row_cell hW.l 1
  have c2 : wr.cell? ⟨w1.heap.size + 1, 2, none⟩ = some (.int .i64 c) := row_cell hW.l 2
  clear hW HV
  rcases (by omega : j = 0 ∨ j = 1) with rfl | rfl
  ·have i0 : (0 : Int) ≤ (a : Int) := by omega
   have i1 : (a : Int) < (n : Int) := Int.ofNat_lt.2 (HI.out 0 (by decide))
   have ct : wr.cell? ⟨Tb, a, none⟩ = some (.bool (tkSet d.tk ⟨8, w0, a, b, c, kk, nn⟩ 0 a)) := HWr.out.nw.tb.cell (i := a) (HI.out 0 (by decide))
   have tf := HWr.out.nw.tb.frozen
   have tl := HWr.out.nw.tb.lt
   go_wp2
   go_round
   case rel => exact ⟨1, by go_num, by omega, HWr.out.tk HX.out HTb.out a⟩
   case measure => simp [intOf]
  ·
   go_wp2
   go_end0
   exact ⟨rfl, HWr.out.nw, HWr.out.kn⟩
theorem asks_9 (base X Tb n : Nat) (d : ND) (w0 a b c kk nn : Nat) (w : World) (hN : NWo w base X Tb n d) (hb : base ≤ w.heap.size) (hi : ∀ q, q < tkN 9 → arg ⟨9, w0, a, b, c, kk, nn⟩ q < n) :
  Calls Try.prog 119 #[.pointer (some ⟨X, 0, none⟩), .agg #[.int .i64 9, .int .i64 w0, .int .i64 a, .int .i64 b, .int .i64 c, .int .u32 kk, .int .i64 nn]] w fun e w' => e = .returned (.tuple #[]) ∧ NWo w' base X Tb n (askN d ⟨9, w0, a, b, c, kk, nn⟩) ∧ KN base X Tb w w' := by
 have HR : Hid (ru (9 : Int) = ⟨0, 4, 1, 3, true, true, false⟩) := show _ = _ by rfl
 have HN : Hid _ := hN
 have HB : Hid (base ≤ w.heap.size) := hb
 have HI : Hid (∀ q, q < tkN 9 → arg ⟨9, w0, a, b, c, kk, nn⟩ q < n) := hi
 have HX : Hid (X < w.heap.size) := hN.xb.lt
 have HTb : Hid (Tb < w.heap.size) := hN.tb.lt
 have HE : Hid (askN d ⟨9, w0, a, b, c, kk, nn⟩ = seeN ⟨tkSet d.tk ⟨9, w0, a, b, c, kk, nn⟩ 1, d.sn⟩ 0) := show _ = _ by rfl
 rw [HE.out]
 clear hN hb hi
 go_enter Try.func119, Try.ntmps119
 go_upto_region 3 with (go_at_call 117; refine (ruleOf_me (9 : Int) _ _ HR.out).mono ?_; rintro e w1 ⟨rfl, h1⟩; have H1 : Hid _ := h1; have hk := (h1.block w.heap.size (by simp)).trans (heap_alloc_last _ _); have k0 := row_cell hk 0; have k1 := row_cell hk 1; have k2 := row_cell hk 2; have k3 := row_cell hk 3; have k4 := row_cell hk 4; have kl := row_lt hk; clear h1 hk)
 refine wp_gen (fun W' => AW w W' base X Tb n ⟨tkSet d.tk ⟨9, w0, a, b, c, kk, nn⟩ 0, d.sn⟩ w1.heap.size (w1.heap.size + 1) ⟨9, w0, a, b, c, kk, nn⟩ #[.int .u8 0, .int .u8 4, .int .u8 1, .int .u8 3, .bool true, .bool true, .bool false]) (AW.start (w1 := w1) (d := ⟨tkSet d.tk ⟨9, w0, a, b, c, kk, nn⟩ 0, d.sn⟩) (o := ⟨9, w0, a, b, c, kk, nn⟩) (rc := #[.int .u8 0, .int .u8 4, .int .u8 1, .int .u8 3, .bool true, .bool true, .bool false]) HN.out HB.out H1.out) ?_
 clear k0 k1 k2 k3 k4 kl H1
 intro V hV
 have HV : Hid _ := hV
 have r2 := row_cell hV.r 2
 have rl := row_lt hV.r
 have ll := row_lt hV.l
 clear hV
 go_wp2
 go_loopw [22] (fun i' wr => ∃ j : Nat, i' = .int .i64 j ∧ j ≤ 1 ∧ AW w wr base X Tb n ⟨tkSet d.tk ⟨9, w0, a, b, c, kk, nn⟩ j, d.sn⟩ w1.heap.size (w1.heap.size + 1) ⟨9, w0, a, b, c, kk, nn⟩ #[.int .u8 0, .int .u8 4, .int .u8 1, .int .u8 3, .bool true, .bool true, .bool false]) (fun i _ => 1 - (intOf i).toNat)
 case atStart => exact ⟨0, rfl, by omega, HV.out⟩
 case round =>
  obtain ⟨j, rfl, hj, hW⟩ := hrel
  have HWr : Hid _ := hW
  have l6 := row_lt hW.l
  have r5 := row_cell hW.r 5
  have rl := row_lt hW.r
  have b0 := row_cell hW.bx 0
  have b1 := row_cell hW.bx 1
  have bl := row_lt hW.bx
  have xl := hW.nw.xb.lt
  have x0 : wr.cell? ⟨X, 0, none⟩ = some (.slice (some ⟨Tb, 0, none⟩) n n) := hW.nw.xb.cell (i := 0) (by omega)
  have c0 : wr.cell? ⟨w1.heap.size + 1, 0, none⟩ = some (.int .i64 a) := row_cell hW.l 0
  have c1 : wr.cell? ⟨w1.heap.size + 1, 1, none⟩ = some (.int .i64 b) := row_cell hW.l 1
  have c2 : wr.cell? ⟨w1.heap.size + 1, 2, none⟩ = some (.int .i64 c) := row_cell hW.l 2
  clear hW HV
  rcases (by omega : j = 0 ∨ j = 1) with rfl | rfl
  ·have i0 : (0 : Int) ≤ (a : Int) := by omega
   have i1 : (a : Int) < (n : Int) := Int.ofNat_lt.2 (HI.out 0 (by decide))
   have ct : wr.cell? ⟨Tb, a, none⟩ = some (.bool (tkSet d.tk ⟨9, w0, a, b, c, kk, nn⟩ 0 a)) := HWr.out.nw.tb.cell (i := a) (HI.out 0 (by decide))
   have tf := HWr.out.nw.tb.frozen
   have tl := HWr.out.nw.tb.lt
   go_wp2
   go_round
   case rel => exact ⟨1, by go_num, by omega, HWr.out.tk HX.out HTb.out a⟩
   case measure => simp [intOf]
  ·
   go_wp2_with (go_at_call 168; refine (see_any base X Tb n ⟨tkSet d.tk ⟨9, w0, a, b, c, kk, nn⟩ 1, d.sn⟩ 0 _ HWr.out.nw (by omega)).mono ?_; rintro e w3 ⟨rfl, h3, k3⟩; have H3 : Hid _ := h3; have K3 : Hid _ := k3; clear h3 k3)
   go_end0
   exact ⟨rfl, H3.out, HWr.out.kn.trans K3.out⟩
theorem asks_10 (base X Tb n : Nat) (d : ND) (w0 a b c kk nn : Nat) (w : World) (hN : NWo w base X Tb n d) (hb : base ≤ w.heap.size) (hi : ∀ q, q < tkN 10 → arg ⟨10, w0, a, b, c, kk, nn⟩ q < n) :
  Calls Try.prog 119 #[.pointer (some ⟨X, 0, none⟩), .agg #[.int .i64 10, .int .i64 w0, .int .i64 a, .int .i64 b, .int .i64 c, .int .u32 kk, .int .i64 nn]] w fun e w' => e = .returned (.tuple #[]) ∧ NWo w' base X Tb n (askN d ⟨10, w0, a, b, c, kk, nn⟩) ∧ KN base X Tb w w' := by
 have HR : Hid (ru (10 : Int) = ⟨0, 2, 2, 3, false, true, false⟩) := show _ = _ by rfl
 have HN : Hid _ := hN
 have HB : Hid (base ≤ w.heap.size) := hb
 have HI : Hid (∀ q, q < tkN 10 → arg ⟨10, w0, a, b, c, kk, nn⟩ q < n) := hi
 have HX : Hid (X < w.heap.size) := hN.xb.lt
 have HTb : Hid (Tb < w.heap.size) := hN.tb.lt
 have HE : Hid (askN d ⟨10, w0, a, b, c, kk, nn⟩ = seeN ⟨tkSet d.tk ⟨10, w0, a, b, c, kk, nn⟩ 2, d.sn⟩ 0) := show _ = _ by rfl
 rw [HE.out]
 clear hN hb hi
 go_enter Try.func119, Try.ntmps119
 go_upto_region 3 with (go_at_call 117; refine (ruleOf_me (10 : Int) _ _ HR.out).mono ?_; rintro e w1 ⟨rfl, h1⟩; have H1 : Hid _ := h1; have hk := (h1.block w.heap.size (by simp)).trans (heap_alloc_last _ _); have k0 := row_cell hk 0; have k1 := row_cell hk 1; have k2 := row_cell hk 2; have k3 := row_cell hk 3; have k4 := row_cell hk 4; have kl := row_lt hk; clear h1 hk)
 refine wp_gen (fun W' => AW w W' base X Tb n ⟨tkSet d.tk ⟨10, w0, a, b, c, kk, nn⟩ 0, d.sn⟩ w1.heap.size (w1.heap.size + 1) ⟨10, w0, a, b, c, kk, nn⟩ #[.int .u8 0, .int .u8 2, .int .u8 2, .int .u8 3, .bool false, .bool true, .bool false]) (AW.start (w1 := w1) (d := ⟨tkSet d.tk ⟨10, w0, a, b, c, kk, nn⟩ 0, d.sn⟩) (o := ⟨10, w0, a, b, c, kk, nn⟩) (rc := #[.int .u8 0, .int .u8 2, .int .u8 2, .int .u8 3, .bool false, .bool true, .bool false]) HN.out HB.out H1.out) ?_
 clear k0 k1 k2 k3 k4 kl H1
 intro V hV
 have HV : Hid _ := hV
 have r2 := row_cell hV.r 2
 have rl := row_lt hV.r
 have ll := row_lt hV.l
 clear hV
 go_wp2
 go_loopw [22] (fun i' wr => ∃ j : Nat, i' = .int .i64 j ∧ j ≤ 2 ∧ AW w wr base X Tb n ⟨tkSet d.tk ⟨10, w0, a, b, c, kk, nn⟩ j, d.sn⟩ w1.heap.size (w1.heap.size + 1) ⟨10, w0, a, b, c, kk, nn⟩ #[.int .u8 0, .int .u8 2, .int .u8 2, .int .u8 3, .bool false, .bool true, .bool false]) (fun i _ => 2 - (intOf i).toNat)
 case atStart => exact ⟨0, rfl, by omega, HV.out⟩
 case round =>
  obtain ⟨j, rfl, hj, hW⟩ := hrel
  have HWr : Hid _ := hW
  have l6 := row_lt hW.l
  have r5 := row_cell hW.r 5
  have rl := row_lt hW.r
  have b0 := row_cell hW.bx 0
  have b1 := row_cell hW.bx 1
  have bl := row_lt hW.bx
  have xl := hW.nw.xb.lt
  have x0 : wr.cell? ⟨X, 0, none⟩ = some (.slice (some ⟨Tb, 0, none⟩) n n) := hW.nw.xb.cell (i := 0) (by omega)
  have c0 : wr.cell? ⟨w1.heap.size + 1, 0, none⟩ = some (.int .i64 a) := row_cell hW.l 0
  have c1 : wr.cell? ⟨w1.heap.size + 1, 1, none⟩ = some (.int .i64 b) := row_cell hW.l 1
  have c2 : wr.cell? ⟨w1.heap.size + 1, 2, none⟩ = some (.int .i64 c) := row_cell hW.l 2
  clear hW HV
  rcases (by omega : j = 0 ∨ j = 1 ∨ j = 2) with rfl | rfl | rfl
  ·have i0 : (0 : Int) ≤ (a : Int) := by omega
   have i1 : (a : Int) < (n : Int) := Int.ofNat_lt.2 (HI.out 0 (by decide))
   have ct : wr.cell? ⟨Tb, a, none⟩ = some (.bool (tkSet d.tk ⟨10, w0, a, b, c, kk, nn⟩ 0 a)) := HWr.out.nw.tb.cell (i := a) (HI.out 0 (by decide))
   have tf := HWr.out.nw.tb.frozen
   have tl := HWr.out.nw.tb.lt
   go_wp2
   go_round
   case rel => exact ⟨1, by go_num, by omega, HWr.out.tk HX.out HTb.out a⟩
   case measure => simp [intOf]
  ·have i0 : (0 : Int) ≤ (b : Int) := by omega
   have i1 : (b : Int) < (n : Int) := Int.ofNat_lt.2 (HI.out 1 (by decide))
   have ct : wr.cell? ⟨Tb, b, none⟩ = some (.bool (tkSet d.tk ⟨10, w0, a, b, c, kk, nn⟩ 1 b)) := HWr.out.nw.tb.cell (i := b) (HI.out 1 (by decide))
   have tf := HWr.out.nw.tb.frozen
   have tl := HWr.out.nw.tb.lt
   go_wp2
   go_round
   case rel => exact ⟨2, by go_num, by omega, HWr.out.tk HX.out HTb.out b⟩
   case measure => simp [intOf]
  ·
   go_wp2_with (go_at_call 168; refine (see_any base X Tb n ⟨tkSet d.tk ⟨10, w0, a, b, c, kk, nn⟩ 2, d.sn⟩ 0 _ HWr.out.nw (by omega)).mono ?_; rintro e w3 ⟨rfl, h3, k3⟩; have H3 : Hid _ := h3; have K3 : Hid _ := k3; clear h3 k3)
   go_end0
   exact ⟨rfl, H3.out, HWr.out.kn.trans K3.out⟩
end Go.Proofs.Ytkgbjpdoigdjnab
