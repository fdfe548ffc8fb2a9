import Derived.Test.YtkgbjpdoigdjnabOQ
set_option linter.unusedVariables false
set_option linter.unusedSimpArgs false
set_option maxHeartbeats 2000000
namespace Go.Proofs.Ytkgbjpdoigdjnab
open Go.RowKit
open Go.Maps
set_option maxRecDepth 100000
def tkSet (tk : Nat → Bool) (o : ON) : Nat → (Nat → Bool)
 | 0 => tk
 | q + 1 => upd (tkSet tk o q) (arg o q) true
def askN (d : ND) (o : ON) : ND :=
 ⟨tkSet d.tk o (tkN o.kd), if (ruT o.kd).leaves then (seeN d 0).sn else if o.kd = 17 then (seeN d 8).sn else if o.kd = 2 then upd d.sn o.w true else if o.kd = 3 then upd d.sn o.w false else d.sn⟩
theorem KN.next {base X Tb : Nat} {w w' w2 : World} (k : KN base X Tb w w') (h : Below w'.heap.size w' w2) (hb : base ≤ w.heap.size) : KN base X Tb w w2 := k.trans (KN.of_below h (Nat.le_trans hb k.bel.size))
structure AW (w W : World) (base X Tb n : Nat) (d : ND) (R L : Nat) (o : ON) (rc : Array Value) : Prop where
 nw : NWo W base X Tb n d
 bx : W.heap[w.heap.size]? = some (.cells #[.int .i64 o.kd, .int .i64 o.w, .int .i64 o.a, .int .i64 o.b, .int .i64 o.c, .int .u32 o.k, .int .i64 o.n] 67)
 r : W.heap[R]? = some (.cells rc 202)
 l : W.heap[L]? = some (.cells #[.int .i64 o.a, .int .i64 o.b, .int .i64 o.c] 233)
 kn : KN base X Tb w W
 lR : w.heap.size < R
 lL : R < L
theorem AW.start {w w1 : World} {base X Tb n : Nat} {d : ND} {o : ON} {rc : Array Value} (hN : NWo w base X Tb n d) (hb : base ≤ w.heap.size) (h : Below (w.alloc (.cells #[.int .i64 o.kd, .int .i64 o.w, .int .i64 o.a, .int .i64 o.b, .int .i64 o.c, .int .u32 o.k, .int .i64 o.n] 67)).heap.size (w.alloc (.cells #[.int .i64 o.kd, .int .i64 o.w, .int .i64 o.a, .int .i64 o.b, .int .i64 o.c, .int .u32 o.k, .int .i64 o.n] 67)) w1) : AW w ((w1.alloc (.cells rc 202)).alloc (.cells #[.int .i64 o.a, .int .i64 o.b, .int .i64 o.c] 233)) base X Tb n d w1.heap.size (w1.heap.size + 1) o rc := by
 have hs := h.size
 simp only [al_size] at hs
 have h0 : w1.heap[w.heap.size]? = some (.cells #[.int .i64 o.kd, .int .i64 o.w, .int .i64 o.a, .int .i64 o.b, .int .i64 o.c, .int .u32 o.k, .int .i64 o.n] 67) := (h.block _ (by simp)).trans (heap_alloc_last _ _)
 have hB1 : Below w.heap.size w w1 := ((Below.refl _ _).alloc (Nat.le_refl _) _).trans (h.mono (by simp))
 have hB : Below w.heap.size w ((w1.alloc (.cells rc 202)).alloc (.cells #[.int .i64 o.a, .int .i64 o.b, .int .i64 o.c] 233)) := (hB1.alloc (by omega) _).alloc (by simp; omega) _
 exact ⟨hN.below hB, (al_old _ _ _ (by simp; omega)).trans ((al_old _ _ _ (row_lt h0)).trans h0), (al2 w1 _ _).1, (al2 w1 _ _).2, KN.of_below hB hb, by omega, by omega⟩
theorem AW.tk {w W : World} {base X Tb n : Nat} {d : ND} {R L : Nat} {o : ON} {rc : Array Value} (h : AW w W base X Tb n d R L o rc) (hX : X < w.heap.size) (hT : Tb < w.heap.size) (i : Nat) : AW w (W.setCell ⟨Tb, i, none⟩ (.bool true)) base X Tb n ⟨upd d.tk i true, d.sn⟩ R L o rc :=
 ⟨h.nw.setTk i true, (blk_other (by omega) _).trans h.bx, (blk_other (by have := h.lR; omega) _).trans h.r, (blk_other (by have := h.lR; have := h.lL; omega) _).trans h.l, h.kn.set (.inr (.inl rfl)) h.nw.bT _ _, h.lR, h.lL⟩
theorem asks_1 (base X Tb n : Nat) (d : ND) (w0 a b c kk nn : Nat) (w : World) (hN : NWo w base X Tb n d) (hb : base ≤ w.heap.size) (hi : ∀ q, q < tkN 1 → arg ⟨1, w0, a, b, c, kk, nn⟩ q < n) :
  Calls Try.prog 119 #[.pointer (some ⟨X, 0, none⟩), .agg #[.int .i64 1, .int .i64 w0, .int .i64 a, .int .i64 b, .int .i64 c, .int .u32 kk, .int .i64 nn]] w fun e w' => e = .returned (.tuple #[]) ∧ NWo w' base X Tb n (askN d ⟨1, w0, a, b, c, kk, nn⟩) ∧ KN base X Tb w w' := by
 have HR : Hid (ru (1 : Int) = ⟨0, 0, 0, 1, true, false, false⟩) := show _ = _ by rfl
 have HN : Hid _ := hN
 have HB : Hid (base ≤ w.heap.size) := hb
 have HI : Hid (∀ q, q < tkN 1 → arg ⟨1, w0, a, b, c, kk, nn⟩ q < n) := hi
 have HX : Hid (X < w.heap.size) := hN.xb.lt
 have HTb : Hid (Tb < w.heap.size) := hN.tb.lt
 have HE : Hid (askN d ⟨1, w0, a, b, c, kk, nn⟩ = ⟨tkSet d.tk ⟨1, w0, a, b, c, kk, nn⟩ 0, d.sn⟩) := show _ = _ by rfl
 rw [HE.out]
 clear hN hb hi
 go_enter Try.func119, Try.ntmps119
 go_upto_region 3 with (go_at_call 117; refine (ruleOf_me (1 : Int) _ _ HR.out).mono ?_; rintro e w1 ⟨rfl, h1⟩; have H1 : Hid _ := h1; have hk := (h1.block w.heap.size (by simp)).trans (heap_alloc_last _ _); have k0 := row_cell hk 0; have k1 := row_cell hk 1; have k2 := row_cell hk 2; have k3 := row_cell hk 3; have k4 := row_cell hk 4; have kl := row_lt hk; clear h1 hk)
 refine wp_gen (fun W' => AW w W' base X Tb n ⟨tkSet d.tk ⟨1, w0, a, b, c, kk, nn⟩ 0, d.sn⟩ w1.heap.size (w1.heap.size + 1) ⟨1, w0, a, b, c, kk, nn⟩ #[.int .u8 0, .int .u8 0, .int .u8 0, .int .u8 1, .bool true, .bool false, .bool false]) (AW.start (w1 := w1) (d := ⟨tkSet d.tk ⟨1, w0, a, b, c, kk, nn⟩ 0, d.sn⟩) (o := ⟨1, w0, a, b, c, kk, nn⟩) (rc := #[.int .u8 0, .int .u8 0, .int .u8 0, .int .u8 1, .bool true, .bool false, .bool false]) HN.out HB.out H1.out) ?_
 clear k0 k1 k2 k3 k4 kl H1
 intro V hV
 have HV : Hid _ := hV
 have r2 := row_cell hV.r 2
 have rl := row_lt hV.r
 have ll := row_lt hV.l
 clear hV
 go_wp2
 go_loopw [22] (fun i' wr => ∃ j : Nat, i' = .int .i64 j ∧ j ≤ 0 ∧ AW w wr base X Tb n ⟨tkSet d.tk ⟨1, w0, a, b, c, kk, nn⟩ j, d.sn⟩ w1.heap.size (w1.heap.size + 1) ⟨1, w0, a, b, c, kk, nn⟩ #[.int .u8 0, .int .u8 0, .int .u8 0, .int .u8 1, .bool true, .bool false, .bool false]) (fun i _ => 0 - (intOf i).toNat)
 case atStart => exact ⟨0, rfl, by omega, HV.out⟩
 case round =>
  obtain ⟨j, rfl, hj, hW⟩ := hrel
  have HWr : Hid _ := hW
  have l6 := row_lt hW.l
  have r5 := row_cell hW.r 5
  have rl := row_lt hW.r
  have b0 := row_cell hW.bx 0
  have b1 := row_cell hW.bx 1
  have bl := row_lt hW.bx
  have xl := hW.nw.xb.lt
  have x0 : wr.cell? ⟨X, 0, none⟩ = some (.slice (some ⟨Tb, 0, none⟩) n n) := hW.nw.xb.cell (i := 0) (by omega)
  have c0 : wr.cell? ⟨w1.heap.size + 1, 0, none⟩ = some (.int .i64 a) := row_cell hW.l 0
  have c1 : wr.cell? ⟨w1.heap.size + 1, 1, none⟩ = some (.int .i64 b) := row_cell hW.l 1
  have c2 : wr.cell? ⟨w1.heap.size + 1, 2, none⟩ = some (.int .i64 c) := row_cell hW.l 2
  clear hW HV
  rcases (by omega : j = 0) with rfl
  ·
   go_wp2
   go_end0
   exact ⟨rfl, HWr.out.nw, HWr.out.kn⟩
theorem asks_2 (base X Tb n : Nat) (d : ND) (w0 a b c kk nn : Nat) (w : World) (hN : NWo w base X Tb n d) (hb : base ≤ w.heap.size) (hi : ∀ q, q < tkN 2 → arg ⟨2, w0, a, b, c, kk, nn⟩ q < n) (hw : w0 < 12) :
  Calls Try.prog 119 #[.pointer (some ⟨X, 0, none⟩), .agg #[.int .i64 2, .int .i64 w0, .int .i64 a, .int .i64 b, .int .i64 c, .int .u32 kk, .int .i64 nn]] w fun e w' => e = .returned (.tuple #[]) ∧ NWo w' base X Tb n (askN d ⟨2, w0, a, b, c, kk, nn⟩) ∧ KN base X Tb w w' := by
 have HR : Hid (ru (2 : Int) = ⟨0, 11, 0, 0, true, false, false⟩) := show _ = _ by rfl
 have HN : Hid _ := hN
 have HB : Hid (base ≤ w.heap.size) := hb
 have HI : Hid (∀ q, q < tkN 2 → arg ⟨2, w0, a, b, c, kk, nn⟩ q < n) := hi
 have HX : Hid (X < w.heap.size) := hN.xb.lt
 have HTb : Hid (Tb < w.heap.size) := hN.tb.lt
 have HE : Hid (askN d ⟨2, w0, a, b, c, kk, nn⟩ = ⟨tkSet d.tk ⟨2, w0, a, b, c, kk, nn⟩ 0, upd d.sn w0 true⟩) := show _ = _ by rfl
 have HWW : Hid (w0 < 12) := hw
 clear hw
 rw [HE.out]
 clear hN hb hi
 go_enter Try.func119, Try.ntmps119
 go_upto_region 3 with (go_at_call 117; refine (ruleOf_me (2 : Int) _ _ HR.out).mono ?_; rintro e w1 ⟨rfl, h1⟩; have H1 : Hid _ := h1; have hk := (h1.block w.heap.size (by simp)).trans (heap_alloc_last _ _); have k0 := row_cell hk 0; have k1 := row_cell hk 1; have k2 := row_cell hk 2; have k3 := row_cell hk 3; have k4 := row_cell hk 4; have kl := row_lt hk; clear h1 hk)
 refine wp_gen (fun W' => AW w W' base X Tb n ⟨tkSet d.tk ⟨2, w0, a, b, c, kk, nn⟩ 0, d.sn⟩ w1.heap.size (w1.heap.size + 1) ⟨2, w0, a, b, c, kk, nn⟩ #[.int .u8 0, .int .u8 11, .int .u8 0, .int .u8 0, .bool true, .bool false, .bool false]) (AW.start (w1 := w1) (d := ⟨tkSet d.tk ⟨2, w0, a, b, c, kk, nn⟩ 0, d.sn⟩) (o := ⟨2, w0, a, b, c, kk, nn⟩) (rc := #[.int .u8 0, .int .u8 11, .int .u8 0, .int .u8 0, .bool true, .bool false, .bool false]) HN.out HB.out H1.out) ?_
 clear k0 k1 k2 k3 k4 kl H1
 intro V hV
 have HV : Hid _ := hV
 have r2 := row_cell hV.r 2
 have rl := row_lt hV.r
 have ll := row_lt hV.l
 clear hV
 go_wp2
 go_loopw [22] (fun i' wr => ∃ j : Nat, i' = .int .i64 j ∧ j ≤ 0 ∧ AW w wr base X Tb n ⟨tkSet d.tk ⟨2, w0, a, b, c, kk, nn⟩ j, d.sn⟩ w1.heap.size (w1.heap.size + 1) ⟨2, w0, a, b, c, kk, nn⟩ #[.int .u8 0, .int .u8 11, .int .u8 0, .int .u8 0, .bool true, .bool false, .bool false]) (fun i _ => 0 - (intOf i).toNat)
 case atStart => exact ⟨0, rfl, by omega, HV.out⟩
 case round =>
  obtain ⟨j, rfl, hj, hW⟩ := hrel
  have HWr : Hid _ := hW
  have l6 := row_lt hW.l
  have r5 := row_cell hW.r 5
  have rl := row_lt hW.r
  have b0 := row_cell hW.bx 0
  have b1 := row_cell hW.bx 1
  have bl := row_lt hW.bx
  have xl := hW.nw.xb.lt
  have x0 : wr.cell? ⟨X, 0, none⟩ = some (.slice (some ⟨Tb, 0, none⟩) n n) := hW.nw.xb.cell (i := 0) (by omega)
  have c0 : wr.cell? ⟨w1.heap.size + 1, 0, none⟩ = some (.int .i64 a) := row_cell hW.l 0
  have c1 : wr.cell? ⟨w1.heap.size + 1, 1, none⟩ = some (.int .i64 b) := row_cell hW.l 1
  have c2 : wr.cell? ⟨w1.heap.size + 1, 2, none⟩ = some (.int .i64 c) := row_cell hW.l 2
  clear hW HV
  rcases (by omega : j = 0) with rfl
  ·
   have w1 : (w0 : Int) < 12 := by have := HWW.out; omega
   have w00 : (0 : Int) ≤ (w0 : Int) := by omega
   have cs := HWr.out.nw.xb.cell (i := 1 + w0) (by have := HWW.out; omega)
   rw [nd_sn] at cs
   have xf := HWr.out.nw.xb.frozen
   have xl := HWr.out.nw.xb.lt
   go_upto_region 13 with fail
   go_region
   all_goals
    go_wp2
    go_end0
    exact ⟨rfl, (HWr.out.nw.setSn w0 true HWW.out).below (by (repeat first | with_reducible exact Below.refl _ _ | with_reducible exact Below.refl _ _ | with_reducible refine Below.drew ?_ | with_reducible refine below_drewN ?_ _ | with_reducible refine Below.alloc ?_ (by first | (simp; done) | (simp; omega) | omega) _ | with_reducible refine Below.setCell ?_ (by first | (simp; done) | (simp; omega) | omega) _)), (HWr.out.kn.set (.inl rfl) HWr.out.nw.bX _ _).next (by (repeat first | with_reducible exact Below.refl _ _ | with_reducible exact Below.refl _ _ | with_reducible refine Below.drew ?_ | with_reducible refine below_drewN ?_ _ | with_reducible refine Below.alloc ?_ (by first | (simp; done) | (simp; omega) | omega) _ | with_reducible refine Below.setCell ?_ (by first | (simp; done) | (simp; omega) | omega) _)) HB.out⟩
theorem asks_3 (base X Tb n : Nat) (d : ND) (w0 a b c kk nn : Nat) (w : World) (hN : NWo w base X Tb n d) (hb : base ≤ w.heap.size) (hi : ∀ q, q < tkN 3 → arg ⟨3, w0, a, b, c, kk, nn⟩ q < n) (hw : w0 < 12) :
  Calls Try.prog 119 #[.pointer (some ⟨X, 0, none⟩), .agg #[.int .i64 3, .int .i64 w0, .int .i64 a, .int .i64 b, .int .i64 c, .int .u32 kk, .int .i64 nn]] w fun e w' => e = .returned (.tuple #[]) ∧ NWo w' base X Tb n (askN d ⟨3, w0, a, b, c, kk, nn⟩) ∧ KN base X Tb w w' := by
 have HR : Hid (ru (3 : Int) = ⟨0, 11, 1, 0, false, false, false⟩) := show _ = _ by rfl
 have HN : Hid _ := hN
 have HB : Hid (base ≤ w.heap.size) := hb
 have HI : Hid (∀ q, q < tkN 3 → arg ⟨3, w0, a, b, c, kk, nn⟩ q < n) := hi
 have HX : Hid (X < w.heap.size) := hN.xb.lt
 have HTb : Hid (Tb < w.heap.size) := hN.tb.lt
 have HE : Hid (askN d ⟨3, w0, a, b, c, kk, nn⟩ = ⟨tkSet d.tk ⟨3, w0, a, b, c, kk, nn⟩ 1, upd d.sn w0 false⟩) := show _ = _ by rfl
 have HWW : Hid (w0 < 12) := hw
 clear hw
 rw [HE.out]
 clear hN hb hi
 go_enter Try.func119, Try.ntmps119
 go_upto_region 3 with (go_at_call 117; refine (ruleOf_me (3 : Int) _ _ HR.out).mono ?_; rintro e w1 ⟨rfl, h1⟩; have H1 : Hid _ := h1; have hk := (h1.block w.heap.size (by simp)).trans (heap_alloc_last _ _); have k0 := row_cell hk 0; have k1 := row_cell hk 1; have k2 := row_cell hk 2; have k3 := row_cell hk 3; have k4 := row_cell hk 4; have kl := row_lt hk; clear h1 hk)
 refine wp_gen (fun W' => AW w W' base X Tb n ⟨tkSet d.tk ⟨3, w0, a, b, c, kk, nn⟩ 0, d.sn⟩ w1.heap.size (w1.heap.size + 1) ⟨3, w0, a, b, c, kk, nn⟩ #[.int .u8 0, .int .u8 11, .int .u8 1, .int .u8 0, .bool false, .bool false, .bool false]) (AW.start (w1 := w1) (d := ⟨tkSet d.tk ⟨3, w0, a, b, c, kk, nn⟩ 0, d.sn⟩) (o := ⟨3, w0, a, b, c, kk, nn⟩) (rc := #[.int .u8 0, .int .u8 11, .int .u8 1, .int .u8 0, .bool false, .bool false, .bool false]) HN.out HB.out H1.out) ?_
 clear k0 k1 k2 k3 k4 kl H1
 intro V hV
 have HV : Hid _ := hV
 have r2 := row_cell hV.r 2
 have rl := row_lt hV.r
 have ll := row_lt hV.l
 clear hV
 go_wp2
 go_loopw [22] (fun i' wr => ∃ j : Nat, i' = .int .i64 j ∧ j ≤ 1 ∧ AW w wr base X Tb n ⟨tkSet d.tk ⟨3, w0, a, b, c, kk, nn⟩ j, d.sn⟩ w1.heap.size (w1.heap.size + 1) ⟨3, w0, a, b, c, kk, nn⟩ #[.int .u8 0, .int .u8 11, .int .u8 1, .int .u8 0, .bool false, .bool false, .bool false]) (fun i _ => 1 - (intOf i).toNat)
 case atStart => exact ⟨0, rfl, by omega, HV.out⟩
 case round =>
  obtain ⟨j, rfl, hj, hW⟩ := hrel
  have HWr : Hid _ := hW
  have l6 := row_lt hW.l
  have r5 := row_cell hW.r 5
  have rl := row_lt hW.r
  have b0 := row_cell hW.bx 0
  have b1 := row_cell hW.bx 1
  have bl := row_lt hW.bx
  have xl := hW.nw.xb.lt
  have x0 : wr.cell? ⟨X, 0, none⟩ = some (.slice (some ⟨Tb, 0, none⟩) n n) := hW.nw.xb.cell (i := 0) (by omega)
  have c0 : wr.cell? ⟨w1.heap.size + 1, 0, none⟩ = some (.int .i64 a) := row_cell hW.l 0
  have c1 : wr.cell? ⟨w1.heap.size + 1, 1, none⟩ = some (.int .i64 b) := row_cell hW.l 1
  have c2 : wr.cell? ⟨w1.heap.size + 1, 2, none⟩ = some (.int .i64 c) := row_cell hW.l 2
  clear hW HV
  rcases (by omega : j = 0 ∨ j = 1) with rfl | rfl
  ·have i0 : (0 : Int) ≤ (a : Int) := by omega
   have i1 : (a : Int) < (n : Int) := Int.ofNat_lt.2 (HI.out 0 (by decide))
   have ct : wr.cell? ⟨Tb, a, none⟩ = some (.bool (tkSet d.tk ⟨3, w0, a, b, c, kk, nn⟩ 0 a)) := HWr.out.nw.tb.cell (i := a) (HI.out 0 (by decide))
   have tf := HWr.out.nw.tb.frozen
   have tl := HWr.out.nw.tb.lt
   go_wp2
   go_round
   case rel => exact ⟨1, by go_num, by omega, HWr.out.tk HX.out HTb.out a⟩
   case measure => simp [intOf]
  ·
   have w1 : (w0 : Int) < 12 := by have := HWW.out; omega
   have w00 : (0 : Int) ≤ (w0 : Int) := by omega
   have cs := HWr.out.nw.xb.cell (i := 1 + w0) (by have := HWW.out; omega)
   rw [nd_sn] at cs
   have xf := HWr.out.nw.xb.frozen
   have xl := HWr.out.nw.xb.lt
   go_upto_region 15 with fail
   go_region
   all_goals
    go_wp2
    go_end0
    exact ⟨rfl, (HWr.out.nw.setSn w0 false HWW.out).below (by (repeat first | with_reducible exact Below.refl _ _ | with_reducible exact Below.refl _ _ | with_reducible refine Below.drew ?_ | with_reducible refine below_drewN ?_ _ | with_reducible refine Below.alloc ?_ (by first | (simp; done) | (simp; omega) | omega) _ | with_reducible refine Below.setCell ?_ (by first | (simp; done) | (simp; omega) | omega) _)), (HWr.out.kn.set (.inl rfl) HWr.out.nw.bX _ _).next (by (repeat first | with_reducible exact Below.refl _ _ | with_reducible exact Below.refl _ _ | with_reducible refine Below.drew ?_ | with_reducible refine below_drewN ?_ _ | with_reducible refine Below.alloc ?_ (by first | (simp; done) | (simp; omega) | omega) _ | with_reducible refine Below.setCell ?_ (by first | (simp; done) | (simp; omega) | omega) _)) HB.out⟩
theorem asks_4 (base X Tb n : Nat) (d : ND) (w0 a b c kk nn : Nat) (w : World) (hN : NWo w base X Tb n d) (hb : base ≤ w.heap.size) (hi : ∀ q, q < tkN 4 → arg ⟨4, w0, a, b, c, kk, nn⟩ q < n) :
  Calls Try.prog 119 #[.pointer (some ⟨X, 0, none⟩), .agg #[.int .i64 4, .int .i64 w0, .int .i64 a, .int .i64 b, .int .i64 c, .int .u32 kk, .int .i64 nn]] w fun e w' => e = .returned (.tuple #[]) ∧ NWo w' base X Tb n (askN d ⟨4, w0, a, b, c, kk, nn⟩) ∧ KN base X Tb w w' := by
 have HR : Hid (ru (4 : Int) = ⟨0, 15, 2, 0, true, false, false⟩) := show _ = _ by rfl
 have HN : Hid _ := hN
 have HB : Hid (base ≤ w.heap.size) := hb
 have HI : Hid (∀ q, q < tkN 4 → arg ⟨4, w0, a, b, c, kk, nn⟩ q < n) := hi
 have HX : Hid (X < w.heap.size) := hN.xb.lt
 have HTb : Hid (Tb < w.heap.size) := hN.tb.lt
 have HE : Hid (askN d ⟨4, w0, a, b, c, kk, nn⟩ = ⟨tkSet d.tk ⟨4, w0, a, b, c, kk, nn⟩ 2, d.sn⟩) := show _ = _ by rfl
 rw [HE.out]
 clear hN hb hi
 go_enter Try.func119, Try.ntmps119
 go_upto_region 3 with (go_at_call 117; refine (ruleOf_me (4 : Int) _ _ HR.out).mono ?_; rintro e w1 ⟨rfl, h1⟩; have H1 : Hid _ := h1; have hk := (h1.block w.heap.size (by simp)).trans (heap_alloc_last _ _); have k0 := row_cell hk 0; have k1 := row_cell hk 1; have k2 := row_cell hk 2; have k3 := row_cell hk 3; have k4 := row_cell hk 4; have kl := row_lt hk; clear h1 hk)
 refine wp_gen (fun W' => AW w W' base X Tb n ⟨tkSet d.tk ⟨4, w0, a, b, c, kk, nn⟩ 0, d.sn⟩ w1.heap.size (w1.heap.size + 1) ⟨4, w0, a, b, c, kk, nn⟩ #[.int .u8 0, .int .u8 15, .int .u8 2, .int .u8 0, .bool true, .bool false, .bool false]) (AW.start (w1 := w1) (d := ⟨tkSet d.tk ⟨4, w0, a, b, c, kk, nn⟩ 0, d.sn⟩) (o := ⟨4, w0, a, b, c, kk, nn⟩) (rc := #[.int .u8 0, .int .u8 15, .int .u8 2, .int .u8 0, .bool true, .bool false, .bool false]) HN.out HB.out H1.out) ?_
 clear k0 k1 k2 k3 k4 kl H1
 intro V hV
 have HV : Hid _ := hV
 have r2 := row_cell hV.r 2
 have rl := row_lt hV.r
 have ll := row_lt hV.l
 clear hV
 go_wp2
 go_loopw [22] (fun i' wr => ∃ j : Nat, i' = .int .i64 j ∧ j ≤ 2 ∧ AW w wr base X Tb n ⟨tkSet d.tk ⟨4, w0, a, b, c, kk, nn⟩ j, d.sn⟩ w1.heap.size (w1.heap.size + 1) ⟨4, w0, a, b, c, kk, nn⟩ #[.int .u8 0, .int .u8 15, .int .u8 2, .int .u8 0, .bool true, .bool false, .bool false]) (fun i _ => 2 - (intOf i).toNat)
 case atStart => exact ⟨0, rfl, by omega, HV.out⟩
 case round =>
  obtain ⟨j, rfl, hj, hW⟩ := hrel
  have HWr : Hid _ := hW
  have l6 := row_lt hW.l
  have r5 := row_cell hW.r 5
  have rl := row_lt hW.r
  have b0 := row_cell hW.bx 0
  have b1 := row_cell hW.bx 1
  have bl := row_lt hW.bx
  have xl := hW.nw.xb.lt
  have x0 : wr.cell? ⟨X, 0, none⟩ = some (.slice (some ⟨Tb, 0, none⟩) n n) := hW.nw.xb.cell (i := 0) (by omega)
  have c0 : wr.cell? ⟨w1.heap.size + 1, 0, none⟩ = some (.int .i64 a) := row_cell hW.l 0
  have c1 : wr.cell? ⟨w1.heap.size + 1, 1, none⟩ = some (.int .i64 b) := row_cell hW.l 1
  have c2 : wr.cell? ⟨w1.heap.size + 1, 2, none⟩ = some (.int .i64 c) := row_cell hW.l 2
  clear hW HV
  rcases (by omega : j = 0 ∨ j = 1 ∨ j = 2) with rfl | rfl | rfl
  ·have i0 : (0 : Int) ≤ (a : Int) := by omega
   have i1 : (a : Int) < (n : Int) := Int.ofNat_lt.2 (HI.out 0 (by decide))
   have ct : wr.cell? ⟨Tb, a, none⟩ = some (.bool (tkSet d.tk ⟨4, w0, a, b, c, kk, nn⟩ 0 a)) := HWr.out.nw.tb.cell (i := a) (HI.out 0 (by decide))
   have tf := HWr.out.nw.tb.frozen
   have tl := HWr.out.nw.tb.lt
   go_wp2
   go_round
   case rel => exact ⟨1, by go_num, by omega, HWr.out.tk HX.out HTb.out a⟩
   case measure => simp [intOf]
  ·have i0 : (0 : Int) ≤ (b : Int) := by omega
   have i1 : (b : Int) < (n : Int) := Int.ofNat_lt.2 (HI.out 1 (by decide))
   have ct : wr.cell? ⟨Tb, b, none⟩ = some (.bool (tkSet d.tk ⟨4, w0, a, b, c, kk, nn⟩ 1 b)) := HWr.out.nw.tb.cell (i := b) (HI.out 1 (by decide))
   have tf := HWr.out.nw.tb.frozen
   have tl := HWr.out.nw.tb.lt
   go_wp2
   go_round
   case rel => exact ⟨2, by go_num, by omega, HWr.out.tk HX.out HTb.out b⟩
   case measure => simp [intOf]
  ·
   go_wp2
   go_end0
   exact ⟨rfl, HWr.out.nw, HWr.out.kn⟩
end Go.Proofs.Ytkgbjpdoigdjnab
