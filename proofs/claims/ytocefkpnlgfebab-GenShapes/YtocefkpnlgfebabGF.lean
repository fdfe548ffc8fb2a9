import Derived.Test.YtocefkpnlgfebabGE
namespace Go.Proofs.Ytocefkpnlgfebab.Ho
open Go.RowKit
set_option maxRecDepth 100000
set_option linter.unusedVariables false
set_option linter.unusedSimpArgs false

theorem encP_len (x : Cd) : (encP x).2.length ≤ 3 := by
  unfold encP
  split
  · decide
  · split
    · show (wsE _ _ _ _).length ≤ 3; rw [wsE_len]; exact szN_le3 _
    · decide
theorem layF_len (g : G) (x : Cd) : (layF g x).l.length ≤ g.l.length + 3 := by
  show (g.l ++ (encP x).2).length ≤ _
  rw [List.length_append]; have := encP_len x; omega
theorem saveF_keep (g : G) (r : Nat) : (saveF g r).hf = g.hf ∧ (saveF g r).hv = g.hv ∧ (saveF g r).bz = g.bz ∧ (saveF g r).P = g.P ∧ (saveF g r).l.length ≤ g.l.length + 3 := by
  unfold saveF
  split
  · exact ⟨rfl, rfl, rfl, rfl, layF_len g _⟩
  · exact ⟨rfl, rfl, rfl, rfl, by omega⟩
theorem roomG_keep (g : G) (regs : Nat) : (roomG g regs).hf = g.hf ∧ (roomG g regs).hv = g.hv ∧ (roomG g regs).bz = g.bz ∧ (roomG g regs).P = g.P ∧ (roomG g regs).l.length ≤ g.l.length + 3 := by
  unfold roomG
  split
  · exact ⟨rfl, rfl, rfl, rfl, by omega⟩
  · exact saveF_keep g _
def bringX (f : Nat → OpR) (g : G) (v r : Nat) : Cd := if (g.P v).lazy = true then { cdF (f v) with d := r } else ⟨8, r, 0, 0, 0, v, 0, 0⟩
def inReg (g : G) (r v : Nat) (b : Bool) : G := { g with hf := upd g.hf r b, hv := upd g.hv r v }
def busy (g : G) (r : Nat) : G := { g with bz := upd g.bz r true }
def bringN (g : G) (regs v : Nat) : Nat := match findR g v regs 0 with | some r => r | none => roomN g regs
def bringG (f : Nat → OpR) (g : G) (regs v : Nat) : G := match findR g v regs 0 with
  | some r => busy g r
  | none => busy (inReg (layF (roomG g regs) (bringX f (roomG g regs) v (roomN g regs))) (roomN g regs) v true) (roomN g regs)
theorem findR_lt (g : G) (v regs : Nat) : ∀ m r q, r + m = regs → findR g v m r = some q → q < regs
  | 0, _, _, _, h => by cases h
  | m + 1, r, q, e, h => by
    unfold findR at h
    split at h
    · cases h; omega
    · exact findR_lt g v regs m (r + 1) q (by omega) h
structure BX (w W : World) (X : Cd) : Prop where
  x : W.heap[w.heap.size]? = some (.cells (cdA X) 57)
  bel : Below w.heap.size w W
theorem bx_start (w : World) (X : Cd) : BX w (w.alloc (.cells (cdA X) 57)) X := ⟨heap_alloc_last _ _, (Below.refl _ _).alloc (Nat.le_refl _) _⟩
theorem BX.put {w W : World} {X : Cd} (h : BX w W X) (Y : Cd) (o : Nat) (u : Value) (e : (cdA X).setIfInBounds o u = cdA Y) : BX w (W.setCell ⟨w.heap.size, o, none⟩ u) Y := ⟨(blk_set h.x u).trans (by rw [e]), h.bel.setCell (Nat.le_refl _) _⟩
theorem BX.put8 {w W : World} {X : Cd} (h : BX w W X) (Y : Cd) : BX w ((((((((W.setCell ⟨w.heap.size, 0, none⟩ (.int .i64 Y.op)).setCell ⟨w.heap.size, 1, none⟩ (.int .i64 Y.d)).setCell ⟨w.heap.size, 2, none⟩ (.int .i64 Y.a)).setCell ⟨w.heap.size, 3, none⟩ (.int .i64 Y.b)).setCell ⟨w.heap.size, 4, none⟩ (.int .i64 Y.c)).setCell ⟨w.heap.size, 5, none⟩ (.int .i64 Y.n)).setCell ⟨w.heap.size, 6, none⟩ (.int .u32 Y.k)).setCell ⟨w.heap.size, 7, none⟩ (.int .u32 Y.x)) Y :=
  (((((((h.put { X with op := Y.op } 0 _ rfl).put { X with op := Y.op, d := Y.d } 1 _ rfl).put { X with op := Y.op, d := Y.d, a := Y.a } 2 _ rfl).put { X with op := Y.op, d := Y.d, a := Y.a, b := Y.b } 3 _ rfl).put { X with op := Y.op, d := Y.d, a := Y.a, b := Y.b, c := Y.c } 4 _ rfl).put { X with op := Y.op, d := Y.d, a := Y.a, b := Y.b, c := Y.c, n := Y.n } 5 _ rfl).put { X with op := Y.op, d := Y.d, a := Y.a, b := Y.b, c := Y.c, n := Y.n, k := Y.k } 6 _ rfl).put Y 7 _ rfl
theorem BX.next {w W W2 : World} {X : Cd} (h : BX w W X) (k : Below W.heap.size W W2) : BX w W2 X := ⟨(k.block _ (row_lt h.x)).trans h.x, h.bel.trans (k.mono h.bel.size)⟩
theorem BX.setD {w W : World} {X : Cd} (h : BX w W X) (d : Int) : BX w (W.setCell ⟨w.heap.size, 1, none⟩ (.int .i64 d)) { X with d := d } := ⟨(blk_set h.x _).trans rfl, h.bel.setCell (Nat.le_refl _) _⟩
set_option maxHeartbeats 2000000 in
theorem bring_hit (base M Q n : Nat) (bp : Option Addr) (cap pcap regs : Nat) (f : Nat → OpR) (g : G) (sv : Value) (v r : Nat) (w : World) (hG : GW w base M Q n bp cap pcap regs f g sv) (hr : regs ≤ 16) (hF : findR g v regs 0 = some r) :
    Calls Try.prog 104 #[.pointer (some ⟨M, 0, none⟩), .int .i64 v] w fun e w' => e = .returned (.int .i64 r) ∧ (∃ sv', GW w' base M Q n bp cap pcap regs f (busy g r) sv') ∧ Kx base M Q w w' := by
  have hrl := findR_lt g v regs regs 0 r (by omega) hF
  have HG : Hid _ := hG
  have HF : Hid _ := hF
  have HR : Hid (regs ≤ 16) := hr
  have HR2 : Hid (r < 16) := show r < 16 by omega
  have r0 : (0 : Int) ≤ (r : Int) := by omega
  have r1 : (r : Int) < 16 := by omega
  have m0 := hG.mb.cell (i := 35 + r) (by omega)
  have m1 := hG.mb.frozen (35 + r)
  have lM := hG.mb.lt
  clear hG hF hr hrl
  go_enter Try.func104, Try.ntmps104
  go_wp2_with (go_at_call 128; refine (find_any base M Q n bp cap pcap regs f g sv v _ HG.out HR.out).mono ?_; rintro e w1 ⟨rfl, rfl⟩; rw [HF.out]; simp only [Option.getD_some, Option.isSome_some])
  go_ret
  exact ⟨rfl, ⟨sv, HG.out.setM (35 + r) (.bool true) _ (mk_bz _ _ _ _ _ r true HR2.out) rfl rfl⟩, (Kx.refl _ _ _ _).setIn (.inl rfl) HG.out.bM _ _⟩

set_option maxHeartbeats 4000000 in
theorem bring_f (base M Q n : Nat) (bp : Option Addr) (cap pcap regs : Nat) (f : Nat → OpR) (g : G) (sv : Value) (v : Nat) (w : World) (hG : GW w base M Q n bp cap pcap regs f g sv) (h0 : 0 < regs) (hr : regs ≤ 16) (hv : ∀ r, r < 16 → g.hv r < n) (hvn : v < n) (hn : n ≤ 2048) (hl : g.l.length ≤ 99990) (hF : findR g v regs 0 = none) (hz : (g.P v).lazy = false) :
    Calls Try.prog 104 #[.pointer (some ⟨M, 0, none⟩), .int .i64 v] w fun e w' => e = .returned (.int .i64 (roomN g regs)) ∧ (∃ sv', GW w' base M Q n bp cap pcap regs f (busy (inReg (layF (roomG g regs) (bringX f (roomG g regs) v (roomN g regs))) (roomN g regs) v true) (roomN g regs)) sv') ∧ Kx base M Q w w' := by
  have hrl := roomN_lt g regs h0
  obtain ⟨r, HRN⟩ : ∃ r, Hid (roomN g regs = r) := ⟨_, rfl⟩
  obtain ⟨g1, HG1N⟩ : ∃ g1, Hid (roomG g regs = g1) := ⟨_, rfl⟩
  rw [HRN.out] at hrl
  obtain ⟨e1, e2, e3, e4, e5⟩ := roomG_keep g regs
  rw [HG1N.out] at e1 e2 e3 e4 e5
  have HL1 : Hid (g1.l.length ≤ 100000) := show _ ≤ _ by omega
  have HLZ : Hid ((g1.P v).lazy = false) := show _ = _ by rw [e4]; exact hz
  have HX : Hid (bringX f g1 v r = { (⟨8, 0, 0, 0, 0, v, 0, 0⟩ : Cd) with d := (r : Int) }) := show _ = _ by unfold bringX; rw [HLZ.out]; rfl
  have HG : Hid _ := hG
  have HF : Hid _ := hF
  have HR : Hid (regs ≤ 16) := hr
  have HR0 : Hid (0 < regs) := h0
  have HV : Hid _ := hv
  have HNN : Hid (n ≤ 2048) := hn
  have HL : Hid (g.l.length ≤ 100000) := show _ ≤ _ by omega
  have HR2 : Hid (r < 16) := show r < 16 by omega
  have HVN : Hid (v < n) := hvn
  have r0 : (0 : Int) ≤ (r : Int) := by omega
  have r1 : (r : Int) < 16 := by omega
  have v0 : (0 : Int) ≤ (v : Int) := by omega
  have v1 : (v : Int) < (n : Int) := by omega
  clear hG hF hr h0 hv hn hl hrl hvn e1 e2 e3 e4 e5 hz
  rw [HRN.out, HG1N.out, HX.out]
  go_enter Try.func104, Try.ntmps104
  go_upto_region 5 with (first
    | (go_at_call 128; refine (find_any base M Q n bp cap pcap regs f g sv v _ HG.out HR.out).mono ?_; rintro e w1 ⟨rfl, rfl⟩; rw [HF.out]; simp only [Option.getD_none, Option.isSome_none])
    | (go_at_call 129; refine (room_any base M Q n bp cap pcap regs f g sv _ HG.out HR0.out HR.out HV.out HNN.out HL.out).mono ?_; rintro e w1 ⟨rfl, ⟨sv1, hG1⟩, hK1⟩; rw [HRN.out]; rw [HG1N.out] at hG1; have HG1 : Hid _ := hG1; have HK1 : Hid _ := hK1; clear hG1 hK1))
  refine wp_gen (fun W' => BX w1 W' ⟨8, 0, 0, 0, 0, v, 0, 0⟩) (bx_start w1 ⟨8, 0, 0, 0, 0, v, 0, 0⟩) ?_
  intro W hW
  have hGW := HG1.out.below hW.bel
  have m3 : W.cell? ⟨M, 1, none⟩ = some (.slice (some ⟨Q, 0, none⟩) n pcap) := hGW.mb.cell (i := 1) (by omega)
  have m2 : W.cell? ⟨M, 0, none⟩ = some (.slice bp n cap) := hGW.mb.cell (i := 0) (by omega)
  have m4 := hGW.pl.cell (i := v * 8 + 7) (by have := HVN.out; omega)
  rw [pl_at _ _ _ (by omega)] at m4
  have m4' : W.cell? ⟨Q, v * 8 + 7, none⟩ = some (.bool false) := m4.trans (by show some (Value.bool (g1.P v).lazy) = _; rw [HLZ.out])
  have lM := hGW.mb.lt
  have lQ := hGW.pl.lt
  have x0 := row_cell hW.x 0
  have x1 := row_cell hW.x 1
  have x2 := row_cell hW.x 2
  have x3 := row_cell hW.x 3
  have x4 := row_cell hW.x 4
  have x5 := row_cell hW.x 5
  have x6 := row_cell hW.x 6
  have x7 := row_cell hW.x 7
  have fx := row_fr hW.x
  have lx := row_lt hW.x
  have HW : Hid _ := hW
  clear m4 hW
  clear hGW
  go_upto_region 7 with fail
  refine wp_gen (fun W' => BX w1 W' (⟨8, 0, 0, 0, 0, v, 0, 0⟩ : Cd)) HW.out ?_
  clear m3 m2 m4' lM lQ x0 x1 x2 x3 x4 x5 x6 x7 fx lx HW
  intro V hV
  have x1 := row_cell hV.x 1
  have fx := row_fr hV.x
  have lx := row_lt hV.x
  have hD := hV.setD (r : Int)
  have y0 := row_cell hD.x 0
  have y1 := row_cell hD.x 1
  have y2 := row_cell hD.x 2
  have y3 := row_cell hD.x 3
  have y4 := row_cell hD.x 4
  have y5 := row_cell hD.x 5
  have y6 := row_cell hD.x 6
  have y7 := row_cell hD.x 7
  have HD : Hid _ := hD
  clear hV hD
  go_upto_region 8 with fail
  refine wp_gen (fun W' => BX w1 W' { (⟨8, 0, 0, 0, 0, v, 0, 0⟩ : Cd) with d := (r : Int) }) HD.out ?_
  clear y0 y1 y2 y3 y4 y5 y6 y7 x1 fx lx HD
  intro U hU
  have y0 := row_cell hU.x 0
  have y1 := row_cell hU.x 1
  have y2 := row_cell hU.x 2
  have y3 := row_cell hU.x 3
  have y4 := row_cell hU.x 4
  have y5 := row_cell hU.x 5
  have y6 := row_cell hU.x 6
  have y7 := row_cell hU.x 7
  have lx := row_lt hU.x
  have HGU : Hid _ := HG1.out.below hU.bel
  have HU : Hid _ := hU
  clear hU
  go_wp2_with (go_at_call 64; refine (glay base M Q n _ cap pcap regs f g1 sv1 { (⟨8, 0, 0, 0, 0, v, 0, 0⟩ : Cd) with d := (r : Int) } _ HGU.out (Nat.zero_lt_succ _) (Nat.zero_lt_succ _) HL1.out).mono ?_; rintro e w3 ⟨rfl, ⟨sv3, hG3⟩, hK3⟩; have HG3 : Hid _ := hG3; have HK3 : Hid _ := hK3; have p0 := hG3.mb.cell (i := 3 + r * 2) (by have := HR2.out; omega); have p1 := hG3.mb.cell (i := 3 + r * 2 + 1) (by have := HR2.out; omega); have p2 := hG3.mb.cell (i := 35 + r) (by have := HR2.out; omega); have p3 := hG3.mb.frozen (3 + r * 2); have p4 := hG3.mb.frozen (3 + r * 2 + 1); have p5 := hG3.mb.frozen (35 + r); have p6 := hG3.mb.lt; clear hG3 hK3)
  go_ret
  refine ⟨rfl, ⟨sv3, (HG3.out.setReg r v true HR2.out).setM (35 + r) (.bool true) _ (mk_bz _ _ _ _ _ r true HR2.out) rfl rfl⟩, ?_⟩
  exact (((HK1.out.trans ((Kx.of_below HU.out.bel HG1.out.bw).trans HK3.out)).setIn (.inl rfl) HG3.out.bM _ _).setIn (.inl rfl) HG3.out.bM _ _).setIn (.inl rfl) HG3.out.bM _ _

set_option maxHeartbeats 4000000 in
theorem bring_t (base M Q n : Nat) (bp : Option Addr) (cap pcap regs : Nat) (f : Nat → OpR) (g : G) (sv : Value) (v : Nat) (w : World) (hG : GW w base M Q n bp cap pcap regs f g sv) (h0 : 0 < regs) (hr : regs ≤ 16) (hv : ∀ r, r < 16 → g.hv r < n) (hvn : v < n) (hn : n ≤ 2048) (hl : g.l.length ≤ 99990) (hF : findR g v regs 0 = none) (hz : (g.P v).lazy = true) (ok : OpOk (f v)) (hk : (f v).k < 4294967296) :
    Calls Try.prog 104 #[.pointer (some ⟨M, 0, none⟩), .int .i64 v] w fun e w' => e = .returned (.int .i64 (roomN g regs)) ∧ (∃ sv', GW w' base M Q n bp cap pcap regs f (busy (inReg (layF (roomG g regs) (bringX f (roomG g regs) v (roomN g regs))) (roomN g regs) v true) (roomN g regs)) sv') ∧ Kx base M Q w w' := by
  have hrl := roomN_lt g regs h0
  obtain ⟨r, HRN⟩ : ∃ r, Hid (roomN g regs = r) := ⟨_, rfl⟩
  obtain ⟨g1, HG1N⟩ : ∃ g1, Hid (roomG g regs = g1) := ⟨_, rfl⟩
  rw [HRN.out] at hrl
  obtain ⟨e1, e2, e3, e4, e5⟩ := roomG_keep g regs
  rw [HG1N.out] at e1 e2 e3 e4 e5
  have HL1 : Hid (g1.l.length ≤ 100000) := show _ ≤ _ by omega
  have HLZ : Hid ((g1.P v).lazy = true) := show _ = _ by rw [e4]; exact hz
  have HX : Hid (bringX f g1 v r = { (cdF (f v)) with d := (r : Int) }) := show _ = _ by unfold bringX; rw [HLZ.out]; rfl
  have HG : Hid _ := hG
  have HF : Hid _ := hF
  have HR : Hid (regs ≤ 16) := hr
  have HR0 : Hid (0 < regs) := h0
  have HV : Hid _ := hv
  have HNN : Hid (n ≤ 2048) := hn
  have HL : Hid (g.l.length ≤ 100000) := show _ ≤ _ by omega
  have HR2 : Hid (r < 16) := show r < 16 by omega
  have HVN : Hid (v < n) := hvn
  have r0 : (0 : Int) ≤ (r : Int) := by omega
  have r1 : (r : Int) < 16 := by omega
  have v0 : (0 : Int) ≤ (v : Int) := by omega
  have v1 : (v : Int) < (n : Int) := by omega
  have HOK : Hid _ := ok
  have HXK : Hid (({ cdF (f v) with d := (r : Int) } : Cd).k < 4294967296) := hk
  have HXX : Hid (({ cdF (f v) with d := (r : Int) } : Cd).x < 4294967296) := show (if (f v).kind = 14 then ((f v).b % 4294967296).toNat else 0) < 4294967296 by split <;> omega
  clear ok hk
  clear hG hF hr h0 hv hn hl hrl hvn e1 e2 e3 e4 e5 hz
  rw [HRN.out, HG1N.out, HX.out]
  go_enter Try.func104, Try.ntmps104
  go_upto_region 5 with (first
    | (go_at_call 128; refine (find_any base M Q n bp cap pcap regs f g sv v _ HG.out HR.out).mono ?_; rintro e w1 ⟨rfl, rfl⟩; rw [HF.out]; simp only [Option.getD_none, Option.isSome_none])
    | (go_at_call 129; refine (room_any base M Q n bp cap pcap regs f g sv _ HG.out HR0.out HR.out HV.out HNN.out HL.out).mono ?_; rintro e w1 ⟨rfl, ⟨sv1, hG1⟩, hK1⟩; rw [HRN.out]; rw [HG1N.out] at hG1; have HG1 : Hid _ := hG1; have HK1 : Hid _ := hK1; clear hG1 hK1))
  refine wp_gen (fun W' => BX w1 W' ⟨8, 0, 0, 0, 0, v, 0, 0⟩) (bx_start w1 ⟨8, 0, 0, 0, 0, v, 0, 0⟩) ?_
  intro W hW
  have hGW := HG1.out.below hW.bel
  have m3 : W.cell? ⟨M, 1, none⟩ = some (.slice (some ⟨Q, 0, none⟩) n pcap) := hGW.mb.cell (i := 1) (by omega)
  have m2 : W.cell? ⟨M, 0, none⟩ = some (.slice bp n cap) := hGW.mb.cell (i := 0) (by omega)
  have m4 := hGW.pl.cell (i := v * 8 + 7) (by have := HVN.out; omega)
  rw [pl_at _ _ _ (by omega)] at m4
  have m4' : W.cell? ⟨Q, v * 8 + 7, none⟩ = some (.bool true) := m4.trans (by show some (Value.bool (g1.P v).lazy) = _; rw [HLZ.out])
  have lM := hGW.mb.lt
  have lQ := hGW.pl.lt
  have x0 := row_cell hW.x 0
  have x1 := row_cell hW.x 1
  have x2 := row_cell hW.x 2
  have x3 := row_cell hW.x 3
  have x4 := row_cell hW.x 4
  have x5 := row_cell hW.x 5
  have x6 := row_cell hW.x 6
  have x7 := row_cell hW.x 7
  have fx := row_fr hW.x
  have lx := row_lt hW.x
  have HW : Hid _ := hW
  clear m4 hW
  obtain ⟨b, off, rfl, hb, hc⟩ := hGW.ops (by have := HVN.out; omega)
  have HOA : Hid (OpAt W b (off + v * 7) (f v)) := hc v HVN.out
  have HLB : Hid (b < W.heap.size) := hb
  clear hGW hc
  go_upto_region 7 with (go_at_call 103; refine (codeOf_any b (off + v * 7) (f v) _ HOA.out HLB.out HOK.out).mono ?_; rintro e w2 ⟨rfl, hb2⟩; have hx2 := HW.out.next hb2; have HX2 : Hid _ := hx2; have q0 := row_cell hx2.x 0; have q1 := row_cell hx2.x 1; have q2 := row_cell hx2.x 2; have q3 := row_cell hx2.x 3; have q4 := row_cell hx2.x 4; have q5 := row_cell hx2.x 5; have q6 := row_cell hx2.x 6; have q7 := row_cell hx2.x 7; have qf := row_fr hx2.x; have ql := row_lt hx2.x; clear hx2 hb2)
  refine wp_gen (fun W' => BX w1 W' (cdF (f v))) (HX2.out.put8 (cdF (f v))) ?_
  clear m3 m2 m4' lM lQ x0 x1 x2 x3 x4 x5 x6 x7 fx lx HW
  intro V hV
  have x1 := row_cell hV.x 1
  have fx := row_fr hV.x
  have lx := row_lt hV.x
  have hD := hV.setD (r : Int)
  have y0 := row_cell hD.x 0
  have y1 := row_cell hD.x 1
  have y2 := row_cell hD.x 2
  have y3 := row_cell hD.x 3
  have y4 := row_cell hD.x 4
  have y5 := row_cell hD.x 5
  have y6 := row_cell hD.x 6
  have y7 := row_cell hD.x 7
  have HD : Hid _ := hD
  clear hV hD
  go_upto_region 8 with fail
  refine wp_gen (fun W' => BX w1 W' { (cdF (f v)) with d := (r : Int) }) HD.out ?_
  clear y0 y1 y2 y3 y4 y5 y6 y7 x1 fx lx HD
  intro U hU
  have y0 := row_cell hU.x 0
  have y1 := row_cell hU.x 1
  have y2 := row_cell hU.x 2
  have y3 := row_cell hU.x 3
  have y4 := row_cell hU.x 4
  have y5 := row_cell hU.x 5
  have y6 := row_cell hU.x 6
  have y7 := row_cell hU.x 7
  have lx := row_lt hU.x
  have HGU : Hid _ := HG1.out.below hU.bel
  have HU : Hid _ := hU
  clear hU
  go_wp2_with (go_at_call 64; refine (glay base M Q n _ cap pcap regs f g1 sv1 { (cdF (f v)) with d := (r : Int) } _ HGU.out HXK.out HXX.out HL1.out).mono ?_; rintro e w3 ⟨rfl, ⟨sv3, hG3⟩, hK3⟩; have HG3 : Hid _ := hG3; have HK3 : Hid _ := hK3; have p0 := hG3.mb.cell (i := 3 + r * 2) (by have := HR2.out; omega); have p1 := hG3.mb.cell (i := 3 + r * 2 + 1) (by have := HR2.out; omega); have p2 := hG3.mb.cell (i := 35 + r) (by have := HR2.out; omega); have p3 := hG3.mb.frozen (3 + r * 2); have p4 := hG3.mb.frozen (3 + r * 2 + 1); have p5 := hG3.mb.frozen (35 + r); have p6 := hG3.mb.lt; clear hG3 hK3)
  go_ret
  refine ⟨rfl, ⟨sv3, (HG3.out.setReg r v true HR2.out).setM (35 + r) (.bool true) _ (mk_bz _ _ _ _ _ r true HR2.out) rfl rfl⟩, ?_⟩
  exact (((HK1.out.trans ((Kx.of_below HU.out.bel HG1.out.bw).trans HK3.out)).setIn (.inl rfl) HG3.out.bM _ _).setIn (.inl rfl) HG3.out.bM _ _).setIn (.inl rfl) HG3.out.bM _ _

theorem bring_any (base M Q n : Nat) (bp : Option Addr) (cap pcap regs : Nat) (f : Nat → OpR) (g : G) (sv : Value) (v : Nat) (w : World) (hG : GW w base M Q n bp cap pcap regs f g sv) (h0 : 0 < regs) (hr : regs ≤ 16) (hv : ∀ r, r < 16 → g.hv r < n) (hvn : v < n) (hn : n ≤ 2048) (hl : g.l.length ≤ 99990) (ok : OpOk (f v)) (hk : (f v).k < 4294967296) :
    Calls Try.prog 104 #[.pointer (some ⟨M, 0, none⟩), .int .i64 v] w fun e w' => e = .returned (.int .i64 (bringN g regs v)) ∧ (∃ sv', GW w' base M Q n bp cap pcap regs f (bringG f g regs v) sv') ∧ Kx base M Q w w' := by
  unfold bringN bringG
  cases hF : findR g v regs 0 with
  | some r => exact bring_hit base M Q n bp cap pcap regs f g sv v r w hG hr hF
  | none =>
    cases hz : (g.P v).lazy with
    | false => exact bring_f base M Q n bp cap pcap regs f g sv v w hG h0 hr hv hvn hn hl hF hz
    | true => exact bring_t base M Q n bp cap pcap regs f g sv v w hG h0 hr hv hvn hn hl hF hz ok hk
end Go.Proofs.Ytocefkpnlgfebab.Ho
