import Derived.Test.YtocefkpnlgfebabGQ
namespace Go.Proofs.Ytocefkpnlgfebab.Ho
open Go.RowKit
set_option maxRecDepth 100000
set_option linter.unusedVariables false
set_option linter.unusedSimpArgs false

structure SX (w W : World) (pc : Nat) (count bytes : Int) (bp : Option Addr) (n cap : Nat) (B : Nat) (X : Cd) : Prop where
  cw : CW w W pc count bytes bp n cap
  x : W.heap[B]? = some (.cells (cdA X) 57)
theorem sx_start {w W w2 : World} {pc : Nat} {count bytes : Int} {bp : Option Addr} {n cap : Nat} (X : Cd) (h : CW w W pc count bytes bp n cap) (k : Below W.heap.size W w2) : SX w (w2.alloc (.cells (cdA X) 57)) pc count bytes bp n cap w2.heap.size X :=
  ⟨h.next (k.alloc k.size _), heap_alloc_last _ _⟩

set_option maxHeartbeats 4000000 in
theorem straight_any (a : Option Addr) (cw : Nat) (l : List Nat) (pc : Nat) (count bytes : Int) (bp : Option Addr) (n cap regs : Nat) (w : World) (hw : Wds w a l.length cw (wsF l)) (hn : n ≤ 2048) (hl : l.length ≤ 16 * n + 2) (h3 : 3 ≤ regs) (hr : regs ≤ 16)
    (h2 : 2 ≤ l.length) (he : (decP (wsF l) l.length 0).e = 0 ∧ (decP (wsF l) l.length 0).x = enterX count pc ∧ (decP (wsF l) l.length 0).n = 2) (hs : Str regs l 2) :
    Calls Try.prog 30 #[.slice a l.length cw, .agg #[.int .u32 pc, .int .i64 count, .int .i64 bytes, .slice bp n cap], .int .i64 regs] w fun e w' => e = .returned (.bool true) ∧ Below w.heap.size w w' := by
  obtain ⟨len, hlen⟩ : ∃ len, l.length = len := ⟨_, rfl⟩
  rw [hlen] at hw hl h2 he ⊢
  have HLEN : Hid (l.length = len) := hlen
  have l0 : (0 : Int) ≤ (len : Int) := by omega
  have ll : (len : Int) ≤ 32770 := by omega
  have n0 : (0 : Int) ≤ (n : Int) := by omega
  have n1 : (n : Int) ≤ 2048 := by omega
  have dl : decide (16 * (n : Int) + 2 < (len : Int)) = false := decide_eq_false (by omega)
  have r0 : decide ((regs : Int) ≤ 0) = false := decide_eq_false (by omega)
  have r3 : (3 : Int) ≤ (regs : Int) := by omega
  have HW : Hid _ := hw
  have HE : Hid _ := he
  have HS : Hid _ := hs
  have H2 : Hid (2 ≤ len) := h2
  have HC0 : Hid (CW w (w.alloc (.cells #[.int .u32 pc, .int .i64 count, .int .i64 bytes, .slice bp n cap] 25)) pc count bytes bp n cap) := ⟨heap_alloc_last w _, (Below.refl _ _).alloc (Nat.le_refl _) _⟩
  clear hw he hs h2 hlen hn hl h3 hr
  go_enter Try.func30, Try.ntmps30
  go_upto_region 4 with fail
  go_loopw [7] (fun av wr => ∃ p : Nat, av = .int .i64 p ∧ p ≤ len ∧ (p = 0 ∨ (0 < p ∧ Str regs l p)) ∧ CW w wr pc count bytes bp n cap) (fun av _ => len - (intOf av).toNat)
  case atStart => exact ⟨0, rfl, by omega, .inl rfl, HC0.out⟩
  case round =>
    obtain ⟨p, rfl, hp, hcase, hC⟩ := hrel
    clear HC0
    have HCW : Hid _ := hC
    have HWr : Hid (Wds wr a len cw (wsF l)) := wds_keep HW.out hC.bel
    have p0 : (0 : Int) ≤ (p : Int) := by omega
    clear hC
    rcases hcase with rfl | ⟨hpos, hstr⟩
    · have z0 : ((0 : Nat) : Int) = 0 := rfl
      have hlt : (0 : Int) < (len : Int) := by have := H2.out; omega
      have d0 : decide ((0 : Int) < (len : Int)) = true := decide_eq_true hlt
      obtain ⟨D, HD⟩ : ∃ D, Hid (decP (wsF l) len 0 = D) := ⟨_, rfl⟩
      have hde := HE.out
      rw [HD.out] at hde
      obtain ⟨e, x, fo, dn⟩ := D
      obtain ⟨e1, e2, e3⟩ := hde
      have e1 : e = 0 := e1
      have e2 : x = enterX count pc := e2
      have e3 : dn = 2 := e3
      subst e1 e2 e3
      clear p0 hp
      go_upto_region 6 with (go_at_call 25; refine (rDecode_any a len cw 0 (wsF l) _ HWr.out).mono ?_; rintro e w2 ⟨rfl, hb2⟩; rw [HD.out]; have HB2 : Hid _ := hb2; clear hb2)
      refine wp_gen (fun W' => SX w W' pc count bytes bp n cap w2.heap.size (enterX count pc)) (sx_start (enterX count pc) HCW.out HB2.out) ?_
      obtain ⟨B, hB⟩ : ∃ B, w2.heap.size = B := ⟨_, rfl⟩
      rw [hB]
      clear hB HB2 HCW HWr
      intro V hV
      have x0 : V.cell? ⟨B, 0, none⟩ = some (.int .i64 1) := row_cell hV.x 0
      have x1 : V.cell? ⟨B, 1, none⟩ = some (.int .i64 0) := row_cell hV.x 1
      have x2 : V.cell? ⟨B, 2, none⟩ = some (.int .i64 0) := row_cell hV.x 2
      have x3 : V.cell? ⟨B, 3, none⟩ = some (.int .i64 0) := row_cell hV.x 3
      have x4 : V.cell? ⟨B, 4, none⟩ = some (.int .i64 0) := row_cell hV.x 4
      have x5 : V.cell? ⟨B, 5, none⟩ = some (.int .i64 count) := row_cell hV.x 5
      have x6 : V.cell? ⟨B, 6, none⟩ = some (.int .u32 pc) := row_cell hV.x 6
      have c0 : V.cell? ⟨w.heap.size, 0, none⟩ = some (.int .u32 pc) := row_cell hV.cw.b1 0
      have c1 : V.cell? ⟨w.heap.size, 1, none⟩ = some (.int .i64 count) := row_cell hV.cw.b1 1
      have lx := row_lt hV.x
      have lc := row_lt hV.cw.b1
      have HV : Hid _ := hV
      clear hV
      go_wp2
      go_roundw
      case rel => exact ⟨2, by go_num, H2.out, .inr ⟨by decide, HS.out⟩, HV.out.cw⟩
      case measure => have := H2.out; simp [intOf]; omega
    · by_cases hlt : p < len
      · have hlt' : (p : Int) < (len : Int) := by omega
        have d0 : decide ((p : Int) < (len : Int)) = true := decide_eq_true hlt'
        have zp : ((p : Int) == 0) = false := by simp; omega
        obtain ⟨D, HD⟩ : ∃ D, Hid (decP (wsF l) len p = D) := ⟨_, rfl⟩
        have hst : D.e = 0 ∧ GoodX regs D.x ∧ 0 < D.n ∧ Str regs l (p + D.n) ∧ p + D.n ≤ len := by
          rw [← HD.out, ← HLEN.out]
          cases hstr with
          | done => exact absurd hlt (by have := HLEN.out; omega)
          | step _ a b c d e => exact ⟨b, c, d, e, (decP_move (ws2 := wsF l) (len2 := l.length + p + (decP (wsF l) l.length p).n) (b := p) b (fun _ _ => rfl) (by omega)).2.2.2.1⟩
        obtain ⟨e, x, fo, dn⟩ := D
        obtain ⟨e1, hg, hn0, hnx, hle⟩ := hst
        have e1 : e = 0 := e1
        have hg : GoodX regs x := hg
        have hn0 : 0 < dn := hn0
        have hle : p + dn ≤ len := hle
        have HNX : Hid (Str regs l (p + dn)) := hnx
        subst e1
        have HLT : Hid (p < len) := hlt
        have HN0 : Hid (0 < dn) := hn0
        have HLE : Hid (p + dn ≤ len) := hle
        have HPO : Hid (0 < p) := hpos
        have q0 : (0 : Int) ≤ (dn : Int) := by omega
        have q1 : (p : Int) + (dn : Int) ≤ 32770 := by omega
        obtain ⟨op, d, xa, xb, xc, xn, xk, xx⟩ := x
        obtain ⟨g1, g15, g96, gd, ga, gb, gc, -, -⟩ := hg
        have g1' : (op == 1) = false := by simpa using g1
        have g15' : (op == 15) = false := by simpa using g15
        have g96' : (op == 96) = false := by simpa using g96
        have ga' : decide ((regs : Int) ≤ xa) = false := decide_eq_false (by have : xa < regs := ga; omega)
        have gb' : decide ((regs : Int) ≤ xb) = false := decide_eq_false (by have : xb < regs := gb; omega)
        have gc' : decide ((regs : Int) ≤ xc) = false := decide_eq_false (by have : xc < regs := gc; omega)
        have HGD : Hid _ := gd
        clear hlt hp hpos hstr hn0 hle hnx g1 g15 g96 ga gb gc gd
        go_upto_region 6 with (go_at_call 25; refine (rDecode_any a len cw p (wsF l) _ HWr.out).mono ?_; rintro e w2 ⟨rfl, hb2⟩; rw [HD.out]; have HB2 : Hid _ := hb2; clear hb2)
        refine wp_gen (fun W' => SX w W' pc count bytes bp n cap w2.heap.size ⟨op, d, xa, xb, xc, xn, xk, xx⟩) (sx_start ⟨op, d, xa, xb, xc, xn, xk, xx⟩ HCW.out HB2.out) ?_
        obtain ⟨B, hB⟩ : ∃ B, w2.heap.size = B := ⟨_, rfl⟩
        rw [hB]
        clear hB HB2 HCW HWr
        intro V hV
        have x0 : V.cell? ⟨B, 0, none⟩ = some (.int .i64 op) := row_cell hV.x 0
        have x1 : V.cell? ⟨B, 1, none⟩ = some (.int .i64 d) := row_cell hV.x 1
        have x2 : V.cell? ⟨B, 2, none⟩ = some (.int .i64 xa) := row_cell hV.x 2
        have x3 : V.cell? ⟨B, 3, none⟩ = some (.int .i64 xb) := row_cell hV.x 3
        have x4 : V.cell? ⟨B, 4, none⟩ = some (.int .i64 xc) := row_cell hV.x 4
        have lx := row_lt hV.x
        have HV : Hid _ := hV
        clear hV
        by_cases k12 : op = 12
        · have k12' : (op == 12) = true := by simpa using k12
          clear k12 HGD
          go_wp2
          go_roundw
          case rel => exact ⟨p + dn, by go_num, HLE.out, .inr ⟨by have := HPO.out; omega, HNX.out⟩, HV.out.cw⟩
          case measure => have := HLT.out; have := HN0.out; simp [intOf]; omega
        · have k12' : (op == 12) = false := by simpa using k12
          by_cases k13 : op = 13
          · have k13' : (op == 13) = true := by simpa using k13
            clear k12 k13 HGD
            go_wp2
            go_roundw
            case rel => exact ⟨p + dn, by go_num, HLE.out, .inr ⟨by have := HPO.out; omega, HNX.out⟩, HV.out.cw⟩
            case measure => have := HLT.out; have := HN0.out; simp [intOf]; omega
          · have k13' : (op == 13) = false := by simpa using k13
            have gd' : decide ((regs : Int) ≤ d) = false := decide_eq_false (by
              have h := HGD.out
              unfold dOf at h
              rw [if_neg (fun e => e.elim k12 k13)] at h
              have h : d < regs := h
              omega)
            clear k12 k13 HGD
            go_wp2
            go_roundw
            case rel => exact ⟨p + dn, by go_num, HLE.out, .inr ⟨by have := HPO.out; omega, HNX.out⟩, HV.out.cw⟩
            case measure => have := HLT.out; have := HN0.out; simp [intOf]; omega
      · obtain rfl : p = len := by omega
        have d0 : decide ((p : Int) < (p : Int)) = false := decide_eq_false (by omega)
        have HDP : Hid (decide (0 < p) = true) := decide_eq_true hpos
        clear hlt hp hstr hpos
        go_wp2
        go_ret
        exact ⟨by show Ending.returned (.bool (decide (0 < p))) = _; rw [HDP.out], HCW.out.bel⟩
end Go.Proofs.Ytocefkpnlgfebab.Ho
