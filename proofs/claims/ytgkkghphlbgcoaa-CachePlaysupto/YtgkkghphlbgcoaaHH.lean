import Derived.Test.YtgkkghphlbgcoaaHG
namespace Go.Proofs.Ytgkkghphlbgcoaa.Ho
open Go.RowKit
set_option maxRecDepth 100000
set_option linter.unusedVariables false
set_option linter.unusedSimpArgs false
set_option maxHeartbeats 4000000 in
theorem dec_none (I b off len cap a : Nat) (ws : Nat → Nat) (x0 : Cd) (f0 : Fo) (n0 : Int) (w : World) (hI : w.heap[I]? = some (.cells (fdA x0 f0 n0) 119)) (hr : WR w b off len ws) (hbI : b ≠ I) (hcap : len ≤ cap) (hl : len ≤ 140737488355328) (ha : a < len) (hk : hit ((ws a % 256 : Nat) : Int) = none) :
    Calls Try.prog 64 #[.pointer (some ⟨I, 0, none⟩), .slice (some ⟨b, off, none⟩) len cap, .int .i64 a] w fun e w' => e = .returned (.int .i64 2) ∧ Chg [I] w w' := by
  have lI := row_lt hI
  have lb := hr.lb
  have v0 : w.cell? ⟨b, off + a, none⟩ = some (.int .u32 (ws a)) := hr.cell a (by omega)
  have HV : Hid (ws a < 4294967296) := hr.lt a
  generalize eV : ws a = v at *
  have hm : bits .and .u32 (v : Int) 255 = ((v % 256 : Nat) : Int) := mask8 v HV.out
  generalize eO : v % 256 = op at *
  have o0 : (0 : Int) ≤ op := by omega
  have o1 : (op : Int) < 256 := by omega
  have HK : Hid _ := hk
  have HW : Hid (IntKind.i64.wrap (op : Int) = op) := IntWalk.i64_in _ (by omega)
  have nb0 : ¬ b = w.heap.size := by omega
  have a0 : (0 : Int) ≤ a := by omega
  have a3 : (a : Int) + 1 ≤ len := by omega
  have a4 : a + 1 ≤ cap := by omega
  have hw2 : IntKind.i64.wrap ((a : Int) + 1) = (a : Int) + 1 := IntWalk.i64_in _ (by omega)
  have hw3 : IntKind.i64.wrap ((len : Int) - a) = (len : Int) - a := IntWalk.i64_in _ (by omega)
  have a1 : (a : Int) < len := by omega
  have a2 : (a : Int) ≤ len := by omega
  have HI : Hid _ := hI
  have HR : Hid _ := hr
  have HNB : Hid _ := hbI
  clear hk hI hr hbI ha
  go_enter Try.func64, Try.ntmps64
  go_upto_region 5 with fail
  go_region_held3 (fun W' => W'.cell? ⟨b, off + a, none⟩ = some (.int .u32 v)) (first | (simp [go_sem, v0, lb, nb0]; done) | (simp [go_sem, z0, lb1, nb1, nb0]; done)) (first | (go_at_call 70; refine (room8 _).mono ?_; rintro e w1 ⟨rfl, rfl⟩) | (go_at_call 65; refine (format_any _ w.drew).mono ?_; rintro e w1 ⟨rfl, hb1⟩; (try rw [HW.out]); rw [HK.out]; have z0 : w1.cell? ⟨b, off + a, none⟩ = some (.int .u32 v) := (hb1.cell (p := ⟨b, off + a, none⟩) lb).trans v0; have lb1 : b < w1.heap.size := (by have h9 := hb1.size; first | (simp at h9; omega) | omega); have nb1 : ¬ b = w1.heap.size := (by omega); have HB2 : Hid (Below w.heap.size w w1) := (first_below hb1)) | (go_at_call 65; refine (format_any _ (w.alloc (.cells #[.int .u8 0, .int .u8 0, .int .u8 0, .int .u16 0, .int .u16 0] 117)).drew).mono ?_; rintro e w1 ⟨rfl, hb1⟩; (try rw [HW.out]); rw [HK.out]; have b1 : w1.heap[w.heap.size]? = some (.cells #[.int .u8 0, .int .u8 0, .int .u8 0, .int .u16 0, .int .u16 0] 117) := (hb1.block w.heap.size (by simp)).trans (heap_alloc_last w _); have y0 : w1.cell? ⟨w.heap.size, 0, none⟩ = some (.int .u8 0) := row_cell b1 0; have g0 := row_fr b1 0; have y1 : w1.cell? ⟨w.heap.size, 1, none⟩ = some (.int .u8 0) := row_cell b1 1; have g1 := row_fr b1 1; have y2 : w1.cell? ⟨w.heap.size, 2, none⟩ = some (.int .u8 0) := row_cell b1 2; have g2 := row_fr b1 2; have y3 : w1.cell? ⟨w.heap.size, 3, none⟩ = some (.int .u16 0) := row_cell b1 3; have g3 := row_fr b1 3; have y4 : w1.cell? ⟨w.heap.size, 4, none⟩ = some (.int .u16 0) := row_cell b1 4; have g4 := row_fr b1 4; have lw1 := row_lt b1; have z0 : w1.cell? ⟨b, off + a, none⟩ = some (.int .u32 v) := (hb1.cell (p := ⟨b, off + a, none⟩) (by simp; omega)).trans ((World.cell?_alloc_past _ _ _ lb).trans v0); have lb1 : b < w1.heap.size := (by omega); have nb1 : ¬ b = w1.heap.size := (by omega); have HB1 : Hid (Below (w.alloc (.cells #[.int .u8 0, .int .u8 0, .int .u8 0, .int .u16 0, .int .u16 0] 117)).heap.size (w.alloc (.cells #[.int .u8 0, .int .u8 0, .int .u8 0, .int .u16 0, .int .u16 0] 117)) w1) := ((Below.refl _ _).drew).trans hb1))
  · go_wp2
    go_ret
    exact ⟨rfl, (de_post ⟨0, 0, 0, 0, 0⟩ HI.out HB2.out).ch⟩
  all_goals
    go_wp2
    go_ret
    exact ⟨rfl, (de_pre ⟨0, 0, 0, 0, 0⟩ HI.out HB1.out).ch⟩
set_option maxHeartbeats 4000000 in
theorem dec2_short (I b off len cap a : Nat) (ws : Nat → Nat) (x0 : Cd) (f0 : Fo) (n0 : Int) (k : Nat) (w : World) (hI : w.heap[I]? = some (.cells (fdA x0 f0 n0) 119)) (hr : WR w b off len ws) (hbI : b ≠ I) (hcap : len ≤ cap) (hl : len ≤ 140737488355328) (ha : a < len ∧ len < a + 2) (hk : hit ((ws a % 256 : Nat) : Int) = some k) (hn : szN (foOf k).has = 2) :
    Calls Try.prog 64 #[.pointer (some ⟨I, 0, none⟩), .slice (some ⟨b, off, none⟩) len cap, .int .i64 a] w fun e w' => e = .returned (.int .i64 1) ∧ Chg [I] w w' := by
  have lI := row_lt hI
  have lb := hr.lb
  have v0 : w.cell? ⟨b, off + a, none⟩ = some (.int .u32 (ws a)) := hr.cell a (by omega)
  have HV : Hid (ws a < 4294967296) := hr.lt a
  generalize eV : ws a = v at *
  have hm : bits .and .u32 (v : Int) 255 = ((v % 256 : Nat) : Int) := mask8 v HV.out
  generalize eO : v % 256 = op at *
  have o0 : (0 : Int) ≤ op := by omega
  have o1 : (op : Int) < 256 := by omega
  have HK : Hid _ := hk
  have HW : Hid (IntKind.i64.wrap (op : Int) = op) := IntWalk.i64_in _ (by omega)
  have nb0 : ¬ b = w.heap.size := by omega
  have a0 : (0 : Int) ≤ a := by omega
  have a3 : (len : Int) - a < 2 := by omega
  have hw3 : IntKind.i64.wrap ((len : Int) - a) = (len : Int) - a := IntWalk.i64_in _ (by omega)
  have a1 : (a : Int) < len := by omega
  have a2 : (a : Int) ≤ len := by omega
  have HI : Hid _ := hI
  have HN : Hid _ := hn
  have HR : Hid _ := hr
  have HNB : Hid _ := hbI
  clear hk hI hn hr hbI ha
  go_enter Try.func64, Try.ntmps64
  go_upto_region 5 with fail
  go_region_held3 (fun W' => W'.cell? ⟨b, off + a, none⟩ = some (.int .u32 v)) (first | (simp [go_sem, v0, lb, nb0]; done) | (simp [go_sem, z0, lb1, nb1, nb0]; done)) (first | (go_at_call 70; refine (room8 _).mono ?_; rintro e w1 ⟨rfl, rfl⟩) | (go_at_call 65; refine (format_any _ w.drew).mono ?_; rintro e w1 ⟨rfl, hb1⟩; (try rw [HW.out]); rw [HK.out]; have z0 : w1.cell? ⟨b, off + a, none⟩ = some (.int .u32 v) := (hb1.cell (p := ⟨b, off + a, none⟩) lb).trans v0; have lb1 : b < w1.heap.size := (by have h9 := hb1.size; first | (simp at h9; omega) | omega); have nb1 : ¬ b = w1.heap.size := (by omega); have HB2 : Hid (Below w.heap.size w w1) := (first_below hb1)) | (go_at_call 65; refine (format_any _ (w.alloc (.cells #[.int .u8 0, .int .u8 0, .int .u8 0, .int .u16 0, .int .u16 0] 117)).drew).mono ?_; rintro e w1 ⟨rfl, hb1⟩; (try rw [HW.out]); rw [HK.out]; have b1 : w1.heap[w.heap.size]? = some (.cells #[.int .u8 0, .int .u8 0, .int .u8 0, .int .u16 0, .int .u16 0] 117) := (hb1.block w.heap.size (by simp)).trans (heap_alloc_last w _); have y0 : w1.cell? ⟨w.heap.size, 0, none⟩ = some (.int .u8 0) := row_cell b1 0; have g0 := row_fr b1 0; have y1 : w1.cell? ⟨w.heap.size, 1, none⟩ = some (.int .u8 0) := row_cell b1 1; have g1 := row_fr b1 1; have y2 : w1.cell? ⟨w.heap.size, 2, none⟩ = some (.int .u8 0) := row_cell b1 2; have g2 := row_fr b1 2; have y3 : w1.cell? ⟨w.heap.size, 3, none⟩ = some (.int .u16 0) := row_cell b1 3; have g3 := row_fr b1 3; have y4 : w1.cell? ⟨w.heap.size, 4, none⟩ = some (.int .u16 0) := row_cell b1 4; have g4 := row_fr b1 4; have lw1 := row_lt b1; have z0 : w1.cell? ⟨b, off + a, none⟩ = some (.int .u32 v) := (hb1.cell (p := ⟨b, off + a, none⟩) (by simp; omega)).trans ((World.cell?_alloc_past _ _ _ lb).trans v0); have lb1 : b < w1.heap.size := (by omega); have nb1 : ¬ b = w1.heap.size := (by omega); have HB1 : Hid (Below (w.alloc (.cells #[.int .u8 0, .int .u8 0, .int .u8 0, .int .u16 0, .int .u16 0] 117)).heap.size (w.alloc (.cells #[.int .u8 0, .int .u8 0, .int .u8 0, .int .u16 0, .int .u16 0] 117)) w1) := ((Below.refl _ _).drew).trans hb1))
  ·
    go_upto_region 8 with fail
    refine wp_gen (fun W' => DE w W' I w1.heap.size (fdA x0 f0 n0) (foOf k)) (by first | exact de_post (foOf k) HI.out HB2.out | exact (de_post (foOf k) HI.out HB2.out).drw) ?_
    intro W hD
    have p0 : W.cell? ⟨w1.heap.size, 0, none⟩ = some (.int .u8 (foOf k).first) := row_cell hD.bf 0
    have fr0 := row_fr hD.b 8
    have q0 : W.cell? ⟨I, 8, none⟩ = some (.int .u8 f0.first) := row_cell hD.b 8
    have p1 : W.cell? ⟨w1.heap.size, 1, none⟩ = some (.int .u8 (foOf k).last) := row_cell hD.bf 1
    have fr1 := row_fr hD.b 9
    have q1 : W.cell? ⟨I, 9, none⟩ = some (.int .u8 f0.last) := row_cell hD.b 9
    have p2 : W.cell? ⟨w1.heap.size, 2, none⟩ = some (.int .u8 (foOf k).kind) := row_cell hD.bf 2
    have fr2 := row_fr hD.b 10
    have q2 : W.cell? ⟨I, 10, none⟩ = some (.int .u8 f0.kind) := row_cell hD.b 10
    have p3 : W.cell? ⟨w1.heap.size, 3, none⟩ = some (.int .u16 (foOf k).has) := row_cell hD.bf 3
    have fr3 := row_fr hD.b 11
    have q3 : W.cell? ⟨I, 11, none⟩ = some (.int .u16 f0.has) := row_cell hD.b 11
    have p4 : W.cell? ⟨w1.heap.size, 4, none⟩ = some (.int .u16 (foOf k).most) := row_cell hD.bf 4
    have fr4 := row_fr hD.b 12
    have q4 : W.cell? ⟨I, 12, none⟩ = some (.int .u16 f0.most) := row_cell hD.b 12
    have lF := row_lt hD.bf
    have lJ := row_lt hD.b
    have nF : ¬ w1.heap.size = I := hD.ne
    have H : Hid _ := hD
    clear hD
    have HM : Hid (0 ≤ (foOf k).most ∧ (foOf k).most ≤ 65535) := foOf_most k (hit_lt HK.out)
    generalize eF : foOf k = f at *
    go_upto_region 9 with fail
    refine wp_gen (fun W' => D2 w W' I x0 f n0) (by first | exact D2.form H.out | exact (D2.form H.out).drw) ?_
    clear H p0 p1 p2 p3 p4 q0 q1 q2 q3 q4 fr0 fr1 fr2 fr3 fr4 lF lJ nF
    intro W2 h2
    have lJ := row_lt h2.b
    have c11 : W2.cell? ⟨I, 11, none⟩ = some (.int .u16 f.has) := row_cell h2.b 11
    have c13 : W2.cell? ⟨I, 13, none⟩ = some (.int .i64 n0) := row_cell h2.b 13
    have f13 := row_fr h2.b 13
    have H2 : Hid _ := h2
    clear h2
    go_upto_region 10 with (go_at_call 71; refine (size8_any I 2 f.has _ (by have := szOf f.has; rw [HN.out] at this; exact this) c11 lJ).mono ?_; rintro e w9 ⟨rfl, rfl⟩)
    refine wp_gen (fun W' => D2 w W' I x0 f 2) (by first | exact H2.out.words 2 | exact (H2.out.words 2).drw) ?_
    clear H2 c11 c13 f13 lJ
    intro W3 h3
    have lJ := row_lt h3.b
    have c13 : W3.cell? ⟨I, 13, none⟩ = some (.int .i64 2) := row_cell h3.b 13
    have H3 : Hid _ := h3
    clear h3
    go_wp2
    go_ret
    exact ⟨rfl, H3.out.ch⟩
  ·
    go_upto_region 8 with fail
    refine wp_gen (fun W' => DE w W' I w.heap.size (fdA x0 f0 n0) (foOf k)) (by first | exact de_pre (foOf k) HI.out HB1.out | exact (de_pre (foOf k) HI.out HB1.out).drw) ?_
    intro W hD
    have p0 : W.cell? ⟨w.heap.size, 0, none⟩ = some (.int .u8 (foOf k).first) := row_cell hD.bf 0
    have fr0 := row_fr hD.b 8
    have q0 : W.cell? ⟨I, 8, none⟩ = some (.int .u8 f0.first) := row_cell hD.b 8
    have p1 : W.cell? ⟨w.heap.size, 1, none⟩ = some (.int .u8 (foOf k).last) := row_cell hD.bf 1
    have fr1 := row_fr hD.b 9
    have q1 : W.cell? ⟨I, 9, none⟩ = some (.int .u8 f0.last) := row_cell hD.b 9
    have p2 : W.cell? ⟨w.heap.size, 2, none⟩ = some (.int .u8 (foOf k).kind) := row_cell hD.bf 2
    have fr2 := row_fr hD.b 10
    have q2 : W.cell? ⟨I, 10, none⟩ = some (.int .u8 f0.kind) := row_cell hD.b 10
    have p3 : W.cell? ⟨w.heap.size, 3, none⟩ = some (.int .u16 (foOf k).has) := row_cell hD.bf 3
    have fr3 := row_fr hD.b 11
    have q3 : W.cell? ⟨I, 11, none⟩ = some (.int .u16 f0.has) := row_cell hD.b 11
    have p4 : W.cell? ⟨w.heap.size, 4, none⟩ = some (.int .u16 (foOf k).most) := row_cell hD.bf 4
    have fr4 := row_fr hD.b 12
    have q4 : W.cell? ⟨I, 12, none⟩ = some (.int .u16 f0.most) := row_cell hD.b 12
    have lF := row_lt hD.bf
    have lJ := row_lt hD.b
    have nF : ¬ w.heap.size = I := hD.ne
    have H : Hid _ := hD
    clear hD
    have HM : Hid (0 ≤ (foOf k).most ∧ (foOf k).most ≤ 65535) := foOf_most k (hit_lt HK.out)
    generalize eF : foOf k = f at *
    go_upto_region 9 with fail
    refine wp_gen (fun W' => D2 w W' I x0 f n0) (by first | exact D2.form H.out | exact (D2.form H.out).drw) ?_
    clear H p0 p1 p2 p3 p4 q0 q1 q2 q3 q4 fr0 fr1 fr2 fr3 fr4 lF lJ nF
    intro W2 h2
    have lJ := row_lt h2.b
    have c11 : W2.cell? ⟨I, 11, none⟩ = some (.int .u16 f.has) := row_cell h2.b 11
    have c13 : W2.cell? ⟨I, 13, none⟩ = some (.int .i64 n0) := row_cell h2.b 13
    have f13 := row_fr h2.b 13
    have H2 : Hid _ := h2
    clear h2
    go_upto_region 10 with (go_at_call 71; refine (size8_any I 2 f.has _ (by have := szOf f.has; rw [HN.out] at this; exact this) c11 lJ).mono ?_; rintro e w9 ⟨rfl, rfl⟩)
    refine wp_gen (fun W' => D2 w W' I x0 f 2) (by first | exact H2.out.words 2 | exact (H2.out.words 2).drw) ?_
    clear H2 c11 c13 f13 lJ
    intro W3 h3
    have lJ := row_lt h3.b
    have c13 : W3.cell? ⟨I, 13, none⟩ = some (.int .i64 2) := row_cell h3.b 13
    have H3 : Hid _ := h3
    clear h3
    go_wp2
    go_ret
    exact ⟨rfl, H3.out.ch⟩
  ·
    go_upto_region 8 with fail
    refine wp_gen (fun W' => DE w W' I w.heap.size (fdA x0 f0 n0) (foOf k)) (by first | exact de_pre (foOf k) HI.out HB1.out | exact (de_pre (foOf k) HI.out HB1.out).drw) ?_
    intro W hD
    have p0 : W.cell? ⟨w.heap.size, 0, none⟩ = some (.int .u8 (foOf k).first) := row_cell hD.bf 0
    have fr0 := row_fr hD.b 8
    have q0 : W.cell? ⟨I, 8, none⟩ = some (.int .u8 f0.first) := row_cell hD.b 8
    have p1 : W.cell? ⟨w.heap.size, 1, none⟩ = some (.int .u8 (foOf k).last) := row_cell hD.bf 1
    have fr1 := row_fr hD.b 9
    have q1 : W.cell? ⟨I, 9, none⟩ = some (.int .u8 f0.last) := row_cell hD.b 9
    have p2 : W.cell? ⟨w.heap.size, 2, none⟩ = some (.int .u8 (foOf k).kind) := row_cell hD.bf 2
    have fr2 := row_fr hD.b 10
    have q2 : W.cell? ⟨I, 10, none⟩ = some (.int .u8 f0.kind) := row_cell hD.b 10
    have p3 : W.cell? ⟨w.heap.size, 3, none⟩ = some (.int .u16 (foOf k).has) := row_cell hD.bf 3
    have fr3 := row_fr hD.b 11
    have q3 : W.cell? ⟨I, 11, none⟩ = some (.int .u16 f0.has) := row_cell hD.b 11
    have p4 : W.cell? ⟨w.heap.size, 4, none⟩ = some (.int .u16 (foOf k).most) := row_cell hD.bf 4
    have fr4 := row_fr hD.b 12
    have q4 : W.cell? ⟨I, 12, none⟩ = some (.int .u16 f0.most) := row_cell hD.b 12
    have lF := row_lt hD.bf
    have lJ := row_lt hD.b
    have nF : ¬ w.heap.size = I := hD.ne
    have H : Hid _ := hD
    clear hD
    have HM : Hid (0 ≤ (foOf k).most ∧ (foOf k).most ≤ 65535) := foOf_most k (hit_lt HK.out)
    generalize eF : foOf k = f at *
    go_upto_region 9 with fail
    refine wp_gen (fun W' => D2 w W' I x0 f n0) (by first | exact D2.form H.out | exact (D2.form H.out).drw) ?_
    clear H p0 p1 p2 p3 p4 q0 q1 q2 q3 q4 fr0 fr1 fr2 fr3 fr4 lF lJ nF
    intro W2 h2
    have lJ := row_lt h2.b
    have c11 : W2.cell? ⟨I, 11, none⟩ = some (.int .u16 f.has) := row_cell h2.b 11
    have c13 : W2.cell? ⟨I, 13, none⟩ = some (.int .i64 n0) := row_cell h2.b 13
    have f13 := row_fr h2.b 13
    have H2 : Hid _ := h2
    clear h2
    go_upto_region 10 with (go_at_call 71; refine (size8_any I 2 f.has _ (by have := szOf f.has; rw [HN.out] at this; exact this) c11 lJ).mono ?_; rintro e w9 ⟨rfl, rfl⟩)
    refine wp_gen (fun W' => D2 w W' I x0 f 2) (by first | exact H2.out.words 2 | exact (H2.out.words 2).drw) ?_
    clear H2 c11 c13 f13 lJ
    intro W3 h3
    have lJ := row_lt h3.b
    have c13 : W3.cell? ⟨I, 13, none⟩ = some (.int .i64 2) := row_cell h3.b 13
    have H3 : Hid _ := h3
    clear h3
    go_wp2
    go_ret
    exact ⟨rfl, H3.out.ch⟩
set_option maxHeartbeats 4000000 in
theorem dec3_short (I b off len cap a : Nat) (ws : Nat → Nat) (x0 : Cd) (f0 : Fo) (n0 : Int) (k : Nat) (w : World) (hI : w.heap[I]? = some (.cells (fdA x0 f0 n0) 119)) (hr : WR w b off len ws) (hbI : b ≠ I) (hcap : len ≤ cap) (hl : len ≤ 140737488355328) (ha : a < len ∧ len < a + 3) (hk : hit ((ws a % 256 : Nat) : Int) = some k) (hn : szN (foOf k).has = 3) :
    Calls Try.prog 64 #[.pointer (some ⟨I, 0, none⟩), .slice (some ⟨b, off, none⟩) len cap, .int .i64 a] w fun e w' => e = .returned (.int .i64 1) ∧ Chg [I] w w' := by
  have lI := row_lt hI
  have lb := hr.lb
  have v0 : w.cell? ⟨b, off + a, none⟩ = some (.int .u32 (ws a)) := hr.cell a (by omega)
  have HV : Hid (ws a < 4294967296) := hr.lt a
  generalize eV : ws a = v at *
  have hm : bits .and .u32 (v : Int) 255 = ((v % 256 : Nat) : Int) := mask8 v HV.out
  generalize eO : v % 256 = op at *
  have o0 : (0 : Int) ≤ op := by omega
  have o1 : (op : Int) < 256 := by omega
  have HK : Hid _ := hk
  have HW : Hid (IntKind.i64.wrap (op : Int) = op) := IntWalk.i64_in _ (by omega)
  have nb0 : ¬ b = w.heap.size := by omega
  have a0 : (0 : Int) ≤ a := by omega
  have a3 : (len : Int) - a < 3 := by omega
  have hw3 : IntKind.i64.wrap ((len : Int) - a) = (len : Int) - a := IntWalk.i64_in _ (by omega)
  have a1 : (a : Int) < len := by omega
  have a2 : (a : Int) ≤ len := by omega
  have HI : Hid _ := hI
  have HN : Hid _ := hn
  have HR : Hid _ := hr
  have HNB : Hid _ := hbI
  clear hk hI hn hr hbI ha
  go_enter Try.func64, Try.ntmps64
  go_upto_region 5 with fail
  go_region_held3 (fun W' => W'.cell? ⟨b, off + a, none⟩ = some (.int .u32 v)) (first | (simp [go_sem, v0, lb, nb0]; done) | (simp [go_sem, z0, lb1, nb1, nb0]; done)) (first | (go_at_call 70; refine (room8 _).mono ?_; rintro e w1 ⟨rfl, rfl⟩) | (go_at_call 65; refine (format_any _ w.drew).mono ?_; rintro e w1 ⟨rfl, hb1⟩; (try rw [HW.out]); rw [HK.out]; have z0 : w1.cell? ⟨b, off + a, none⟩ = some (.int .u32 v) := (hb1.cell (p := ⟨b, off + a, none⟩) lb).trans v0; have lb1 : b < w1.heap.size := (by have h9 := hb1.size; first | (simp at h9; omega) | omega); have nb1 : ¬ b = w1.heap.size := (by omega); have HB2 : Hid (Below w.heap.size w w1) := (first_below hb1)) | (go_at_call 65; refine (format_any _ (w.alloc (.cells #[.int .u8 0, .int .u8 0, .int .u8 0, .int .u16 0, .int .u16 0] 117)).drew).mono ?_; rintro e w1 ⟨rfl, hb1⟩; (try rw [HW.out]); rw [HK.out]; have b1 : w1.heap[w.heap.size]? = some (.cells #[.int .u8 0, .int .u8 0, .int .u8 0, .int .u16 0, .int .u16 0] 117) := (hb1.block w.heap.size (by simp)).trans (heap_alloc_last w _); have y0 : w1.cell? ⟨w.heap.size, 0, none⟩ = some (.int .u8 0) := row_cell b1 0; have g0 := row_fr b1 0; have y1 : w1.cell? ⟨w.heap.size, 1, none⟩ = some (.int .u8 0) := row_cell b1 1; have g1 := row_fr b1 1; have y2 : w1.cell? ⟨w.heap.size, 2, none⟩ = some (.int .u8 0) := row_cell b1 2; have g2 := row_fr b1 2; have y3 : w1.cell? ⟨w.heap.size, 3, none⟩ = some (.int .u16 0) := row_cell b1 3; have g3 := row_fr b1 3; have y4 : w1.cell? ⟨w.heap.size, 4, none⟩ = some (.int .u16 0) := row_cell b1 4; have g4 := row_fr b1 4; have lw1 := row_lt b1; have z0 : w1.cell? ⟨b, off + a, none⟩ = some (.int .u32 v) := (hb1.cell (p := ⟨b, off + a, none⟩) (by simp; omega)).trans ((World.cell?_alloc_past _ _ _ lb).trans v0); have lb1 : b < w1.heap.size := (by omega); have nb1 : ¬ b = w1.heap.size := (by omega); have HB1 : Hid (Below (w.alloc (.cells #[.int .u8 0, .int .u8 0, .int .u8 0, .int .u16 0, .int .u16 0] 117)).heap.size (w.alloc (.cells #[.int .u8 0, .int .u8 0, .int .u8 0, .int .u16 0, .int .u16 0] 117)) w1) := ((Below.refl _ _).drew).trans hb1))
  ·
    go_upto_region 8 with fail
    refine wp_gen (fun W' => DE w W' I w1.heap.size (fdA x0 f0 n0) (foOf k)) (by first | exact de_post (foOf k) HI.out HB2.out | exact (de_post (foOf k) HI.out HB2.out).drw) ?_
    intro W hD
    have p0 : W.cell? ⟨w1.heap.size, 0, none⟩ = some (.int .u8 (foOf k).first) := row_cell hD.bf 0
    have fr0 := row_fr hD.b 8
    have q0 : W.cell? ⟨I, 8, none⟩ = some (.int .u8 f0.first) := row_cell hD.b 8
    have p1 : W.cell? ⟨w1.heap.size, 1, none⟩ = some (.int .u8 (foOf k).last) := row_cell hD.bf 1
    have fr1 := row_fr hD.b 9
    have q1 : W.cell? ⟨I, 9, none⟩ = some (.int .u8 f0.last) := row_cell hD.b 9
    have p2 : W.cell? ⟨w1.heap.size, 2, none⟩ = some (.int .u8 (foOf k).kind) := row_cell hD.bf 2
    have fr2 := row_fr hD.b 10
    have q2 : W.cell? ⟨I, 10, none⟩ = some (.int .u8 f0.kind) := row_cell hD.b 10
    have p3 : W.cell? ⟨w1.heap.size, 3, none⟩ = some (.int .u16 (foOf k).has) := row_cell hD.bf 3
    have fr3 := row_fr hD.b 11
    have q3 : W.cell? ⟨I, 11, none⟩ = some (.int .u16 f0.has) := row_cell hD.b 11
    have p4 : W.cell? ⟨w1.heap.size, 4, none⟩ = some (.int .u16 (foOf k).most) := row_cell hD.bf 4
    have fr4 := row_fr hD.b 12
    have q4 : W.cell? ⟨I, 12, none⟩ = some (.int .u16 f0.most) := row_cell hD.b 12
    have lF := row_lt hD.bf
    have lJ := row_lt hD.b
    have nF : ¬ w1.heap.size = I := hD.ne
    have H : Hid _ := hD
    clear hD
    have HM : Hid (0 ≤ (foOf k).most ∧ (foOf k).most ≤ 65535) := foOf_most k (hit_lt HK.out)
    generalize eF : foOf k = f at *
    go_upto_region 9 with fail
    refine wp_gen (fun W' => D2 w W' I x0 f n0) (by first | exact D2.form H.out | exact (D2.form H.out).drw) ?_
    clear H p0 p1 p2 p3 p4 q0 q1 q2 q3 q4 fr0 fr1 fr2 fr3 fr4 lF lJ nF
    intro W2 h2
    have lJ := row_lt h2.b
    have c11 : W2.cell? ⟨I, 11, none⟩ = some (.int .u16 f.has) := row_cell h2.b 11
    have c13 : W2.cell? ⟨I, 13, none⟩ = some (.int .i64 n0) := row_cell h2.b 13
    have f13 := row_fr h2.b 13
    have H2 : Hid _ := h2
    clear h2
    go_upto_region 10 with (go_at_call 71; refine (size8_any I 3 f.has _ (by have := szOf f.has; rw [HN.out] at this; exact this) c11 lJ).mono ?_; rintro e w9 ⟨rfl, rfl⟩)
    refine wp_gen (fun W' => D2 w W' I x0 f 3) (by first | exact H2.out.words 3 | exact (H2.out.words 3).drw) ?_
    clear H2 c11 c13 f13 lJ
    intro W3 h3
    have lJ := row_lt h3.b
    have c13 : W3.cell? ⟨I, 13, none⟩ = some (.int .i64 3) := row_cell h3.b 13
    have H3 : Hid _ := h3
    clear h3
    go_wp2
    go_ret
    exact ⟨rfl, H3.out.ch⟩
  ·
    go_upto_region 8 with fail
    refine wp_gen (fun W' => DE w W' I w.heap.size (fdA x0 f0 n0) (foOf k)) (by first | exact de_pre (foOf k) HI.out HB1.out | exact (de_pre (foOf k) HI.out HB1.out).drw) ?_
    intro W hD
    have p0 : W.cell? ⟨w.heap.size, 0, none⟩ = some (.int .u8 (foOf k).first) := row_cell hD.bf 0
    have fr0 := row_fr hD.b 8
    have q0 : W.cell? ⟨I, 8, none⟩ = some (.int .u8 f0.first) := row_cell hD.b 8
    have p1 : W.cell? ⟨w.heap.size, 1, none⟩ = some (.int .u8 (foOf k).last) := row_cell hD.bf 1
    have fr1 := row_fr hD.b 9
    have q1 : W.cell? ⟨I, 9, none⟩ = some (.int .u8 f0.last) := row_cell hD.b 9
    have p2 : W.cell? ⟨w.heap.size, 2, none⟩ = some (.int .u8 (foOf k).kind) := row_cell hD.bf 2
    have fr2 := row_fr hD.b 10
    have q2 : W.cell? ⟨I, 10, none⟩ = some (.int .u8 f0.kind) := row_cell hD.b 10
    have p3 : W.cell? ⟨w.heap.size, 3, none⟩ = some (.int .u16 (foOf k).has) := row_cell hD.bf 3
    have fr3 := row_fr hD.b 11
    have q3 : W.cell? ⟨I, 11, none⟩ = some (.int .u16 f0.has) := row_cell hD.b 11
    have p4 : W.cell? ⟨w.heap.size, 4, none⟩ = some (.int .u16 (foOf k).most) := row_cell hD.bf 4
    have fr4 := row_fr hD.b 12
    have q4 : W.cell? ⟨I, 12, none⟩ = some (.int .u16 f0.most) := row_cell hD.b 12
    have lF := row_lt hD.bf
    have lJ := row_lt hD.b
    have nF : ¬ w.heap.size = I := hD.ne
    have H : Hid _ := hD
    clear hD
    have HM : Hid (0 ≤ (foOf k).most ∧ (foOf k).most ≤ 65535) := foOf_most k (hit_lt HK.out)
    generalize eF : foOf k = f at *
    go_upto_region 9 with fail
    refine wp_gen (fun W' => D2 w W' I x0 f n0) (by first | exact D2.form H.out | exact (D2.form H.out).drw) ?_
    clear H p0 p1 p2 p3 p4 q0 q1 q2 q3 q4 fr0 fr1 fr2 fr3 fr4 lF lJ nF
    intro W2 h2
    have lJ := row_lt h2.b
    have c11 : W2.cell? ⟨I, 11, none⟩ = some (.int .u16 f.has) := row_cell h2.b 11
    have c13 : W2.cell? ⟨I, 13, none⟩ = some (.int .i64 n0) := row_cell h2.b 13
    have f13 := row_fr h2.b 13
    have H2 : Hid _ := h2
    clear h2
    go_upto_region 10 with (go_at_call 71; refine (size8_any I 3 f.has _ (by have := szOf f.has; rw [HN.out] at this; exact this) c11 lJ).mono ?_; rintro e w9 ⟨rfl, rfl⟩)
    refine wp_gen (fun W' => D2 w W' I x0 f 3) (by first | exact H2.out.words 3 | exact (H2.out.words 3).drw) ?_
    clear H2 c11 c13 f13 lJ
    intro W3 h3
    have lJ := row_lt h3.b
    have c13 : W3.cell? ⟨I, 13, none⟩ = some (.int .i64 3) := row_cell h3.b 13
    have H3 : Hid _ := h3
    clear h3
    go_wp2
    go_ret
    exact ⟨rfl, H3.out.ch⟩
  ·
    go_upto_region 8 with fail
    refine wp_gen (fun W' => DE w W' I w.heap.size (fdA x0 f0 n0) (foOf k)) (by first | exact de_pre (foOf k) HI.out HB1.out | exact (de_pre (foOf k) HI.out HB1.out).drw) ?_
    intro W hD
    have p0 : W.cell? ⟨w.heap.size, 0, none⟩ = some (.int .u8 (foOf k).first) := row_cell hD.bf 0
    have fr0 := row_fr hD.b 8
    have q0 : W.cell? ⟨I, 8, none⟩ = some (.int .u8 f0.first) := row_cell hD.b 8
    have p1 : W.cell? ⟨w.heap.size, 1, none⟩ = some (.int .u8 (foOf k).last) := row_cell hD.bf 1
    have fr1 := row_fr hD.b 9
    have q1 : W.cell? ⟨I, 9, none⟩ = some (.int .u8 f0.last) := row_cell hD.b 9
    have p2 : W.cell? ⟨w.heap.size, 2, none⟩ = some (.int .u8 (foOf k).kind) := row_cell hD.bf 2
    have fr2 := row_fr hD.b 10
    have q2 : W.cell? ⟨I, 10, none⟩ = some (.int .u8 f0.kind) := row_cell hD.b 10
    have p3 : W.cell? ⟨w.heap.size, 3, none⟩ = some (.int .u16 (foOf k).has) := row_cell hD.bf 3
    have fr3 := row_fr hD.b 11
    have q3 : W.cell? ⟨I, 11, none⟩ = some (.int .u16 f0.has) := row_cell hD.b 11
    have p4 : W.cell? ⟨w.heap.size, 4, none⟩ = some (.int .u16 (foOf k).most) := row_cell hD.bf 4
    have fr4 := row_fr hD.b 12
    have q4 : W.cell? ⟨I, 12, none⟩ = some (.int .u16 f0.most) := row_cell hD.b 12
    have lF := row_lt hD.bf
    have lJ := row_lt hD.b
    have nF : ¬ w.heap.size = I := hD.ne
    have H : Hid _ := hD
    clear hD
    have HM : Hid (0 ≤ (foOf k).most ∧ (foOf k).most ≤ 65535) := foOf_most k (hit_lt HK.out)
    generalize eF : foOf k = f at *
    go_upto_region 9 with fail
    refine wp_gen (fun W' => D2 w W' I x0 f n0) (by first | exact D2.form H.out | exact (D2.form H.out).drw) ?_
    clear H p0 p1 p2 p3 p4 q0 q1 q2 q3 q4 fr0 fr1 fr2 fr3 fr4 lF lJ nF
    intro W2 h2
    have lJ := row_lt h2.b
    have c11 : W2.cell? ⟨I, 11, none⟩ = some (.int .u16 f.has) := row_cell h2.b 11
    have c13 : W2.cell? ⟨I, 13, none⟩ = some (.int .i64 n0) := row_cell h2.b 13
    have f13 := row_fr h2.b 13
    have H2 : Hid _ := h2
    clear h2
    go_upto_region 10 with (go_at_call 71; refine (size8_any I 3 f.has _ (by have := szOf f.has; rw [HN.out] at this; exact this) c11 lJ).mono ?_; rintro e w9 ⟨rfl, rfl⟩)
    refine wp_gen (fun W' => D2 w W' I x0 f 3) (by first | exact H2.out.words 3 | exact (H2.out.words 3).drw) ?_
    clear H2 c11 c13 f13 lJ
    intro W3 h3
    have lJ := row_lt h3.b
    have c13 : W3.cell? ⟨I, 13, none⟩ = some (.int .i64 3) := row_cell h3.b 13
    have H3 : Hid _ := h3
    clear h3
    go_wp2
    go_ret
    exact ⟨rfl, H3.out.ch⟩
end Go.Proofs.Ytgkkghphlbgcoaa.Ho
