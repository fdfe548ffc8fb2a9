import Derived.Test.YtkgbjpdoigdjnaaEN
namespace Go.Proofs.Ytkgbjpdoigdjnaa
open Go.RowKit
set_option maxRecDepth 100000
set_option linter.unusedVariables false
set_option linter.unusedSimpArgs false
set_option maxHeartbeats 4000000 in
theorem pdo9 (P V X n i y : Nat) (kk aa : Int) (c v : Nat → Nat) (o : OpR) (w : World) (hP : WkC w P V X n c v) (hfr : Fz w V) (hv : cxOk v) (hn : n ≤ 2048) (hk : o.kind = 9) (ha : 0 ≤ o.a ∧ o.a < n) (hi : i < n) (hPV : P ≠ V)
    (hval : ∀ W, Below w.heap.size w W → Calls Try.prog 164 #[.pointer (some ⟨X, 0, none⟩), .int .i64 o.w, .int .u32 (v o.a.toNat)] W fun e w' => e = .returned (.tuple #[.int .u32 y, .agg #[.int .i64 kk, .int .u32 aa]]) ∧ Below W.heap.size W w') :
    Calls Try.prog 142 #[.pointer (some ⟨P, 0, none⟩), .int .i64 i, .agg #[.int .i64 o.kind, .int .i64 o.w, .int .i64 o.a, .int .i64 o.b, .int .i64 o.c, .int .u32 o.k, .int .i64 o.n]] w fun e w' => e = .returned (.tuple #[exV kk aa o.k o.n, .bool (kk != 0)]) ∧ WkC w' P V X n c (updC v i y) ∧ Chg [V] w w' ∧ Fz w' V := by
  have HV : Hid (cxOk v) := hv
  obtain ⟨a0, a1⟩ := ha
  have xs := hP.cs
  have xm := hP.cm
  have xa := hP.cv o.a.toNat (by omega)
  have lP := lt_of_cell xs
  have lV := lt_of_cell xa
  simp only at lP lV
  have lP1 : P < w.heap.size + 1 := Nat.lt_succ_of_lt lP
  have lP2 : P < w.heap.size + 1 + 1 := Nat.lt_succ_of_lt lP1
  have lV1 : V < w.heap.size + 1 := Nat.lt_succ_of_lt lV
  have lV2 : V < w.heap.size + 1 + 1 := Nat.lt_succ_of_lt lV1
  have n1 : (n : Int) ≤ 2048 := by omega
  have i0 : (0 : Int) ≤ (i : Int) := by omega
  have i1 : (i : Int) < (n : Int) := by omega
  have HP : Hid _ := hP
  have HF : Hid _ := hfr
  have HVAL : Hid _ := hval
  have k3 : (o.kind == 3) = false := by simp [hk]
  have k9 : (o.kind == 9) = true := by simp [hk]
  clear hv hP hfr hval hk
  go_enter Try.func142, Try.ntmps142
  go_wp2
  go_quiet (fail)
  go_upto_region 8 with fail
  have H0 : Hid _ := D3.start w P V X n [V] c v o HP.out HF.out (by omega) hPV nq
  have HB0 : Hid (Below w.heap.size w ((((w.alloc (.cells #[.int .i64 o.kind, .int .i64 o.w, .int .i64 o.a, .int .i64 o.b, .int .i64 o.c, .int .u32 o.k, .int .i64 o.n] 163)).alloc (.cells #[.int .i64 0, .int .u32 0, .int .u32 0, .int .i64 0] 93)).alloc (.cells #[.int .i64 0, .int .u32 0, .int .u32 o.k, .int .i64 o.n] 93)).drewN nq)) := belN ((((Below.refl w.heap.size w).alloc (Nat.le_refl _) _).alloc (by simp) _).alloc (by simp; omega) _) nq
  generalize ((((w.alloc _).alloc _).alloc _).drewN nq) = W3 at H0 HB0 ⊢
  have z5_0 : W3.cell? ⟨w.heap.size, 0, none⟩ = some (.int .i64 o.kind) := row_cell H0.out.b5 0
  have z5_1 : W3.cell? ⟨w.heap.size, 1, none⟩ = some (.int .i64 o.w) := row_cell H0.out.b5 1
  have z5_2 : W3.cell? ⟨w.heap.size, 2, none⟩ = some (.int .i64 o.a) := row_cell H0.out.b5 2
  have z5_3 : W3.cell? ⟨w.heap.size, 3, none⟩ = some (.int .i64 o.b) := row_cell H0.out.b5 3
  have z5_4 : W3.cell? ⟨w.heap.size, 4, none⟩ = some (.int .i64 o.c) := row_cell H0.out.b5 4
  have z5_5 : W3.cell? ⟨w.heap.size, 5, none⟩ = some (.int .u32 o.k) := row_cell H0.out.b5 5
  have z5_6 : W3.cell? ⟨w.heap.size, 6, none⟩ = some (.int .i64 o.n) := row_cell H0.out.b5 6
  have zs := H0.out.k.cs
  have zm := H0.out.k.cm
  have HI : Hid _ := hi
  have HVV : Hid (V ∈ [V]) := List.mem_cons_self
  have HC : Hid (∀ W, Below W3.heap.size W3 W → Calls Try.prog 164 #[.pointer (some ⟨X, 0, none⟩), .int .i64 o.w, .int .u32 (v o.a.toNat)] W fun e w' => e = .returned (.tuple #[.int .u32 y, .agg #[.int .i64 kk, .int .u32 aa]]) ∧ Below W.heap.size W w') := show ∀ W, _ from fun W hW => HVAL.out W (HB0.out.trans (hW.mono (Nat.le_of_lt (row_lt H0.out.b5))))
  clear xs xm xa HV a0 a1 HVAL hi HB0
  go_region_held3 (fun W' => W'.cell? ⟨P, 13, none⟩ = some (.slice (some ⟨V, 0, none⟩) n n) ∧ W'.cell? ⟨P, 12, none⟩ = some (.pointer (some ⟨X, 0, none⟩)) ∧ W'.cell? ⟨w.heap.size, 1, none⟩ = some (.int .i64 o.w)) (first | (simp [go_sem, us, um, u5_1, lP, lV, lP1, lP2, lV1, lV2, hPV, hPV.symm]; done) | (simp [go_sem, zs, zm, z5_1]; done))
    (first | (go_at_call 164; refine (HC.out _ ?_).mono ?_; (focus (first | with_reducible exact Below.refl _ _ | with_reducible exact (Below.refl _ _).drew | with_reducible exact (Below.refl _ _).drew.drew)); rintro e w1 ⟨rfl, h1⟩; have H1 : Hid (D3 w w1 P V X n [V] c v o ⟨0, 0, o.k, o.n⟩) := (by first | exact H0.out.next h1 | exact H0.out.drew.next h1 | exact H0.out.drew.drew.next h1); have y0 : w1.cell? ⟨w.heap.size + 1, 0, none⟩ = some (.int .i64 0) := row_cell H1.out.b6 0; have y1 : w1.cell? ⟨w.heap.size + 1, 1, none⟩ = some (.int .u32 0) := row_cell H1.out.b6 1; have y2 : w1.cell? ⟨w.heap.size + 1, 2, none⟩ = some (.int .u32 0) := row_cell H1.out.b6 2; have y3 : w1.cell? ⟨w.heap.size + 1, 3, none⟩ = some (.int .i64 0) := row_cell H1.out.b6 3; have yf := row_fr H1.out.b6; have x0 : w1.cell? ⟨w.heap.size + 1 + 1, 0, none⟩ = some (.int .i64 0) := row_cell H1.out.b8 0; have x1 : w1.cell? ⟨w.heap.size + 1 + 1, 1, none⟩ = some (.int .u32 0) := row_cell H1.out.b8 1; have x2 : w1.cell? ⟨w.heap.size + 1 + 1, 2, none⟩ = some (.int .u32 o.k) := row_cell H1.out.b8 2; have x3 : w1.cell? ⟨w.heap.size + 1 + 1, 3, none⟩ = some (.int .i64 o.n) := row_cell H1.out.b8 3; have xf := row_fr H1.out.b8; have us := H1.out.k.cs; have um := H1.out.k.cm; have ui := H1.out.k.cv i HI.out; have uf := H1.out.f.fr i; have u5_0 : w1.cell? ⟨w.heap.size, 0, none⟩ = some (.int .i64 o.kind) := row_cell H1.out.b5 0; have u5_1 : w1.cell? ⟨w.heap.size, 1, none⟩ = some (.int .i64 o.w) := row_cell H1.out.b5 1; have u5_2 : w1.cell? ⟨w.heap.size, 2, none⟩ = some (.int .i64 o.a) := row_cell H1.out.b5 2; have u5_3 : w1.cell? ⟨w.heap.size, 3, none⟩ = some (.int .i64 o.b) := row_cell H1.out.b5 3; have u5_4 : w1.cell? ⟨w.heap.size, 4, none⟩ = some (.int .i64 o.c) := row_cell H1.out.b5 4; have u5_5 : w1.cell? ⟨w.heap.size, 5, none⟩ = some (.int .u32 o.k) := row_cell H1.out.b5 5; have u5_6 : w1.cell? ⟨w.heap.size, 6, none⟩ = some (.int .i64 o.n) := row_cell H1.out.b5 6; have m6 := row_lt H1.out.b6; have m8 := row_lt H1.out.b8; clear h1))
  go_upto_region 9 with fail
  have H2 : Hid _ := ((H1.out.putV HI.out HVV.out y).ex0 kk).ex1 aa
  generalize (((w1.setCell _ _).setCell _ _).setCell _ _) = W4 at H2 ⊢
  clear y0 y1 y2 y3 yf x0 x1 x2 x3 xf us um u5_0 u5_1 u5_2 u5_3 u5_4 u5_5 u5_6 zs zm z5_0 z5_1 z5_2 z5_3 z5_4 z5_5 z5_6 m6 m8
  have y0 : W4.cell? ⟨w.heap.size + 1, 0, none⟩ = some (.int .i64 0) := row_cell H2.out.b6 0
  have y1 : W4.cell? ⟨w.heap.size + 1, 1, none⟩ = some (.int .u32 0) := row_cell H2.out.b6 1
  have y2 : W4.cell? ⟨w.heap.size + 1, 2, none⟩ = some (.int .u32 0) := row_cell H2.out.b6 2
  have y3 : W4.cell? ⟨w.heap.size + 1, 3, none⟩ = some (.int .i64 0) := row_cell H2.out.b6 3
  have yf := row_fr H2.out.b6
  have x0 : W4.cell? ⟨w.heap.size + 1 + 1, 0, none⟩ = some (.int .i64 kk) := row_cell H2.out.b8 0
  have x1 : W4.cell? ⟨w.heap.size + 1 + 1, 1, none⟩ = some (.int .u32 aa) := row_cell H2.out.b8 1
  have x2 : W4.cell? ⟨w.heap.size + 1 + 1, 2, none⟩ = some (.int .u32 o.k) := row_cell H2.out.b8 2
  have x3 : W4.cell? ⟨w.heap.size + 1 + 1, 3, none⟩ = some (.int .i64 o.n) := row_cell H2.out.b8 3
  have xf := row_fr H2.out.b8
  have m6 := row_lt H2.out.b6
  have m8 := row_lt H2.out.b8
  go_region_held3 (fun W' => W'.cell? ⟨w.heap.size + 1 + 1, 0, none⟩ = some (.int .i64 kk) ∧ W'.cell? ⟨w.heap.size + 1 + 1, 1, none⟩ = some (.int .u32 aa) ∧ W'.cell? ⟨w.heap.size + 1 + 1, 2, none⟩ = some (.int .u32 o.k) ∧ W'.cell? ⟨w.heap.size + 1 + 1, 3, none⟩ = some (.int .i64 o.n)) ((simp [go_sem, x0, x1, x2, x3, y0, y1, y2, y3]; done)) (fail)
  go_wp2
  exact bodyPost_ret (v := .tuple #[exV kk aa o.k o.n, .bool (kk != 0)]) (by simp [results, Try.results142, go_sem, y0, y1, y2, y3, yf, m6]) rfl ⟨rfl, by
    have hB := H2.out.k
    (repeat first | with_reducible exact hB | with_reducible refine WkC.drewN ?_ _ | with_reducible refine WkC.drew ?_ | with_reducible refine WkC.set ?_ (by omega) (by omega) _ trivial), by
    have hC := H2.out.chg
    (repeat first | with_reducible exact hC | with_reducible refine Chg.drewN ?_ _ | with_reducible refine Chg.drewC ?_ | with_reducible refine Chg.allocC ?_ _ | with_reducible refine Chg.setIn ?_ List.mem_cons_self | with_reducible refine Chg.setN ?_ (by omega)), by
    have hF := H2.out.f
    (repeat first | with_reducible exact hF | with_reducible refine Fz.drewN ?_ _ | with_reducible refine Fz.drew ?_ | with_reducible refine Fz.alloc ?_ _ _ | with_reducible refine Fz.set ?_ _ _)⟩
end Go.Proofs.Ytkgbjpdoigdjnaa
