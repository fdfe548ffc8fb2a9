import Derived.Test.YtkgbjpdoigdjnaaEF
import Derived.Test.YtkgbjpdoigdjnaaCS
import Derived.Deep.RegionHeld3
namespace Go.Proofs.Ytkgbjpdoigdjnaa
open Go.RowKit
set_option maxRecDepth 100000
set_option linter.unusedVariables false
set_option linter.unusedSimpArgs false

/-- The walk's own cells: the context, the memory, the values. -/
structure WkC (w : World) (P V X n : Nat) (c v : Nat → Nat) : Prop where
  cc : ∀ i, i < 12 → w.cell? ⟨P, i, none⟩ = some (.int .u32 (c i))
  cm : w.cell? ⟨P, 12, none⟩ = some (.pointer (some ⟨X, 0, none⟩))
  cs : w.cell? ⟨P, 13, none⟩ = some (.slice (some ⟨V, 0, none⟩) n n)
  cv : ∀ i, i < n → w.cell? ⟨V, i, none⟩ = some (.int .u32 (v i))
theorem belN {B : Nat} {a w : World} (h : Below B a w) : ∀ n, Below B a (w.drewN n)
  | 0 => h
  | n + 1 => (belN h n).drew
theorem cxOk_nat (v : Nat → Nat) (h : cxOk v) (i : Nat) : v i < 4294967296 := h i
def pvalF (o : OpR) (c : Nat → Nat) (a b d : Nat) : Int := if o.kind = 2 then (c o.w.toNat : Int) else if o.kind = 17 then cxF c else valF o a b d
def HoldsOk : Prop := ∀ (c : Int) (f : Nat) (w : World), f < 4294967296 → c ≤ 9223372036854775807 →
  Calls Try.prog 33 #[.int .i64 c, .int .u32 f] w fun e w' => e = .returned (.bool (Fl.holdsF c f)) ∧ Below w.heap.size w w'
set_option maxHeartbeats 1000000 in
theorem vof1 (o : OpR) (a b d : Nat) (w : World) (hH : HoldsOk) (ha : a < 4294967296) (hb : b < 4294967296) (hd : d < 4294967296) (hk : o.kind = 1) (hw : OpWf o) (hw8 : o.w ≤ 9223372036854775807) :
    Calls Try.prog 180 #[.agg #[.int .i64 o.kind, .int .i64 o.w, .int .i64 o.a, .int .i64 o.b, .int .i64 o.c, .int .u32 o.k, .int .i64 o.n], .int .u32 a, .int .u32 b, .int .u32 d] w fun e w' => e = .returned (.int .u32 (valF o a b d)) ∧ Below w.heap.size w w' := by
  have HF : Hid (valF o a b d = (o.k : Int)) := by show _ = _; simp [valF, hk]
  have HW : Hid _ := hw
  have HK : Hid (o.kind = 1) := hk
  have HH : Hid _ := hH
  have HA : Hid _ := ha
  have HB : Hid _ := hb
  have HD : Hid _ := hd
  have HW8 : Hid _ := hw8
  clear hw hH hw8
  go_enter Try.func180, Try.ntmps180
  go_wp2
  go_ret
  exact ⟨by rw [HF.out]; rfl, wk_bel1 w _⟩
set_option maxHeartbeats 1000000 in
theorem vof4 (o : OpR) (a b d : Nat) (w : World) (hH : HoldsOk) (ha : a < 4294967296) (hb : b < 4294967296) (hd : d < 4294967296) (hk : o.kind = 4) (hw : OpWf o) (hw8 : o.w ≤ 9223372036854775807) :
    Calls Try.prog 180 #[.agg #[.int .i64 o.kind, .int .i64 o.w, .int .i64 o.a, .int .i64 o.b, .int .i64 o.c, .int .u32 o.k, .int .i64 o.n], .int .u32 a, .int .u32 b, .int .u32 d] w fun e w' => e = .returned (.int .u32 (valF o a b d)) ∧ Below w.heap.size w w' := by
  have HF : Hid (valF o a b d = binF o.w a b) := by show _ = _; simp [valF, hk]
  have HW : Hid _ := hw
  have HK : Hid (o.kind = 4) := hk
  have HH : Hid _ := hH
  have HA : Hid _ := ha
  have HB : Hid _ := hb
  have HD : Hid _ := hd
  have HW8 : Hid _ := hw8
  clear hw hH hw8
  go_enter Try.func180, Try.ntmps180
  go_wp2_with (go_at_call 182; refine (pbin_any o.w _ _ _ HA.out HB.out (HW.out.w4 HK.out)).mono ?_; rintro e w1 ⟨rfl, rfl⟩)
  go_ret
  exact ⟨by rw [HF.out]; rfl, wk_bel1 w _⟩
set_option maxHeartbeats 1000000 in
theorem vof5 (o : OpR) (a b d : Nat) (w : World) (hH : HoldsOk) (ha : a < 4294967296) (hb : b < 4294967296) (hd : d < 4294967296) (hk : o.kind = 5) (hw : OpWf o) (hw8 : o.w ≤ 9223372036854775807) :
    Calls Try.prog 180 #[.agg #[.int .i64 o.kind, .int .i64 o.w, .int .i64 o.a, .int .i64 o.b, .int .i64 o.c, .int .u32 o.k, .int .i64 o.n], .int .u32 a, .int .u32 b, .int .u32 d] w fun e w' => e = .returned (.int .u32 (valF o a b d)) ∧ Below w.heap.size w w' := by
  have HF : Hid (valF o a b d = (unF o.w a : Int)) := by show _ = _; simp [valF, hk]
  have HW : Hid _ := hw
  have HK : Hid (o.kind = 5) := hk
  have HH : Hid _ := hH
  have HA : Hid _ := ha
  have HB : Hid _ := hb
  have HD : Hid _ := hd
  have HW8 : Hid _ := hw8
  clear hw hH hw8
  go_enter Try.func180, Try.ntmps180
  go_wp2_with (go_at_call 183; refine (pun_any o.w _ _ HA.out (HW.out.w5 HK.out)).mono ?_; rintro e w1 ⟨rfl, rfl⟩)
  go_ret
  exact ⟨by rw [HF.out]; rfl, wk_bel1 w _⟩
set_option maxHeartbeats 1000000 in
theorem vof6 (o : OpR) (a b d : Nat) (w : World) (hH : HoldsOk) (ha : a < 4294967296) (hb : b < 4294967296) (hd : d < 4294967296) (hk : o.kind = 6) (hw : OpWf o) (hw8 : o.w ≤ 9223372036854775807) :
    Calls Try.prog 180 #[.agg #[.int .i64 o.kind, .int .i64 o.w, .int .i64 o.a, .int .i64 o.b, .int .i64 o.c, .int .u32 o.k, .int .i64 o.n], .int .u32 a, .int .u32 b, .int .u32 d] w fun e w' => e = .returned (.int .u32 (valF o a b d)) ∧ Below w.heap.size w w' := by
  have HF : Hid (valF o a b d = if a = 0 then (d : Int) else (b : Int)) := by show _ = _; simp [valF, hk]
  have HW : Hid _ := hw
  have HK : Hid (o.kind = 6) := hk
  have HH : Hid _ := hH
  have HA : Hid _ := ha
  have HB : Hid _ := hb
  have HD : Hid _ := hd
  have HW8 : Hid _ := hw8
  clear hw hH hw8
  go_enter Try.func180, Try.ntmps180
  by_cases h : a = 0
  · have d1 : ((a : Int) != 0) = false := by simp; omega
    go_wp2
    go_ret
    exact ⟨by rw [HF.out, if_pos h]; rfl, wk_bel1 w _⟩
  · have d1 : ((a : Int) != 0) = true := by simp; omega
    go_wp2
    go_ret
    exact ⟨by rw [HF.out, if_neg h]; rfl, wk_bel1 w _⟩
set_option maxHeartbeats 1000000 in
theorem vof7 (o : OpR) (a b d : Nat) (w : World) (hH : HoldsOk) (ha : a < 4294967296) (hb : b < 4294967296) (hd : d < 4294967296) (hk : o.kind = 7) (hw : OpWf o) (hw8 : o.w ≤ 9223372036854775807) :
    Calls Try.prog 180 #[.agg #[.int .i64 o.kind, .int .i64 o.w, .int .i64 o.a, .int .i64 o.b, .int .i64 o.c, .int .u32 o.k, .int .i64 o.n], .int .u32 a, .int .u32 b, .int .u32 d] w fun e w' => e = .returned (.int .u32 (valF o a b d)) ∧ Below w.heap.size w w' := by
  have HF : Hid (valF o a b d = Fl.flagsF o.w a b d) := by show _ = _; simp [valF, hk]
  have HW : Hid _ := hw
  have HK : Hid (o.kind = 7) := hk
  have HH : Hid _ := hH
  have HA : Hid _ := ha
  have HB : Hid _ := hb
  have HD : Hid _ := hd
  have HW8 : Hid _ := hw8
  clear hw hH hw8
  go_enter Try.func180, Try.ntmps180
  go_wp2_with (go_at_call 31; refine (pflags_any o.w _ _ _ _ HA.out HB.out HD.out).mono ?_; rintro e w1 ⟨rfl, h1⟩)
  go_ret
  exact ⟨by rw [HF.out]; rfl, (wk_bel1 w _).trans (h1.mono (by simp))⟩
set_option maxHeartbeats 1000000 in
theorem vof8 (o : OpR) (a b d : Nat) (w : World) (hH : HoldsOk) (ha : a < 4294967296) (hb : b < 4294967296) (hd : d < 4294967296) (hk : o.kind = 8) (hw : OpWf o) (hw8 : o.w ≤ 9223372036854775807) :
    Calls Try.prog 180 #[.agg #[.int .i64 o.kind, .int .i64 o.w, .int .i64 o.a, .int .i64 o.b, .int .i64 o.c, .int .u32 o.k, .int .i64 o.n], .int .u32 a, .int .u32 b, .int .u32 d] w fun e w' => e = .returned (.int .u32 (valF o a b d)) ∧ Below w.heap.size w w' := by
  have HF : Hid (valF o a b d = Fl.isF (Fl.holdsF o.w a) 1) := by show _ = _; simp [valF, hk]
  have HW : Hid _ := hw
  have HK : Hid (o.kind = 8) := hk
  have HH : Hid _ := hH
  have HA : Hid _ := ha
  have HB : Hid _ := hb
  have HD : Hid _ := hd
  have HW8 : Hid _ := hw8
  clear hw hH hw8
  go_enter Try.func180, Try.ntmps180
  go_wp2_with (first
    | (go_at_call 33; refine (HH.out o.w _ _ HA.out HW8.out).mono ?_; rintro e w1 ⟨rfl, h1⟩)
    | (go_at_call 184; refine (truth_any _ _).mono ?_; rintro e w2 ⟨rfl, rfl⟩))
  go_ret
  exact ⟨by rw [HF.out]; rfl, (wk_bel1 w _).trans (h1.mono (by simp))⟩
theorem op7 {w : World} {q : Nat} {a b c d e f g : Value} {T : TypeId} (h : w.heap[q]? = some (.cells #[a, b, c, d, e, f, g] T)) : w.cell? ⟨q, 0, none⟩ = some a ∧ w.cell? ⟨q, 1, none⟩ = some b ∧ w.cell? ⟨q, 2, none⟩ = some c ∧ w.cell? ⟨q, 3, none⟩ = some d ∧ w.cell? ⟨q, 4, none⟩ = some e ∧ w.cell? ⟨q, 5, none⟩ = some f ∧ w.cell? ⟨q, 6, none⟩ = some g :=
  ⟨cell_of_row _ _ 0 _ _ (0, 0) h, cell_of_row _ _ 1 _ _ (0, 0) h, cell_of_row _ _ 2 _ _ (0, 0) h, cell_of_row _ _ 3 _ _ (0, 0) h, cell_of_row _ _ 4 _ _ (0, 0) h, cell_of_row _ _ 5 _ _ (0, 0) h, cell_of_row _ _ 6 _ _ (0, 0) h⟩
set_option maxHeartbeats 1000000 in
theorem pvalO (P V X n : Nat) (c v : Nat → Nat) (o : OpR) (w : World) (y : Int) (hP : WkC w P V X n c v) (hn : n ≤ 2048) (h2 : (o.kind == 2) = false) (h17 : (o.kind == 17) = false)
    (hy : ∀ W, Calls Try.prog 180 #[.agg #[.int .i64 o.kind, .int .i64 o.w, .int .i64 o.a, .int .i64 o.b, .int .i64 o.c, .int .u32 o.k, .int .i64 o.n], .int .u32 (v o.a.toNat), .int .u32 (v o.b.toNat), .int .u32 (v o.c.toNat)] W fun e w' => e = .returned (.int .u32 y) ∧ Below W.heap.size W w')
    (ha : 0 ≤ o.a ∧ o.a < n) (hb : 0 ≤ o.b ∧ o.b < n) (hd : 0 ≤ o.c ∧ o.c < n) :
    Calls Try.prog 166 #[.pointer (some ⟨P, 0, none⟩), .agg #[.int .i64 o.kind, .int .i64 o.w, .int .i64 o.a, .int .i64 o.b, .int .i64 o.c, .int .u32 o.k, .int .i64 o.n]] w fun e w' => e = .returned (.int .u32 y) ∧ Below w.heap.size w w' := by
  have HY : Hid _ := hy
  obtain ⟨a0, a1⟩ := ha
  obtain ⟨b0, b1⟩ := hb
  obtain ⟨d0, d1⟩ := hd
  have xs := hP.cs
  have xa := hP.cv o.a.toNat (by omega)
  have xb := hP.cv o.b.toNat (by omega)
  have xd := hP.cv o.c.toNat (by omega)
  have lP := lt_of_cell xs
  have lV := lt_of_cell xa
  simp only at lP lV
  have n1 : (n : Int) ≤ 2048 := by omega
  clear hP hy
  go_enter Try.func166, Try.ntmps166
  go_upto_region 6 with fail
  go_region_held3 (fun w' => w'.cell? ⟨P, 13, none⟩ = some (.slice (some ⟨V, 0, none⟩) n n) ∧ w'.cell? ⟨V, o.a.toNat, none⟩ = some (.int .u32 (v o.a.toNat)) ∧ w'.cell? ⟨V, o.b.toNat, none⟩ = some (.int .u32 (v o.b.toNat)) ∧ w'.cell? ⟨V, o.c.toNat, none⟩ = some (.int .u32 (v o.c.toNat)) ∧ w'.cell? ⟨w.heap.size, 0, none⟩ = some (.int .i64 o.kind) ∧ w'.cell? ⟨w.heap.size, 1, none⟩ = some (.int .i64 o.w) ∧ w'.cell? ⟨w.heap.size, 2, none⟩ = some (.int .i64 o.a) ∧ w'.cell? ⟨w.heap.size, 3, none⟩ = some (.int .i64 o.b) ∧ w'.cell? ⟨w.heap.size, 4, none⟩ = some (.int .i64 o.c) ∧ w'.cell? ⟨w.heap.size, 5, none⟩ = some (.int .u32 o.k) ∧ w'.cell? ⟨w.heap.size, 6, none⟩ = some (.int .i64 o.n)) (first | (simp [go_sem, y1, y2, y3, y4, y5, y6, y7, y8, y9, y10, y11]; done) | (simp [go_sem, xs, xa, xb, xd, lP, lV]; done))
    (first | (go_at_call 180; refine (HY.out _).mono ?_; rintro e w1 ⟨rfl, h1⟩; have y1 : w1.cell? ⟨P, 13, none⟩ = some (.slice (some ⟨V, 0, none⟩) n n) := (h1.cell (p := ⟨P, 13, none⟩) (by simp; omega)).trans (by simp [go_sem, xs, xa, xb, xd, lP, lV]); have y2 : w1.cell? ⟨V, o.a.toNat, none⟩ = some (.int .u32 (v o.a.toNat)) := (h1.cell (p := ⟨V, o.a.toNat, none⟩) (by simp; omega)).trans (by simp [go_sem, xs, xa, xb, xd, lP, lV]); have y3 : w1.cell? ⟨V, o.b.toNat, none⟩ = some (.int .u32 (v o.b.toNat)) := (h1.cell (p := ⟨V, o.b.toNat, none⟩) (by simp; omega)).trans (by simp [go_sem, xs, xa, xb, xd, lP, lV]); have y4 : w1.cell? ⟨V, o.c.toNat, none⟩ = some (.int .u32 (v o.c.toNat)) := (h1.cell (p := ⟨V, o.c.toNat, none⟩) (by simp; omega)).trans (by simp [go_sem, xs, xa, xb, xd, lP, lV]); have y5 : w1.cell? ⟨w.heap.size, 0, none⟩ = some (.int .i64 o.kind) := (h1.cell (p := ⟨w.heap.size, 0, none⟩) (by simp)).trans (by simp [go_sem, xs, xa, xb, xd, lP, lV]); have y6 : w1.cell? ⟨w.heap.size, 1, none⟩ = some (.int .i64 o.w) := (h1.cell (p := ⟨w.heap.size, 1, none⟩) (by simp)).trans (by simp [go_sem, xs, xa, xb, xd, lP, lV]); have y7 : w1.cell? ⟨w.heap.size, 2, none⟩ = some (.int .i64 o.a) := (h1.cell (p := ⟨w.heap.size, 2, none⟩) (by simp)).trans (by simp [go_sem, xs, xa, xb, xd, lP, lV]); have y8 : w1.cell? ⟨w.heap.size, 3, none⟩ = some (.int .i64 o.b) := (h1.cell (p := ⟨w.heap.size, 3, none⟩) (by simp)).trans (by simp [go_sem, xs, xa, xb, xd, lP, lV]); have y9 : w1.cell? ⟨w.heap.size, 4, none⟩ = some (.int .i64 o.c) := (h1.cell (p := ⟨w.heap.size, 4, none⟩) (by simp)).trans (by simp [go_sem, xs, xa, xb, xd, lP, lV]); have y10 : w1.cell? ⟨w.heap.size, 5, none⟩ = some (.int .u32 o.k) := (h1.cell (p := ⟨w.heap.size, 5, none⟩) (by simp)).trans (by simp [go_sem, xs, xa, xb, xd, lP, lV]); have y11 : w1.cell? ⟨w.heap.size, 6, none⟩ = some (.int .i64 o.n) := (h1.cell (p := ⟨w.heap.size, 6, none⟩) (by simp)).trans (by simp [go_sem, xs, xa, xb, xd, lP, lV])))
  all_goals go_wp2
  all_goals go_ret
  all_goals exact ⟨rfl, (belN (wk_bel1 w _) _).trans (h1.mono (by simp))⟩
theorem pval1 (P V X n : Nat) (c v : Nat → Nat) (o : OpR) (w : World) (hH : HoldsOk) (hP : WkC w P V X n c v) (hc : cxOk c) (hv : cxOk v) (hn : n ≤ 2048) (hk : o.kind = 1) (hw : OpWf o) (hw2 : o.kind = 2 → 0 ≤ o.w ∧ o.w ≤ 11) (hw8 : o.w ≤ 9223372036854775807)
    (ha : 0 ≤ o.a ∧ o.a < n) (hb : 0 ≤ o.b ∧ o.b < n) (hd : 0 ≤ o.c ∧ o.c < n) :
    Calls Try.prog 166 #[.pointer (some ⟨P, 0, none⟩), .agg #[.int .i64 o.kind, .int .i64 o.w, .int .i64 o.a, .int .i64 o.b, .int .i64 o.c, .int .u32 o.k, .int .i64 o.n]] w fun e w' => e = .returned (.int .u32 (pvalF o c (v o.a.toNat) (v o.b.toNat) (v o.c.toNat))) ∧ Below w.heap.size w w' := by
  rw [show pvalF o c (v o.a.toNat) (v o.b.toNat) (v o.c.toNat) = valF o (v o.a.toNat) (v o.b.toNat) (v o.c.toNat) by simp [pvalF, hk]]
  exact pvalO P V X n c v o w _ hP hn (by simp [hk]) (by simp [hk]) (fun W => vof1 o _ _ _ W hH (hv _) (hv _) (hv _) hk hw hw8) ha hb hd
theorem pval4 (P V X n : Nat) (c v : Nat → Nat) (o : OpR) (w : World) (hH : HoldsOk) (hP : WkC w P V X n c v) (hc : cxOk c) (hv : cxOk v) (hn : n ≤ 2048) (hk : o.kind = 4) (hw : OpWf o) (hw2 : o.kind = 2 → 0 ≤ o.w ∧ o.w ≤ 11) (hw8 : o.w ≤ 9223372036854775807)
    (ha : 0 ≤ o.a ∧ o.a < n) (hb : 0 ≤ o.b ∧ o.b < n) (hd : 0 ≤ o.c ∧ o.c < n) :
    Calls Try.prog 166 #[.pointer (some ⟨P, 0, none⟩), .agg #[.int .i64 o.kind, .int .i64 o.w, .int .i64 o.a, .int .i64 o.b, .int .i64 o.c, .int .u32 o.k, .int .i64 o.n]] w fun e w' => e = .returned (.int .u32 (pvalF o c (v o.a.toNat) (v o.b.toNat) (v o.c.toNat))) ∧ Below w.heap.size w w' := by
  rw [show pvalF o c (v o.a.toNat) (v o.b.toNat) (v o.c.toNat) = valF o (v o.a.toNat) (v o.b.toNat) (v o.c.toNat) by simp [pvalF, hk]]
  exact pvalO P V X n c v o w _ hP hn (by simp [hk]) (by simp [hk]) (fun W => vof4 o _ _ _ W hH (hv _) (hv _) (hv _) hk hw hw8) ha hb hd
theorem pval5 (P V X n : Nat) (c v : Nat → Nat) (o : OpR) (w : World) (hH : HoldsOk) (hP : WkC w P V X n c v) (hc : cxOk c) (hv : cxOk v) (hn : n ≤ 2048) (hk : o.kind = 5) (hw : OpWf o) (hw2 : o.kind = 2 → 0 ≤ o.w ∧ o.w ≤ 11) (hw8 : o.w ≤ 9223372036854775807)
    (ha : 0 ≤ o.a ∧ o.a < n) (hb : 0 ≤ o.b ∧ o.b < n) (hd : 0 ≤ o.c ∧ o.c < n) :
    Calls Try.prog 166 #[.pointer (some ⟨P, 0, none⟩), .agg #[.int .i64 o.kind, .int .i64 o.w, .int .i64 o.a, .int .i64 o.b, .int .i64 o.c, .int .u32 o.k, .int .i64 o.n]] w fun e w' => e = .returned (.int .u32 (pvalF o c (v o.a.toNat) (v o.b.toNat) (v o.c.toNat))) ∧ Below w.heap.size w w' := by
  rw [show pvalF o c (v o.a.toNat) (v o.b.toNat) (v o.c.toNat) = valF o (v o.a.toNat) (v o.b.toNat) (v o.c.toNat) by simp [pvalF, hk]]
  exact pvalO P V X n c v o w _ hP hn (by simp [hk]) (by simp [hk]) (fun W => vof5 o _ _ _ W hH (hv _) (hv _) (hv _) hk hw hw8) ha hb hd
theorem pval6 (P V X n : Nat) (c v : Nat → Nat) (o : OpR) (w : World) (hH : HoldsOk) (hP : WkC w P V X n c v) (hc : cxOk c) (hv : cxOk v) (hn : n ≤ 2048) (hk : o.kind = 6) (hw : OpWf o) (hw2 : o.kind = 2 → 0 ≤ o.w ∧ o.w ≤ 11) (hw8 : o.w ≤ 9223372036854775807)
    (ha : 0 ≤ o.a ∧ o.a < n) (hb : 0 ≤ o.b ∧ o.b < n) (hd : 0 ≤ o.c ∧ o.c < n) :
    Calls Try.prog 166 #[.pointer (some ⟨P, 0, none⟩), .agg #[.int .i64 o.kind, .int .i64 o.w, .int .i64 o.a, .int .i64 o.b, .int .i64 o.c, .int .u32 o.k, .int .i64 o.n]] w fun e w' => e = .returned (.int .u32 (pvalF o c (v o.a.toNat) (v o.b.toNat) (v o.c.toNat))) ∧ Below w.heap.size w w' := by
  rw [show pvalF o c (v o.a.toNat) (v o.b.toNat) (v o.c.toNat) = valF o (v o.a.toNat) (v o.b.toNat) (v o.c.toNat) by simp [pvalF, hk]]
  exact pvalO P V X n c v o w _ hP hn (by simp [hk]) (by simp [hk]) (fun W => vof6 o _ _ _ W hH (hv _) (hv _) (hv _) hk hw hw8) ha hb hd
theorem pval7 (P V X n : Nat) (c v : Nat → Nat) (o : OpR) (w : World) (hH : HoldsOk) (hP : WkC w P V X n c v) (hc : cxOk c) (hv : cxOk v) (hn : n ≤ 2048) (hk : o.kind = 7) (hw : OpWf o) (hw2 : o.kind = 2 → 0 ≤ o.w ∧ o.w ≤ 11) (hw8 : o.w ≤ 9223372036854775807)
    (ha : 0 ≤ o.a ∧ o.a < n) (hb : 0 ≤ o.b ∧ o.b < n) (hd : 0 ≤ o.c ∧ o.c < n) :
    Calls Try.prog 166 #[.pointer (some ⟨P, 0, none⟩), .agg #[.int .i64 o.kind, .int .i64 o.w, .int .i64 o.a, .int .i64 o.b, .int .i64 o.c, .int .u32 o.k, .int .i64 o.n]] w fun e w' => e = .returned (.int .u32 (pvalF o c (v o.a.toNat) (v o.b.toNat) (v o.c.toNat))) ∧ Below w.heap.size w w' := by
  rw [show pvalF o c (v o.a.toNat) (v o.b.toNat) (v o.c.toNat) = valF o (v o.a.toNat) (v o.b.toNat) (v o.c.toNat) by simp [pvalF, hk]]
  exact pvalO P V X n c v o w _ hP hn (by simp [hk]) (by simp [hk]) (fun W => vof7 o _ _ _ W hH (hv _) (hv _) (hv _) hk hw hw8) ha hb hd
theorem pval8 (P V X n : Nat) (c v : Nat → Nat) (o : OpR) (w : World) (hH : HoldsOk) (hP : WkC w P V X n c v) (hc : cxOk c) (hv : cxOk v) (hn : n ≤ 2048) (hk : o.kind = 8) (hw : OpWf o) (hw2 : o.kind = 2 → 0 ≤ o.w ∧ o.w ≤ 11) (hw8 : o.w ≤ 9223372036854775807)
    (ha : 0 ≤ o.a ∧ o.a < n) (hb : 0 ≤ o.b ∧ o.b < n) (hd : 0 ≤ o.c ∧ o.c < n) :
    Calls Try.prog 166 #[.pointer (some ⟨P, 0, none⟩), .agg #[.int .i64 o.kind, .int .i64 o.w, .int .i64 o.a, .int .i64 o.b, .int .i64 o.c, .int .u32 o.k, .int .i64 o.n]] w fun e w' => e = .returned (.int .u32 (pvalF o c (v o.a.toNat) (v o.b.toNat) (v o.c.toNat))) ∧ Below w.heap.size w w' := by
  rw [show pvalF o c (v o.a.toNat) (v o.b.toNat) (v o.c.toNat) = valF o (v o.a.toNat) (v o.b.toNat) (v o.c.toNat) by simp [pvalF, hk]]
  exact pvalO P V X n c v o w _ hP hn (by simp [hk]) (by simp [hk]) (fun W => vof8 o _ _ _ W hH (hv _) (hv _) (hv _) hk hw hw8) ha hb hd
set_option maxHeartbeats 1000000 in
theorem pval2 (P V X n : Nat) (c v : Nat → Nat) (o : OpR) (w : World) (hH : HoldsOk) (hP : WkC w P V X n c v) (hc : cxOk c) (hv : cxOk v) (hn : n ≤ 2048) (hk : o.kind = 2) (hw : OpWf o) (hw2 : o.kind = 2 → 0 ≤ o.w ∧ o.w ≤ 11) (hw8 : o.w ≤ 9223372036854775807)
    (ha : 0 ≤ o.a ∧ o.a < n) (hb : 0 ≤ o.b ∧ o.b < n) (hd : 0 ≤ o.c ∧ o.c < n) :
    Calls Try.prog 166 #[.pointer (some ⟨P, 0, none⟩), .agg #[.int .i64 o.kind, .int .i64 o.w, .int .i64 o.a, .int .i64 o.b, .int .i64 o.c, .int .u32 o.k, .int .i64 o.n]] w fun e w' => e = .returned (.int .u32 (pvalF o c (v o.a.toNat) (v o.b.toNat) (v o.c.toNat))) ∧ Below w.heap.size w w' := by
  have HF : Hid (pvalF o c (v o.a.toNat) (v o.b.toNat) (v o.c.toNat) = (c o.w.toNat : Int)) := by show _ = _; simp [pvalF, valF, hk]
  have HW : Hid _ := hw
  have HK : Hid (o.kind = 2) := hk
  have HH : Hid _ := hH
  have HC : Hid (cxOk c) := hc
  have HV : Hid (cxOk v) := hv
  have HW8 : Hid _ := hw8
  obtain ⟨a0, a1⟩ := ha
  obtain ⟨b0, b1⟩ := hb
  obtain ⟨d0, d1⟩ := hd
  have xs := hP.cs
  have xa := hP.cv o.a.toNat (by omega)
  have xb := hP.cv o.b.toNat (by omega)
  have xd := hP.cv o.c.toNat (by omega)
  have lP := lt_of_cell xs
  have lV := lt_of_cell xa
  simp only at lP lV
  have n1 : (n : Int) ≤ 2048 := by omega
  obtain ⟨w0, w1⟩ := hw2 hk
  have xc := hP.cc o.w.toNat (by omega)
  have w12 : o.w < 12 := by omega
  clear hw hH hc hv hP hw2 hw8
  go_enter Try.func166, Try.ntmps166
  go_wp2
  go_region
  all_goals go_wp2
  all_goals go_ret
  all_goals exact ⟨by rw [HF.out]; rfl, (wk_bel1 w _).drew⟩
set_option maxHeartbeats 1000000 in
theorem pval17 (P V X n : Nat) (c v : Nat → Nat) (o : OpR) (w : World) (hH : HoldsOk) (hP : WkC w P V X n c v) (hc : cxOk c) (hv : cxOk v) (hn : n ≤ 2048) (hk : o.kind = 17) (hw : OpWf o) (hw2 : o.kind = 2 → 0 ≤ o.w ∧ o.w ≤ 11) (hw8 : o.w ≤ 9223372036854775807)
    (ha : 0 ≤ o.a ∧ o.a < n) (hb : 0 ≤ o.b ∧ o.b < n) (hd : 0 ≤ o.c ∧ o.c < n) :
    Calls Try.prog 166 #[.pointer (some ⟨P, 0, none⟩), .agg #[.int .i64 o.kind, .int .i64 o.w, .int .i64 o.a, .int .i64 o.b, .int .i64 o.c, .int .u32 o.k, .int .i64 o.n]] w fun e w' => e = .returned (.int .u32 (pvalF o c (v o.a.toNat) (v o.b.toNat) (v o.c.toNat))) ∧ Below w.heap.size w w' := by
  have HF : Hid (pvalF o c (v o.a.toNat) (v o.b.toNat) (v o.c.toNat) = cxF c) := by show _ = _; simp [pvalF, valF, hk]
  have HW : Hid _ := hw
  have HK : Hid (o.kind = 17) := hk
  have HH : Hid _ := hH
  have HC : Hid (cxOk c) := hc
  have HV : Hid (cxOk v) := hv
  have HW8 : Hid _ := hw8
  obtain ⟨a0, a1⟩ := ha
  obtain ⟨b0, b1⟩ := hb
  obtain ⟨d0, d1⟩ := hd
  have xs := hP.cs
  have xa := hP.cv o.a.toNat (by omega)
  have xb := hP.cv o.b.toNat (by omega)
  have xd := hP.cv o.c.toNat (by omega)
  have lP := lt_of_cell xs
  have lV := lt_of_cell xa
  simp only at lP lV
  have n1 : (n : Int) ≤ 2048 := by omega
  have hcc := hP.cc
  have xc0 := hP.cc 0 (by omega)
  have xc1 := hP.cc 1 (by omega)
  have xc2 := hP.cc 2 (by omega)
  have xc3 := hP.cc 3 (by omega)
  have xc4 := hP.cc 4 (by omega)
  have xc5 := hP.cc 5 (by omega)
  have xc6 := hP.cc 6 (by omega)
  have xc7 := hP.cc 7 (by omega)
  have xc8 := hP.cc 8 (by omega)
  have xc9 := hP.cc 9 (by omega)
  have xc10 := hP.cc 10 (by omega)
  have xc11 := hP.cc 11 (by omega)
  clear hcc
  clear hw hH hc hv hP hw2 hw8
  go_enter Try.func166, Try.ntmps166
  go_wp2_with (go_at_call 108; refine (irflags_any c _ HC.out).mono ?_; rintro e w1 ⟨rfl, h1⟩)
  go_ret
  exact ⟨by rw [HF.out]; rfl, (wk_bel1 w _).trans (h1.mono (by simp))⟩
end Go.Proofs.Ytkgbjpdoigdjnaa
