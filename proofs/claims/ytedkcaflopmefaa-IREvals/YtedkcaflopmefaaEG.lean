import Derived.Test.YtedkcaflopmefaaEF
import Derived.Test.YtedkcaflopmefaaCS
namespace Go.Proofs.Ytedkcaflopmefaa
open Go.RowKit
set_option maxRecDepth 100000
set_option linter.unusedVariables false
set_option linter.unusedSimpArgs false

/-- The walk's own cells: the context, the memory, the values. -/
structure WkC (w : World) (P V X n : Nat) (c v : Nat → Nat) : Prop where
  cc : ∀ i, i < 12 → w.cell? ⟨P, i, none⟩ = some (.int .u32 (c i))
  cm : w.cell? ⟨P, 12, none⟩ = some (.pointer (some ⟨X, 0, none⟩))
  cs : w.cell? ⟨P, 13, none⟩ = some (.slice (some ⟨V, 0, none⟩) n n)
  cv : ∀ i, i < n → w.cell? ⟨V, i, none⟩ = some (.int .u32 (v i))
theorem belN {B : Nat} {a w : World} (h : Below B a w) : ∀ n, Below B a (w.drewN n)
  | 0 => h
  | n + 1 => (belN h n).drew
theorem cxOk_nat (v : Nat → Nat) (h : cxOk v) (i : Nat) : v i < 4294967296 := h i
def pvalF (o : OpR) (c : Nat → Nat) (a b d : Nat) : Int := if o.kind = 2 then (c o.w.toNat : Int) else if o.kind = 17 then cxF c else valF o a b d
def HoldsOk : Prop := ∀ (c : Int) (f : Nat) (w : World), f < 4294967296 → c ≤ 9223372036854775807 →
  Calls Try.prog 33 #[.int .i64 c, .int .u32 f] w fun e w' => e = .returned (.bool (Fl.holdsF c f)) ∧ Below w.heap.size w w'
set_option maxHeartbeats 1000000 in
theorem pval1 (P V X n : Nat) (c v : Nat → Nat) (o : OpR) (w : World) (hH : HoldsOk) (hP : WkC w P V X n c v) (hc : cxOk c) (hv : cxOk v) (hn : n ≤ 2048) (hk : o.kind = 1) (hw : OpWf o) (hw2 : o.kind = 2 → 0 ≤ o.w ∧ o.w ≤ 11) (hw8 : o.w ≤ 9223372036854775807)
    (ha : 0 ≤ o.a ∧ o.a < n) (hb : 0 ≤ o.b ∧ o.b < n) (hd : 0 ≤ o.c ∧ o.c < n) :
    Calls Try.prog 166 #[.pointer (some ⟨P, 0, none⟩), .agg #[.int .i64 o.kind, .int .i64 o.w, .int .i64 o.a, .int .i64 o.b, .int .i64 o.c, .int .u32 o.k, .int .i64 o.n]] w fun e w' => e = .returned (.int .u32 (pvalF o c (v o.a.toNat) (v o.b.toNat) (v o.c.toNat))) ∧ Below w.heap.size w w' := by
  have HF : Hid (pvalF o c (v o.a.toNat) (v o.b.toNat) (v o.c.toNat) = (o.k : Int)) := by show _ = _; simp [pvalF, valF, hk]
  have HW : Hid _ := hw
  have HK : Hid (o.kind = 1) := hk
  have HH : Hid _ := hH
  have HC : Hid (cxOk c) := hc
  have HV : Hid (cxOk v) := hv
  have HW8 : Hid _ := hw8
  obtain ⟨a0, a1⟩ := ha
  obtain ⟨b0, b1⟩ := hb
  obtain ⟨d0, d1⟩ := hd
  have xs := hP.cs
  have xa := hP.cv o.a.toNat (by omega)
  have xb := hP.cv o.b.toNat (by omega)
  have xd := hP.cv o.c.toNat (by omega)
  have lP := lt_of_cell xs
  have lV := lt_of_cell xa
  simp only at lP lV
  have n1 : (n : Int) ≤ 2048 := by omega
  clear hw hH hc hv hP hw2 hw8
  go_enter Try.func166, Try.ntmps166
  go_wp2
  go_quiet (fail)
  go_wp2
  go_ret
  exact ⟨by rw [HF.out]; rfl, belN (wk_bel1 w _) _⟩
set_option maxHeartbeats 1000000 in
theorem pval2 (P V X n : Nat) (c v : Nat → Nat) (o : OpR) (w : World) (hH : HoldsOk) (hP : WkC w P V X n c v) (hc : cxOk c) (hv : cxOk v) (hn : n ≤ 2048) (hk : o.kind = 2) (hw : OpWf o) (hw2 : o.kind = 2 → 0 ≤ o.w ∧ o.w ≤ 11) (hw8 : o.w ≤ 9223372036854775807)
    (ha : 0 ≤ o.a ∧ o.a < n) (hb : 0 ≤ o.b ∧ o.b < n) (hd : 0 ≤ o.c ∧ o.c < n) :
    Calls Try.prog 166 #[.pointer (some ⟨P, 0, none⟩), .agg #[.int .i64 o.kind, .int .i64 o.w, .int .i64 o.a, .int .i64 o.b, .int .i64 o.c, .int .u32 o.k, .int .i64 o.n]] w fun e w' => e = .returned (.int .u32 (pvalF o c (v o.a.toNat) (v o.b.toNat) (v o.c.toNat))) ∧ Below w.heap.size w w' := by
  have HF : Hid (pvalF o c (v o.a.toNat) (v o.b.toNat) (v o.c.toNat) = (c o.w.toNat : Int)) := by show _ = _; simp [pvalF, valF, hk]
  have HW : Hid _ := hw
  have HK : Hid (o.kind = 2) := hk
  have HH : Hid _ := hH
  have HC : Hid (cxOk c) := hc
  have HV : Hid (cxOk v) := hv
  have HW8 : Hid _ := hw8
  obtain ⟨a0, a1⟩ := ha
  obtain ⟨b0, b1⟩ := hb
  obtain ⟨d0, d1⟩ := hd
  have xs := hP.cs
  have xa := hP.cv o.a.toNat (by omega)
  have xb := hP.cv o.b.toNat (by omega)
  have xd := hP.cv o.c.toNat (by omega)
  have lP := lt_of_cell xs
  have lV := lt_of_cell xa
  simp only at lP lV
  have n1 : (n : Int) ≤ 2048 := by omega
  obtain ⟨w0, w1⟩ := hw2 hk
  have xc := hP.cc o.w.toNat (by omega)
  have w12 : o.w < 12 := by omega
  clear hw hH hc hv hP hw2 hw8
  go_enter Try.func166, Try.ntmps166
  go_wp2
  go_quiet (fail)
  go_wp2
  go_region
  all_goals go_wp2
  all_goals go_ret
  all_goals exact ⟨by rw [HF.out]; rfl, (belN (wk_bel1 w _) nq).drew⟩
set_option maxHeartbeats 1000000 in
theorem pval4 (P V X n : Nat) (c v : Nat → Nat) (o : OpR) (w : World) (hH : HoldsOk) (hP : WkC w P V X n c v) (hc : cxOk c) (hv : cxOk v) (hn : n ≤ 2048) (hk : o.kind = 4) (hw : OpWf o) (hw2 : o.kind = 2 → 0 ≤ o.w ∧ o.w ≤ 11) (hw8 : o.w ≤ 9223372036854775807)
    (ha : 0 ≤ o.a ∧ o.a < n) (hb : 0 ≤ o.b ∧ o.b < n) (hd : 0 ≤ o.c ∧ o.c < n) :
    Calls Try.prog 166 #[.pointer (some ⟨P, 0, none⟩), .agg #[.int .i64 o.kind, .int .i64 o.w, .int .i64 o.a, .int .i64 o.b, .int .i64 o.c, .int .u32 o.k, .int .i64 o.n]] w fun e w' => e = .returned (.int .u32 (pvalF o c (v o.a.toNat) (v o.b.toNat) (v o.c.toNat))) ∧ Below w.heap.size w w' := by
  have HF : Hid (pvalF o c (v o.a.toNat) (v o.b.toNat) (v o.c.toNat) = binF o.w (v o.a.toNat) (v o.b.toNat)) := by show _ = _; simp [pvalF, valF, hk]
  have HW : Hid _ := hw
  have HK : Hid (o.kind = 4) := hk
  have HH : Hid _ := hH
  have HC : Hid (cxOk c) := hc
  have HV : Hid (cxOk v) := hv
  have HW8 : Hid _ := hw8
  obtain ⟨a0, a1⟩ := ha
  obtain ⟨b0, b1⟩ := hb
  obtain ⟨d0, d1⟩ := hd
  have xs := hP.cs
  have xa := hP.cv o.a.toNat (by omega)
  have xb := hP.cv o.b.toNat (by omega)
  have xd := hP.cv o.c.toNat (by omega)
  have lP := lt_of_cell xs
  have lV := lt_of_cell xa
  simp only at lP lV
  have n1 : (n : Int) ≤ 2048 := by omega
  clear hw hH hc hv hP hw2 hw8
  go_enter Try.func166, Try.ntmps166
  go_wp2
  go_quiet (fail)
  go_wp2_with (go_at_call 181; refine (pbin_any o.w _ _ _ (HV.out _) (HV.out _) (HW.out.w4 HK.out)).mono ?_; rintro e w1 ⟨rfl, rfl⟩)
  go_ret
  exact ⟨by rw [HF.out]; rfl, belN (wk_bel1 w _) _⟩
set_option maxHeartbeats 1000000 in
theorem pval5 (P V X n : Nat) (c v : Nat → Nat) (o : OpR) (w : World) (hH : HoldsOk) (hP : WkC w P V X n c v) (hc : cxOk c) (hv : cxOk v) (hn : n ≤ 2048) (hk : o.kind = 5) (hw : OpWf o) (hw2 : o.kind = 2 → 0 ≤ o.w ∧ o.w ≤ 11) (hw8 : o.w ≤ 9223372036854775807)
    (ha : 0 ≤ o.a ∧ o.a < n) (hb : 0 ≤ o.b ∧ o.b < n) (hd : 0 ≤ o.c ∧ o.c < n) :
    Calls Try.prog 166 #[.pointer (some ⟨P, 0, none⟩), .agg #[.int .i64 o.kind, .int .i64 o.w, .int .i64 o.a, .int .i64 o.b, .int .i64 o.c, .int .u32 o.k, .int .i64 o.n]] w fun e w' => e = .returned (.int .u32 (pvalF o c (v o.a.toNat) (v o.b.toNat) (v o.c.toNat))) ∧ Below w.heap.size w w' := by
  have HF : Hid (pvalF o c (v o.a.toNat) (v o.b.toNat) (v o.c.toNat) = (unF o.w (v o.a.toNat) : Int)) := by show _ = _; simp [pvalF, valF, hk]
  have HW : Hid _ := hw
  have HK : Hid (o.kind = 5) := hk
  have HH : Hid _ := hH
  have HC : Hid (cxOk c) := hc
  have HV : Hid (cxOk v) := hv
  have HW8 : Hid _ := hw8
  obtain ⟨a0, a1⟩ := ha
  obtain ⟨b0, b1⟩ := hb
  obtain ⟨d0, d1⟩ := hd
  have xs := hP.cs
  have xa := hP.cv o.a.toNat (by omega)
  have xb := hP.cv o.b.toNat (by omega)
  have xd := hP.cv o.c.toNat (by omega)
  have lP := lt_of_cell xs
  have lV := lt_of_cell xa
  simp only at lP lV
  have n1 : (n : Int) ≤ 2048 := by omega
  clear hw hH hc hv hP hw2 hw8
  go_enter Try.func166, Try.ntmps166
  go_wp2
  go_quiet (fail)
  go_wp2_with (go_at_call 182; refine (pun_any o.w _ _ (HV.out _) (HW.out.w5 HK.out)).mono ?_; rintro e w1 ⟨rfl, rfl⟩)
  go_ret
  exact ⟨by rw [HF.out]; rfl, belN (wk_bel1 w _) _⟩
set_option maxHeartbeats 1000000 in
theorem pval6 (P V X n : Nat) (c v : Nat → Nat) (o : OpR) (w : World) (hH : HoldsOk) (hP : WkC w P V X n c v) (hc : cxOk c) (hv : cxOk v) (hn : n ≤ 2048) (hk : o.kind = 6) (hw : OpWf o) (hw2 : o.kind = 2 → 0 ≤ o.w ∧ o.w ≤ 11) (hw8 : o.w ≤ 9223372036854775807)
    (ha : 0 ≤ o.a ∧ o.a < n) (hb : 0 ≤ o.b ∧ o.b < n) (hd : 0 ≤ o.c ∧ o.c < n) :
    Calls Try.prog 166 #[.pointer (some ⟨P, 0, none⟩), .agg #[.int .i64 o.kind, .int .i64 o.w, .int .i64 o.a, .int .i64 o.b, .int .i64 o.c, .int .u32 o.k, .int .i64 o.n]] w fun e w' => e = .returned (.int .u32 (pvalF o c (v o.a.toNat) (v o.b.toNat) (v o.c.toNat))) ∧ Below w.heap.size w w' := by
  have HF : Hid (pvalF o c (v o.a.toNat) (v o.b.toNat) (v o.c.toNat) = if v o.a.toNat = 0 then (v o.c.toNat : Int) else (v o.b.toNat : Int)) := by show _ = _; simp [pvalF, valF, hk]
  have HW : Hid _ := hw
  have HK : Hid (o.kind = 6) := hk
  have HH : Hid _ := hH
  have HC : Hid (cxOk c) := hc
  have HV : Hid (cxOk v) := hv
  have HW8 : Hid _ := hw8
  obtain ⟨a0, a1⟩ := ha
  obtain ⟨b0, b1⟩ := hb
  obtain ⟨d0, d1⟩ := hd
  have xs := hP.cs
  have xa := hP.cv o.a.toNat (by omega)
  have xb := hP.cv o.b.toNat (by omega)
  have xd := hP.cv o.c.toNat (by omega)
  have lP := lt_of_cell xs
  have lV := lt_of_cell xa
  simp only at lP lV
  have n1 : (n : Int) ≤ 2048 := by omega
  clear hw hH hc hv hP hw2 hw8
  go_enter Try.func166, Try.ntmps166
  go_wp2
  go_quiet (fail)
  by_cases h : v o.a.toNat = 0
  · have d : ((v o.a.toNat : Int) != 0) = false := by simp; omega
    go_wp2
    go_ret
    exact ⟨by rw [HF.out, if_pos h]; rfl, belN (wk_bel1 w _) _⟩
  · have d : ((v o.a.toNat : Int) != 0) = true := by simp; omega
    go_wp2
    go_ret
    exact ⟨by rw [HF.out, if_neg h]; rfl, belN (wk_bel1 w _) _⟩
set_option maxHeartbeats 1000000 in
theorem pval7 (P V X n : Nat) (c v : Nat → Nat) (o : OpR) (w : World) (hH : HoldsOk) (hP : WkC w P V X n c v) (hc : cxOk c) (hv : cxOk v) (hn : n ≤ 2048) (hk : o.kind = 7) (hw : OpWf o) (hw2 : o.kind = 2 → 0 ≤ o.w ∧ o.w ≤ 11) (hw8 : o.w ≤ 9223372036854775807)
    (ha : 0 ≤ o.a ∧ o.a < n) (hb : 0 ≤ o.b ∧ o.b < n) (hd : 0 ≤ o.c ∧ o.c < n) :
    Calls Try.prog 166 #[.pointer (some ⟨P, 0, none⟩), .agg #[.int .i64 o.kind, .int .i64 o.w, .int .i64 o.a, .int .i64 o.b, .int .i64 o.c, .int .u32 o.k, .int .i64 o.n]] w fun e w' => e = .returned (.int .u32 (pvalF o c (v o.a.toNat) (v o.b.toNat) (v o.c.toNat))) ∧ Below w.heap.size w w' := by
  have HF : Hid (pvalF o c (v o.a.toNat) (v o.b.toNat) (v o.c.toNat) = Fl.flagsF o.w (v o.a.toNat) (v o.b.toNat) (v o.c.toNat)) := by show _ = _; simp [pvalF, valF, hk]
  have HW : Hid _ := hw
  have HK : Hid (o.kind = 7) := hk
  have HH : Hid _ := hH
  have HC : Hid (cxOk c) := hc
  have HV : Hid (cxOk v) := hv
  have HW8 : Hid _ := hw8
  obtain ⟨a0, a1⟩ := ha
  obtain ⟨b0, b1⟩ := hb
  obtain ⟨d0, d1⟩ := hd
  have xs := hP.cs
  have xa := hP.cv o.a.toNat (by omega)
  have xb := hP.cv o.b.toNat (by omega)
  have xd := hP.cv o.c.toNat (by omega)
  have lP := lt_of_cell xs
  have lV := lt_of_cell xa
  simp only at lP lV
  have n1 : (n : Int) ≤ 2048 := by omega
  clear hw hH hc hv hP hw2 hw8
  go_enter Try.func166, Try.ntmps166
  go_wp2
  go_quiet (fail)
  go_wp2_with (go_at_call 31; refine (pflags_any o.w _ _ _ _ (HV.out _) (HV.out _) (HV.out _)).mono ?_; rintro e w1 ⟨rfl, h1⟩)
  go_ret
  exact ⟨by rw [HF.out]; rfl, (belN (wk_bel1 w _) nq).trans (h1.mono (by simp))⟩
set_option maxHeartbeats 1000000 in
theorem pval8 (P V X n : Nat) (c v : Nat → Nat) (o : OpR) (w : World) (hH : HoldsOk) (hP : WkC w P V X n c v) (hc : cxOk c) (hv : cxOk v) (hn : n ≤ 2048) (hk : o.kind = 8) (hw : OpWf o) (hw2 : o.kind = 2 → 0 ≤ o.w ∧ o.w ≤ 11) (hw8 : o.w ≤ 9223372036854775807)
    (ha : 0 ≤ o.a ∧ o.a < n) (hb : 0 ≤ o.b ∧ o.b < n) (hd : 0 ≤ o.c ∧ o.c < n) :
    Calls Try.prog 166 #[.pointer (some ⟨P, 0, none⟩), .agg #[.int .i64 o.kind, .int .i64 o.w, .int .i64 o.a, .int .i64 o.b, .int .i64 o.c, .int .u32 o.k, .int .i64 o.n]] w fun e w' => e = .returned (.int .u32 (pvalF o c (v o.a.toNat) (v o.b.toNat) (v o.c.toNat))) ∧ Below w.heap.size w w' := by
  have HF : Hid (pvalF o c (v o.a.toNat) (v o.b.toNat) (v o.c.toNat) = Fl.isF (Fl.holdsF o.w (v o.a.toNat)) 1) := by show _ = _; simp [pvalF, valF, hk]
  have HW : Hid _ := hw
  have HK : Hid (o.kind = 8) := hk
  have HH : Hid _ := hH
  have HC : Hid (cxOk c) := hc
  have HV : Hid (cxOk v) := hv
  have HW8 : Hid _ := hw8
  obtain ⟨a0, a1⟩ := ha
  obtain ⟨b0, b1⟩ := hb
  obtain ⟨d0, d1⟩ := hd
  have xs := hP.cs
  have xa := hP.cv o.a.toNat (by omega)
  have xb := hP.cv o.b.toNat (by omega)
  have xd := hP.cv o.c.toNat (by omega)
  have lP := lt_of_cell xs
  have lV := lt_of_cell xa
  simp only at lP lV
  have n1 : (n : Int) ≤ 2048 := by omega
  clear hw hH hc hv hP hw2 hw8
  go_enter Try.func166, Try.ntmps166
  go_wp2
  go_quiet (fail)
  go_wp2_with (first
    | (go_at_call 33; refine (HH.out o.w _ _ (HV.out _) HW8.out).mono ?_; rintro e w1 ⟨rfl, h1⟩)
    | (go_at_call 183; refine (truth_any _ _).mono ?_; rintro e w2 ⟨rfl, rfl⟩))
  go_ret
  exact ⟨by rw [HF.out]; rfl, (belN (wk_bel1 w _) nq).trans (h1.mono (by simp))⟩
set_option maxHeartbeats 1000000 in
theorem pval17 (P V X n : Nat) (c v : Nat → Nat) (o : OpR) (w : World) (hH : HoldsOk) (hP : WkC w P V X n c v) (hc : cxOk c) (hv : cxOk v) (hn : n ≤ 2048) (hk : o.kind = 17) (hw : OpWf o) (hw2 : o.kind = 2 → 0 ≤ o.w ∧ o.w ≤ 11) (hw8 : o.w ≤ 9223372036854775807)
    (ha : 0 ≤ o.a ∧ o.a < n) (hb : 0 ≤ o.b ∧ o.b < n) (hd : 0 ≤ o.c ∧ o.c < n) :
    Calls Try.prog 166 #[.pointer (some ⟨P, 0, none⟩), .agg #[.int .i64 o.kind, .int .i64 o.w, .int .i64 o.a, .int .i64 o.b, .int .i64 o.c, .int .u32 o.k, .int .i64 o.n]] w fun e w' => e = .returned (.int .u32 (pvalF o c (v o.a.toNat) (v o.b.toNat) (v o.c.toNat))) ∧ Below w.heap.size w w' := by
  have HF : Hid (pvalF o c (v o.a.toNat) (v o.b.toNat) (v o.c.toNat) = cxF c) := by show _ = _; simp [pvalF, valF, hk]
  have HW : Hid _ := hw
  have HK : Hid (o.kind = 17) := hk
  have HH : Hid _ := hH
  have HC : Hid (cxOk c) := hc
  have HV : Hid (cxOk v) := hv
  have HW8 : Hid _ := hw8
  obtain ⟨a0, a1⟩ := ha
  obtain ⟨b0, b1⟩ := hb
  obtain ⟨d0, d1⟩ := hd
  have xs := hP.cs
  have xa := hP.cv o.a.toNat (by omega)
  have xb := hP.cv o.b.toNat (by omega)
  have xd := hP.cv o.c.toNat (by omega)
  have lP := lt_of_cell xs
  have lV := lt_of_cell xa
  simp only at lP lV
  have n1 : (n : Int) ≤ 2048 := by omega
  have hcc := hP.cc
  have xc0 := hP.cc 0 (by omega)
  have xc1 := hP.cc 1 (by omega)
  have xc2 := hP.cc 2 (by omega)
  have xc3 := hP.cc 3 (by omega)
  have xc4 := hP.cc 4 (by omega)
  have xc5 := hP.cc 5 (by omega)
  have xc6 := hP.cc 6 (by omega)
  have xc7 := hP.cc 7 (by omega)
  have xc8 := hP.cc 8 (by omega)
  have xc9 := hP.cc 9 (by omega)
  have xc10 := hP.cc 10 (by omega)
  have xc11 := hP.cc 11 (by omega)
  clear hcc
  clear hw hH hc hv hP hw2 hw8
  go_enter Try.func166, Try.ntmps166
  go_wp2
  go_quiet (fail)
  go_wp2_with (go_at_call 108; refine (irflags_any c _ HC.out).mono ?_; rintro e w1 ⟨rfl, h1⟩)
  go_ret
  exact ⟨by rw [HF.out]; rfl, (belN (wk_bel1 w _) nq).trans (h1.mono (by simp))⟩
end Go.Proofs.Ytedkcaflopmefaa
