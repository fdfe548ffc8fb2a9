import Derived.Test.YtnojlbahmlmknabHF
namespace Go.Proofs.Ytnojlbahmlmknab
open Go.RowKit
set_option maxRecDepth 100000
set_option linter.unusedVariables false
set_option linter.unusedSimpArgs false
/-- A number's lowest 32 bits. -/
def lo32 (v : Int) : Nat := (v % 4294967296).toNat
theorem lo32_eq (v : Int) : v % 4294967296 = (lo32 v : Int) := by unfold lo32; omega
theorem lo32_lt (v : Int) : lo32 v < 4294967296 := by unfold lo32; omega
def orW (c : Bool) (l b u : Nat) (v : Int) : Nat := if c then u ||| (lo32 v % b * l) else u
theorem orW_lt (c : Bool) (l b u : Nat) (v : Int) (hu : u < 4294967296) (hl : lo32 v % b * l < 4294967296) : orW c l b u v < 4294967296 := by
  unfold orW; split
  · exact Nat.or_lt_two_pow (n := 32) hu hl
  · exact hu
theorem set_self {A : Array Value} {v : Value} (h : A[0]? = some v) : A.setIfInBounds 0 v = A := by
  apply Array.ext_getElem?
  intro i
  rw [Array.getElem?_setIfInBounds]
  split
  · rename_i e; subst e; split
    · exact h.symm
    · rename_i hs; rw [Array.getElem?_eq_none (by omega)] at h; cases h
  · rfl
structure PW (w : World) (BF BW S n : Nat) (A : Array Value) (u : Nat) (h : Int) : Prop where
  bf : w.cell? ⟨BF, 3, none⟩ = some (.int .u16 h)
  bw : w.heap[BW]? = some (.cells #[.slice (some ⟨S, 0, none⟩) n n] 54)
  s : w.heap[S]? = some (.cells A 22)
  a : A[0]? = some (.int .u32 u)
  lf : BF < w.heap.size
  n0 : 0 < n
  n3 : n ≤ 3
set_option maxHeartbeats 1000000 in
theorem put_d (BF BW S n u : Nat) (A : Array Value) (h v : Int) (w : World) (hW : PW w BF BW S n A u h) (hu : u < 4294967296) (hbw : BW ≠ S) :
    Calls Try.prog 94 #[.int .u16 448, .int .i64 v, .int .i64 8, .int .i64 4, .pointer (some ⟨BF, 0, none⟩), .pointer (some ⟨BW, 0, none⟩)] w fun e w' => e = .returned (.tuple #[]) ∧ w'.heap[S]? = some (.cells (A.setIfInBounds 0 (.int .u32 (orW (hb h 448) 256 16 u v))) 22) ∧ Chg [S] w w' := by
  have cf := hW.bf
  have lf := hW.lf
  have cw : w.cell? ⟨BW, 0, none⟩ = some (.slice (some ⟨S, 0, none⟩) n n) := row_cell hW.bw 0
  have lw := row_lt hW.bw
  have cs : w.cell? ⟨S, 0, none⟩ = some (.int .u32 u) := (row_cell hW.s 0).trans hW.a
  have fs := row_fr hW.s 0
  have ls := row_lt hW.s
  have n0 : (0 : Int) < n := by have := hW.n0; omega
  have n1 : 0 < n := hW.n0
  have HS : Hid _ := hW.s
  have HA : Hid (A.setIfInBounds 0 (.int .u32 u) = A) := set_self hW.a
  cases hc : hb h 448
  · have hz : bits .and .u16 h 448 = 0 := (hb_iff _ _).2 hc
    clear hW hc
    go_enter Try.func94, Try.ntmps94
    go_wp2_with (fail)
    go_end0
    exact ⟨rfl, by rw [orW, if_neg (by simp), HA.out]; exact HS.out, Chg.refl _ _⟩
  · have hz : (bits .and .u16 h 448 == 0) = false := by simpa [hb] using hc
    have hz2 : (bits .and .u16 h 448 != 0) = true := by simp [bne, hz]
    have hm : bits .and .u32 (lo32 v : Int) 15 = ((lo32 v % 16 : Nat) : Int) := mask4 _ (lo32_lt v)
    have HX : Hid ((lo32 v % 16) < 16) := Nat.mod_lt _ (by decide)
    have ev : IntKind.u32.wrap v = (lo32 v : Int) := by rw [IntKind.wrap_u32]; exact lo32_eq v
    generalize eL : lo32 v = vl at *
    generalize hx : vl % 16 = x at *
    have ho : bits .or .u32 (u : Int) (IntKind.u32.wrap ((x : Int) * 256)) = ((u ||| (x * 256) : Nat) : Int) := by
      have h9 := HX.out
      rw [IntWalk.u32_in _ (by omega), show (x : Int) * 256 = ((x * 256 : Nat) : Int) by omega, Go.u32_or_nat _ _ hu (by omega)]
    clear hW hc
    go_enter Try.func94, Try.ntmps94
    go_upto_region 1 with fail
    go_region_with (go_at_call 90; refine (room4 _).mono ?_; rintro e w1 ⟨rfl, rfl⟩)
    all_goals
      try rw [ev]
      try rw [hm]
      try rw [ho]
      go_end0
      exact ⟨rfl, by rw [orW, if_pos rfl, eL, hx]; exact blk_set (o := 0) HS.out _, ((Chg.refl [S] w).set (by simp) _ _).drew⟩
set_option maxHeartbeats 1000000 in
theorem put_a (BF BW S n u : Nat) (A : Array Value) (h v : Int) (w : World) (hW : PW w BF BW S n A u h) (hu : u < 4294967296) (hbw : BW ≠ S) :
    Calls Try.prog 94 #[.int .u16 1, .int .i64 v, .int .i64 12, .int .i64 4, .pointer (some ⟨BF, 0, none⟩), .pointer (some ⟨BW, 0, none⟩)] w fun e w' => e = .returned (.tuple #[]) ∧ w'.heap[S]? = some (.cells (A.setIfInBounds 0 (.int .u32 (orW (hb h 1) 4096 16 u v))) 22) ∧ Chg [S] w w' := by
  have cf := hW.bf
  have lf := hW.lf
  have cw : w.cell? ⟨BW, 0, none⟩ = some (.slice (some ⟨S, 0, none⟩) n n) := row_cell hW.bw 0
  have lw := row_lt hW.bw
  have cs : w.cell? ⟨S, 0, none⟩ = some (.int .u32 u) := (row_cell hW.s 0).trans hW.a
  have fs := row_fr hW.s 0
  have ls := row_lt hW.s
  have n0 : (0 : Int) < n := by have := hW.n0; omega
  have n1 : 0 < n := hW.n0
  have HS : Hid _ := hW.s
  have HA : Hid (A.setIfInBounds 0 (.int .u32 u) = A) := set_self hW.a
  cases hc : hb h 1
  · have hz : bits .and .u16 h 1 = 0 := (hb_iff _ _).2 hc
    clear hW hc
    go_enter Try.func94, Try.ntmps94
    go_wp2_with (fail)
    go_end0
    exact ⟨rfl, by rw [orW, if_neg (by simp), HA.out]; exact HS.out, Chg.refl _ _⟩
  · have hz : (bits .and .u16 h 1 == 0) = false := by simpa [hb] using hc
    have hz2 : (bits .and .u16 h 1 != 0) = true := by simp [bne, hz]
    have hm : bits .and .u32 (lo32 v : Int) 15 = ((lo32 v % 16 : Nat) : Int) := mask4 _ (lo32_lt v)
    have HX : Hid ((lo32 v % 16) < 16) := Nat.mod_lt _ (by decide)
    have ev : IntKind.u32.wrap v = (lo32 v : Int) := by rw [IntKind.wrap_u32]; exact lo32_eq v
    generalize eL : lo32 v = vl at *
    generalize hx : vl % 16 = x at *
    have ho : bits .or .u32 (u : Int) (IntKind.u32.wrap ((x : Int) * 4096)) = ((u ||| (x * 4096) : Nat) : Int) := by
      have h9 := HX.out
      rw [IntWalk.u32_in _ (by omega), show (x : Int) * 4096 = ((x * 4096 : Nat) : Int) by omega, Go.u32_or_nat _ _ hu (by omega)]
    clear hW hc
    go_enter Try.func94, Try.ntmps94
    go_upto_region 1 with fail
    go_region_with (go_at_call 90; refine (room4 _).mono ?_; rintro e w1 ⟨rfl, rfl⟩)
    all_goals
      try rw [ev]
      try rw [hm]
      try rw [ho]
      go_end0
      exact ⟨rfl, by rw [orW, if_pos rfl, eL, hx]; exact blk_set (o := 0) HS.out _, ((Chg.refl [S] w).set (by simp) _ _).drew⟩
set_option maxHeartbeats 1000000 in
theorem put_b (BF BW S n u : Nat) (A : Array Value) (h v : Int) (w : World) (hW : PW w BF BW S n A u h) (hu : u < 4294967296) (hbw : BW ≠ S) :
    Calls Try.prog 94 #[.int .u16 2, .int .i64 v, .int .i64 16, .int .i64 4, .pointer (some ⟨BF, 0, none⟩), .pointer (some ⟨BW, 0, none⟩)] w fun e w' => e = .returned (.tuple #[]) ∧ w'.heap[S]? = some (.cells (A.setIfInBounds 0 (.int .u32 (orW (hb h 2) 65536 16 u v))) 22) ∧ Chg [S] w w' := by
  have cf := hW.bf
  have lf := hW.lf
  have cw : w.cell? ⟨BW, 0, none⟩ = some (.slice (some ⟨S, 0, none⟩) n n) := row_cell hW.bw 0
  have lw := row_lt hW.bw
  have cs : w.cell? ⟨S, 0, none⟩ = some (.int .u32 u) := (row_cell hW.s 0).trans hW.a
  have fs := row_fr hW.s 0
  have ls := row_lt hW.s
  have n0 : (0 : Int) < n := by have := hW.n0; omega
  have n1 : 0 < n := hW.n0
  have HS : Hid _ := hW.s
  have HA : Hid (A.setIfInBounds 0 (.int .u32 u) = A) := set_self hW.a
  cases hc : hb h 2
  · have hz : bits .and .u16 h 2 = 0 := (hb_iff _ _).2 hc
    clear hW hc
    go_enter Try.func94, Try.ntmps94
    go_wp2_with (fail)
    go_end0
    exact ⟨rfl, by rw [orW, if_neg (by simp), HA.out]; exact HS.out, Chg.refl _ _⟩
  · have hz : (bits .and .u16 h 2 == 0) = false := by simpa [hb] using hc
    have hz2 : (bits .and .u16 h 2 != 0) = true := by simp [bne, hz]
    have hm : bits .and .u32 (lo32 v : Int) 15 = ((lo32 v % 16 : Nat) : Int) := mask4 _ (lo32_lt v)
    have HX : Hid ((lo32 v % 16) < 16) := Nat.mod_lt _ (by decide)
    have ev : IntKind.u32.wrap v = (lo32 v : Int) := by rw [IntKind.wrap_u32]; exact lo32_eq v
    generalize eL : lo32 v = vl at *
    generalize hx : vl % 16 = x at *
    have ho : bits .or .u32 (u : Int) (IntKind.u32.wrap ((x : Int) * 65536)) = ((u ||| (x * 65536) : Nat) : Int) := by
      have h9 := HX.out
      rw [IntWalk.u32_in _ (by omega), show (x : Int) * 65536 = ((x * 65536 : Nat) : Int) by omega, Go.u32_or_nat _ _ hu (by omega)]
    clear hW hc
    go_enter Try.func94, Try.ntmps94
    go_upto_region 1 with fail
    go_region_with (go_at_call 90; refine (room4 _).mono ?_; rintro e w1 ⟨rfl, rfl⟩)
    all_goals
      try rw [ev]
      try rw [hm]
      try rw [ho]
      go_end0
      exact ⟨rfl, by rw [orW, if_pos rfl, eL, hx]; exact blk_set (o := 0) HS.out _, ((Chg.refl [S] w).set (by simp) _ _).drew⟩
set_option maxHeartbeats 1000000 in
theorem put_c (BF BW S n u : Nat) (A : Array Value) (h v : Int) (w : World) (hW : PW w BF BW S n A u h) (hu : u < 4294967296) (hbw : BW ≠ S) :
    Calls Try.prog 94 #[.int .u16 4, .int .i64 v, .int .i64 20, .int .i64 4, .pointer (some ⟨BF, 0, none⟩), .pointer (some ⟨BW, 0, none⟩)] w fun e w' => e = .returned (.tuple #[]) ∧ w'.heap[S]? = some (.cells (A.setIfInBounds 0 (.int .u32 (orW (hb h 4) 1048576 16 u v))) 22) ∧ Chg [S] w w' := by
  have cf := hW.bf
  have lf := hW.lf
  have cw : w.cell? ⟨BW, 0, none⟩ = some (.slice (some ⟨S, 0, none⟩) n n) := row_cell hW.bw 0
  have lw := row_lt hW.bw
  have cs : w.cell? ⟨S, 0, none⟩ = some (.int .u32 u) := (row_cell hW.s 0).trans hW.a
  have fs := row_fr hW.s 0
  have ls := row_lt hW.s
  have n0 : (0 : Int) < n := by have := hW.n0; omega
  have n1 : 0 < n := hW.n0
  have HS : Hid _ := hW.s
  have HA : Hid (A.setIfInBounds 0 (.int .u32 u) = A) := set_self hW.a
  cases hc : hb h 4
  · have hz : bits .and .u16 h 4 = 0 := (hb_iff _ _).2 hc
    clear hW hc
    go_enter Try.func94, Try.ntmps94
    go_wp2_with (fail)
    go_end0
    exact ⟨rfl, by rw [orW, if_neg (by simp), HA.out]; exact HS.out, Chg.refl _ _⟩
  · have hz : (bits .and .u16 h 4 == 0) = false := by simpa [hb] using hc
    have hz2 : (bits .and .u16 h 4 != 0) = true := by simp [bne, hz]
    have hm : bits .and .u32 (lo32 v : Int) 15 = ((lo32 v % 16 : Nat) : Int) := mask4 _ (lo32_lt v)
    have HX : Hid ((lo32 v % 16) < 16) := Nat.mod_lt _ (by decide)
    have ev : IntKind.u32.wrap v = (lo32 v : Int) := by rw [IntKind.wrap_u32]; exact lo32_eq v
    generalize eL : lo32 v = vl at *
    generalize hx : vl % 16 = x at *
    have ho : bits .or .u32 (u : Int) (IntKind.u32.wrap ((x : Int) * 1048576)) = ((u ||| (x * 1048576) : Nat) : Int) := by
      have h9 := HX.out
      rw [IntWalk.u32_in _ (by omega), show (x : Int) * 1048576 = ((x * 1048576 : Nat) : Int) by omega, Go.u32_or_nat _ _ hu (by omega)]
    clear hW hc
    go_enter Try.func94, Try.ntmps94
    go_upto_region 1 with fail
    go_region_with (go_at_call 90; refine (room4 _).mono ?_; rintro e w1 ⟨rfl, rfl⟩)
    all_goals
      try rw [ev]
      try rw [hm]
      try rw [ho]
      go_end0
      exact ⟨rfl, by rw [orW, if_pos rfl, eL, hx]; exact blk_set (o := 0) HS.out _, ((Chg.refl [S] w).set (by simp) _ _).drew⟩
set_option maxHeartbeats 1000000 in
theorem put_n (BF BW S n u : Nat) (A : Array Value) (h v : Int) (w : World) (hW : PW w BF BW S n A u h) (hu : u < 4294967296) (hbw : BW ≠ S) :
    Calls Try.prog 94 #[.int .u16 8, .int .i64 v, .int .i64 16, .int .i64 16, .pointer (some ⟨BF, 0, none⟩), .pointer (some ⟨BW, 0, none⟩)] w fun e w' => e = .returned (.tuple #[]) ∧ w'.heap[S]? = some (.cells (A.setIfInBounds 0 (.int .u32 (orW (hb h 8) 65536 65536 u v))) 22) ∧ Chg [S] w w' := by
  have cf := hW.bf
  have lf := hW.lf
  have cw : w.cell? ⟨BW, 0, none⟩ = some (.slice (some ⟨S, 0, none⟩) n n) := row_cell hW.bw 0
  have lw := row_lt hW.bw
  have cs : w.cell? ⟨S, 0, none⟩ = some (.int .u32 u) := (row_cell hW.s 0).trans hW.a
  have fs := row_fr hW.s 0
  have ls := row_lt hW.s
  have n0 : (0 : Int) < n := by have := hW.n0; omega
  have n1 : 0 < n := hW.n0
  have HS : Hid _ := hW.s
  have HA : Hid (A.setIfInBounds 0 (.int .u32 u) = A) := set_self hW.a
  cases hc : hb h 8
  · have hz : bits .and .u16 h 8 = 0 := (hb_iff _ _).2 hc
    clear hW hc
    go_enter Try.func94, Try.ntmps94
    go_wp2_with (fail)
    go_end0
    exact ⟨rfl, by rw [orW, if_neg (by simp), HA.out]; exact HS.out, Chg.refl _ _⟩
  · have hz : (bits .and .u16 h 8 == 0) = false := by simpa [hb] using hc
    have hz2 : (bits .and .u16 h 8 != 0) = true := by simp [bne, hz]
    have hm : bits .and .u32 (lo32 v : Int) 65535 = ((lo32 v % 65536 : Nat) : Int) := mask16 _ (lo32_lt v)
    have HX : Hid ((lo32 v % 65536) < 65536) := Nat.mod_lt _ (by decide)
    have ev : IntKind.u32.wrap v = (lo32 v : Int) := by rw [IntKind.wrap_u32]; exact lo32_eq v
    generalize eL : lo32 v = vl at *
    generalize hx : vl % 65536 = x at *
    have ho : bits .or .u32 (u : Int) (IntKind.u32.wrap ((x : Int) * 65536)) = ((u ||| (x * 65536) : Nat) : Int) := by
      have h9 := HX.out
      rw [IntWalk.u32_in _ (by omega), show (x : Int) * 65536 = ((x * 65536 : Nat) : Int) by omega, Go.u32_or_nat _ _ hu (by omega)]
    clear hW hc
    go_enter Try.func94, Try.ntmps94
    go_upto_region 1 with fail
    go_region_with (go_at_call 90; refine (room16 _).mono ?_; rintro e w1 ⟨rfl, rfl⟩)
    all_goals
      try rw [ev]
      try rw [hm]
      try rw [ho]
      go_end0
      exact ⟨rfl, by rw [orW, if_pos rfl, eL, hx]; exact blk_set (o := 0) HS.out _, ((Chg.refl [S] w).set (by simp) _ _).drew⟩
end Go.Proofs.Ytnojlbahmlmknab
