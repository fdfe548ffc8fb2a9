import Derived.Test.YtgkkghphlbgcoaaHF
import Derived.Test.YtgkkghphlbgcoaaHG
import Derived.Deep.OwnRows
import Derived.Laws.CopyRow
import Derived.Laws.IdiomCopy
namespace Go.Proofs.Ytgkkghphlbgcoaa.Ho
open Go.RowKit
set_option maxRecDepth 100000
set_option linter.unusedVariables false
set_option linter.unusedSimpArgs false
/-- A number's lowest 32 bits. -/
def lo32 (v : Int) : Nat := (v % 4294967296).toNat
theorem lo32_eq (v : Int) : v % 4294967296 = (lo32 v : Int) := by unfold lo32; omega
theorem lo32_lt (v : Int) : lo32 v < 4294967296 := by unfold lo32; omega
def orW (c : Bool) (l b u : Nat) (v : Int) : Nat := if c then u ||| (lo32 v % b * l) else u
theorem orW_lt (c : Bool) (l b u : Nat) (v : Int) (hu : u < 4294967296) (hl : lo32 v % b * l < 4294967296) : orW c l b u v < 4294967296 := by
  unfold orW; split
  · exact Nat.or_lt_two_pow (n := 32) hu hl
  · exact hu
theorem set_self {A : Array Value} {v : Value} (h : A[0]? = some v) : A.setIfInBounds 0 v = A := by
  apply Array.ext_getElem?
  intro i
  rw [Array.getElem?_setIfInBounds]
  split
  · rename_i e; subst e; split
    · exact h.symm
    · rename_i hs; rw [Array.getElem?_eq_none (by omega)] at h; cases h
  · rfl
structure PW (w : World) (BF BW S n : Nat) (A : Array Value) (u : Nat) (h : Int) : Prop where
  bf : w.cell? ⟨BF, 3, none⟩ = some (.int .u16 h)
  bw : w.heap[BW]? = some (.cells #[.slice (some ⟨S, 0, none⟩) n n] 32)
  s : w.heap[S]? = some (.cells A 30)
  a : A[0]? = some (.int .u32 u)
  lf : BF < w.heap.size
  n0 : 0 < n
  n3 : n ≤ 3
set_option maxHeartbeats 1000000 in
theorem put_d (BF BW S n u : Nat) (A : Array Value) (h v : Int) (w : World) (hW : PW w BF BW S n A u h) (hu : u < 4294967296) (hbw : BW ≠ S) :
    Calls Try.prog 74 #[.int .u16 448, .int .i64 v, .int .i64 8, .int .i64 4, .pointer (some ⟨BF, 0, none⟩), .pointer (some ⟨BW, 0, none⟩)] w fun e w' => e = .returned (.tuple #[]) ∧ w'.heap[S]? = some (.cells (A.setIfInBounds 0 (.int .u32 (orW (hb h 448) 256 16 u v))) 30) ∧ Chg [S] w w' := by
  have cf := hW.bf
  have lf := hW.lf
  have cw : w.cell? ⟨BW, 0, none⟩ = some (.slice (some ⟨S, 0, none⟩) n n) := row_cell hW.bw 0
  have lw := row_lt hW.bw
  have cs : w.cell? ⟨S, 0, none⟩ = some (.int .u32 u) := (row_cell hW.s 0).trans hW.a
  have fs := row_fr hW.s 0
  have ls := row_lt hW.s
  have n0 : (0 : Int) < n := by have := hW.n0; omega
  have n1 : 0 < n := hW.n0
  have HS : Hid _ := hW.s
  have HA : Hid (A.setIfInBounds 0 (.int .u32 u) = A) := set_self hW.a
  cases hc : hb h 448
  · have hz : bits .and .u16 h 448 = 0 := (hb_iff _ _).2 hc
    clear hW hc
    go_enter Try.func74, Try.ntmps74
    go_wp2_with (fail)
    go_end0
    exact ⟨rfl, by rw [orW, if_neg (by simp), HA.out]; exact HS.out, Chg.refl _ _⟩
  · have hz : (bits .and .u16 h 448 == 0) = false := by simpa [hb] using hc
    have hz2 : (bits .and .u16 h 448 != 0) = true := by simp [bne, hz]
    have hm : bits .and .u32 (lo32 v : Int) 15 = ((lo32 v % 16 : Nat) : Int) := mask4 _ (lo32_lt v)
    have HX : Hid ((lo32 v % 16) < 16) := Nat.mod_lt _ (by decide)
    have ev : IntKind.u32.wrap v = (lo32 v : Int) := by rw [IntKind.wrap_u32]; exact lo32_eq v
    generalize eL : lo32 v = vl at *
    generalize hx : vl % 16 = x at *
    have ho : bits .or .u32 (u : Int) (IntKind.u32.wrap ((x : Int) * 256)) = ((u ||| (x * 256) : Nat) : Int) := by
      have h9 := HX.out
      rw [IntWalk.u32_in _ (by omega), show (x : Int) * 256 = ((x * 256 : Nat) : Int) by omega, Go.u32_or_nat _ _ hu (by omega)]
    clear hW hc
    go_enter Try.func74, Try.ntmps74
    go_upto_region 1 with fail
    go_region_with (go_at_call 70; refine (room4 _).mono ?_; rintro e w1 ⟨rfl, rfl⟩)
    all_goals
      try rw [ev]
      try rw [hm]
      try rw [ho]
      go_end0
      exact ⟨rfl, by rw [orW, if_pos rfl, eL, hx]; exact blk_set (o := 0) HS.out _, ((Chg.refl [S] w).set (by simp) _ _).drew⟩
set_option maxHeartbeats 1000000 in
theorem put_a (BF BW S n u : Nat) (A : Array Value) (h v : Int) (w : World) (hW : PW w BF BW S n A u h) (hu : u < 4294967296) (hbw : BW ≠ S) :
    Calls Try.prog 74 #[.int .u16 1, .int .i64 v, .int .i64 12, .int .i64 4, .pointer (some ⟨BF, 0, none⟩), .pointer (some ⟨BW, 0, none⟩)] w fun e w' => e = .returned (.tuple #[]) ∧ w'.heap[S]? = some (.cells (A.setIfInBounds 0 (.int .u32 (orW (hb h 1) 4096 16 u v))) 30) ∧ Chg [S] w w' := by
  have cf := hW.bf
  have lf := hW.lf
  have cw : w.cell? ⟨BW, 0, none⟩ = some (.slice (some ⟨S, 0, none⟩) n n) := row_cell hW.bw 0
  have lw := row_lt hW.bw
  have cs : w.cell? ⟨S, 0, none⟩ = some (.int .u32 u) := (row_cell hW.s 0).trans hW.a
  have fs := row_fr hW.s 0
  have ls := row_lt hW.s
  have n0 : (0 : Int) < n := by have := hW.n0; omega
  have n1 : 0 < n := hW.n0
  have HS : Hid _ := hW.s
  have HA : Hid (A.setIfInBounds 0 (.int .u32 u) = A) := set_self hW.a
  cases hc : hb h 1
  · have hz : bits .and .u16 h 1 = 0 := (hb_iff _ _).2 hc
    clear hW hc
    go_enter Try.func74, Try.ntmps74
    go_wp2_with (fail)
    go_end0
    exact ⟨rfl, by rw [orW, if_neg (by simp), HA.out]; exact HS.out, Chg.refl _ _⟩
  · have hz : (bits .and .u16 h 1 == 0) = false := by simpa [hb] using hc
    have hz2 : (bits .and .u16 h 1 != 0) = true := by simp [bne, hz]
    have hm : bits .and .u32 (lo32 v : Int) 15 = ((lo32 v % 16 : Nat) : Int) := mask4 _ (lo32_lt v)
    have HX : Hid ((lo32 v % 16) < 16) := Nat.mod_lt _ (by decide)
    have ev : IntKind.u32.wrap v = (lo32 v : Int) := by rw [IntKind.wrap_u32]; exact lo32_eq v
    generalize eL : lo32 v = vl at *
    generalize hx : vl % 16 = x at *
    have ho : bits .or .u32 (u : Int) (IntKind.u32.wrap ((x : Int) * 4096)) = ((u ||| (x * 4096) : Nat) : Int) := by
      have h9 := HX.out
      rw [IntWalk.u32_in _ (by omega), show (x : Int) * 4096 = ((x * 4096 : Nat) : Int) by omega, Go.u32_or_nat _ _ hu (by omega)]
    clear hW hc
    go_enter Try.func74, Try.ntmps74
    go_upto_region 1 with fail
    go_region_with (go_at_call 70; refine (room4 _).mono ?_; rintro e w1 ⟨rfl, rfl⟩)
    all_goals
      try rw [ev]
      try rw [hm]
      try rw [ho]
      go_end0
      exact ⟨rfl, by rw [orW, if_pos rfl, eL, hx]; exact blk_set (o := 0) HS.out _, ((Chg.refl [S] w).set (by simp) _ _).drew⟩
set_option maxHeartbeats 1000000 in
theorem put_b (BF BW S n u : Nat) (A : Array Value) (h v : Int) (w : World) (hW : PW w BF BW S n A u h) (hu : u < 4294967296) (hbw : BW ≠ S) :
    Calls Try.prog 74 #[.int .u16 2, .int .i64 v, .int .i64 16, .int .i64 4, .pointer (some ⟨BF, 0, none⟩), .pointer (some ⟨BW, 0, none⟩)] w fun e w' => e = .returned (.tuple #[]) ∧ w'.heap[S]? = some (.cells (A.setIfInBounds 0 (.int .u32 (orW (hb h 2) 65536 16 u v))) 30) ∧ Chg [S] w w' := by
  have cf := hW.bf
  have lf := hW.lf
  have cw : w.cell? ⟨BW, 0, none⟩ = some (.slice (some ⟨S, 0, none⟩) n n) := row_cell hW.bw 0
  have lw := row_lt hW.bw
  have cs : w.cell? ⟨S, 0, none⟩ = some (.int .u32 u) := (row_cell hW.s 0).trans hW.a
  have fs := row_fr hW.s 0
  have ls := row_lt hW.s
  have n0 : (0 : Int) < n := by have := hW.n0; omega
  have n1 : 0 < n := hW.n0
  have HS : Hid _ := hW.s
  have HA : Hid (A.setIfInBounds 0 (.int .u32 u) = A) := set_self hW.a
  cases hc : hb h 2
  · have hz : bits .and .u16 h 2 = 0 := (hb_iff _ _).2 hc
    clear hW hc
    go_enter Try.func74, Try.ntmps74
    go_wp2_with (fail)
    go_end0
    exact ⟨rfl, by rw [orW, if_neg (by simp), HA.out]; exact HS.out, Chg.refl _ _⟩
  · have hz : (bits .and .u16 h 2 == 0) = false := by simpa [hb] using hc
    have hz2 : (bits .and .u16 h 2 != 0) = true := by simp [bne, hz]
    have hm : bits .and .u32 (lo32 v : Int) 15 = ((lo32 v % 16 : Nat) : Int) := mask4 _ (lo32_lt v)
    have HX : Hid ((lo32 v % 16) < 16) := Nat.mod_lt _ (by decide)
    have ev : IntKind.u32.wrap v = (lo32 v : Int) := by rw [IntKind.wrap_u32]; exact lo32_eq v
    generalize eL : lo32 v = vl at *
    generalize hx : vl % 16 = x at *
    have ho : bits .or .u32 (u : Int) (IntKind.u32.wrap ((x : Int) * 65536)) = ((u ||| (x * 65536) : Nat) : Int) := by
      have h9 := HX.out
      rw [IntWalk.u32_in _ (by omega), show (x : Int) * 65536 = ((x * 65536 : Nat) : Int) by omega, Go.u32_or_nat _ _ hu (by omega)]
    clear hW hc
    go_enter Try.func74, Try.ntmps74
    go_upto_region 1 with fail
    go_region_with (go_at_call 70; refine (room4 _).mono ?_; rintro e w1 ⟨rfl, rfl⟩)
    all_goals
      try rw [ev]
      try rw [hm]
      try rw [ho]
      go_end0
      exact ⟨rfl, by rw [orW, if_pos rfl, eL, hx]; exact blk_set (o := 0) HS.out _, ((Chg.refl [S] w).set (by simp) _ _).drew⟩
set_option maxHeartbeats 1000000 in
theorem put_c (BF BW S n u : Nat) (A : Array Value) (h v : Int) (w : World) (hW : PW w BF BW S n A u h) (hu : u < 4294967296) (hbw : BW ≠ S) :
    Calls Try.prog 74 #[.int .u16 4, .int .i64 v, .int .i64 20, .int .i64 4, .pointer (some ⟨BF, 0, none⟩), .pointer (some ⟨BW, 0, none⟩)] w fun e w' => e = .returned (.tuple #[]) ∧ w'.heap[S]? = some (.cells (A.setIfInBounds 0 (.int .u32 (orW (hb h 4) 1048576 16 u v))) 30) ∧ Chg [S] w w' := by
  have cf := hW.bf
  have lf := hW.lf
  have cw : w.cell? ⟨BW, 0, none⟩ = some (.slice (some ⟨S, 0, none⟩) n n) := row_cell hW.bw 0
  have lw := row_lt hW.bw
  have cs : w.cell? ⟨S, 0, none⟩ = some (.int .u32 u) := (row_cell hW.s 0).trans hW.a
  have fs := row_fr hW.s 0
  have ls := row_lt hW.s
  have n0 : (0 : Int) < n := by have := hW.n0; omega
  have n1 : 0 < n := hW.n0
  have HS : Hid _ := hW.s
  have HA : Hid (A.setIfInBounds 0 (.int .u32 u) = A) := set_self hW.a
  cases hc : hb h 4
  · have hz : bits .and .u16 h 4 = 0 := (hb_iff _ _).2 hc
    clear hW hc
    go_enter Try.func74, Try.ntmps74
    go_wp2_with (fail)
    go_end0
    exact ⟨rfl, by rw [orW, if_neg (by simp), HA.out]; exact HS.out, Chg.refl _ _⟩
  · have hz : (bits .and .u16 h 4 == 0) = false := by simpa [hb] using hc
    have hz2 : (bits .and .u16 h 4 != 0) = true := by simp [bne, hz]
    have hm : bits .and .u32 (lo32 v : Int) 15 = ((lo32 v % 16 : Nat) : Int) := mask4 _ (lo32_lt v)
    have HX : Hid ((lo32 v % 16) < 16) := Nat.mod_lt _ (by decide)
    have ev : IntKind.u32.wrap v = (lo32 v : Int) := by rw [IntKind.wrap_u32]; exact lo32_eq v
    generalize eL : lo32 v = vl at *
    generalize hx : vl % 16 = x at *
    have ho : bits .or .u32 (u : Int) (IntKind.u32.wrap ((x : Int) * 1048576)) = ((u ||| (x * 1048576) : Nat) : Int) := by
      have h9 := HX.out
      rw [IntWalk.u32_in _ (by omega), show (x : Int) * 1048576 = ((x * 1048576 : Nat) : Int) by omega, Go.u32_or_nat _ _ hu (by omega)]
    clear hW hc
    go_enter Try.func74, Try.ntmps74
    go_upto_region 1 with fail
    go_region_with (go_at_call 70; refine (room4 _).mono ?_; rintro e w1 ⟨rfl, rfl⟩)
    all_goals
      try rw [ev]
      try rw [hm]
      try rw [ho]
      go_end0
      exact ⟨rfl, by rw [orW, if_pos rfl, eL, hx]; exact blk_set (o := 0) HS.out _, ((Chg.refl [S] w).set (by simp) _ _).drew⟩
set_option maxHeartbeats 1000000 in
theorem put_n (BF BW S n u : Nat) (A : Array Value) (h v : Int) (w : World) (hW : PW w BF BW S n A u h) (hu : u < 4294967296) (hbw : BW ≠ S) :
    Calls Try.prog 74 #[.int .u16 8, .int .i64 v, .int .i64 16, .int .i64 16, .pointer (some ⟨BF, 0, none⟩), .pointer (some ⟨BW, 0, none⟩)] w fun e w' => e = .returned (.tuple #[]) ∧ w'.heap[S]? = some (.cells (A.setIfInBounds 0 (.int .u32 (orW (hb h 8) 65536 65536 u v))) 30) ∧ Chg [S] w w' := by
  have cf := hW.bf
  have lf := hW.lf
  have cw : w.cell? ⟨BW, 0, none⟩ = some (.slice (some ⟨S, 0, none⟩) n n) := row_cell hW.bw 0
  have lw := row_lt hW.bw
  have cs : w.cell? ⟨S, 0, none⟩ = some (.int .u32 u) := (row_cell hW.s 0).trans hW.a
  have fs := row_fr hW.s 0
  have ls := row_lt hW.s
  have n0 : (0 : Int) < n := by have := hW.n0; omega
  have n1 : 0 < n := hW.n0
  have HS : Hid _ := hW.s
  have HA : Hid (A.setIfInBounds 0 (.int .u32 u) = A) := set_self hW.a
  cases hc : hb h 8
  · have hz : bits .and .u16 h 8 = 0 := (hb_iff _ _).2 hc
    clear hW hc
    go_enter Try.func74, Try.ntmps74
    go_wp2_with (fail)
    go_end0
    exact ⟨rfl, by rw [orW, if_neg (by simp), HA.out]; exact HS.out, Chg.refl _ _⟩
  · have hz : (bits .and .u16 h 8 == 0) = false := by simpa [hb] using hc
    have hz2 : (bits .and .u16 h 8 != 0) = true := by simp [bne, hz]
    have hm : bits .and .u32 (lo32 v : Int) 65535 = ((lo32 v % 65536 : Nat) : Int) := mask16 _ (lo32_lt v)
    have HX : Hid ((lo32 v % 65536) < 65536) := Nat.mod_lt _ (by decide)
    have ev : IntKind.u32.wrap v = (lo32 v : Int) := by rw [IntKind.wrap_u32]; exact lo32_eq v
    generalize eL : lo32 v = vl at *
    generalize hx : vl % 65536 = x at *
    have ho : bits .or .u32 (u : Int) (IntKind.u32.wrap ((x : Int) * 65536)) = ((u ||| (x * 65536) : Nat) : Int) := by
      have h9 := HX.out
      rw [IntWalk.u32_in _ (by omega), show (x : Int) * 65536 = ((x * 65536 : Nat) : Int) by omega, Go.u32_or_nat _ _ hu (by omega)]
    clear hW hc
    go_enter Try.func74, Try.ntmps74
    go_upto_region 1 with fail
    go_region_with (go_at_call 70; refine (room16 _).mono ?_; rintro e w1 ⟨rfl, rfl⟩)
    all_goals
      try rw [ev]
      try rw [hm]
      try rw [ho]
      go_end0
      exact ⟨rfl, by rw [orW, if_pos rfl, eL, hx]; exact blk_set (o := 0) HS.out _, ((Chg.refl [S] w).set (by simp) _ _).drew⟩
end Go.Proofs.Ytgkkghphlbgcoaa.Ho
namespace Go.Proofs.Ytgkkghphlbgcoaa.Ho
open Go.RowKit
set_option maxRecDepth 100000
set_option linter.unusedVariables false
set_option linter.unusedSimpArgs false
theorem info24 : (Try.prog.info? 30).map (fun i => (i.zero, i.size, i.bytes)) = some (some (.int .u32 0), 1, 4) := by kernel_rfl
theorem mk1_run (w : World) : (Instr.makeSlice 32 (.int .i64 1) (.int .i64 1)).run Try.prog w = .ok (.slice (some ⟨w.heap.size, 0, none⟩) 1 1) (w.alloc (.cells #[.int .u32 0] 30)) := by
  have h := run_make_row' (P := Try.prog) 32 30 (.int .u32 0) 4 Try.underlying32 info24 rfl .i64 .i64 1 (by decide) (by decide) w
  rw [show madeCells #[.int .u32 0] 1 = #[.int .u32 0] from by kernel_rfl] at h
  exact h
theorem mk2_run (w : World) : (Instr.makeSlice 32 (.int .i64 2) (.int .i64 2)).run Try.prog w = .ok (.slice (some ⟨w.heap.size, 0, none⟩) 2 2) (w.alloc (.cells #[.int .u32 0, .int .u32 0] 30)) := by
  have h := run_make_row' (P := Try.prog) 32 30 (.int .u32 0) 4 Try.underlying32 info24 rfl .i64 .i64 2 (by decide) (by decide) w
  rw [show madeCells #[.int .u32 0] 2 = #[.int .u32 0, .int .u32 0] from by kernel_rfl] at h
  exact h
theorem mk3_run (w : World) : (Instr.makeSlice 32 (.int .i64 3) (.int .i64 3)).run Try.prog w = .ok (.slice (some ⟨w.heap.size, 0, none⟩) 3 3) (w.alloc (.cells #[.int .u32 0, .int .u32 0, .int .u32 0] 30)) := by
  have h := run_make_row' (P := Try.prog) 32 30 (.int .u32 0) 4 Try.underlying32 info24 rfl .i64 .i64 3 (by decide) (by decide) w
  rw [show madeCells #[.int .u32 0] 3 = #[.int .u32 0, .int .u32 0, .int .u32 0] from by kernel_rfl] at h
  exact h
theorem size24 : (Try.prog.info? 30).map (·.size) = some 1 := by kernel_rfl
theorem cp1_run (W : World) (S k y : Nat) : (Builtin.copy_ #[32, 32] 3 #[.slice (some ⟨S, 0, none⟩) 0 0, .slice (some ⟨W.heap.size, 0, none⟩) 2 2]).run Try.prog (W.alloc (.cells #[.int .u32 k, .int .u32 y] 30)).drew = .ok (.int .i64 0) (W.alloc (.cells #[.int .u32 k, .int .u32 y] 30)).drew :=
  run_copy_none (P := Try.prog) _ 32 32 3 30 _ _ 0 0 2 2 Try.underlying32 size24 rfl
theorem cp2_run (W : World) (S k y u : Nat) (hs : W.heap[S]? = some (.cells #[.int .u32 u, .int .u32 0] 30)) : (Builtin.copy_ #[32, 32] 3 #[.slice (some ⟨S, 1, none⟩) 1 1, .slice (some ⟨W.heap.size, 0, none⟩) 2 2]).run Try.prog (W.alloc (.cells #[.int .u32 k, .int .u32 y] 30)).drew = .ok (.int .i64 1) ((W.alloc (.cells #[.int .u32 k, .int .u32 y] 30)).drew.setRow S #[.int .u32 u, .int .u32 k]) := by
  have e := run_copy_row (P := Try.prog) (W.alloc (.cells #[.int .u32 k, .int .u32 y] 30)).drew 32 32 3 30 S 1 1 1 ⟨W.heap.size, 0, none⟩ 2 2 #[.int .u32 u, .int .u32 0] 30 [.int .u32 k] Try.underlying32 size24
    ((Below.heap_alloc _ _ _ (row_lt hs)).trans hs) rfl (fun j v hv => by
      rw [Addr.add_mid, Nat.zero_add]
      refine (row_cell (heap_alloc_last W _) j).trans ?_
      rcases j with _ | j
      · simpa using hv
      · rcases j with _ | j
        · simp at hv
        · simp at hv) (by simp) (by simp; rfl)
  exact e
theorem cp3_run (W : World) (S k y u : Nat) (hs : W.heap[S]? = some (.cells #[.int .u32 u, .int .u32 0, .int .u32 0] 30)) : (Builtin.copy_ #[32, 32] 3 #[.slice (some ⟨S, 1, none⟩) 2 2, .slice (some ⟨W.heap.size, 0, none⟩) 2 2]).run Try.prog (W.alloc (.cells #[.int .u32 k, .int .u32 y] 30)).drew = .ok (.int .i64 2) ((W.alloc (.cells #[.int .u32 k, .int .u32 y] 30)).drew.setRow S #[.int .u32 u, .int .u32 k, .int .u32 y]) := by
  have e := run_copy_row (P := Try.prog) (W.alloc (.cells #[.int .u32 k, .int .u32 y] 30)).drew 32 32 3 30 S 1 2 2 ⟨W.heap.size, 0, none⟩ 2 2 #[.int .u32 u, .int .u32 0, .int .u32 0] 30 [.int .u32 k, .int .u32 y] Try.underlying32 size24
    ((Below.heap_alloc _ _ _ (row_lt hs)).trans hs) rfl (fun j v hv => by
      rw [Addr.add_mid, Nat.zero_add]
      refine (row_cell (heap_alloc_last W _) j).trans ?_
      rcases j with _ | j
      · simpa using hv
      · rcases j with _ | j
        · simpa using hv
        · simp at hv) (by simp) (by simp; exact ⟨rfl, rfl⟩)
  exact e
def ly0 (x : Cd) : Nat := lo32 x.op
def ly1 (h : Int) (x : Cd) : Nat := orW (hb h 448) 256 16 (ly0 x) x.d
def ly2 (h : Int) (x : Cd) : Nat := orW (hb h 1) 4096 16 (ly1 h x) x.a
def ly3 (h : Int) (x : Cd) : Nat := orW (hb h 2) 65536 16 (ly2 h x) x.b
def ly4 (h : Int) (x : Cd) : Nat := orW (hb h 4) 1048576 16 (ly3 h x) x.c
def ly5 (h : Int) (x : Cd) : Nat := orW (hb h 8) 65536 65536 (ly4 h x) x.n
theorem ly0_lt (x : Cd) : ly0 x < 4294967296 := lo32_lt _
theorem ly1_lt (h : Int) (x : Cd) : ly1 h x < 4294967296 := orW_lt _ _ _ _ _ (ly0_lt x) (by have := Nat.mod_lt (lo32 x.d) (show 16 > 0 by decide); omega)
theorem ly2_lt (h : Int) (x : Cd) : ly2 h x < 4294967296 := orW_lt _ _ _ _ _ (ly1_lt h x) (by have := Nat.mod_lt (lo32 x.a) (show 16 > 0 by decide); omega)
theorem ly3_lt (h : Int) (x : Cd) : ly3 h x < 4294967296 := orW_lt _ _ _ _ _ (ly2_lt h x) (by have := Nat.mod_lt (lo32 x.b) (show 16 > 0 by decide); omega)
theorem ly4_lt (h : Int) (x : Cd) : ly4 h x < 4294967296 := orW_lt _ _ _ _ _ (ly3_lt h x) (by have := Nat.mod_lt (lo32 x.c) (show 16 > 0 by decide); omega)
theorem ly5_lt (h : Int) (x : Cd) : ly5 h x < 4294967296 := orW_lt _ _ _ _ _ (ly4_lt h x) (by have := Nat.mod_lt (lo32 x.n) (show 65536 > 0 by decide); omega)
/-- lay, under way. -/
structure LY (w W : World) (f : Fo) (x : Cd) (n : Nat) (A : Array Value) (u : Nat) : Prop where
  bf : W.heap[w.heap.size]? = some (.cells (foA f) 117)
  bx : W.heap[w.heap.size + 1]? = some (.cells (cdA x) 41)
  s : W.heap[w.heap.size + 1 + 1]? = some (.cells A 30)
  bw : W.heap[w.heap.size + 1 + 1 + 1]? = some (.cells #[.slice (some ⟨w.heap.size + 1 + 1, 0, none⟩) n n] 32)
  a : A[0]? = some (.int .u32 u)
  bel : Below w.heap.size w W
structure LE (w W : World) (n : Nat) (A : Array Value) : Prop where
  s : W.heap[w.heap.size + 1 + 1]? = some (.cells A 30)
  bw : W.heap[w.heap.size + 1 + 1 + 1]? = some (.cells #[.slice (some ⟨w.heap.size + 1 + 1, 0, none⟩) n n] 32)
  bel : Below w.heap.size w W
theorem LE.drw {w W : World} {n : Nat} {A : Array Value} (h : LE w W n A) : LE w W.drew n A := ⟨h.s, h.bw, h.bel.drew⟩
theorem LY.fin1 {w W : World} {f : Fo} {x : Cd} {n : Nat} {A : Array Value} {u : Nat} (h : LY w W f x n A u) (O : Obj) : LE w (W.alloc O).drew n A :=
  ⟨(Below.heap_alloc _ _ _ (row_lt h.s)).trans h.s, (Below.heap_alloc _ _ _ (row_lt h.bw)).trans h.bw, (h.bel.alloc h.bel.size _).drew⟩
theorem LY.fin {w W : World} {f : Fo} {x : Cd} {n : Nat} {A : Array Value} {u : Nat} (h : LY w W f x n A u) (O : Obj) (A' : Array Value) : LE w ((W.alloc O).drew.setRow (w.heap.size + 1 + 1) A') n A' :=
  ⟨setRow_heap _ _ _ _ _ _ (h.fin1 O).s, (setRow_other _ _ _ _ (by omega)).trans (h.fin1 O).bw, (h.fin1 O).bel.trans ⟨rfl, rfl, rfl, by simp, fun k hk => setRow_other _ _ _ _ (by omega)⟩⟩
theorem LY.pw {w W : World} {f : Fo} {x : Cd} {n : Nat} {A : Array Value} {u : Nat} (h : LY w W f x n A u) (n0 : 0 < n) (n3 : n ≤ 3) : PW W w.heap.size (w.heap.size + 1 + 1 + 1) (w.heap.size + 1 + 1) n A u f.has :=
  ⟨row_cell h.bf 3, h.bw, h.s, h.a, row_lt h.bf, n0, n3⟩
theorem LY.put {w W w1 : World} {f : Fo} {x : Cd} {n : Nat} {A : Array Value} {u u' : Nat} (h : LY w W f x n A u) (c : Chg [w.heap.size + 1 + 1] W w1) (b : w1.heap[w.heap.size + 1 + 1]? = some (.cells (A.setIfInBounds 0 (.int .u32 u')) 30)) : LY w w1 f x n (A.setIfInBounds 0 (.int .u32 u')) u' := by
  have hs : w.heap.size ≤ W.heap.size := h.bel.size
  refine ⟨c.keep h.bf (by simp; omega), c.keep h.bx (by simp), b, c.keep h.bw (by simp), ?_, h.bel.trans (c.below hs (by simp; omega))⟩
  have := h.a
  rw [Array.getElem?_setIfInBounds]
  rcases hsz : A.size with _ | k
  · rw [Array.getElem?_eq_none (by omega)] at this; cases this
  · simp
theorem ly_start (w : World) (f : Fo) (x : Cd) (n u : Nat) (A : Array Value) (ha : A[0]? = some (.int .u32 u)) :
    LY w ((((w.alloc (.cells (foA f) 117)).alloc (.cells (cdA x) 41)).alloc (.cells A 30)).alloc (.cells #[.slice (some ⟨w.heap.size + 1 + 1, 0, none⟩) n n] 32)) f x n A u := by
  have e1 := heap_alloc_last w (.cells (foA f) 117)
  have e2 := heap_alloc_last (w.alloc (.cells (foA f) 117)) (.cells (cdA x) 41)
  have e3 := heap_alloc_last ((w.alloc (.cells (foA f) 117)).alloc (.cells (cdA x) 41)) (.cells A 30)
  have e4 := heap_alloc_last (((w.alloc (.cells (foA f) 117)).alloc (.cells (cdA x) 41)).alloc (.cells A 30)) (.cells #[.slice (some ⟨w.heap.size + 1 + 1, 0, none⟩) n n] 32)
  simp only [World.size_alloc] at e2 e3 e4
  refine ⟨?_, ?_, ?_, e4, ha, ((((Below.refl _ _).alloc (Nat.le_refl _) _).alloc (by simp) _).alloc (by simp; omega) _).alloc (by simp; omega) _⟩
  · rw [Below.heap_alloc _ _ _ (by simp; omega), Below.heap_alloc _ _ _ (by simp; omega), Below.heap_alloc _ _ _ (by simp)]; exact e1
  · rw [Below.heap_alloc _ _ _ (by simp), Below.heap_alloc _ _ _ (by simp)]; exact e2
  · rw [Below.heap_alloc _ _ _ (by simp)]; exact e3
end Go.Proofs.Ytgkkghphlbgcoaa.Ho
