import Derived.Test.YtedkcaflopmefaaCA
import Derived.Test.YtedkcaflopmefaaCS
namespace Go.Proofs.Ytedkcaflopmefaa
open Go.RowKit
set_option maxRecDepth 100000
set_option linter.unusedVariables false
set_option linter.unusedSimpArgs false

/-! ## Which fields a kind has -/
structure FL where
  ha : Bool
  hb : Bool
  hc : Bool
  hk : Bool
  hn : Bool
  hg : Bool
def flT (k : Nat) : FL :=
  match k with
  | 1 => ⟨false, false, false, true, false, false⟩
  | 2 => ⟨false, false, false, false, false, false⟩
  | 3 => ⟨true, false, false, false, false, false⟩
  | 4 => ⟨true, true, false, false, false, false⟩
  | 5 => ⟨true, false, false, false, false, false⟩
  | 6 => ⟨true, true, true, false, false, false⟩
  | 7 => ⟨true, true, true, false, false, false⟩
  | 8 => ⟨true, false, false, false, false, false⟩
  | 9 => ⟨true, false, false, true, true, false⟩
  | 10 => ⟨true, true, false, true, true, false⟩
  | 11 => ⟨false, false, false, true, true, false⟩
  | 12 => ⟨true, false, false, true, true, false⟩
  | 13 => ⟨true, false, false, true, true, false⟩
  | 14 => ⟨false, false, false, true, true, true⟩
  | 15 => ⟨false, false, false, true, true, false⟩
  | 16 => ⟨true, false, false, false, true, false⟩
  | 17 => ⟨false, false, false, false, false, false⟩
  | _ => ⟨false, false, false, false, false, false⟩
/-- What may not be in the five fields, one by one. -/
def bd (x : FL) (o : OpR) : Nat → Bool
  | 0 => (o.a != 0) && !x.ha
  | 1 => (o.b != 0) && !(x.hb || x.hg)
  | 2 => (o.c != 0) && !x.hc
  | 3 => ((o.k : Int) != 0) && !x.hk
  | _ => (o.n != 0) && !x.hn
def bg (x : FL) (o : OpR) : Bool := x.hg && (decide (o.b < 0) || decide (4294967295 < o.b))
def fieldBad (x : FL) (o : OpR) (count : Int) : Bool := bd x o 0 || bd x o 1 || bd x o 2 || bd x o 3 || bd x o 4 || bg x o || !(decide (0 ≤ o.n ∧ o.n ≤ count))
structure MaskOk (m : Int) (x : FL) : Prop where
  a : (bits .and .u8 m 1 == 0) = !x.ha
  b : (bits .and .u8 m 34 == 0) = !(x.hb || x.hg)
  c : (bits .and .u8 m 4 == 0) = !x.hc
  k : (bits .and .u8 m 8 == 0) = !x.hk
  n : (bits .and .u8 m 16 == 0) = !x.hn
  g : (bits .and .u8 m 32 != 0) = x.hg
  b2 : (bits .and .u8 m 2 == 0) = !x.hb
theorem mask_ok (k : Nat) (h1 : 1 ≤ k) (h2 : k ≤ 17) : MaskOk (rrT k).m (flT k) := by
  match k, h1, h2 with
  | 1, _, _ | 2, _, _ | 3, _, _ | 4, _, _ | 5, _, _ | 6, _, _ | 7, _, _ | 8, _, _ | 9, _, _ | 10, _, _ | 11, _, _ | 12, _, _ | 13, _, _ | 14, _, _ | 15, _, _ | 16, _, _ | 17, _, _ => exact ⟨by decide, by decide, by decide, by decide, by decide, by decide, by decide⟩
  | n + 18, _, h => exact absurd h (by omega)

abbrev ls5 (v0 v1 v2 v3 v4 : Bool) : Value := .agg #[.int .u8 1, .bool v0, .int .u8 34, .bool v1, .int .u8 4, .bool v2, .int .u8 8, .bool v3, .int .u8 16, .bool v4]
theorem ix5_0 (v0 v1 v2 v3 v4 : Bool) (w : World) : (Instr.index 227 (.agg #[.int .u8 1, .bool v0, .int .u8 34, .bool v1, .int .u8 4, .bool v2, .int .u8 8, .bool v3, .int .u8 16, .bool v4]) (.int .i64 0)).run Try.prog w = .ok (.agg #[.int .u8 1, .bool v0]) w := by
  simp [Instr.index, Try.underlying227, Try.underlying226, go_sem, part, asAgg]
theorem ix5_1 (v0 v1 v2 v3 v4 : Bool) (w : World) : (Instr.index 227 (.agg #[.int .u8 1, .bool v0, .int .u8 34, .bool v1, .int .u8 4, .bool v2, .int .u8 8, .bool v3, .int .u8 16, .bool v4]) (.int .i64 1)).run Try.prog w = .ok (.agg #[.int .u8 34, .bool v1]) w := by
  simp [Instr.index, Try.underlying227, Try.underlying226, go_sem, part, asAgg]
theorem ix5_2 (v0 v1 v2 v3 v4 : Bool) (w : World) : (Instr.index 227 (.agg #[.int .u8 1, .bool v0, .int .u8 34, .bool v1, .int .u8 4, .bool v2, .int .u8 8, .bool v3, .int .u8 16, .bool v4]) (.int .i64 2)).run Try.prog w = .ok (.agg #[.int .u8 4, .bool v2]) w := by
  simp [Instr.index, Try.underlying227, Try.underlying226, go_sem, part, asAgg]
theorem ix5_3 (v0 v1 v2 v3 v4 : Bool) (w : World) : (Instr.index 227 (.agg #[.int .u8 1, .bool v0, .int .u8 34, .bool v1, .int .u8 4, .bool v2, .int .u8 8, .bool v3, .int .u8 16, .bool v4]) (.int .i64 3)).run Try.prog w = .ok (.agg #[.int .u8 8, .bool v3]) w := by
  simp [Instr.index, Try.underlying227, Try.underlying226, go_sem, part, asAgg]
theorem ix5_4 (v0 v1 v2 v3 v4 : Bool) (w : World) : (Instr.index 227 (.agg #[.int .u8 1, .bool v0, .int .u8 34, .bool v1, .int .u8 4, .bool v2, .int .u8 8, .bool v3, .int .u8 16, .bool v4]) (.int .i64 4)).run Try.prog w = .ok (.agg #[.int .u8 16, .bool v4]) w := by
  simp [Instr.index, Try.underlying227, Try.underlying226, go_sem, part, asAgg]

structure FW (w wr : World) (r : RR) (o : OpR) : Prop where
  b3 : wr.heap[w.heap.size]? = some (.cells #[.int .u8 r.lo, .int .u8 r.hi, .int .u8 r.m, .bool r.gives, .bool r.ends] 160)
  b4 : wr.heap[w.heap.size + 1]? = some (.cells #[.int .i64 o.kind, .int .i64 o.w, .int .i64 o.a, .int .i64 o.b, .int .i64 o.c, .int .u32 o.k, .int .i64 o.n] 163)
  bel : Below w.heap.size w wr
theorem FW.alloc {w wr : World} {r : RR} {o : OpR} (h : FW w wr r o) (x : Obj) : FW w (wr.alloc x) r o :=
  ⟨(al_old _ x _ (row_lt h.b3)).trans h.b3, (al_old _ x _ (row_lt h.b4)).trans h.b4, h.bel.alloc (Nat.le_of_lt (row_lt h.b3)) x⟩
theorem FW.next {w wr w' : World} {r : RR} {o : OpR} (h : FW w wr r o) (k : Below wr.heap.size wr w') : FW w w' r o :=
  ⟨(k.block _ (row_lt h.b3)).trans h.b3, (k.block _ (row_lt h.b4)).trans h.b4, h.bel.trans (k.mono (Nat.le_of_lt (row_lt h.b3)))⟩
theorem FW.start (w : World) (r : RR) (o : OpR) : FW w ((w.alloc (.cells #[.int .u8 r.lo, .int .u8 r.hi, .int .u8 r.m, .bool r.gives, .bool r.ends] 160)).alloc (.cells #[.int .i64 o.kind, .int .i64 o.w, .int .i64 o.a, .int .i64 o.b, .int .i64 o.c, .int .u32 o.k, .int .i64 o.n] 163)) r o :=
  ⟨(al2 w _ _).1, (al2 w _ _).2, wk_bel w _ _⟩

set_option maxHeartbeats 4000000 in
theorem fields_any (r : RR) (x : FL) (o : OpR) (count : Int) (w : World) (hm : MaskOk r.m x) :
    Calls Try.prog 140 #[.agg #[.int .u8 r.lo, .int .u8 r.hi, .int .u8 r.m, .bool r.gives, .bool r.ends], .agg #[.int .i64 o.kind, .int .i64 o.w, .int .i64 o.a, .int .i64 o.b, .int .i64 o.c, .int .u32 o.k, .int .i64 o.n], .int .i64 count] w
      fun e w' => e = .returned (.bool (!(fieldBad x o count))) ∧ Below w.heap.size w w' := by
  have HM : Hid _ := hm
  obtain ⟨v0, hv0⟩ : ∃ v, (o.a != 0) = v := ⟨_, rfl⟩
  obtain ⟨v1, hv1⟩ : ∃ v, (o.b != 0) = v := ⟨_, rfl⟩
  obtain ⟨v2, hv2⟩ : ∃ v, (o.c != 0) = v := ⟨_, rfl⟩
  obtain ⟨v3, hv3⟩ : ∃ v, ((o.k : Int) != 0) = v := ⟨_, rfl⟩
  obtain ⟨v4, hv4⟩ : ∃ v, (o.n != 0) = v := ⟨_, rfl⟩
  have B0 : Hid (bd x o 0 = (v0 && !x.ha)) := by show _ = _; rw [← hv0]; rfl
  have B1 : Hid (bd x o 1 = (v1 && !(x.hb || x.hg))) := by show _ = _; rw [← hv1]; rfl
  have B2 : Hid (bd x o 2 = (v2 && !x.hc)) := by show _ = _; rw [← hv2]; rfl
  have B3 : Hid (bd x o 3 = (v3 && !x.hk)) := by show _ = _; rw [← hv3]; rfl
  have B4 : Hid (bd x o 4 = (v4 && !x.hn)) := by show _ = _; rw [← hv4]; rfl
  clear hm
  go_enter Try.func140, Try.ntmps140
  go_upto_region 2 with fail
  have HW : Hid (FW w _ r o) := (FW.start w r o).alloc (.cells #[.int .u8 1, .bool v0, .int .u8 34, .bool v1, .int .u8 4, .bool v2, .int .u8 8, .bool v3, .int .u8 16, .bool v4] 227)
  go_wp2
  go_loopw [32] (fun i wr => ∃ j : Nat, i = .int .i64 j ∧ j ≤ 5 ∧ (∀ p, p < j → bd x o p = false) ∧ FW w wr r o) (fun i _ => 5 - (intOf i).toNat)
  case atStart => exact ⟨0, rfl, by omega, fun p hp => absurd hp (Nat.not_lt_zero p), HW.out⟩
  case round =>
    obtain ⟨j, rfl, hj, hall, hW⟩ := hrel
    have HA : Hid _ := hall
    have HWr : Hid _ := hW
    have l3 := row_lt hW.b3
    have l4 := row_lt hW.b4
    have l3' := Nat.lt_succ_of_lt l3
    have m3 : wr.cell? ⟨w.heap.size, 2, none⟩ = some (.int .u8 r.m) := row_cell hW.b3 2
    have m4 : wr.cell? ⟨w.heap.size + 1, 3, none⟩ = some (.int .i64 o.b) := row_cell hW.b4 3
    have m5 : wr.cell? ⟨w.heap.size + 1, 6, none⟩ = some (.int .i64 o.n) := row_cell hW.b4 6
    clear hall hW HW
    rcases (by omega : j = 0 ∨ j = 1 ∨ j = 2 ∨ j = 3 ∨ j = 4 ∨ j = 5) with rfl | rfl | rfl | rfl | rfl | rfl
    · have e := HM.out.a
      clear hv0 hv1 hv2 hv3 hv4
      cases v0 with
      | false =>
        go_wp2_with (refine wpList_ix rfl 227 (.tmp 31) (.tmp 32) rfl _ _ (.agg #[.int .u8 1, .bool false]) rfl rfl (fun w => ix5_0 _ _ _ _ _ w) ?_)
        go_round
        case rel => exact ⟨1, by go_num, by omega, fun p hp => by
            rcases Nat.lt_succ_iff_lt_or_eq.1 hp with h | rfl
            · exact HA.out p h
            · rw [B0.out]; rfl, HWr.out.alloc _⟩
        case measure => simp [intOf]
      | true =>
        obtain ⟨y, hy⟩ : ∃ y, (x.ha) = y := ⟨_, rfl⟩
        rw [hy] at e
        have HY : Hid _ := hy
        clear hy
        cases y with
        | true =>
          go_wp2_with (refine wpList_ix rfl 227 (.tmp 31) (.tmp 32) rfl _ _ (.agg #[.int .u8 1, .bool true]) rfl rfl (fun w => ix5_0 _ _ _ _ _ w) ?_)
          go_round
          case rel => exact ⟨1, by go_num, by omega, fun p hp => by
              rcases Nat.lt_succ_iff_lt_or_eq.1 hp with h | rfl
              · exact HA.out p h
              · rw [B0.out]; rw [HY.out]; rfl, HWr.out.alloc _⟩
          case measure => simp [intOf]
        | false =>
          have FB : Hid (fieldBad x o count = true) := by show _ = _; unfold fieldBad; rw [show bd x o 0 = true by rw [B0.out, HY.out]; rfl]; simp
          go_wp2_with (refine wpList_ix rfl 227 (.tmp 31) (.tmp 32) rfl _ _ (.agg #[.int .u8 1, .bool true]) rfl rfl (fun w => ix5_0 _ _ _ _ _ w) ?_)
          go_ret
          exact ⟨by rw [FB.out]; rfl, (HWr.out.alloc _).bel⟩
    · have e := HM.out.b
      clear hv0 hv1 hv2 hv3 hv4
      cases v1 with
      | false =>
        go_wp2_with (refine wpList_ix rfl 227 (.tmp 31) (.tmp 32) rfl _ _ (.agg #[.int .u8 34, .bool false]) rfl rfl (fun w => ix5_1 _ _ _ _ _ w) ?_)
        go_round
        case rel => exact ⟨2, by go_num, by omega, fun p hp => by
            rcases Nat.lt_succ_iff_lt_or_eq.1 hp with h | rfl
            · exact HA.out p h
            · rw [B1.out]; rfl, HWr.out.alloc _⟩
        case measure => simp [intOf]
      | true =>
        obtain ⟨y, hy⟩ : ∃ y, (x.hb || x.hg) = y := ⟨_, rfl⟩
        rw [hy] at e
        have HY : Hid _ := hy
        clear hy
        cases y with
        | true =>
          go_wp2_with (refine wpList_ix rfl 227 (.tmp 31) (.tmp 32) rfl _ _ (.agg #[.int .u8 34, .bool true]) rfl rfl (fun w => ix5_1 _ _ _ _ _ w) ?_)
          go_round
          case rel => exact ⟨2, by go_num, by omega, fun p hp => by
              rcases Nat.lt_succ_iff_lt_or_eq.1 hp with h | rfl
              · exact HA.out p h
              · rw [B1.out]; rw [HY.out]; rfl, HWr.out.alloc _⟩
          case measure => simp [intOf]
        | false =>
          have FB : Hid (fieldBad x o count = true) := by show _ = _; unfold fieldBad; rw [show bd x o 1 = true by rw [B1.out, HY.out]; rfl]; simp
          go_wp2_with (refine wpList_ix rfl 227 (.tmp 31) (.tmp 32) rfl _ _ (.agg #[.int .u8 34, .bool true]) rfl rfl (fun w => ix5_1 _ _ _ _ _ w) ?_)
          go_ret
          exact ⟨by rw [FB.out]; rfl, (HWr.out.alloc _).bel⟩
    · have e := HM.out.c
      clear hv0 hv1 hv2 hv3 hv4
      cases v2 with
      | false =>
        go_wp2_with (refine wpList_ix rfl 227 (.tmp 31) (.tmp 32) rfl _ _ (.agg #[.int .u8 4, .bool false]) rfl rfl (fun w => ix5_2 _ _ _ _ _ w) ?_)
        go_round
        case rel => exact ⟨3, by go_num, by omega, fun p hp => by
            rcases Nat.lt_succ_iff_lt_or_eq.1 hp with h | rfl
            · exact HA.out p h
            · rw [B2.out]; rfl, HWr.out.alloc _⟩
        case measure => simp [intOf]
      | true =>
        obtain ⟨y, hy⟩ : ∃ y, (x.hc) = y := ⟨_, rfl⟩
        rw [hy] at e
        have HY : Hid _ := hy
        clear hy
        cases y with
        | true =>
          go_wp2_with (refine wpList_ix rfl 227 (.tmp 31) (.tmp 32) rfl _ _ (.agg #[.int .u8 4, .bool true]) rfl rfl (fun w => ix5_2 _ _ _ _ _ w) ?_)
          go_round
          case rel => exact ⟨3, by go_num, by omega, fun p hp => by
              rcases Nat.lt_succ_iff_lt_or_eq.1 hp with h | rfl
              · exact HA.out p h
              · rw [B2.out]; rw [HY.out]; rfl, HWr.out.alloc _⟩
          case measure => simp [intOf]
        | false =>
          have FB : Hid (fieldBad x o count = true) := by show _ = _; unfold fieldBad; rw [show bd x o 2 = true by rw [B2.out, HY.out]; rfl]; simp
          go_wp2_with (refine wpList_ix rfl 227 (.tmp 31) (.tmp 32) rfl _ _ (.agg #[.int .u8 4, .bool true]) rfl rfl (fun w => ix5_2 _ _ _ _ _ w) ?_)
          go_ret
          exact ⟨by rw [FB.out]; rfl, (HWr.out.alloc _).bel⟩
    · have e := HM.out.k
      clear hv0 hv1 hv2 hv3 hv4
      cases v3 with
      | false =>
        go_wp2_with (refine wpList_ix rfl 227 (.tmp 31) (.tmp 32) rfl _ _ (.agg #[.int .u8 8, .bool false]) rfl rfl (fun w => ix5_3 _ _ _ _ _ w) ?_)
        go_round
        case rel => exact ⟨4, by go_num, by omega, fun p hp => by
            rcases Nat.lt_succ_iff_lt_or_eq.1 hp with h | rfl
            · exact HA.out p h
            · rw [B3.out]; rfl, HWr.out.alloc _⟩
        case measure => simp [intOf]
      | true =>
        obtain ⟨y, hy⟩ : ∃ y, (x.hk) = y := ⟨_, rfl⟩
        rw [hy] at e
        have HY : Hid _ := hy
        clear hy
        cases y with
        | true =>
          go_wp2_with (refine wpList_ix rfl 227 (.tmp 31) (.tmp 32) rfl _ _ (.agg #[.int .u8 8, .bool true]) rfl rfl (fun w => ix5_3 _ _ _ _ _ w) ?_)
          go_round
          case rel => exact ⟨4, by go_num, by omega, fun p hp => by
              rcases Nat.lt_succ_iff_lt_or_eq.1 hp with h | rfl
              · exact HA.out p h
              · rw [B3.out]; rw [HY.out]; rfl, HWr.out.alloc _⟩
          case measure => simp [intOf]
        | false =>
          have FB : Hid (fieldBad x o count = true) := by show _ = _; unfold fieldBad; rw [show bd x o 3 = true by rw [B3.out, HY.out]; rfl]; simp
          go_wp2_with (refine wpList_ix rfl 227 (.tmp 31) (.tmp 32) rfl _ _ (.agg #[.int .u8 8, .bool true]) rfl rfl (fun w => ix5_3 _ _ _ _ _ w) ?_)
          go_ret
          exact ⟨by rw [FB.out]; rfl, (HWr.out.alloc _).bel⟩
    · have e := HM.out.n
      clear hv0 hv1 hv2 hv3 hv4
      cases v4 with
      | false =>
        go_wp2_with (refine wpList_ix rfl 227 (.tmp 31) (.tmp 32) rfl _ _ (.agg #[.int .u8 16, .bool false]) rfl rfl (fun w => ix5_4 _ _ _ _ _ w) ?_)
        go_round
        case rel => exact ⟨5, by go_num, by omega, fun p hp => by
            rcases Nat.lt_succ_iff_lt_or_eq.1 hp with h | rfl
            · exact HA.out p h
            · rw [B4.out]; rfl, HWr.out.alloc _⟩
        case measure => simp [intOf]
      | true =>
        obtain ⟨y, hy⟩ : ∃ y, (x.hn) = y := ⟨_, rfl⟩
        rw [hy] at e
        have HY : Hid _ := hy
        clear hy
        cases y with
        | true =>
          go_wp2_with (refine wpList_ix rfl 227 (.tmp 31) (.tmp 32) rfl _ _ (.agg #[.int .u8 16, .bool true]) rfl rfl (fun w => ix5_4 _ _ _ _ _ w) ?_)
          go_round
          case rel => exact ⟨5, by go_num, by omega, fun p hp => by
              rcases Nat.lt_succ_iff_lt_or_eq.1 hp with h | rfl
              · exact HA.out p h
              · rw [B4.out]; rw [HY.out]; rfl, HWr.out.alloc _⟩
          case measure => simp [intOf]
        | false =>
          have FB : Hid (fieldBad x o count = true) := by show _ = _; unfold fieldBad; rw [show bd x o 4 = true by rw [B4.out, HY.out]; rfl]; simp
          go_wp2_with (refine wpList_ix rfl 227 (.tmp 31) (.tmp 32) rfl _ _ (.agg #[.int .u8 16, .bool true]) rfl rfl (fun w => ix5_4 _ _ _ _ _ w) ?_)
          go_ret
          exact ⟨by rw [FB.out]; rfl, (HWr.out.alloc _).bel⟩
    · have A0 := HA.out 0 (by omega)
      have A1 := HA.out 1 (by omega)
      have A2 := HA.out 2 (by omega)
      have A3 := HA.out 3 (by omega)
      have A4 := HA.out 4 (by omega)
      have FB : Hid (fieldBad x o count = (bg x o || !(decide (0 ≤ o.n ∧ o.n ≤ count)))) := by show _ = _; unfold fieldBad; rw [A0, A1, A2, A3, A4]; rfl
      clear A0 A1 A2 A3 A4
      have e := HM.out.g
      obtain ⟨g, hg⟩ : ∃ g, x.hg = g := ⟨_, rfl⟩
      have BG : Hid (bg x o = (g && (decide (o.b < 0) || decide (4294967295 < o.b)))) := by show _ = _; rw [← hg]; rfl
      rw [hg] at e
      clear hg hv0 hv1 hv2 hv3 hv4
      cases g with
      | false =>
        go_wp2_with (go_at_call 99; refine (within_any o.n count _).mono ?_; rintro e w1 ⟨rfl, rfl⟩)
        go_ret
        exact ⟨by rw [FB.out, BG.out]; simp, HWr.out.bel⟩
      | true =>
        by_cases hb0 : o.b < 0
        · have d0 : decide (o.b < 0) = true := decide_eq_true hb0
          go_wp2
          go_ret
          exact ⟨by rw [FB.out, BG.out, d0]; simp, HWr.out.bel⟩
        · have d0 : decide (o.b < 0) = false := decide_eq_false hb0
          by_cases hb1 : 4294967295 < o.b
          · have d1 : decide (4294967295 < o.b) = true := decide_eq_true hb1
            go_wp2
            go_ret
            exact ⟨by rw [FB.out, BG.out, d0, d1]; simp, HWr.out.bel⟩
          · have d1 : decide (4294967295 < o.b) = false := decide_eq_false hb1
            go_wp2_with (go_at_call 99; refine (within_any o.n count _).mono ?_; rintro e w1 ⟨rfl, rfl⟩)
            go_ret
            exact ⟨by rw [FB.out, BG.out, d0, d1]; simp, HWr.out.bel⟩
end Go.Proofs.Ytedkcaflopmefaa
