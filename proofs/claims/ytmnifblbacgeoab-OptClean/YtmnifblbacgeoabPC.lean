import Derived.Test.YtmnifblbacgeoabPB
namespace Go.Proofs.Ytmnifblbacgeoab
open Go.RowKit
set_option maxRecDepth 100000
set_option linter.unusedVariables false
set_option linter.unusedSimpArgs false

structure FT (w wr : World) (r : RU) (o : OpR) : Prop where
  fw : FW w wr r o
  b5 : wr.heap[w.heap.size + 2]? = some (.cells #[.int .i64 o.a, .int .i64 o.b, .int .i64 o.c] 233)
theorem FT.next {w wr w' : World} {r : RU} {o : OpR} (h : FT w wr r o) (k : Below wr.heap.size wr w') : FT w w' r o :=
  ⟨h.fw.next k, (k.block _ (row_lt h.b5)).trans h.b5⟩
theorem FT.start (w : World) (r : RU) (o : OpR) : FT w (((w.alloc (.cells #[.int .u8 r.lo, .int .u8 r.hi, .int .u8 r.takes, .int .u8 r.has, .bool r.gives, .bool r.leaves, .bool r.ends] 202)).alloc (.cells #[.int .i64 o.kind, .int .i64 o.w, .int .i64 o.a, .int .i64 o.b, .int .i64 o.c, .int .u32 o.k, .int .i64 o.n] 67)).alloc (.cells #[.int .i64 o.a, .int .i64 o.b, .int .i64 o.c] 233)) r o :=
  ⟨(FW.start w r o).alloc _, (al3 w _ _ _).2.2⟩

set_option maxHeartbeats 4000000 in
theorem taken_0 (lo hi has : Int) (gives leaves ends : Bool) (x : FL) (o : OpR) (bp : Option Addr) (i cap : Nat) (f : Nat → OpR) (w : World) (hm : RuOk ⟨lo, hi, 0, has, gives, leaves, ends⟩ x) (hi' : i ≤ 2048) (hO : OpsR w bp i f) :
    Calls Try.prog 167 #[.agg #[.int .u8 lo, .int .u8 hi, .int .u8 0, .int .u8 has, .bool gives, .bool leaves, .bool ends], .agg #[.int .i64 o.kind, .int .i64 o.w, .int .i64 o.a, .int .i64 o.b, .int .i64 o.c, .int .u32 o.k, .int .i64 o.n], .slice bp i cap] w
      fun e w' => e = .returned (.bool (!(takenBad x o f i))) ∧ Below w.heap.size w w' := by
  have X0 : Hid (x.ha = false) := by show _ = _; rw [← hm.a]; rfl
  have X1 : Hid (x.hb = false) := by show _ = _; rw [← hm.b]; rfl
  have X2 : Hid (x.hc = false) := by show _ = _; rw [← hm.c]; rfl
  have HO : Hid _ := hO
  have i0 : (0 : Int) ≤ (i : Int) := by omega
  have i1 : (i : Int) ≤ 2048 := by omega
  clear hm hO hi'
  go_enter Try.func167, Try.ntmps167
  go_upto_region 2 with fail
  have HW : Hid (FT w _ ⟨lo, hi, 0, has, gives, leaves, ends⟩ o) := FT.start w ⟨lo, hi, 0, has, gives, leaves, ends⟩ o
  go_wp2
  go_loopw [21] (fun i' wr => ∃ j : Nat, i' = .int .i64 j ∧ j ≤ 0 ∧ (∀ p, p < j → tk x o f i p = false) ∧ FT w wr ⟨lo, hi, 0, has, gives, leaves, ends⟩ o) (fun i _ => 0 - (intOf i).toNat)
  case atStart => exact ⟨0, rfl, by omega, fun p hp => absurd hp (Nat.not_lt_zero p), HW.out⟩
  case round =>
    obtain ⟨j, rfl, hj, hall, hW⟩ := hrel
    have HA : Hid _ := hall
    have HWr : Hid _ := hW
    have l3 := row_lt hW.fw.b3
    have l4 := row_lt hW.fw.b4
    have l5 := row_lt hW.b5
    have l3' := Nat.lt_succ_of_lt l3
    have c0 : wr.cell? ⟨w.heap.size + 2, 0, none⟩ = some (.int .i64 o.a) := row_cell hW.b5 0
    have c1 : wr.cell? ⟨w.heap.size + 2, 1, none⟩ = some (.int .i64 o.b) := row_cell hW.b5 1
    have c2 : wr.cell? ⟨w.heap.size + 2, 2, none⟩ = some (.int .i64 o.c) := row_cell hW.b5 2
    clear hall hW HW
    rcases (by omega : j = 0) with rfl
    · have FB : Hid (takenBad x o f i = false) := by show _ = _; unfold takenBad; rw [show tk x o f i 0 = false by show (x.ha && _) = false; rw [X0.out]; rfl, show tk x o f i 1 = false by show (x.hb && _) = false; rw [X1.out]; rfl, show tk x o f i 2 = false by show (x.hc && _) = false; rw [X2.out]; rfl]; rfl
      go_wp2
      go_ret
      exact ⟨by rw [FB.out]; rfl, HWr.out.fw.bel⟩

set_option maxHeartbeats 4000000 in
theorem taken_1 (lo hi has : Int) (gives leaves ends : Bool) (x : FL) (o : OpR) (bp : Option Addr) (i cap : Nat) (f : Nat → OpR) (w : World) (hm : RuOk ⟨lo, hi, 1, has, gives, leaves, ends⟩ x) (hi' : i ≤ 2048) (hO : OpsR w bp i f) :
    Calls Try.prog 167 #[.agg #[.int .u8 lo, .int .u8 hi, .int .u8 1, .int .u8 has, .bool gives, .bool leaves, .bool ends], .agg #[.int .i64 o.kind, .int .i64 o.w, .int .i64 o.a, .int .i64 o.b, .int .i64 o.c, .int .u32 o.k, .int .i64 o.n], .slice bp i cap] w
      fun e w' => e = .returned (.bool (!(takenBad x o f i))) ∧ Below w.heap.size w w' := by
  have X0 : Hid (x.ha = true) := by show _ = _; rw [← hm.a]; rfl
  have X1 : Hid (x.hb = false) := by show _ = _; rw [← hm.b]; rfl
  have X2 : Hid (x.hc = false) := by show _ = _; rw [← hm.c]; rfl
  have HO : Hid _ := hO
  have i0 : (0 : Int) ≤ (i : Int) := by omega
  have i1 : (i : Int) ≤ 2048 := by omega
  clear hm hO hi'
  go_enter Try.func167, Try.ntmps167
  go_upto_region 2 with fail
  have HW : Hid (FT w _ ⟨lo, hi, 1, has, gives, leaves, ends⟩ o) := FT.start w ⟨lo, hi, 1, has, gives, leaves, ends⟩ o
  go_wp2
  go_loopw [21] (fun i' wr => ∃ j : Nat, i' = .int .i64 j ∧ j ≤ 1 ∧ (∀ p, p < j → tk x o f i p = false) ∧ FT w wr ⟨lo, hi, 1, has, gives, leaves, ends⟩ o) (fun i _ => 1 - (intOf i).toNat)
  case atStart => exact ⟨0, rfl, by omega, fun p hp => absurd hp (Nat.not_lt_zero p), HW.out⟩
  case round =>
    obtain ⟨j, rfl, hj, hall, hW⟩ := hrel
    have HA : Hid _ := hall
    have HWr : Hid _ := hW
    have l3 := row_lt hW.fw.b3
    have l4 := row_lt hW.fw.b4
    have l5 := row_lt hW.b5
    have l3' := Nat.lt_succ_of_lt l3
    have c0 : wr.cell? ⟨w.heap.size + 2, 0, none⟩ = some (.int .i64 o.a) := row_cell hW.b5 0
    have c1 : wr.cell? ⟨w.heap.size + 2, 1, none⟩ = some (.int .i64 o.b) := row_cell hW.b5 1
    have c2 : wr.cell? ⟨w.heap.size + 2, 2, none⟩ = some (.int .i64 o.c) := row_cell hW.b5 2
    clear hall hW HW
    rcases (by omega : j = 0 ∨ j = 1) with rfl | rfl
    · by_cases hin : 0 ≤ o.a ∧ o.a < i
      · obtain ⟨q0, q1⟩ := hin
        have hin : 0 ≤ o.a ∧ o.a < i := ⟨q0, q1⟩
        have d1 : decide (0 ≤ o.a ∧ o.a ≤ (i : Int) - 1) = true := decide_eq_true (by omega)
        have hqi : o.a.toNat < i := by omega
        obtain ⟨b, off, rfl, hb, hc⟩ := HO.out (by omega)
        have hk : wr.cell? ⟨b, off + o.a.toNat * 7, none⟩ = some (.int .i64 (f o.a.toNat).kind) := ((hc o.a.toNat hqi).below HWr.out.fw.bel hb).c0
        obtain ⟨g, hg⟩ : ∃ g, (rr (f o.a.toNat).kind).gives = g := ⟨_, rfl⟩
        have HGV : Hid (gvn f i o.a = g) := by show _ = _; unfold gvn; rw [decide_eq_true hin, ← hg]; rfl
        have HD : Hid _ := d1
        have HG : Hid _ := hg
        have lb : b < wr.heap.size := by have := HWr.out.fw.bel.size; omega
        have lb' := Nat.lt_succ_of_lt lb
        have ne : b ≠ wr.heap.size := by omega
        clear hin hc hb d1 hg hqi
        cases g with
        | true =>
          go_wp2_with (first
            | (go_at_call 115; refine (within_any o.a ((i : Int) - 1) _).mono ?_; rintro e w1 ⟨rfl, rfl⟩; rw [HD.out])
            | (go_at_call 186; refine (pgives_any (f o.a.toNat).kind _).mono ?_; rintro e w1 ⟨rfl, h1⟩; rw [HG.out]))
          go_round
          case rel => exact ⟨1, by go_num, by omega, fun p hp => by
              rcases Nat.lt_succ_iff_lt_or_eq.1 hp with h | rfl
              · exact HA.out p h
              · show (x.ha && !(gvn f i o.a)) = false; rw [HGV.out]; simp, HWr.out.next h1⟩
          case measure => simp [intOf]
        | false =>
          have FB : Hid (takenBad x o f i = true) := by show _ = _; unfold takenBad; rw [show tk x o f i 0 = true by show (x.ha && !(gvn f i o.a)) = true; rw [X0.out, HGV.out]; rfl]; simp
          go_wp2_with (first
            | (go_at_call 115; refine (within_any o.a ((i : Int) - 1) _).mono ?_; rintro e w1 ⟨rfl, rfl⟩; rw [HD.out])
            | (go_at_call 186; refine (pgives_any (f o.a.toNat).kind _).mono ?_; rintro e w1 ⟨rfl, h1⟩; rw [HG.out]))
          go_ret
          exact ⟨by rw [FB.out]; rfl, (HWr.out.next h1).fw.bel⟩
      · have d1 : decide (0 ≤ o.a ∧ o.a ≤ (i : Int) - 1) = false := decide_eq_false (by omega)
        have HGV : Hid (gvn f i o.a = false) := by show _ = _; unfold gvn; rw [decide_eq_false hin]; rfl
        have FB : Hid (takenBad x o f i = true) := by show _ = _; unfold takenBad; rw [show tk x o f i 0 = true by show (x.ha && !(gvn f i o.a)) = true; rw [X0.out, HGV.out]; rfl]; simp
        have HD : Hid _ := d1
        clear hin d1
        go_wp2_with (go_at_call 115; refine (within_any o.a ((i : Int) - 1) _).mono ?_; rintro e w1 ⟨rfl, rfl⟩; rw [HD.out])
        go_ret
        exact ⟨by rw [FB.out]; rfl, HWr.out.fw.bel⟩
    · have FB : Hid (takenBad x o f i = false) := by show _ = _; unfold takenBad; rw [HA.out 0 (by omega), show tk x o f i 1 = false by show (x.hb && _) = false; rw [X1.out]; rfl, show tk x o f i 2 = false by show (x.hc && _) = false; rw [X2.out]; rfl]; rfl
      go_wp2
      go_ret
      exact ⟨by rw [FB.out]; rfl, HWr.out.fw.bel⟩

set_option maxHeartbeats 4000000 in
theorem taken_2 (lo hi has : Int) (gives leaves ends : Bool) (x : FL) (o : OpR) (bp : Option Addr) (i cap : Nat) (f : Nat → OpR) (w : World) (hm : RuOk ⟨lo, hi, 2, has, gives, leaves, ends⟩ x) (hi' : i ≤ 2048) (hO : OpsR w bp i f) :
    Calls Try.prog 167 #[.agg #[.int .u8 lo, .int .u8 hi, .int .u8 2, .int .u8 has, .bool gives, .bool leaves, .bool ends], .agg #[.int .i64 o.kind, .int .i64 o.w, .int .i64 o.a, .int .i64 o.b, .int .i64 o.c, .int .u32 o.k, .int .i64 o.n], .slice bp i cap] w
      fun e w' => e = .returned (.bool (!(takenBad x o f i))) ∧ Below w.heap.size w w' := by
  have X0 : Hid (x.ha = true) := by show _ = _; rw [← hm.a]; rfl
  have X1 : Hid (x.hb = true) := by show _ = _; rw [← hm.b]; rfl
  have X2 : Hid (x.hc = false) := by show _ = _; rw [← hm.c]; rfl
  have HO : Hid _ := hO
  have i0 : (0 : Int) ≤ (i : Int) := by omega
  have i1 : (i : Int) ≤ 2048 := by omega
  clear hm hO hi'
  go_enter Try.func167, Try.ntmps167
  go_upto_region 2 with fail
  have HW : Hid (FT w _ ⟨lo, hi, 2, has, gives, leaves, ends⟩ o) := FT.start w ⟨lo, hi, 2, has, gives, leaves, ends⟩ o
  go_wp2
  go_loopw [21] (fun i' wr => ∃ j : Nat, i' = .int .i64 j ∧ j ≤ 2 ∧ (∀ p, p < j → tk x o f i p = false) ∧ FT w wr ⟨lo, hi, 2, has, gives, leaves, ends⟩ o) (fun i _ => 2 - (intOf i).toNat)
  case atStart => exact ⟨0, rfl, by omega, fun p hp => absurd hp (Nat.not_lt_zero p), HW.out⟩
  case round =>
    obtain ⟨j, rfl, hj, hall, hW⟩ := hrel
    have HA : Hid _ := hall
    have HWr : Hid _ := hW
    have l3 := row_lt hW.fw.b3
    have l4 := row_lt hW.fw.b4
    have l5 := row_lt hW.b5
    have l3' := Nat.lt_succ_of_lt l3
    have c0 : wr.cell? ⟨w.heap.size + 2, 0, none⟩ = some (.int .i64 o.a) := row_cell hW.b5 0
    have c1 : wr.cell? ⟨w.heap.size + 2, 1, none⟩ = some (.int .i64 o.b) := row_cell hW.b5 1
    have c2 : wr.cell? ⟨w.heap.size + 2, 2, none⟩ = some (.int .i64 o.c) := row_cell hW.b5 2
    clear hall hW HW
    rcases (by omega : j = 0 ∨ j = 1 ∨ j = 2) with rfl | rfl | rfl
    · by_cases hin : 0 ≤ o.a ∧ o.a < i
      · obtain ⟨q0, q1⟩ := hin
        have hin : 0 ≤ o.a ∧ o.a < i := ⟨q0, q1⟩
        have d1 : decide (0 ≤ o.a ∧ o.a ≤ (i : Int) - 1) = true := decide_eq_true (by omega)
        have hqi : o.a.toNat < i := by omega
        obtain ⟨b, off, rfl, hb, hc⟩ := HO.out (by omega)
        have hk : wr.cell? ⟨b, off + o.a.toNat * 7, none⟩ = some (.int .i64 (f o.a.toNat).kind) := ((hc o.a.toNat hqi).below HWr.out.fw.bel hb).c0
        obtain ⟨g, hg⟩ : ∃ g, (rr (f o.a.toNat).kind).gives = g := ⟨_, rfl⟩
        have HGV : Hid (gvn f i o.a = g) := by show _ = _; unfold gvn; rw [decide_eq_true hin, ← hg]; rfl
        have HD : Hid _ := d1
        have HG : Hid _ := hg
        have lb : b < wr.heap.size := by have := HWr.out.fw.bel.size; omega
        have lb' := Nat.lt_succ_of_lt lb
        have ne : b ≠ wr.heap.size := by omega
        clear hin hc hb d1 hg hqi
        cases g with
        | true =>
          go_wp2_with (first
            | (go_at_call 115; refine (within_any o.a ((i : Int) - 1) _).mono ?_; rintro e w1 ⟨rfl, rfl⟩; rw [HD.out])
            | (go_at_call 186; refine (pgives_any (f o.a.toNat).kind _).mono ?_; rintro e w1 ⟨rfl, h1⟩; rw [HG.out]))
          go_round
          case rel => exact ⟨1, by go_num, by omega, fun p hp => by
              rcases Nat.lt_succ_iff_lt_or_eq.1 hp with h | rfl
              · exact HA.out p h
              · show (x.ha && !(gvn f i o.a)) = false; rw [HGV.out]; simp, HWr.out.next h1⟩
          case measure => simp [intOf]
        | false =>
          have FB : Hid (takenBad x o f i = true) := by show _ = _; unfold takenBad; rw [show tk x o f i 0 = true by show (x.ha && !(gvn f i o.a)) = true; rw [X0.out, HGV.out]; rfl]; simp
          go_wp2_with (first
            | (go_at_call 115; refine (within_any o.a ((i : Int) - 1) _).mono ?_; rintro e w1 ⟨rfl, rfl⟩; rw [HD.out])
            | (go_at_call 186; refine (pgives_any (f o.a.toNat).kind _).mono ?_; rintro e w1 ⟨rfl, h1⟩; rw [HG.out]))
          go_ret
          exact ⟨by rw [FB.out]; rfl, (HWr.out.next h1).fw.bel⟩
      · have d1 : decide (0 ≤ o.a ∧ o.a ≤ (i : Int) - 1) = false := decide_eq_false (by omega)
        have HGV : Hid (gvn f i o.a = false) := by show _ = _; unfold gvn; rw [decide_eq_false hin]; rfl
        have FB : Hid (takenBad x o f i = true) := by show _ = _; unfold takenBad; rw [show tk x o f i 0 = true by show (x.ha && !(gvn f i o.a)) = true; rw [X0.out, HGV.out]; rfl]; simp
        have HD : Hid _ := d1
        clear hin d1
        go_wp2_with (go_at_call 115; refine (within_any o.a ((i : Int) - 1) _).mono ?_; rintro e w1 ⟨rfl, rfl⟩; rw [HD.out])
        go_ret
        exact ⟨by rw [FB.out]; rfl, HWr.out.fw.bel⟩
    · by_cases hin : 0 ≤ o.b ∧ o.b < i
      · obtain ⟨q0, q1⟩ := hin
        have hin : 0 ≤ o.b ∧ o.b < i := ⟨q0, q1⟩
        have d1 : decide (0 ≤ o.b ∧ o.b ≤ (i : Int) - 1) = true := decide_eq_true (by omega)
        have hqi : o.b.toNat < i := by omega
        obtain ⟨b, off, rfl, hb, hc⟩ := HO.out (by omega)
        have hk : wr.cell? ⟨b, off + o.b.toNat * 7, none⟩ = some (.int .i64 (f o.b.toNat).kind) := ((hc o.b.toNat hqi).below HWr.out.fw.bel hb).c0
        obtain ⟨g, hg⟩ : ∃ g, (rr (f o.b.toNat).kind).gives = g := ⟨_, rfl⟩
        have HGV : Hid (gvn f i o.b = g) := by show _ = _; unfold gvn; rw [decide_eq_true hin, ← hg]; rfl
        have HD : Hid _ := d1
        have HG : Hid _ := hg
        have lb : b < wr.heap.size := by have := HWr.out.fw.bel.size; omega
        have lb' := Nat.lt_succ_of_lt lb
        have ne : b ≠ wr.heap.size := by omega
        clear hin hc hb d1 hg hqi
        cases g with
        | true =>
          go_wp2_with (first
            | (go_at_call 115; refine (within_any o.b ((i : Int) - 1) _).mono ?_; rintro e w1 ⟨rfl, rfl⟩; rw [HD.out])
            | (go_at_call 186; refine (pgives_any (f o.b.toNat).kind _).mono ?_; rintro e w1 ⟨rfl, h1⟩; rw [HG.out]))
          go_round
          case rel => exact ⟨2, by go_num, by omega, fun p hp => by
              rcases Nat.lt_succ_iff_lt_or_eq.1 hp with h | rfl
              · exact HA.out p h
              · show (x.hb && !(gvn f i o.b)) = false; rw [HGV.out]; simp, HWr.out.next h1⟩
          case measure => simp [intOf]
        | false =>
          have FB : Hid (takenBad x o f i = true) := by show _ = _; unfold takenBad; rw [show tk x o f i 1 = true by show (x.hb && !(gvn f i o.b)) = true; rw [X1.out, HGV.out]; rfl]; simp
          go_wp2_with (first
            | (go_at_call 115; refine (within_any o.b ((i : Int) - 1) _).mono ?_; rintro e w1 ⟨rfl, rfl⟩; rw [HD.out])
            | (go_at_call 186; refine (pgives_any (f o.b.toNat).kind _).mono ?_; rintro e w1 ⟨rfl, h1⟩; rw [HG.out]))
          go_ret
          exact ⟨by rw [FB.out]; rfl, (HWr.out.next h1).fw.bel⟩
      · have d1 : decide (0 ≤ o.b ∧ o.b ≤ (i : Int) - 1) = false := decide_eq_false (by omega)
        have HGV : Hid (gvn f i o.b = false) := by show _ = _; unfold gvn; rw [decide_eq_false hin]; rfl
        have FB : Hid (takenBad x o f i = true) := by show _ = _; unfold takenBad; rw [show tk x o f i 1 = true by show (x.hb && !(gvn f i o.b)) = true; rw [X1.out, HGV.out]; rfl]; simp
        have HD : Hid _ := d1
        clear hin d1
        go_wp2_with (go_at_call 115; refine (within_any o.b ((i : Int) - 1) _).mono ?_; rintro e w1 ⟨rfl, rfl⟩; rw [HD.out])
        go_ret
        exact ⟨by rw [FB.out]; rfl, HWr.out.fw.bel⟩
    · have FB : Hid (takenBad x o f i = false) := by show _ = _; unfold takenBad; rw [HA.out 0 (by omega), HA.out 1 (by omega), show tk x o f i 2 = false by show (x.hc && _) = false; rw [X2.out]; rfl]; rfl
      go_wp2
      go_ret
      exact ⟨by rw [FB.out]; rfl, HWr.out.fw.bel⟩

set_option maxHeartbeats 4000000 in
theorem taken_3 (lo hi has : Int) (gives leaves ends : Bool) (x : FL) (o : OpR) (bp : Option Addr) (i cap : Nat) (f : Nat → OpR) (w : World) (hm : RuOk ⟨lo, hi, 3, has, gives, leaves, ends⟩ x) (hi' : i ≤ 2048) (hO : OpsR w bp i f) :
    Calls Try.prog 167 #[.agg #[.int .u8 lo, .int .u8 hi, .int .u8 3, .int .u8 has, .bool gives, .bool leaves, .bool ends], .agg #[.int .i64 o.kind, .int .i64 o.w, .int .i64 o.a, .int .i64 o.b, .int .i64 o.c, .int .u32 o.k, .int .i64 o.n], .slice bp i cap] w
      fun e w' => e = .returned (.bool (!(takenBad x o f i))) ∧ Below w.heap.size w w' := by
  have X0 : Hid (x.ha = true) := by show _ = _; rw [← hm.a]; rfl
  have X1 : Hid (x.hb = true) := by show _ = _; rw [← hm.b]; rfl
  have X2 : Hid (x.hc = true) := by show _ = _; rw [← hm.c]; rfl
  have HO : Hid _ := hO
  have i0 : (0 : Int) ≤ (i : Int) := by omega
  have i1 : (i : Int) ≤ 2048 := by omega
  clear hm hO hi'
  go_enter Try.func167, Try.ntmps167
  go_upto_region 2 with fail
  have HW : Hid (FT w _ ⟨lo, hi, 3, has, gives, leaves, ends⟩ o) := FT.start w ⟨lo, hi, 3, has, gives, leaves, ends⟩ o
  go_wp2
  go_loopw [21] (fun i' wr => ∃ j : Nat, i' = .int .i64 j ∧ j ≤ 3 ∧ (∀ p, p < j → tk x o f i p = false) ∧ FT w wr ⟨lo, hi, 3, has, gives, leaves, ends⟩ o) (fun i _ => 3 - (intOf i).toNat)
  case atStart => exact ⟨0, rfl, by omega, fun p hp => absurd hp (Nat.not_lt_zero p), HW.out⟩
  case round =>
    obtain ⟨j, rfl, hj, hall, hW⟩ := hrel
    have HA : Hid _ := hall
    have HWr : Hid _ := hW
    have l3 := row_lt hW.fw.b3
    have l4 := row_lt hW.fw.b4
    have l5 := row_lt hW.b5
    have l3' := Nat.lt_succ_of_lt l3
    have c0 : wr.cell? ⟨w.heap.size + 2, 0, none⟩ = some (.int .i64 o.a) := row_cell hW.b5 0
    have c1 : wr.cell? ⟨w.heap.size + 2, 1, none⟩ = some (.int .i64 o.b) := row_cell hW.b5 1
    have c2 : wr.cell? ⟨w.heap.size + 2, 2, none⟩ = some (.int .i64 o.c) := row_cell hW.b5 2
    clear hall hW HW
    rcases (by omega : j = 0 ∨ j = 1 ∨ j = 2 ∨ j = 3) with rfl | rfl | rfl | rfl
    · by_cases hin : 0 ≤ o.a ∧ o.a < i
      · obtain ⟨q0, q1⟩ := hin
        have hin : 0 ≤ o.a ∧ o.a < i := ⟨q0, q1⟩
        have d1 : decide (0 ≤ o.a ∧ o.a ≤ (i : Int) - 1) = true := decide_eq_true (by omega)
        have hqi : o.a.toNat < i := by omega
        obtain ⟨b, off, rfl, hb, hc⟩ := HO.out (by omega)
        have hk : wr.cell? ⟨b, off + o.a.toNat * 7, none⟩ = some (.int .i64 (f o.a.toNat).kind) := ((hc o.a.toNat hqi).below HWr.out.fw.bel hb).c0
        obtain ⟨g, hg⟩ : ∃ g, (rr (f o.a.toNat).kind).gives = g := ⟨_, rfl⟩
        have HGV : Hid (gvn f i o.a = g) := by show _ = _; unfold gvn; rw [decide_eq_true hin, ← hg]; rfl
        have HD : Hid _ := d1
        have HG : Hid _ := hg
        have lb : b < wr.heap.size := by have := HWr.out.fw.bel.size; omega
        have lb' := Nat.lt_succ_of_lt lb
        have ne : b ≠ wr.heap.size := by omega
        clear hin hc hb d1 hg hqi
        cases g with
        | true =>
          go_wp2_with (first
            | (go_at_call 115; refine (within_any o.a ((i : Int) - 1) _).mono ?_; rintro e w1 ⟨rfl, rfl⟩; rw [HD.out])
            | (go_at_call 186; refine (pgives_any (f o.a.toNat).kind _).mono ?_; rintro e w1 ⟨rfl, h1⟩; rw [HG.out]))
          go_round
          case rel => exact ⟨1, by go_num, by omega, fun p hp => by
              rcases Nat.lt_succ_iff_lt_or_eq.1 hp with h | rfl
              · exact HA.out p h
              · show (x.ha && !(gvn f i o.a)) = false; rw [HGV.out]; simp, HWr.out.next h1⟩
          case measure => simp [intOf]
        | false =>
          have FB : Hid (takenBad x o f i = true) := by show _ = _; unfold takenBad; rw [show tk x o f i 0 = true by show (x.ha && !(gvn f i o.a)) = true; rw [X0.out, HGV.out]; rfl]; simp
          go_wp2_with (first
            | (go_at_call 115; refine (within_any o.a ((i : Int) - 1) _).mono ?_; rintro e w1 ⟨rfl, rfl⟩; rw [HD.out])
            | (go_at_call 186; refine (pgives_any (f o.a.toNat).kind _).mono ?_; rintro e w1 ⟨rfl, h1⟩; rw [HG.out]))
          go_ret
          exact ⟨by rw [FB.out]; rfl, (HWr.out.next h1).fw.bel⟩
      · have d1 : decide (0 ≤ o.a ∧ o.a ≤ (i : Int) - 1) = false := decide_eq_false (by omega)
        have HGV : Hid (gvn f i o.a = false) := by show _ = _; unfold gvn; rw [decide_eq_false hin]; rfl
        have FB : Hid (takenBad x o f i = true) := by show _ = _; unfold takenBad; rw [show tk x o f i 0 = true by show (x.ha && !(gvn f i o.a)) = true; rw [X0.out, HGV.out]; rfl]; simp
        have HD : Hid _ := d1
        clear hin d1
        go_wp2_with (go_at_call 115; refine (within_any o.a ((i : Int) - 1) _).mono ?_; rintro e w1 ⟨rfl, rfl⟩; rw [HD.out])
        go_ret
        exact ⟨by rw [FB.out]; rfl, HWr.out.fw.bel⟩
    · by_cases hin : 0 ≤ o.b ∧ o.b < i
      · obtain ⟨q0, q1⟩ := hin
        have hin : 0 ≤ o.b ∧ o.b < i := ⟨q0, q1⟩
        have d1 : decide (0 ≤ o.b ∧ o.b ≤ (i : Int) - 1) = true := decide_eq_true (by omega)
        have hqi : o.b.toNat < i := by omega
        obtain ⟨b, off, rfl, hb, hc⟩ := HO.out (by omega)
        have hk : wr.cell? ⟨b, off + o.b.toNat * 7, none⟩ = some (.int .i64 (f o.b.toNat).kind) := ((hc o.b.toNat hqi).below HWr.out.fw.bel hb).c0
        obtain ⟨g, hg⟩ : ∃ g, (rr (f o.b.toNat).kind).gives = g := ⟨_, rfl⟩
        have HGV : Hid (gvn f i o.b = g) := by show _ = _; unfold gvn; rw [decide_eq_true hin, ← hg]; rfl
        have HD : Hid _ := d1
        have HG : Hid _ := hg
        have lb : b < wr.heap.size := by have := HWr.out.fw.bel.size; omega
        have lb' := Nat.lt_succ_of_lt lb
        have ne : b ≠ wr.heap.size := by omega
        clear hin hc hb d1 hg hqi
        cases g with
        | true =>
          go_wp2_with (first
            | (go_at_call 115; refine (within_any o.b ((i : Int) - 1) _).mono ?_; rintro e w1 ⟨rfl, rfl⟩; rw [HD.out])
            | (go_at_call 186; refine (pgives_any (f o.b.toNat).kind _).mono ?_; rintro e w1 ⟨rfl, h1⟩; rw [HG.out]))
          go_round
          case rel => exact ⟨2, by go_num, by omega, fun p hp => by
              rcases Nat.lt_succ_iff_lt_or_eq.1 hp with h | rfl
              · exact HA.out p h
              · show (x.hb && !(gvn f i o.b)) = false; rw [HGV.out]; simp, HWr.out.next h1⟩
          case measure => simp [intOf]
        | false =>
          have FB : Hid (takenBad x o f i = true) := by show _ = _; unfold takenBad; rw [show tk x o f i 1 = true by show (x.hb && !(gvn f i o.b)) = true; rw [X1.out, HGV.out]; rfl]; simp
          go_wp2_with (first
            | (go_at_call 115; refine (within_any o.b ((i : Int) - 1) _).mono ?_; rintro e w1 ⟨rfl, rfl⟩; rw [HD.out])
            | (go_at_call 186; refine (pgives_any (f o.b.toNat).kind _).mono ?_; rintro e w1 ⟨rfl, h1⟩; rw [HG.out]))
          go_ret
          exact ⟨by rw [FB.out]; rfl, (HWr.out.next h1).fw.bel⟩
      · have d1 : decide (0 ≤ o.b ∧ o.b ≤ (i : Int) - 1) = false := decide_eq_false (by omega)
        have HGV : Hid (gvn f i o.b = false) := by show _ = _; unfold gvn; rw [decide_eq_false hin]; rfl
        have FB : Hid (takenBad x o f i = true) := by show _ = _; unfold takenBad; rw [show tk x o f i 1 = true by show (x.hb && !(gvn f i o.b)) = true; rw [X1.out, HGV.out]; rfl]; simp
        have HD : Hid _ := d1
        clear hin d1
        go_wp2_with (go_at_call 115; refine (within_any o.b ((i : Int) - 1) _).mono ?_; rintro e w1 ⟨rfl, rfl⟩; rw [HD.out])
        go_ret
        exact ⟨by rw [FB.out]; rfl, HWr.out.fw.bel⟩
    · by_cases hin : 0 ≤ o.c ∧ o.c < i
      · obtain ⟨q0, q1⟩ := hin
        have hin : 0 ≤ o.c ∧ o.c < i := ⟨q0, q1⟩
        have d1 : decide (0 ≤ o.c ∧ o.c ≤ (i : Int) - 1) = true := decide_eq_true (by omega)
        have hqi : o.c.toNat < i := by omega
        obtain ⟨b, off, rfl, hb, hc⟩ := HO.out (by omega)
        have hk : wr.cell? ⟨b, off + o.c.toNat * 7, none⟩ = some (.int .i64 (f o.c.toNat).kind) := ((hc o.c.toNat hqi).below HWr.out.fw.bel hb).c0
        obtain ⟨g, hg⟩ : ∃ g, (rr (f o.c.toNat).kind).gives = g := ⟨_, rfl⟩
        have HGV : Hid (gvn f i o.c = g) := by show _ = _; unfold gvn; rw [decide_eq_true hin, ← hg]; rfl
        have HD : Hid _ := d1
        have HG : Hid _ := hg
        have lb : b < wr.heap.size := by have := HWr.out.fw.bel.size; omega
        have lb' := Nat.lt_succ_of_lt lb
        have ne : b ≠ wr.heap.size := by omega
        clear hin hc hb d1 hg hqi
        cases g with
        | true =>
          go_wp2_with (first
            | (go_at_call 115; refine (within_any o.c ((i : Int) - 1) _).mono ?_; rintro e w1 ⟨rfl, rfl⟩; rw [HD.out])
            | (go_at_call 186; refine (pgives_any (f o.c.toNat).kind _).mono ?_; rintro e w1 ⟨rfl, h1⟩; rw [HG.out]))
          go_round
          case rel => exact ⟨3, by go_num, by omega, fun p hp => by
              rcases Nat.lt_succ_iff_lt_or_eq.1 hp with h | rfl
              · exact HA.out p h
              · show (x.hc && !(gvn f i o.c)) = false; rw [HGV.out]; simp, HWr.out.next h1⟩
          case measure => simp [intOf]
        | false =>
          have FB : Hid (takenBad x o f i = true) := by show _ = _; unfold takenBad; rw [show tk x o f i 2 = true by show (x.hc && !(gvn f i o.c)) = true; rw [X2.out, HGV.out]; rfl]; simp
          go_wp2_with (first
            | (go_at_call 115; refine (within_any o.c ((i : Int) - 1) _).mono ?_; rintro e w1 ⟨rfl, rfl⟩; rw [HD.out])
            | (go_at_call 186; refine (pgives_any (f o.c.toNat).kind _).mono ?_; rintro e w1 ⟨rfl, h1⟩; rw [HG.out]))
          go_ret
          exact ⟨by rw [FB.out]; rfl, (HWr.out.next h1).fw.bel⟩
      · have d1 : decide (0 ≤ o.c ∧ o.c ≤ (i : Int) - 1) = false := decide_eq_false (by omega)
        have HGV : Hid (gvn f i o.c = false) := by show _ = _; unfold gvn; rw [decide_eq_false hin]; rfl
        have FB : Hid (takenBad x o f i = true) := by show _ = _; unfold takenBad; rw [show tk x o f i 2 = true by show (x.hc && !(gvn f i o.c)) = true; rw [X2.out, HGV.out]; rfl]; simp
        have HD : Hid _ := d1
        clear hin d1
        go_wp2_with (go_at_call 115; refine (within_any o.c ((i : Int) - 1) _).mono ?_; rintro e w1 ⟨rfl, rfl⟩; rw [HD.out])
        go_ret
        exact ⟨by rw [FB.out]; rfl, HWr.out.fw.bel⟩
    · have FB : Hid (takenBad x o f i = false) := by show _ = _; unfold takenBad; rw [HA.out 0 (by omega), HA.out 1 (by omega), HA.out 2 (by omega)]; rfl
      go_wp2
      go_ret
      exact ⟨by rw [FB.out]; rfl, HWr.out.fw.bel⟩

theorem taken_any (r : RU) (x : FL) (o : OpR) (bp : Option Addr) (i cap : Nat) (f : Nat → OpR) (w : World) (hm : RuOk r x) (hi' : i ≤ 2048) (hO : OpsR w bp i f) :
    Calls Try.prog 167 #[.agg #[.int .u8 r.lo, .int .u8 r.hi, .int .u8 r.takes, .int .u8 r.has, .bool r.gives, .bool r.leaves, .bool r.ends], .agg #[.int .i64 o.kind, .int .i64 o.w, .int .i64 o.a, .int .i64 o.b, .int .i64 o.c, .int .u32 o.k, .int .i64 o.n], .slice bp i cap] w
      fun e w' => e = .returned (.bool (!(takenBad x o f i))) ∧ Below w.heap.size w w' := by
  obtain ⟨lo, hi, takes, has, gives, leaves, ends⟩ := r
  have h0 : 0 ≤ takes := hm.t0
  have h3 : takes ≤ 3 := hm.t3
  rcases (by omega : takes = 0 ∨ takes = 1 ∨ takes = 2 ∨ takes = 3) with rfl | rfl | rfl | rfl
  · exact taken_0 lo hi has gives leaves ends x o bp i cap f w hm hi' hO
  · exact taken_1 lo hi has gives leaves ends x o bp i cap f w hm hi' hO
  · exact taken_2 lo hi has gives leaves ends x o bp i cap f w hm hi' hO
  · exact taken_3 lo hi has gives leaves ends x o bp i cap f w hm hi' hO
end Go.Proofs.Ytmnifblbacgeoab
namespace Go.Proofs.Ytmnifblbacgeoab
open Go.RowKit
set_option maxRecDepth 100000
set_option linter.unusedVariables false
set_option linter.unusedSimpArgs false

theorem wk_belT {w w1 : World} {o1 o2 : Obj} (h : Below ((w.alloc o1).alloc o2).heap.size ((w.alloc o1).alloc o2) w1) : Below w.heap.size w w1 := (wk_bel w o1 o2).trans (h.mono (by simp; omega))
theorem keep2 {w w1 : World} {o1 o2 : Obj} (h : Below ((w.alloc o1).alloc o2).heap.size ((w.alloc o1).alloc o2) w1) : w1.heap[w.heap.size]? = some o1 ∧ w1.heap[w.heap.size + 1]? = some o2 ∧ Below w.heap.size w w1 := by
  refine ⟨(h.block _ (by simp; omega)).trans (al2 w o1 o2).1, (h.block _ (by simp)).trans (al2 w o1 o2).2, wk_belT h⟩
theorem ru_bd (k : Int) : 0 ≤ (ru k).lo ∧ (ru k).lo ≤ 255 ∧ 0 ≤ (ru k).hi ∧ (ru k).hi ≤ 255 := by
  unfold ru ruT
  split <;> decide
structure KP (w wx : World) (V pc : Nat) (count bytes : Int) (bp : Option Addr) (n cap : Nat) (o : OpR) (R : RU) : Prop where
  b2 : wx.heap[w.heap.size]? = some (.cells #[.int .u32 pc, .int .i64 count, .int .i64 bytes, .slice bp n cap] 25)
  b5 : wx.heap[w.heap.size + 1]? = some (.cells #[.int .i64 o.kind, .int .i64 o.w, .int .i64 o.a, .int .i64 o.b, .int .i64 o.c, .int .u32 o.k, .int .i64 o.n] 67)
  b6 : wx.heap[V]? = some (.cells #[.int .u8 R.lo, .int .u8 R.hi, .int .u8 R.takes, .int .u8 R.has, .bool R.gives, .bool R.leaves, .bool R.ends] 202)
  bel : Below w.heap.size w wx
  lt : w.heap.size + 1 < V
theorem KP.next {w wx w' : World} {V pc : Nat} {count bytes : Int} {bp : Option Addr} {n cap : Nat} {o : OpR} {R : RU} (h : KP w wx V pc count bytes bp n cap o R) (k : Below wx.heap.size wx w') : KP w w' V pc count bytes bp n cap o R :=
  ⟨(k.block _ (row_lt h.b2)).trans h.b2, (k.block _ (row_lt h.b5)).trans h.b5, (k.block _ (row_lt h.b6)).trans h.b6, h.bel.trans (k.mono (Nat.le_of_lt (row_lt h.b2))), h.lt⟩
theorem KP.drew {w wx : World} {V pc : Nat} {count bytes : Int} {bp : Option Addr} {n cap : Nat} {o : OpR} {R : RU} (h : KP w wx V pc count bytes bp n cap o R) : KP w wx.drew V pc count bytes bp n cap o R := ⟨h.b2, h.b5, h.b6, h.bel.drew, h.lt⟩

set_option maxHeartbeats 4000000 in
theorem checkOp_any (pc : Nat) (count bytes : Int) (bp : Option Addr) (n cap i : Nat) (f : Nat → OpR) (w : World) (hO : OpsR w bp n f) (hi : i < n) (hn : n ≤ 2048) (hcap : n ≤ cap) :
    Calls Try.prog 116 #[.agg #[.int .u32 pc, .int .i64 count, .int .i64 bytes, .slice bp n cap], .int .i64 i] w fun e w' => e = .returned (.int .i64 (opErr count n f i)) ∧ Below w.heap.size w w' := by
  obtain ⟨b, off, rfl, hb, hc⟩ := hO (by omega)
  obtain ⟨o, HOO⟩ : ∃ o, Hid (f i = o) := ⟨_, rfl⟩
  have hat : OpAt w b (off + i * 7) o := HOO.out ▸ hc i hi
  obtain ⟨z0, z1, z2, z3, z4, z5, z6⟩ := hat
  obtain ⟨R, HR⟩ : ∃ R, Hid (ru o.kind = R) := ⟨_, rfl⟩
  obtain ⟨x, HX⟩ : ∃ x, Hid (flT o.kind.toNat = x) := ⟨_, rfl⟩
  have HO : Hid (OpsR w (some ⟨b, off, none⟩) n f) := hO
  have HI : Hid (i ≤ 2048) := show i ≤ 2048 by omega
  have HIN : Hid (i ≤ n) := show i ≤ n by omega
  have i0 : (0 : Int) ≤ (i : Int) := by omega
  have i1 : (i : Int) < (n : Int) := by omega
  have i2 : (i : Int) ≤ (n : Int) := by omega
  have n1 : (n : Int) ≤ 2048 := by omega
  have n0 : (0 : Int) ≤ (n : Int) := by omega
  have nc : (i : Int) ≤ (cap : Int) := by omega
  have hbd := ru_bd o.kind
  rw [HR.out] at hbd
  obtain ⟨lo0, lo1, hi0, hi1⟩ := hbd
  have lb' := Nat.lt_succ_of_lt hb
  have E0 : Hid (eOp o = (!(isK o.kind) || decide (o.w < R.lo) || decide (R.hi < o.w))) := by show _ = _; rw [← HR.out, (ru_rr o.kind).1, (ru_rr o.kind).2.1]; rfl
  have E1 : Hid (opErr count n f i = if eOp o then 2 else if fieldBad x o count then 3 else if takenBad x o f i then 6 else if R.ends && decide (i + 1 ≠ n) then 7 else 0) := by show _ = _; unfold opErr; rw [HOO.out, HX.out, ← (ru_rr o.kind).2.2.2, HR.out]
  clear hO hi hn hcap hc
  go_enter Try.func116, Try.ntmps116
  by_cases hk : isK o.kind = true
  · have HK : Hid (isK o.kind = true) := hk
    have hk' := (isK_iff _).1 hk
    have HM : Hid (RuOk R x) := by
      show _
      rw [← HR.out, ← HX.out]
      exact ru_ok _ (by omega) (by omega)
    clear hk'
    by_cases hw0 : o.w < R.lo
    · have d0 : decide (o.w < R.lo) = true := decide_eq_true hw0
      have HE : Hid (opErr count n f i = 2) := by show _ = _; rw [E1.out, E0.out, HK.out, d0]; rfl
      clear hk
      go_wp2_with (first
        | (go_at_call 117; refine (ruleOf_me o.kind R _ HR.out).mono ?_; rintro e w1 ⟨rfl, h1⟩; obtain ⟨B2, B5, BB1⟩ := keep2 h1; have HB2 : Hid _ := B2; have HB5 : Hid _ := B5; have HBB : Hid _ := BB1; have l5 := row_lt B5; have l2 := row_lt B2; have l5' := Nat.lt_succ_of_lt l5; have l2' := Nat.lt_succ_of_lt l2; have ab0 : w1.cell? ⟨w.heap.size, 0, none⟩ = some (.int .u32 pc) := row_cell HB2.out 0; have ab1 : w1.cell? ⟨w.heap.size, 1, none⟩ = some (.int .i64 count) := row_cell HB2.out 1; have ab2 : w1.cell? ⟨w.heap.size, 2, none⟩ = some (.int .i64 bytes) := row_cell HB2.out 2; have ab3 : w1.cell? ⟨w.heap.size, 3, none⟩ = some (.slice (some ⟨b, off, none⟩) n cap) := row_cell HB2.out 3; have ao0 : w1.cell? ⟨w.heap.size + 1, 0, none⟩ = some (.int .i64 o.kind) := row_cell HB5.out 0; have ao1 : w1.cell? ⟨w.heap.size + 1, 1, none⟩ = some (.int .i64 o.w) := row_cell HB5.out 1; have ao2 : w1.cell? ⟨w.heap.size + 1, 2, none⟩ = some (.int .i64 o.a) := row_cell HB5.out 2; have ao3 : w1.cell? ⟨w.heap.size + 1, 3, none⟩ = some (.int .i64 o.b) := row_cell HB5.out 3; have ao4 : w1.cell? ⟨w.heap.size + 1, 4, none⟩ = some (.int .i64 o.c) := row_cell HB5.out 4; have ao5 : w1.cell? ⟨w.heap.size + 1, 5, none⟩ = some (.int .u32 o.k) := row_cell HB5.out 5; have ao6 : w1.cell? ⟨w.heap.size + 1, 6, none⟩ = some (.int .i64 o.n) := row_cell HB5.out 6; clear h1 B2 B5 BB1)
        | (go_at_call 165; refine (isKind_any o.kind _).mono ?_; rintro e w9 ⟨rfl, rfl⟩; rw [HK.out]))
      go_ret
      exact ⟨by rw [HE.out]; rfl, (show KP w (w1.alloc (.cells #[.int .u8 R.lo, .int .u8 R.hi, .int .u8 R.takes, .int .u8 R.has, .bool R.gives, .bool R.leaves, .bool R.ends] 202)) w1.heap.size pc count bytes (some ⟨b, off, none⟩) n cap o R from ⟨(al_old _ _ _ l2).trans HB2.out, (al_old _ _ _ l5).trans HB5.out, heap_alloc_last w1 _, HBB.out.alloc (Nat.le_of_lt l2) _, l5⟩).bel⟩
    · have d0 : decide (o.w < R.lo) = false := decide_eq_false hw0
      by_cases hw1 : R.hi < o.w
      · have d1 : decide (R.hi < o.w) = true := decide_eq_true hw1
        have HE : Hid (opErr count n f i = 2) := by show _ = _; rw [E1.out, E0.out, HK.out, d0, d1]; rfl
        clear hk
        go_wp2_with (first
          | (go_at_call 117; refine (ruleOf_me o.kind R _ HR.out).mono ?_; rintro e w1 ⟨rfl, h1⟩; obtain ⟨B2, B5, BB1⟩ := keep2 h1; have HB2 : Hid _ := B2; have HB5 : Hid _ := B5; have HBB : Hid _ := BB1; have l5 := row_lt B5; have l2 := row_lt B2; have l5' := Nat.lt_succ_of_lt l5; have l2' := Nat.lt_succ_of_lt l2; have ab0 : w1.cell? ⟨w.heap.size, 0, none⟩ = some (.int .u32 pc) := row_cell HB2.out 0; have ab1 : w1.cell? ⟨w.heap.size, 1, none⟩ = some (.int .i64 count) := row_cell HB2.out 1; have ab2 : w1.cell? ⟨w.heap.size, 2, none⟩ = some (.int .i64 bytes) := row_cell HB2.out 2; have ab3 : w1.cell? ⟨w.heap.size, 3, none⟩ = some (.slice (some ⟨b, off, none⟩) n cap) := row_cell HB2.out 3; have ao0 : w1.cell? ⟨w.heap.size + 1, 0, none⟩ = some (.int .i64 o.kind) := row_cell HB5.out 0; have ao1 : w1.cell? ⟨w.heap.size + 1, 1, none⟩ = some (.int .i64 o.w) := row_cell HB5.out 1; have ao2 : w1.cell? ⟨w.heap.size + 1, 2, none⟩ = some (.int .i64 o.a) := row_cell HB5.out 2; have ao3 : w1.cell? ⟨w.heap.size + 1, 3, none⟩ = some (.int .i64 o.b) := row_cell HB5.out 3; have ao4 : w1.cell? ⟨w.heap.size + 1, 4, none⟩ = some (.int .i64 o.c) := row_cell HB5.out 4; have ao5 : w1.cell? ⟨w.heap.size + 1, 5, none⟩ = some (.int .u32 o.k) := row_cell HB5.out 5; have ao6 : w1.cell? ⟨w.heap.size + 1, 6, none⟩ = some (.int .i64 o.n) := row_cell HB5.out 6; clear h1 B2 B5 BB1)
          | (go_at_call 165; refine (isKind_any o.kind _).mono ?_; rintro e w9 ⟨rfl, rfl⟩; rw [HK.out]))
        go_ret
        exact ⟨by rw [HE.out]; rfl, (show KP w (w1.alloc (.cells #[.int .u8 R.lo, .int .u8 R.hi, .int .u8 R.takes, .int .u8 R.has, .bool R.gives, .bool R.leaves, .bool R.ends] 202)) w1.heap.size pc count bytes (some ⟨b, off, none⟩) n cap o R from ⟨(al_old _ _ _ l2).trans HB2.out, (al_old _ _ _ l5).trans HB5.out, heap_alloc_last w1 _, HBB.out.alloc (Nat.le_of_lt l2) _, l5⟩).bel⟩
      · have d1 : decide (R.hi < o.w) = false := decide_eq_false hw1
        have E2 : Hid (eOp o = false) := by show _ = _; rw [E0.out, HK.out, d0, d1]; rfl
        clear hk
        obtain ⟨fb, HFB⟩ : ∃ fb, Hid (fieldBad x o count = fb) := ⟨_, rfl⟩
        cases fb with
        | true =>
          have HE : Hid (opErr count n f i = 3) := by show _ = _; rw [E1.out, E2.out, HFB.out]; rfl
          go_wp2_with (first
            | (go_at_call 117; refine (ruleOf_me o.kind R _ HR.out).mono ?_; rintro e w1 ⟨rfl, h1⟩; obtain ⟨B2, B5, BB1⟩ := keep2 h1; have HB2 : Hid _ := B2; have HB5 : Hid _ := B5; have HBB : Hid _ := BB1; have l5 := row_lt B5; have l2 := row_lt B2; have l5' := Nat.lt_succ_of_lt l5; have l2' := Nat.lt_succ_of_lt l2; have ab0 : w1.cell? ⟨w.heap.size, 0, none⟩ = some (.int .u32 pc) := row_cell HB2.out 0; have ab1 : w1.cell? ⟨w.heap.size, 1, none⟩ = some (.int .i64 count) := row_cell HB2.out 1; have ab2 : w1.cell? ⟨w.heap.size, 2, none⟩ = some (.int .i64 bytes) := row_cell HB2.out 2; have ab3 : w1.cell? ⟨w.heap.size, 3, none⟩ = some (.slice (some ⟨b, off, none⟩) n cap) := row_cell HB2.out 3; have ao0 : w1.cell? ⟨w.heap.size + 1, 0, none⟩ = some (.int .i64 o.kind) := row_cell HB5.out 0; have ao1 : w1.cell? ⟨w.heap.size + 1, 1, none⟩ = some (.int .i64 o.w) := row_cell HB5.out 1; have ao2 : w1.cell? ⟨w.heap.size + 1, 2, none⟩ = some (.int .i64 o.a) := row_cell HB5.out 2; have ao3 : w1.cell? ⟨w.heap.size + 1, 3, none⟩ = some (.int .i64 o.b) := row_cell HB5.out 3; have ao4 : w1.cell? ⟨w.heap.size + 1, 4, none⟩ = some (.int .i64 o.c) := row_cell HB5.out 4; have ao5 : w1.cell? ⟨w.heap.size + 1, 5, none⟩ = some (.int .u32 o.k) := row_cell HB5.out 5; have ao6 : w1.cell? ⟨w.heap.size + 1, 6, none⟩ = some (.int .i64 o.n) := row_cell HB5.out 6; clear h1 B2 B5 BB1)
            | (go_at_call 165; refine (isKind_any o.kind _).mono ?_; rintro e w9 ⟨rfl, rfl⟩; rw [HK.out])
            | (go_at_call 166; refine (fields_any R x o count _ HM.out).mono ?_; rintro e w2 ⟨rfl, h2⟩; rw [HFB.out]; have H2 : Hid (KP w w2 w1.heap.size pc count bytes (some ⟨b, off, none⟩) n cap o R) := (show KP w (w1.alloc (.cells #[.int .u8 R.lo, .int .u8 R.hi, .int .u8 R.takes, .int .u8 R.has, .bool R.gives, .bool R.leaves, .bool R.ends] 202)) w1.heap.size pc count bytes (some ⟨b, off, none⟩) n cap o R from ⟨(al_old _ _ _ l2).trans HB2.out, (al_old _ _ _ l5).trans HB5.out, heap_alloc_last w1 _, HBB.out.alloc (Nat.le_of_lt l2) _, l5⟩).next h2; clear h2; have cb0 : w2.cell? ⟨w.heap.size, 0, none⟩ = some (.int .u32 pc) := row_cell H2.out.b2 0; have cb1 : w2.cell? ⟨w.heap.size, 1, none⟩ = some (.int .i64 count) := row_cell H2.out.b2 1; have cb2 : w2.cell? ⟨w.heap.size, 2, none⟩ = some (.int .i64 bytes) := row_cell H2.out.b2 2; have cb3 : w2.cell? ⟨w.heap.size, 3, none⟩ = some (.slice (some ⟨b, off, none⟩) n cap) := row_cell H2.out.b2 3; have co0 : w2.cell? ⟨w.heap.size + 1, 0, none⟩ = some (.int .i64 o.kind) := row_cell H2.out.b5 0; have co1 : w2.cell? ⟨w.heap.size + 1, 1, none⟩ = some (.int .i64 o.w) := row_cell H2.out.b5 1; have co2 : w2.cell? ⟨w.heap.size + 1, 2, none⟩ = some (.int .i64 o.a) := row_cell H2.out.b5 2; have co3 : w2.cell? ⟨w.heap.size + 1, 3, none⟩ = some (.int .i64 o.b) := row_cell H2.out.b5 3; have co4 : w2.cell? ⟨w.heap.size + 1, 4, none⟩ = some (.int .i64 o.c) := row_cell H2.out.b5 4; have co5 : w2.cell? ⟨w.heap.size + 1, 5, none⟩ = some (.int .u32 o.k) := row_cell H2.out.b5 5; have co6 : w2.cell? ⟨w.heap.size + 1, 6, none⟩ = some (.int .i64 o.n) := row_cell H2.out.b5 6; have cr0 : w2.cell? ⟨w1.heap.size, 0, none⟩ = some (.int .u8 R.lo) := row_cell H2.out.b6 0; have cr1 : w2.cell? ⟨w1.heap.size, 1, none⟩ = some (.int .u8 R.hi) := row_cell H2.out.b6 1; have cr2 : w2.cell? ⟨w1.heap.size, 2, none⟩ = some (.int .u8 R.takes) := row_cell H2.out.b6 2; have cr3 : w2.cell? ⟨w1.heap.size, 3, none⟩ = some (.int .u8 R.has) := row_cell H2.out.b6 3; have cr4 : w2.cell? ⟨w1.heap.size, 4, none⟩ = some (.bool R.gives) := row_cell H2.out.b6 4; have cr5 : w2.cell? ⟨w1.heap.size, 5, none⟩ = some (.bool R.leaves) := row_cell H2.out.b6 5; have cr6 : w2.cell? ⟨w1.heap.size, 6, none⟩ = some (.bool R.ends) := row_cell H2.out.b6 6; have l6 := row_lt H2.out.b6; have l8 := row_lt H2.out.b5; have l9 := row_lt H2.out.b2))
          go_ret
          exact ⟨by rw [HE.out]; rfl, H2.out.bel⟩
        | false =>
        obtain ⟨tb, HTB⟩ : ∃ tb, Hid (takenBad x o f i = tb) := ⟨_, rfl⟩
        cases tb with
        | true =>
          have HE : Hid (opErr count n f i = 6) := by show _ = _; rw [E1.out, E2.out, HFB.out, HTB.out]; rfl
          go_wp2_with (first
            | (go_at_call 117; refine (ruleOf_me o.kind R _ HR.out).mono ?_; rintro e w1 ⟨rfl, h1⟩; obtain ⟨B2, B5, BB1⟩ := keep2 h1; have HB2 : Hid _ := B2; have HB5 : Hid _ := B5; have HBB : Hid _ := BB1; have l5 := row_lt B5; have l2 := row_lt B2; have l5' := Nat.lt_succ_of_lt l5; have l2' := Nat.lt_succ_of_lt l2; have ab0 : w1.cell? ⟨w.heap.size, 0, none⟩ = some (.int .u32 pc) := row_cell HB2.out 0; have ab1 : w1.cell? ⟨w.heap.size, 1, none⟩ = some (.int .i64 count) := row_cell HB2.out 1; have ab2 : w1.cell? ⟨w.heap.size, 2, none⟩ = some (.int .i64 bytes) := row_cell HB2.out 2; have ab3 : w1.cell? ⟨w.heap.size, 3, none⟩ = some (.slice (some ⟨b, off, none⟩) n cap) := row_cell HB2.out 3; have ao0 : w1.cell? ⟨w.heap.size + 1, 0, none⟩ = some (.int .i64 o.kind) := row_cell HB5.out 0; have ao1 : w1.cell? ⟨w.heap.size + 1, 1, none⟩ = some (.int .i64 o.w) := row_cell HB5.out 1; have ao2 : w1.cell? ⟨w.heap.size + 1, 2, none⟩ = some (.int .i64 o.a) := row_cell HB5.out 2; have ao3 : w1.cell? ⟨w.heap.size + 1, 3, none⟩ = some (.int .i64 o.b) := row_cell HB5.out 3; have ao4 : w1.cell? ⟨w.heap.size + 1, 4, none⟩ = some (.int .i64 o.c) := row_cell HB5.out 4; have ao5 : w1.cell? ⟨w.heap.size + 1, 5, none⟩ = some (.int .u32 o.k) := row_cell HB5.out 5; have ao6 : w1.cell? ⟨w.heap.size + 1, 6, none⟩ = some (.int .i64 o.n) := row_cell HB5.out 6; clear h1 B2 B5 BB1)
            | (go_at_call 165; refine (isKind_any o.kind _).mono ?_; rintro e w9 ⟨rfl, rfl⟩; rw [HK.out])
            | (go_at_call 166; refine (fields_any R x o count _ HM.out).mono ?_; rintro e w2 ⟨rfl, h2⟩; rw [HFB.out]; have H2 : Hid (KP w w2 w1.heap.size pc count bytes (some ⟨b, off, none⟩) n cap o R) := (show KP w (w1.alloc (.cells #[.int .u8 R.lo, .int .u8 R.hi, .int .u8 R.takes, .int .u8 R.has, .bool R.gives, .bool R.leaves, .bool R.ends] 202)) w1.heap.size pc count bytes (some ⟨b, off, none⟩) n cap o R from ⟨(al_old _ _ _ l2).trans HB2.out, (al_old _ _ _ l5).trans HB5.out, heap_alloc_last w1 _, HBB.out.alloc (Nat.le_of_lt l2) _, l5⟩).next h2; clear h2; have cb0 : w2.cell? ⟨w.heap.size, 0, none⟩ = some (.int .u32 pc) := row_cell H2.out.b2 0; have cb1 : w2.cell? ⟨w.heap.size, 1, none⟩ = some (.int .i64 count) := row_cell H2.out.b2 1; have cb2 : w2.cell? ⟨w.heap.size, 2, none⟩ = some (.int .i64 bytes) := row_cell H2.out.b2 2; have cb3 : w2.cell? ⟨w.heap.size, 3, none⟩ = some (.slice (some ⟨b, off, none⟩) n cap) := row_cell H2.out.b2 3; have co0 : w2.cell? ⟨w.heap.size + 1, 0, none⟩ = some (.int .i64 o.kind) := row_cell H2.out.b5 0; have co1 : w2.cell? ⟨w.heap.size + 1, 1, none⟩ = some (.int .i64 o.w) := row_cell H2.out.b5 1; have co2 : w2.cell? ⟨w.heap.size + 1, 2, none⟩ = some (.int .i64 o.a) := row_cell H2.out.b5 2; have co3 : w2.cell? ⟨w.heap.size + 1, 3, none⟩ = some (.int .i64 o.b) := row_cell H2.out.b5 3; have co4 : w2.cell? ⟨w.heap.size + 1, 4, none⟩ = some (.int .i64 o.c) := row_cell H2.out.b5 4; have co5 : w2.cell? ⟨w.heap.size + 1, 5, none⟩ = some (.int .u32 o.k) := row_cell H2.out.b5 5; have co6 : w2.cell? ⟨w.heap.size + 1, 6, none⟩ = some (.int .i64 o.n) := row_cell H2.out.b5 6; have cr0 : w2.cell? ⟨w1.heap.size, 0, none⟩ = some (.int .u8 R.lo) := row_cell H2.out.b6 0; have cr1 : w2.cell? ⟨w1.heap.size, 1, none⟩ = some (.int .u8 R.hi) := row_cell H2.out.b6 1; have cr2 : w2.cell? ⟨w1.heap.size, 2, none⟩ = some (.int .u8 R.takes) := row_cell H2.out.b6 2; have cr3 : w2.cell? ⟨w1.heap.size, 3, none⟩ = some (.int .u8 R.has) := row_cell H2.out.b6 3; have cr4 : w2.cell? ⟨w1.heap.size, 4, none⟩ = some (.bool R.gives) := row_cell H2.out.b6 4; have cr5 : w2.cell? ⟨w1.heap.size, 5, none⟩ = some (.bool R.leaves) := row_cell H2.out.b6 5; have cr6 : w2.cell? ⟨w1.heap.size, 6, none⟩ = some (.bool R.ends) := row_cell H2.out.b6 6; have l6 := row_lt H2.out.b6; have l8 := row_lt H2.out.b5; have l9 := row_lt H2.out.b2))
          go_region_held3 (fun w' => w'.cell? ⟨w.heap.size, 3, none⟩ = some (.slice (some ⟨b, off, none⟩) n cap) ∧ w'.cell? ⟨w.heap.size + 1, 0, none⟩ = some (.int .i64 o.kind) ∧ w'.cell? ⟨w.heap.size + 1, 1, none⟩ = some (.int .i64 o.w) ∧ w'.cell? ⟨w.heap.size + 1, 2, none⟩ = some (.int .i64 o.a) ∧ w'.cell? ⟨w.heap.size + 1, 3, none⟩ = some (.int .i64 o.b) ∧ w'.cell? ⟨w.heap.size + 1, 4, none⟩ = some (.int .i64 o.c) ∧ w'.cell? ⟨w.heap.size + 1, 5, none⟩ = some (.int .u32 o.k) ∧ w'.cell? ⟨w.heap.size + 1, 6, none⟩ = some (.int .i64 o.n) ∧ w'.cell? ⟨w1.heap.size, 0, none⟩ = some (.int .u8 R.lo) ∧ w'.cell? ⟨w1.heap.size, 1, none⟩ = some (.int .u8 R.hi) ∧ w'.cell? ⟨w1.heap.size, 2, none⟩ = some (.int .u8 R.takes) ∧ w'.cell? ⟨w1.heap.size, 3, none⟩ = some (.int .u8 R.has) ∧ w'.cell? ⟨w1.heap.size, 4, none⟩ = some (.bool R.gives) ∧ w'.cell? ⟨w1.heap.size, 5, none⟩ = some (.bool R.leaves) ∧ w'.cell? ⟨w1.heap.size, 6, none⟩ = some (.bool R.ends)) (first | (simp [go_sem, db0, db1, db2, db3, do0, do1, do2, do3, do4, do5, do6, dr0, dr1, dr2, dr3, dr4, dr5, dr6]; done) | (simp [go_sem, cb0, cb1, cb2, cb3, co0, co1, co2, co3, co4, co5, co6, cr0, cr1, cr2, cr3, cr4, cr5, cr6]; done))
            (first | (go_at_call 167; refine (taken_any R x o (some ⟨b, off, none⟩) i cap f _ HM.out HI.out ?_).mono ?_; (focus (exact ((HO.out.below H2.out.drew.bel (Nat.le_refl _)).less HIN.out))); rintro e w3 ⟨rfl, h3⟩; rw [HTB.out]; have H3 : Hid (KP w w3 w1.heap.size pc count bytes (some ⟨b, off, none⟩) n cap o R) := H2.out.drew.next h3; clear h3; have db0 : w3.cell? ⟨w.heap.size, 0, none⟩ = some (.int .u32 pc) := row_cell H3.out.b2 0; have db1 : w3.cell? ⟨w.heap.size, 1, none⟩ = some (.int .i64 count) := row_cell H3.out.b2 1; have db2 : w3.cell? ⟨w.heap.size, 2, none⟩ = some (.int .i64 bytes) := row_cell H3.out.b2 2; have db3 : w3.cell? ⟨w.heap.size, 3, none⟩ = some (.slice (some ⟨b, off, none⟩) n cap) := row_cell H3.out.b2 3; have do0 : w3.cell? ⟨w.heap.size + 1, 0, none⟩ = some (.int .i64 o.kind) := row_cell H3.out.b5 0; have do1 : w3.cell? ⟨w.heap.size + 1, 1, none⟩ = some (.int .i64 o.w) := row_cell H3.out.b5 1; have do2 : w3.cell? ⟨w.heap.size + 1, 2, none⟩ = some (.int .i64 o.a) := row_cell H3.out.b5 2; have do3 : w3.cell? ⟨w.heap.size + 1, 3, none⟩ = some (.int .i64 o.b) := row_cell H3.out.b5 3; have do4 : w3.cell? ⟨w.heap.size + 1, 4, none⟩ = some (.int .i64 o.c) := row_cell H3.out.b5 4; have do5 : w3.cell? ⟨w.heap.size + 1, 5, none⟩ = some (.int .u32 o.k) := row_cell H3.out.b5 5; have do6 : w3.cell? ⟨w.heap.size + 1, 6, none⟩ = some (.int .i64 o.n) := row_cell H3.out.b5 6; have dr0 : w3.cell? ⟨w1.heap.size, 0, none⟩ = some (.int .u8 R.lo) := row_cell H3.out.b6 0; have dr1 : w3.cell? ⟨w1.heap.size, 1, none⟩ = some (.int .u8 R.hi) := row_cell H3.out.b6 1; have dr2 : w3.cell? ⟨w1.heap.size, 2, none⟩ = some (.int .u8 R.takes) := row_cell H3.out.b6 2; have dr3 : w3.cell? ⟨w1.heap.size, 3, none⟩ = some (.int .u8 R.has) := row_cell H3.out.b6 3; have dr4 : w3.cell? ⟨w1.heap.size, 4, none⟩ = some (.bool R.gives) := row_cell H3.out.b6 4; have dr5 : w3.cell? ⟨w1.heap.size, 5, none⟩ = some (.bool R.leaves) := row_cell H3.out.b6 5; have dr6 : w3.cell? ⟨w1.heap.size, 6, none⟩ = some (.bool R.ends) := row_cell H3.out.b6 6))
          all_goals go_wp2
          all_goals go_ret
          all_goals exact ⟨by rw [HE.out]; rfl, H3.out.bel⟩
        | false =>
        obtain ⟨en, HEN⟩ : ∃ en, Hid (R.ends = en) := ⟨_, rfl⟩
        by_cases hlast : i + 1 = n
        · have d9 : ((i : Int) != (n : Int) - 1) = false := by simp; omega
          have HE : Hid (opErr count n f i = 0) := by show _ = _; rw [E1.out, E2.out, HFB.out, HTB.out, decide_eq_false (fun h => h hlast)]; simp
          clear hlast
          go_wp2_with (first
            | (go_at_call 117; refine (ruleOf_me o.kind R _ HR.out).mono ?_; rintro e w1 ⟨rfl, h1⟩; obtain ⟨B2, B5, BB1⟩ := keep2 h1; have HB2 : Hid _ := B2; have HB5 : Hid _ := B5; have HBB : Hid _ := BB1; have l5 := row_lt B5; have l2 := row_lt B2; have l5' := Nat.lt_succ_of_lt l5; have l2' := Nat.lt_succ_of_lt l2; have ab0 : w1.cell? ⟨w.heap.size, 0, none⟩ = some (.int .u32 pc) := row_cell HB2.out 0; have ab1 : w1.cell? ⟨w.heap.size, 1, none⟩ = some (.int .i64 count) := row_cell HB2.out 1; have ab2 : w1.cell? ⟨w.heap.size, 2, none⟩ = some (.int .i64 bytes) := row_cell HB2.out 2; have ab3 : w1.cell? ⟨w.heap.size, 3, none⟩ = some (.slice (some ⟨b, off, none⟩) n cap) := row_cell HB2.out 3; have ao0 : w1.cell? ⟨w.heap.size + 1, 0, none⟩ = some (.int .i64 o.kind) := row_cell HB5.out 0; have ao1 : w1.cell? ⟨w.heap.size + 1, 1, none⟩ = some (.int .i64 o.w) := row_cell HB5.out 1; have ao2 : w1.cell? ⟨w.heap.size + 1, 2, none⟩ = some (.int .i64 o.a) := row_cell HB5.out 2; have ao3 : w1.cell? ⟨w.heap.size + 1, 3, none⟩ = some (.int .i64 o.b) := row_cell HB5.out 3; have ao4 : w1.cell? ⟨w.heap.size + 1, 4, none⟩ = some (.int .i64 o.c) := row_cell HB5.out 4; have ao5 : w1.cell? ⟨w.heap.size + 1, 5, none⟩ = some (.int .u32 o.k) := row_cell HB5.out 5; have ao6 : w1.cell? ⟨w.heap.size + 1, 6, none⟩ = some (.int .i64 o.n) := row_cell HB5.out 6; clear h1 B2 B5 BB1)
            | (go_at_call 165; refine (isKind_any o.kind _).mono ?_; rintro e w9 ⟨rfl, rfl⟩; rw [HK.out])
            | (go_at_call 166; refine (fields_any R x o count _ HM.out).mono ?_; rintro e w2 ⟨rfl, h2⟩; rw [HFB.out]; have H2 : Hid (KP w w2 w1.heap.size pc count bytes (some ⟨b, off, none⟩) n cap o R) := (show KP w (w1.alloc (.cells #[.int .u8 R.lo, .int .u8 R.hi, .int .u8 R.takes, .int .u8 R.has, .bool R.gives, .bool R.leaves, .bool R.ends] 202)) w1.heap.size pc count bytes (some ⟨b, off, none⟩) n cap o R from ⟨(al_old _ _ _ l2).trans HB2.out, (al_old _ _ _ l5).trans HB5.out, heap_alloc_last w1 _, HBB.out.alloc (Nat.le_of_lt l2) _, l5⟩).next h2; clear h2; have cb0 : w2.cell? ⟨w.heap.size, 0, none⟩ = some (.int .u32 pc) := row_cell H2.out.b2 0; have cb1 : w2.cell? ⟨w.heap.size, 1, none⟩ = some (.int .i64 count) := row_cell H2.out.b2 1; have cb2 : w2.cell? ⟨w.heap.size, 2, none⟩ = some (.int .i64 bytes) := row_cell H2.out.b2 2; have cb3 : w2.cell? ⟨w.heap.size, 3, none⟩ = some (.slice (some ⟨b, off, none⟩) n cap) := row_cell H2.out.b2 3; have co0 : w2.cell? ⟨w.heap.size + 1, 0, none⟩ = some (.int .i64 o.kind) := row_cell H2.out.b5 0; have co1 : w2.cell? ⟨w.heap.size + 1, 1, none⟩ = some (.int .i64 o.w) := row_cell H2.out.b5 1; have co2 : w2.cell? ⟨w.heap.size + 1, 2, none⟩ = some (.int .i64 o.a) := row_cell H2.out.b5 2; have co3 : w2.cell? ⟨w.heap.size + 1, 3, none⟩ = some (.int .i64 o.b) := row_cell H2.out.b5 3; have co4 : w2.cell? ⟨w.heap.size + 1, 4, none⟩ = some (.int .i64 o.c) := row_cell H2.out.b5 4; have co5 : w2.cell? ⟨w.heap.size + 1, 5, none⟩ = some (.int .u32 o.k) := row_cell H2.out.b5 5; have co6 : w2.cell? ⟨w.heap.size + 1, 6, none⟩ = some (.int .i64 o.n) := row_cell H2.out.b5 6; have cr0 : w2.cell? ⟨w1.heap.size, 0, none⟩ = some (.int .u8 R.lo) := row_cell H2.out.b6 0; have cr1 : w2.cell? ⟨w1.heap.size, 1, none⟩ = some (.int .u8 R.hi) := row_cell H2.out.b6 1; have cr2 : w2.cell? ⟨w1.heap.size, 2, none⟩ = some (.int .u8 R.takes) := row_cell H2.out.b6 2; have cr3 : w2.cell? ⟨w1.heap.size, 3, none⟩ = some (.int .u8 R.has) := row_cell H2.out.b6 3; have cr4 : w2.cell? ⟨w1.heap.size, 4, none⟩ = some (.bool R.gives) := row_cell H2.out.b6 4; have cr5 : w2.cell? ⟨w1.heap.size, 5, none⟩ = some (.bool R.leaves) := row_cell H2.out.b6 5; have cr6 : w2.cell? ⟨w1.heap.size, 6, none⟩ = some (.bool R.ends) := row_cell H2.out.b6 6; have l6 := row_lt H2.out.b6; have l8 := row_lt H2.out.b5; have l9 := row_lt H2.out.b2))
          go_region_held3 (fun w' => w'.cell? ⟨w.heap.size, 3, none⟩ = some (.slice (some ⟨b, off, none⟩) n cap) ∧ w'.cell? ⟨w.heap.size + 1, 0, none⟩ = some (.int .i64 o.kind) ∧ w'.cell? ⟨w.heap.size + 1, 1, none⟩ = some (.int .i64 o.w) ∧ w'.cell? ⟨w.heap.size + 1, 2, none⟩ = some (.int .i64 o.a) ∧ w'.cell? ⟨w.heap.size + 1, 3, none⟩ = some (.int .i64 o.b) ∧ w'.cell? ⟨w.heap.size + 1, 4, none⟩ = some (.int .i64 o.c) ∧ w'.cell? ⟨w.heap.size + 1, 5, none⟩ = some (.int .u32 o.k) ∧ w'.cell? ⟨w.heap.size + 1, 6, none⟩ = some (.int .i64 o.n) ∧ w'.cell? ⟨w1.heap.size, 0, none⟩ = some (.int .u8 R.lo) ∧ w'.cell? ⟨w1.heap.size, 1, none⟩ = some (.int .u8 R.hi) ∧ w'.cell? ⟨w1.heap.size, 2, none⟩ = some (.int .u8 R.takes) ∧ w'.cell? ⟨w1.heap.size, 3, none⟩ = some (.int .u8 R.has) ∧ w'.cell? ⟨w1.heap.size, 4, none⟩ = some (.bool R.gives) ∧ w'.cell? ⟨w1.heap.size, 5, none⟩ = some (.bool R.leaves) ∧ w'.cell? ⟨w1.heap.size, 6, none⟩ = some (.bool R.ends)) (first | (simp [go_sem, db0, db1, db2, db3, do0, do1, do2, do3, do4, do5, do6, dr0, dr1, dr2, dr3, dr4, dr5, dr6]; done) | (simp [go_sem, cb0, cb1, cb2, cb3, co0, co1, co2, co3, co4, co5, co6, cr0, cr1, cr2, cr3, cr4, cr5, cr6]; done))
            (first | (go_at_call 167; refine (taken_any R x o (some ⟨b, off, none⟩) i cap f _ HM.out HI.out ?_).mono ?_; (focus (exact ((HO.out.below H2.out.drew.bel (Nat.le_refl _)).less HIN.out))); rintro e w3 ⟨rfl, h3⟩; rw [HTB.out]; have H3 : Hid (KP w w3 w1.heap.size pc count bytes (some ⟨b, off, none⟩) n cap o R) := H2.out.drew.next h3; clear h3; have db0 : w3.cell? ⟨w.heap.size, 0, none⟩ = some (.int .u32 pc) := row_cell H3.out.b2 0; have db1 : w3.cell? ⟨w.heap.size, 1, none⟩ = some (.int .i64 count) := row_cell H3.out.b2 1; have db2 : w3.cell? ⟨w.heap.size, 2, none⟩ = some (.int .i64 bytes) := row_cell H3.out.b2 2; have db3 : w3.cell? ⟨w.heap.size, 3, none⟩ = some (.slice (some ⟨b, off, none⟩) n cap) := row_cell H3.out.b2 3; have do0 : w3.cell? ⟨w.heap.size + 1, 0, none⟩ = some (.int .i64 o.kind) := row_cell H3.out.b5 0; have do1 : w3.cell? ⟨w.heap.size + 1, 1, none⟩ = some (.int .i64 o.w) := row_cell H3.out.b5 1; have do2 : w3.cell? ⟨w.heap.size + 1, 2, none⟩ = some (.int .i64 o.a) := row_cell H3.out.b5 2; have do3 : w3.cell? ⟨w.heap.size + 1, 3, none⟩ = some (.int .i64 o.b) := row_cell H3.out.b5 3; have do4 : w3.cell? ⟨w.heap.size + 1, 4, none⟩ = some (.int .i64 o.c) := row_cell H3.out.b5 4; have do5 : w3.cell? ⟨w.heap.size + 1, 5, none⟩ = some (.int .u32 o.k) := row_cell H3.out.b5 5; have do6 : w3.cell? ⟨w.heap.size + 1, 6, none⟩ = some (.int .i64 o.n) := row_cell H3.out.b5 6; have dr0 : w3.cell? ⟨w1.heap.size, 0, none⟩ = some (.int .u8 R.lo) := row_cell H3.out.b6 0; have dr1 : w3.cell? ⟨w1.heap.size, 1, none⟩ = some (.int .u8 R.hi) := row_cell H3.out.b6 1; have dr2 : w3.cell? ⟨w1.heap.size, 2, none⟩ = some (.int .u8 R.takes) := row_cell H3.out.b6 2; have dr3 : w3.cell? ⟨w1.heap.size, 3, none⟩ = some (.int .u8 R.has) := row_cell H3.out.b6 3; have dr4 : w3.cell? ⟨w1.heap.size, 4, none⟩ = some (.bool R.gives) := row_cell H3.out.b6 4; have dr5 : w3.cell? ⟨w1.heap.size, 5, none⟩ = some (.bool R.leaves) := row_cell H3.out.b6 5; have dr6 : w3.cell? ⟨w1.heap.size, 6, none⟩ = some (.bool R.ends) := row_cell H3.out.b6 6))
          all_goals have hen := HEN.out
          all_goals cases en
          all_goals go_wp2
          all_goals go_ret
          all_goals exact ⟨by rw [HE.out]; rfl, H3.out.bel⟩
        · have d9 : ((i : Int) != (n : Int) - 1) = true := by simp; omega
          have HE : Hid (opErr count n f i = if en then 7 else 0) := by show _ = _; rw [E1.out, E2.out, HFB.out, HTB.out, HEN.out, decide_eq_true hlast]; simp
          clear hlast
          go_wp2_with (first
            | (go_at_call 117; refine (ruleOf_me o.kind R _ HR.out).mono ?_; rintro e w1 ⟨rfl, h1⟩; obtain ⟨B2, B5, BB1⟩ := keep2 h1; have HB2 : Hid _ := B2; have HB5 : Hid _ := B5; have HBB : Hid _ := BB1; have l5 := row_lt B5; have l2 := row_lt B2; have l5' := Nat.lt_succ_of_lt l5; have l2' := Nat.lt_succ_of_lt l2; have ab0 : w1.cell? ⟨w.heap.size, 0, none⟩ = some (.int .u32 pc) := row_cell HB2.out 0; have ab1 : w1.cell? ⟨w.heap.size, 1, none⟩ = some (.int .i64 count) := row_cell HB2.out 1; have ab2 : w1.cell? ⟨w.heap.size, 2, none⟩ = some (.int .i64 bytes) := row_cell HB2.out 2; have ab3 : w1.cell? ⟨w.heap.size, 3, none⟩ = some (.slice (some ⟨b, off, none⟩) n cap) := row_cell HB2.out 3; have ao0 : w1.cell? ⟨w.heap.size + 1, 0, none⟩ = some (.int .i64 o.kind) := row_cell HB5.out 0; have ao1 : w1.cell? ⟨w.heap.size + 1, 1, none⟩ = some (.int .i64 o.w) := row_cell HB5.out 1; have ao2 : w1.cell? ⟨w.heap.size + 1, 2, none⟩ = some (.int .i64 o.a) := row_cell HB5.out 2; have ao3 : w1.cell? ⟨w.heap.size + 1, 3, none⟩ = some (.int .i64 o.b) := row_cell HB5.out 3; have ao4 : w1.cell? ⟨w.heap.size + 1, 4, none⟩ = some (.int .i64 o.c) := row_cell HB5.out 4; have ao5 : w1.cell? ⟨w.heap.size + 1, 5, none⟩ = some (.int .u32 o.k) := row_cell HB5.out 5; have ao6 : w1.cell? ⟨w.heap.size + 1, 6, none⟩ = some (.int .i64 o.n) := row_cell HB5.out 6; clear h1 B2 B5 BB1)
            | (go_at_call 165; refine (isKind_any o.kind _).mono ?_; rintro e w9 ⟨rfl, rfl⟩; rw [HK.out])
            | (go_at_call 166; refine (fields_any R x o count _ HM.out).mono ?_; rintro e w2 ⟨rfl, h2⟩; rw [HFB.out]; have H2 : Hid (KP w w2 w1.heap.size pc count bytes (some ⟨b, off, none⟩) n cap o R) := (show KP w (w1.alloc (.cells #[.int .u8 R.lo, .int .u8 R.hi, .int .u8 R.takes, .int .u8 R.has, .bool R.gives, .bool R.leaves, .bool R.ends] 202)) w1.heap.size pc count bytes (some ⟨b, off, none⟩) n cap o R from ⟨(al_old _ _ _ l2).trans HB2.out, (al_old _ _ _ l5).trans HB5.out, heap_alloc_last w1 _, HBB.out.alloc (Nat.le_of_lt l2) _, l5⟩).next h2; clear h2; have cb0 : w2.cell? ⟨w.heap.size, 0, none⟩ = some (.int .u32 pc) := row_cell H2.out.b2 0; have cb1 : w2.cell? ⟨w.heap.size, 1, none⟩ = some (.int .i64 count) := row_cell H2.out.b2 1; have cb2 : w2.cell? ⟨w.heap.size, 2, none⟩ = some (.int .i64 bytes) := row_cell H2.out.b2 2; have cb3 : w2.cell? ⟨w.heap.size, 3, none⟩ = some (.slice (some ⟨b, off, none⟩) n cap) := row_cell H2.out.b2 3; have co0 : w2.cell? ⟨w.heap.size + 1, 0, none⟩ = some (.int .i64 o.kind) := row_cell H2.out.b5 0; have co1 : w2.cell? ⟨w.heap.size + 1, 1, none⟩ = some (.int .i64 o.w) := row_cell H2.out.b5 1; have co2 : w2.cell? ⟨w.heap.size + 1, 2, none⟩ = some (.int .i64 o.a) := row_cell H2.out.b5 2; have co3 : w2.cell? ⟨w.heap.size + 1, 3, none⟩ = some (.int .i64 o.b) := row_cell H2.out.b5 3; have co4 : w2.cell? ⟨w.heap.size + 1, 4, none⟩ = some (.int .i64 o.c) := row_cell H2.out.b5 4; have co5 : w2.cell? ⟨w.heap.size + 1, 5, none⟩ = some (.int .u32 o.k) := row_cell H2.out.b5 5; have co6 : w2.cell? ⟨w.heap.size + 1, 6, none⟩ = some (.int .i64 o.n) := row_cell H2.out.b5 6; have cr0 : w2.cell? ⟨w1.heap.size, 0, none⟩ = some (.int .u8 R.lo) := row_cell H2.out.b6 0; have cr1 : w2.cell? ⟨w1.heap.size, 1, none⟩ = some (.int .u8 R.hi) := row_cell H2.out.b6 1; have cr2 : w2.cell? ⟨w1.heap.size, 2, none⟩ = some (.int .u8 R.takes) := row_cell H2.out.b6 2; have cr3 : w2.cell? ⟨w1.heap.size, 3, none⟩ = some (.int .u8 R.has) := row_cell H2.out.b6 3; have cr4 : w2.cell? ⟨w1.heap.size, 4, none⟩ = some (.bool R.gives) := row_cell H2.out.b6 4; have cr5 : w2.cell? ⟨w1.heap.size, 5, none⟩ = some (.bool R.leaves) := row_cell H2.out.b6 5; have cr6 : w2.cell? ⟨w1.heap.size, 6, none⟩ = some (.bool R.ends) := row_cell H2.out.b6 6; have l6 := row_lt H2.out.b6; have l8 := row_lt H2.out.b5; have l9 := row_lt H2.out.b2))
          go_region_held3 (fun w' => w'.cell? ⟨w.heap.size, 3, none⟩ = some (.slice (some ⟨b, off, none⟩) n cap) ∧ w'.cell? ⟨w.heap.size + 1, 0, none⟩ = some (.int .i64 o.kind) ∧ w'.cell? ⟨w.heap.size + 1, 1, none⟩ = some (.int .i64 o.w) ∧ w'.cell? ⟨w.heap.size + 1, 2, none⟩ = some (.int .i64 o.a) ∧ w'.cell? ⟨w.heap.size + 1, 3, none⟩ = some (.int .i64 o.b) ∧ w'.cell? ⟨w.heap.size + 1, 4, none⟩ = some (.int .i64 o.c) ∧ w'.cell? ⟨w.heap.size + 1, 5, none⟩ = some (.int .u32 o.k) ∧ w'.cell? ⟨w.heap.size + 1, 6, none⟩ = some (.int .i64 o.n) ∧ w'.cell? ⟨w1.heap.size, 0, none⟩ = some (.int .u8 R.lo) ∧ w'.cell? ⟨w1.heap.size, 1, none⟩ = some (.int .u8 R.hi) ∧ w'.cell? ⟨w1.heap.size, 2, none⟩ = some (.int .u8 R.takes) ∧ w'.cell? ⟨w1.heap.size, 3, none⟩ = some (.int .u8 R.has) ∧ w'.cell? ⟨w1.heap.size, 4, none⟩ = some (.bool R.gives) ∧ w'.cell? ⟨w1.heap.size, 5, none⟩ = some (.bool R.leaves) ∧ w'.cell? ⟨w1.heap.size, 6, none⟩ = some (.bool R.ends)) (first | (simp [go_sem, db0, db1, db2, db3, do0, do1, do2, do3, do4, do5, do6, dr0, dr1, dr2, dr3, dr4, dr5, dr6]; done) | (simp [go_sem, cb0, cb1, cb2, cb3, co0, co1, co2, co3, co4, co5, co6, cr0, cr1, cr2, cr3, cr4, cr5, cr6]; done))
            (first | (go_at_call 167; refine (taken_any R x o (some ⟨b, off, none⟩) i cap f _ HM.out HI.out ?_).mono ?_; (focus (exact ((HO.out.below H2.out.drew.bel (Nat.le_refl _)).less HIN.out))); rintro e w3 ⟨rfl, h3⟩; rw [HTB.out]; have H3 : Hid (KP w w3 w1.heap.size pc count bytes (some ⟨b, off, none⟩) n cap o R) := H2.out.drew.next h3; clear h3; have db0 : w3.cell? ⟨w.heap.size, 0, none⟩ = some (.int .u32 pc) := row_cell H3.out.b2 0; have db1 : w3.cell? ⟨w.heap.size, 1, none⟩ = some (.int .i64 count) := row_cell H3.out.b2 1; have db2 : w3.cell? ⟨w.heap.size, 2, none⟩ = some (.int .i64 bytes) := row_cell H3.out.b2 2; have db3 : w3.cell? ⟨w.heap.size, 3, none⟩ = some (.slice (some ⟨b, off, none⟩) n cap) := row_cell H3.out.b2 3; have do0 : w3.cell? ⟨w.heap.size + 1, 0, none⟩ = some (.int .i64 o.kind) := row_cell H3.out.b5 0; have do1 : w3.cell? ⟨w.heap.size + 1, 1, none⟩ = some (.int .i64 o.w) := row_cell H3.out.b5 1; have do2 : w3.cell? ⟨w.heap.size + 1, 2, none⟩ = some (.int .i64 o.a) := row_cell H3.out.b5 2; have do3 : w3.cell? ⟨w.heap.size + 1, 3, none⟩ = some (.int .i64 o.b) := row_cell H3.out.b5 3; have do4 : w3.cell? ⟨w.heap.size + 1, 4, none⟩ = some (.int .i64 o.c) := row_cell H3.out.b5 4; have do5 : w3.cell? ⟨w.heap.size + 1, 5, none⟩ = some (.int .u32 o.k) := row_cell H3.out.b5 5; have do6 : w3.cell? ⟨w.heap.size + 1, 6, none⟩ = some (.int .i64 o.n) := row_cell H3.out.b5 6; have dr0 : w3.cell? ⟨w1.heap.size, 0, none⟩ = some (.int .u8 R.lo) := row_cell H3.out.b6 0; have dr1 : w3.cell? ⟨w1.heap.size, 1, none⟩ = some (.int .u8 R.hi) := row_cell H3.out.b6 1; have dr2 : w3.cell? ⟨w1.heap.size, 2, none⟩ = some (.int .u8 R.takes) := row_cell H3.out.b6 2; have dr3 : w3.cell? ⟨w1.heap.size, 3, none⟩ = some (.int .u8 R.has) := row_cell H3.out.b6 3; have dr4 : w3.cell? ⟨w1.heap.size, 4, none⟩ = some (.bool R.gives) := row_cell H3.out.b6 4; have dr5 : w3.cell? ⟨w1.heap.size, 5, none⟩ = some (.bool R.leaves) := row_cell H3.out.b6 5; have dr6 : w3.cell? ⟨w1.heap.size, 6, none⟩ = some (.bool R.ends) := row_cell H3.out.b6 6))
          all_goals have hen := HEN.out
          all_goals cases en
          all_goals go_wp2
          all_goals go_ret
          all_goals exact ⟨by rw [HE.out]; rfl, H3.out.bel⟩
  · have HK : Hid (isK o.kind = false) := show isK o.kind = false by simpa using hk
    have HE : Hid (opErr count n f i = 2) := by show _ = _; rw [E1.out, E0.out, HK.out]; rfl
    clear hk
    go_wp2_with (first
      | (go_at_call 117; refine (ruleOf_me o.kind R _ HR.out).mono ?_; rintro e w1 ⟨rfl, h1⟩; obtain ⟨B2, B5, BB1⟩ := keep2 h1; have HB2 : Hid _ := B2; have HB5 : Hid _ := B5; have HBB : Hid _ := BB1; have l5 := row_lt B5; have l2 := row_lt B2; have l5' := Nat.lt_succ_of_lt l5; have l2' := Nat.lt_succ_of_lt l2; have ab0 : w1.cell? ⟨w.heap.size, 0, none⟩ = some (.int .u32 pc) := row_cell HB2.out 0; have ab1 : w1.cell? ⟨w.heap.size, 1, none⟩ = some (.int .i64 count) := row_cell HB2.out 1; have ab2 : w1.cell? ⟨w.heap.size, 2, none⟩ = some (.int .i64 bytes) := row_cell HB2.out 2; have ab3 : w1.cell? ⟨w.heap.size, 3, none⟩ = some (.slice (some ⟨b, off, none⟩) n cap) := row_cell HB2.out 3; have ao0 : w1.cell? ⟨w.heap.size + 1, 0, none⟩ = some (.int .i64 o.kind) := row_cell HB5.out 0; have ao1 : w1.cell? ⟨w.heap.size + 1, 1, none⟩ = some (.int .i64 o.w) := row_cell HB5.out 1; have ao2 : w1.cell? ⟨w.heap.size + 1, 2, none⟩ = some (.int .i64 o.a) := row_cell HB5.out 2; have ao3 : w1.cell? ⟨w.heap.size + 1, 3, none⟩ = some (.int .i64 o.b) := row_cell HB5.out 3; have ao4 : w1.cell? ⟨w.heap.size + 1, 4, none⟩ = some (.int .i64 o.c) := row_cell HB5.out 4; have ao5 : w1.cell? ⟨w.heap.size + 1, 5, none⟩ = some (.int .u32 o.k) := row_cell HB5.out 5; have ao6 : w1.cell? ⟨w.heap.size + 1, 6, none⟩ = some (.int .i64 o.n) := row_cell HB5.out 6; clear h1 B2 B5 BB1)
      | (go_at_call 165; refine (isKind_any o.kind _).mono ?_; rintro e w9 ⟨rfl, rfl⟩; rw [HK.out]))
    go_ret
    exact ⟨by rw [HE.out]; rfl, (show KP w (w1.alloc (.cells #[.int .u8 R.lo, .int .u8 R.hi, .int .u8 R.takes, .int .u8 R.has, .bool R.gives, .bool R.leaves, .bool R.ends] 202)) w1.heap.size pc count bytes (some ⟨b, off, none⟩) n cap o R from ⟨(al_old _ _ _ l2).trans HB2.out, (al_old _ _ _ l5).trans HB5.out, heap_alloc_last w1 _, HBB.out.alloc (Nat.le_of_lt l2) _, l5⟩).bel⟩
end Go.Proofs.Ytmnifblbacgeoab
namespace Go.Proofs.Ytmnifblbacgeoab
open Go.RowKit
set_option maxRecDepth 100000
set_option linter.unusedVariables false
set_option linter.unusedSimpArgs false

set_option maxHeartbeats 4000000 in
theorem check_any (pc : Nat) (count bytes : Int) (bp : Option Addr) (n cap : Nat) (f : Nat → OpR) (w : World) (hO : OpsR w bp n f) (hcap : n ≤ cap) (hn : n < 9223372036854775807) :
    Calls Try.prog 56 #[.agg #[.int .u32 pc, .int .i64 count, .int .i64 bytes, .slice bp n cap]] w fun e w' => e = .returned (.tuple #[.int .i64 (checkF count bytes n f).1, .int .i64 (checkF count bytes n f).2]) ∧ Below w.heap.size w w' := by
  have HO : Hid (OpsR w bp n f) := hO
  have n0 : (0 : Int) ≤ (n : Int) := by omega
  have nb : (n : Int) ≤ 9223372036854775807 := by omega
  have HW : Hid (CW w (w.alloc (.cells #[.int .u32 pc, .int .i64 count, .int .i64 bytes, .slice bp n cap] 25)) pc count bytes bp n cap) := ⟨heap_alloc_last w _, wk_bel1 w _⟩
  have HCAP : Hid _ := hcap
  clear hO hcap
  by_cases hL : 2048 < n
  · have d : decide (2048 < (n : Int)) = true := decide_eq_true (by omega)
    have HE : Hid (checkF count bytes n f = (5, -1)) := by show _ = _; unfold checkF; rw [if_pos hL]
    clear hL
    go_enter Try.func56, Try.ntmps56
    go_wp2
    go_ret2
    exact ⟨by rw [HE.out]; rfl, HW.out.bel⟩
  have d : decide (2048 < (n : Int)) = false := decide_eq_false (by omega)
  by_cases hC : 0 ≤ count ∧ count ≤ 64
  rotate_left
  · have HD : Hid (decide (0 ≤ count ∧ count ≤ 64) = false) := decide_eq_false hC
    have HE : Hid (checkF count bytes n f = (4, -1)) := by show _ = _; unfold checkF; rw [if_neg hL, if_neg (fun h => hC h.1)]
    clear hL hC
    go_enter Try.func56, Try.ntmps56
    go_wp2_with (go_at_call 115; refine (within_any count 64 _).mono ?_; rintro e w1 ⟨rfl, rfl⟩; rw [HD.out])
    go_ret2
    exact ⟨by rw [HE.out]; rfl, HW.out.bel⟩
  have HD : Hid (decide (0 ≤ count ∧ count ≤ 64) = true) := decide_eq_true hC
  by_cases hB : 0 ≤ bytes ∧ bytes ≤ 384
  rotate_left
  · have HD2 : Hid (decide (0 ≤ bytes ∧ bytes ≤ 384) = false) := decide_eq_false hB
    have HE : Hid (checkF count bytes n f = (4, -1)) := by show _ = _; unfold checkF; rw [if_neg hL, if_neg (fun h => hB h.2)]
    clear hL hC hB
    go_enter Try.func56, Try.ntmps56
    go_wp2_with (first
      | (go_at_call 115; have HZ1 := HQ1; refine (within_any bytes 384 _).mono ?_; rintro e w1 ⟨rfl, rfl⟩; rw [HD2.out])
      | (go_at_call 115; refine (within_any count 64 _).mono ?_; rintro e w1 ⟨rfl, rfl⟩; rw [HD.out]; have HQ1 : Hid True := trivial))
    go_ret2
    exact ⟨by rw [HE.out]; rfl, HW.out.bel⟩
  have HD2 : Hid (decide (0 ≤ bytes ∧ bytes ≤ 384) = true) := decide_eq_true hB
  obtain ⟨E, HE⟩ : ∃ E, Hid (checkF count bytes n f = E) := ⟨_, rfl⟩
  have HS : Hid (scan count n f n 0 = E) := by show _ = _; rw [← HE.out]; unfold checkF; rw [if_neg hL, if_pos ⟨hC, hB⟩]
  have HL : Hid (n ≤ 2048) := show n ≤ 2048 by omega
  have n1 : (n : Int) ≤ 2048 := by omega
  clear hL hC hB
  rw [HE.out]
  go_enter Try.func56, Try.ntmps56
  go_wp2_with (first
    | (go_at_call 115; have HZ1 := HQ1; refine (within_any bytes 384 _).mono ?_; rintro e w1 ⟨rfl, rfl⟩; rw [HD2.out])
    | (go_at_call 115; refine (within_any count 64 _).mono ?_; rintro e w1 ⟨rfl, rfl⟩; rw [HD.out]; have HQ1 : Hid True := trivial))
  go_loopw [24] (fun i' wr => ∃ j : Nat, i' = .int .i64 j ∧ j ≤ n ∧ scan count n f (n - j) j = E ∧ CW w wr pc count bytes bp n cap) (fun i _ => n - (intOf i).toNat)
  case atStart => exact ⟨0, rfl, by omega, HS.out, HW.out⟩
  case round =>
    obtain ⟨j, rfl, hj, hsc, hW⟩ := hrel
    have HSC : Hid _ := hsc
    have HWr : Hid _ := hW
    have l1 := row_lt hW.b1
    have m0 : wr.cell? ⟨w.heap.size, 0, none⟩ = some (.int .u32 pc) := row_cell hW.b1 0
    have m1 : wr.cell? ⟨w.heap.size, 1, none⟩ = some (.int .i64 count) := row_cell hW.b1 1
    have m2 : wr.cell? ⟨w.heap.size, 2, none⟩ = some (.int .i64 bytes) := row_cell hW.b1 2
    have m3 : wr.cell? ⟨w.heap.size, 3, none⟩ = some (.slice bp n cap) := row_cell hW.b1 3
    clear hsc hW HW
    by_cases hlt : j < n
    · have hji : (j : Int) < (n : Int) := by omega
      have dj : decide ((j : Int) < (n : Int)) = true := decide_eq_true hji
      have j0 : (0 : Int) ≤ (j : Int) := by omega
      have hstep : n - j = (n - (j + 1)) + 1 := by omega
      have HLT : Hid _ := hlt
      obtain ⟨q, HQ⟩ : ∃ q, Hid (opErr count n f j = q) := ⟨_, rfl⟩
      have HST : Hid (scan count n f ((n - (j + 1)) + 1) j = E) := hstep ▸ HSC.out
      clear hstep hlt
      by_cases hq : q = 0
      · subst hq
        have HN : Hid (scan count n f (n - (j + 1)) (j + 1) = E) := by
          show _ = _
          have := HST.out
          simp only [scan, HQ.out, if_true] at this
          exact this
        go_wp2_with (go_at_call 116; refine (checkOp_any pc count bytes bp n cap j f _ (HO.out.below HWr.out.bel (Nat.le_refl _)) HLT.out HL.out HCAP.out).mono ?_; rintro e w2 ⟨rfl, h2⟩; rw [HQ.out])
        go_round
        case rel => exact ⟨j + 1, by go_num, HLT.out, HN.out, HWr.out.next h2⟩
        case measure => have := HLT.out; simp [intOf]; omega
      · have dq : (q != 0) = true := by simpa using hq
        have HN : Hid (E = (q, (j : Int))) := by
          show _ = _
          have := HST.out
          simp only [scan, HQ.out, if_neg hq] at this
          exact this.symm
        clear hq
        go_wp2_with (go_at_call 116; refine (checkOp_any pc count bytes bp n cap j f _ (HO.out.below HWr.out.bel (Nat.le_refl _)) HLT.out HL.out HCAP.out).mono ?_; rintro e w2 ⟨rfl, h2⟩; rw [HQ.out])
        go_ret2
        exact ⟨by rw [HN.out]; rfl, (HWr.out.next h2).bel⟩
    · obtain rfl : j = n := by omega
      have dj : decide ((j : Int) < (j : Int)) = false := decide_eq_false (by omega)
      have HST : Hid (endR j f = E) := by
        show _ = _
        have := HSC.out
        rw [Nat.sub_self] at this
        exact this
      clear hlt hj HSC
      by_cases hz : j = 0
      · subst hz
        have HN : Hid (E = (7, 0)) := by show _ = _; rw [← HST.out]; rfl
        go_wp2
        go_ret2
        exact ⟨by rw [HN.out]; rfl, HWr.out.bel⟩
      · obtain ⟨p, HP⟩ : ∃ p, Hid (j = p + 1) := ⟨j - 1, show j = j - 1 + 1 by omega⟩
        have hp := HP.out
        obtain ⟨b, off, rfl, hb, hc⟩ := HO.out (by omega)
        have hk : wr.cell? ⟨b, off + p * 7, none⟩ = some (.int .i64 (f p).kind) := ((hc p (by omega)).below HWr.out.bel hb).c0
        obtain ⟨R, HR⟩ : ∃ R, Hid (ru (f p).kind = R) := ⟨_, rfl⟩
        have dz : ((j : Int) == 0) = false := by simp; omega
        have hsub : (j : Int) - 1 = (p : Int) := by omega
        have p0 : (0 : Int) ≤ (p : Int) := by omega
        have p1 : (p : Int) < (j : Int) := by omega
        have HF := ru_ends R
        obtain ⟨en, HEN⟩ : ∃ en, Hid (R.ends = en) := ⟨_, rfl⟩
        have HN : Hid (E = if en then (0, 0) else (7, (j : Int))) := by
          show _ = _
          rw [← HST.out]
          unfold endR
          rw [show j - 1 = p by omega, ← (ru_rr (f p).kind).2.2.2, HR.out, HEN.out]
          cases en <;> simp [hz]
        have lb : b < wr.heap.size := by have := HWr.out.bel.size; omega
        clear hc HO hp hz
        rw [HEN.out] at HF
        cases en with
        | true =>
          go_wp2_with (go_at_call 117; refine (ruleOf_me (f p).kind R _ HR.out).mono ?_; rintro e w3 ⟨rfl, h3⟩; rw [HEN.out])
          go_ret2
          exact ⟨by rw [HN.out]; rfl, (HWr.out.next h3).bel⟩
        | false =>
          go_wp2_with (go_at_call 117; refine (ruleOf_me (f p).kind R _ HR.out).mono ?_; rintro e w3 ⟨rfl, h3⟩; rw [HEN.out])
          go_ret2
          exact ⟨by rw [HN.out]; rfl, (HWr.out.next h3).bel⟩
end Go.Proofs.Ytmnifblbacgeoab
