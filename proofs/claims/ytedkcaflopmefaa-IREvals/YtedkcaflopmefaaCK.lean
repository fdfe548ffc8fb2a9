import Derived.Test.YtedkcaflopmefaaCB
namespace Go.Proofs.Ytedkcaflopmefaa
open Go.RowKit
set_option maxRecDepth 100000
set_option linter.unusedVariables false
set_option linter.unusedSimpArgs false

/-! ## A row of operations -/
structure OpAt (w : World) (b off : Nat) (o : OpR) : Prop where
  c0 : w.cell? ⟨b, off, none⟩ = some (.int .i64 o.kind)
  c1 : w.cell? ⟨b, off + 1, none⟩ = some (.int .i64 o.w)
  c2 : w.cell? ⟨b, off + 2, none⟩ = some (.int .i64 o.a)
  c3 : w.cell? ⟨b, off + 3, none⟩ = some (.int .i64 o.b)
  c4 : w.cell? ⟨b, off + 4, none⟩ = some (.int .i64 o.c)
  c5 : w.cell? ⟨b, off + 5, none⟩ = some (.int .u32 o.k)
  c6 : w.cell? ⟨b, off + 6, none⟩ = some (.int .i64 o.n)
def OpsR (w : World) (bp : Option Addr) (n : Nat) (f : Nat → OpR) : Prop := 0 < n → ∃ b off, bp = some ⟨b, off, none⟩ ∧ b < w.heap.size ∧ ∀ i, i < n → OpAt w b (off + i * 7) (f i)
theorem OpAt.below {w w' : World} {b off n : Nat} {o : OpR} (h : OpAt w b off o) (k : Below n w w') (hb : b < n) : OpAt w' b off o :=
  ⟨(k.cell (p := ⟨b, off, none⟩) hb).trans h.c0, (k.cell (p := ⟨b, off + 1, none⟩) hb).trans h.c1, (k.cell (p := ⟨b, off + 2, none⟩) hb).trans h.c2, (k.cell (p := ⟨b, off + 3, none⟩) hb).trans h.c3, (k.cell (p := ⟨b, off + 4, none⟩) hb).trans h.c4, (k.cell (p := ⟨b, off + 5, none⟩) hb).trans h.c5, (k.cell (p := ⟨b, off + 6, none⟩) hb).trans h.c6⟩
theorem OpsR.below {w w' : World} {bp : Option Addr} {n m : Nat} {f : Nat → OpR} (h : OpsR w bp n f) (k : Below m w w') (hm : w.heap.size ≤ m) : OpsR w' bp n f := fun h0 => by
  obtain ⟨b, off, e, hb, hc⟩ := h h0
  exact ⟨b, off, e, Nat.lt_of_lt_of_le hb k.size, fun i hi => (hc i hi).below k (by omega)⟩
theorem OpsR.less {w : World} {bp : Option Addr} {n m : Nat} {f : Nat → OpR} (h : OpsR w bp n f) (hm : m ≤ n) : OpsR w bp m f := fun h0 => by
  obtain ⟨b, off, e, hb, hc⟩ := h (by omega)
  exact ⟨b, off, e, hb, fun i hi => hc i (by omega)⟩

/-! ## Which values an operation takes -/
def gvn (f : Nat → OpR) (i : Nat) (t : Int) : Bool := decide (0 ≤ t ∧ t < i) && (rr (f t.toNat).kind).gives
def tk (x : FL) (o : OpR) (f : Nat → OpR) (i : Nat) : Nat → Bool
  | 0 => x.ha && !(gvn f i o.a)
  | 1 => x.hb && !(gvn f i o.b)
  | _ => x.hc && !(gvn f i o.c)
def takenBad (x : FL) (o : OpR) (f : Nat → OpR) (i : Nat) : Bool := tk x o f i 0 || tk x o f i 1 || tk x o f i 2
theorem ix3_0 (a b c : Int) (w : World) : (Instr.index 229 (.agg #[.int .u8 1, .int .i64 a, .int .u8 2, .int .i64 b, .int .u8 4, .int .i64 c]) (.int .i64 0)).run Try.prog w = .ok (.agg #[.int .u8 1, .int .i64 a]) w := by
  simp [Instr.index, Try.underlying229, Try.underlying228, go_sem, part, asAgg]
theorem ix3_1 (a b c : Int) (w : World) : (Instr.index 229 (.agg #[.int .u8 1, .int .i64 a, .int .u8 2, .int .i64 b, .int .u8 4, .int .i64 c]) (.int .i64 1)).run Try.prog w = .ok (.agg #[.int .u8 2, .int .i64 b]) w := by
  simp [Instr.index, Try.underlying229, Try.underlying228, go_sem, part, asAgg]
theorem ix3_2 (a b c : Int) (w : World) : (Instr.index 229 (.agg #[.int .u8 1, .int .i64 a, .int .u8 2, .int .i64 b, .int .u8 4, .int .i64 c]) (.int .i64 2)).run Try.prog w = .ok (.agg #[.int .u8 4, .int .i64 c]) w := by
  simp [Instr.index, Try.underlying229, Try.underlying228, go_sem, part, asAgg]

set_option maxHeartbeats 4000000 in
theorem taken_any (r : RR) (x : FL) (o : OpR) (bp : Option Addr) (i cap : Nat) (f : Nat → OpR) (w : World) (hm : MaskOk r.m x) (hi : i ≤ 2048) (hO : OpsR w bp i f) :
    Calls Try.prog 141 #[.agg #[.int .u8 r.lo, .int .u8 r.hi, .int .u8 r.m, .bool r.gives, .bool r.ends], .agg #[.int .i64 o.kind, .int .i64 o.w, .int .i64 o.a, .int .i64 o.b, .int .i64 o.c, .int .u32 o.k, .int .i64 o.n], .slice bp i cap] w
      fun e w' => e = .returned (.bool (!(takenBad x o f i))) ∧ Below w.heap.size w w' := by
  have HM : Hid _ := hm
  have HO : Hid _ := hO
  have i0 : (0 : Int) ≤ (i : Int) := by omega
  have i1 : (i : Int) ≤ 2048 := by omega
  clear hm hO hi
  go_enter Try.func141, Try.ntmps141
  go_upto_region 2 with fail
  have HW : Hid (FW w _ r o) := (FW.start w r o).alloc (.cells #[.int .u8 1, .int .i64 o.a, .int .u8 2, .int .i64 o.b, .int .u8 4, .int .i64 o.c] 229)
  go_wp2
  go_loopw [21] (fun i' wr => ∃ j : Nat, i' = .int .i64 j ∧ j ≤ 3 ∧ (∀ p, p < j → tk x o f i p = false) ∧ FW w wr r o) (fun i _ => 3 - (intOf i).toNat)
  case atStart => exact ⟨0, rfl, by omega, fun p hp => absurd hp (Nat.not_lt_zero p), HW.out⟩
  case round =>
    obtain ⟨j, rfl, hj, hall, hW⟩ := hrel
    have HA : Hid _ := hall
    have HWr : Hid _ := hW
    have l3 := row_lt hW.b3
    have l4 := row_lt hW.b4
    have l3' := Nat.lt_succ_of_lt l3
    have m3 : wr.cell? ⟨w.heap.size, 2, none⟩ = some (.int .u8 r.m) := row_cell hW.b3 2
    clear hall hW HW
    rcases (by omega : j = 0 ∨ j = 1 ∨ j = 2 ∨ j = 3) with rfl | rfl | rfl | rfl
    · have e := HM.out.a
      obtain ⟨y, hy⟩ : ∃ y, x.ha = y := ⟨_, rfl⟩
      rw [hy] at e
      have HY : Hid _ := hy
      clear hy
      cases y with
      | false =>
        go_wp2_with (refine wpList_ix rfl 229 (.tmp 20) (.tmp 21) rfl _ _ _ rfl rfl (fun w => ix3_0 _ _ _ w) ?_)
        go_round
        case rel => exact ⟨1, by go_num, by omega, fun p hp => by
            rcases Nat.lt_succ_iff_lt_or_eq.1 hp with h | rfl
            · exact HA.out p h
            · show (x.ha && _) = false; rw [HY.out]; rfl, HWr.out.alloc _⟩
        case measure => simp [intOf]
      | true =>
        by_cases hin : 0 ≤ o.a ∧ o.a < i
        · obtain ⟨q0, q1⟩ := hin
          have hin : 0 ≤ o.a ∧ o.a < i := ⟨q0, q1⟩
          have d1 : decide (0 ≤ o.a ∧ o.a ≤ (i : Int) - 1) = true := decide_eq_true (by omega)
          have hqi : o.a.toNat < i := by omega
          obtain ⟨b, off, rfl, hb, hc⟩ := HO.out (by omega)
          have hk : wr.cell? ⟨b, off + o.a.toNat * 7, none⟩ = some (.int .i64 (f o.a.toNat).kind) := ((hc o.a.toNat hqi).below HWr.out.bel hb).c0
          obtain ⟨g, hg⟩ : ∃ g, (rr (f o.a.toNat).kind).gives = g := ⟨_, rfl⟩
          have HGV : Hid (gvn f i o.a = g) := by show _ = _; unfold gvn; rw [decide_eq_true hin, ← hg]; rfl
          have HD : Hid _ := d1
          have HG : Hid _ := hg
          have lb : b < wr.heap.size := by have := HWr.out.bel.size; omega
          have lb' := Nat.lt_succ_of_lt lb
          have ne : b ≠ wr.heap.size := by omega
          clear hin hc hb d1 hg hqi
          cases g with
          | true =>
            go_wp2_with (first
              | (go_at_call 99; refine (within_any o.a ((i : Int) - 1) _).mono ?_; rintro e w1 ⟨rfl, rfl⟩; rw [HD.out])
              | (go_at_call 44; refine (pgives_any (f o.a.toNat).kind _).mono ?_; rintro e w1 ⟨rfl, h1⟩; rw [HG.out])
              | (refine wpList_ix rfl 229 (.tmp 20) (.tmp 21) rfl _ _ _ rfl rfl (fun w => ix3_0 _ _ _ w) ?_))
            go_round
            case rel => exact ⟨1, by go_num, by omega, fun p hp => by
                rcases Nat.lt_succ_iff_lt_or_eq.1 hp with h | rfl
                · exact HA.out p h
                · show (x.ha && !(gvn f i o.a)) = false; rw [HY.out, HGV.out]; rfl, (HWr.out.alloc _).next h1⟩
            case measure => simp [intOf]
          | false =>
            have FB : Hid (takenBad x o f i = true) := by show _ = _; unfold takenBad; rw [show tk x o f i 0 = true by show (x.ha && !(gvn f i o.a)) = true; rw [HY.out, HGV.out]; rfl]; simp
            go_wp2_with (first
              | (go_at_call 99; refine (within_any o.a ((i : Int) - 1) _).mono ?_; rintro e w1 ⟨rfl, rfl⟩; rw [HD.out])
              | (go_at_call 44; refine (pgives_any (f o.a.toNat).kind _).mono ?_; rintro e w1 ⟨rfl, h1⟩; rw [HG.out])
              | (refine wpList_ix rfl 229 (.tmp 20) (.tmp 21) rfl _ _ _ rfl rfl (fun w => ix3_0 _ _ _ w) ?_))
            go_ret
            exact ⟨by rw [FB.out]; rfl, ((HWr.out.alloc _).next h1).bel⟩
        · have d1 : decide (0 ≤ o.a ∧ o.a ≤ (i : Int) - 1) = false := decide_eq_false (by omega)
          have HGV : Hid (gvn f i o.a = false) := by show _ = _; unfold gvn; rw [decide_eq_false hin]; rfl
          have FB : Hid (takenBad x o f i = true) := by show _ = _; unfold takenBad; rw [show tk x o f i 0 = true by show (x.ha && !(gvn f i o.a)) = true; rw [HY.out, HGV.out]; rfl]; simp
          have HD : Hid _ := d1
          clear hin d1
          go_wp2_with (first
            | (go_at_call 99; refine (within_any o.a ((i : Int) - 1) _).mono ?_; rintro e w1 ⟨rfl, rfl⟩; rw [HD.out])
            | (refine wpList_ix rfl 229 (.tmp 20) (.tmp 21) rfl _ _ _ rfl rfl (fun w => ix3_0 _ _ _ w) ?_))
          go_ret
          exact ⟨by rw [FB.out]; rfl, (HWr.out.alloc _).bel⟩
    · have e := HM.out.b2
      obtain ⟨y, hy⟩ : ∃ y, x.hb = y := ⟨_, rfl⟩
      rw [hy] at e
      have HY : Hid _ := hy
      clear hy
      cases y with
      | false =>
        go_wp2_with (refine wpList_ix rfl 229 (.tmp 20) (.tmp 21) rfl _ _ _ rfl rfl (fun w => ix3_1 _ _ _ w) ?_)
        go_round
        case rel => exact ⟨2, by go_num, by omega, fun p hp => by
            rcases Nat.lt_succ_iff_lt_or_eq.1 hp with h | rfl
            · exact HA.out p h
            · show (x.hb && _) = false; rw [HY.out]; rfl, HWr.out.alloc _⟩
        case measure => simp [intOf]
      | true =>
        by_cases hin : 0 ≤ o.b ∧ o.b < i
        · obtain ⟨q0, q1⟩ := hin
          have hin : 0 ≤ o.b ∧ o.b < i := ⟨q0, q1⟩
          have d1 : decide (0 ≤ o.b ∧ o.b ≤ (i : Int) - 1) = true := decide_eq_true (by omega)
          have hqi : o.b.toNat < i := by omega
          obtain ⟨b, off, rfl, hb, hc⟩ := HO.out (by omega)
          have hk : wr.cell? ⟨b, off + o.b.toNat * 7, none⟩ = some (.int .i64 (f o.b.toNat).kind) := ((hc o.b.toNat hqi).below HWr.out.bel hb).c0
          obtain ⟨g, hg⟩ : ∃ g, (rr (f o.b.toNat).kind).gives = g := ⟨_, rfl⟩
          have HGV : Hid (gvn f i o.b = g) := by show _ = _; unfold gvn; rw [decide_eq_true hin, ← hg]; rfl
          have HD : Hid _ := d1
          have HG : Hid _ := hg
          have lb : b < wr.heap.size := by have := HWr.out.bel.size; omega
          have lb' := Nat.lt_succ_of_lt lb
          have ne : b ≠ wr.heap.size := by omega
          clear hin hc hb d1 hg hqi
          cases g with
          | true =>
            go_wp2_with (first
              | (go_at_call 99; refine (within_any o.b ((i : Int) - 1) _).mono ?_; rintro e w1 ⟨rfl, rfl⟩; rw [HD.out])
              | (go_at_call 44; refine (pgives_any (f o.b.toNat).kind _).mono ?_; rintro e w1 ⟨rfl, h1⟩; rw [HG.out])
              | (refine wpList_ix rfl 229 (.tmp 20) (.tmp 21) rfl _ _ _ rfl rfl (fun w => ix3_1 _ _ _ w) ?_))
            go_round
            case rel => exact ⟨2, by go_num, by omega, fun p hp => by
                rcases Nat.lt_succ_iff_lt_or_eq.1 hp with h | rfl
                · exact HA.out p h
                · show (x.hb && !(gvn f i o.b)) = false; rw [HY.out, HGV.out]; rfl, (HWr.out.alloc _).next h1⟩
            case measure => simp [intOf]
          | false =>
            have FB : Hid (takenBad x o f i = true) := by show _ = _; unfold takenBad; rw [show tk x o f i 1 = true by show (x.hb && !(gvn f i o.b)) = true; rw [HY.out, HGV.out]; rfl]; simp
            go_wp2_with (first
              | (go_at_call 99; refine (within_any o.b ((i : Int) - 1) _).mono ?_; rintro e w1 ⟨rfl, rfl⟩; rw [HD.out])
              | (go_at_call 44; refine (pgives_any (f o.b.toNat).kind _).mono ?_; rintro e w1 ⟨rfl, h1⟩; rw [HG.out])
              | (refine wpList_ix rfl 229 (.tmp 20) (.tmp 21) rfl _ _ _ rfl rfl (fun w => ix3_1 _ _ _ w) ?_))
            go_ret
            exact ⟨by rw [FB.out]; rfl, ((HWr.out.alloc _).next h1).bel⟩
        · have d1 : decide (0 ≤ o.b ∧ o.b ≤ (i : Int) - 1) = false := decide_eq_false (by omega)
          have HGV : Hid (gvn f i o.b = false) := by show _ = _; unfold gvn; rw [decide_eq_false hin]; rfl
          have FB : Hid (takenBad x o f i = true) := by show _ = _; unfold takenBad; rw [show tk x o f i 1 = true by show (x.hb && !(gvn f i o.b)) = true; rw [HY.out, HGV.out]; rfl]; simp
          have HD : Hid _ := d1
          clear hin d1
          go_wp2_with (first
            | (go_at_call 99; refine (within_any o.b ((i : Int) - 1) _).mono ?_; rintro e w1 ⟨rfl, rfl⟩; rw [HD.out])
            | (refine wpList_ix rfl 229 (.tmp 20) (.tmp 21) rfl _ _ _ rfl rfl (fun w => ix3_1 _ _ _ w) ?_))
          go_ret
          exact ⟨by rw [FB.out]; rfl, (HWr.out.alloc _).bel⟩
    · have e := HM.out.c
      obtain ⟨y, hy⟩ : ∃ y, x.hc = y := ⟨_, rfl⟩
      rw [hy] at e
      have HY : Hid _ := hy
      clear hy
      cases y with
      | false =>
        go_wp2_with (refine wpList_ix rfl 229 (.tmp 20) (.tmp 21) rfl _ _ _ rfl rfl (fun w => ix3_2 _ _ _ w) ?_)
        go_round
        case rel => exact ⟨3, by go_num, by omega, fun p hp => by
            rcases Nat.lt_succ_iff_lt_or_eq.1 hp with h | rfl
            · exact HA.out p h
            · show (x.hc && _) = false; rw [HY.out]; rfl, HWr.out.alloc _⟩
        case measure => simp [intOf]
      | true =>
        by_cases hin : 0 ≤ o.c ∧ o.c < i
        · obtain ⟨q0, q1⟩ := hin
          have hin : 0 ≤ o.c ∧ o.c < i := ⟨q0, q1⟩
          have d1 : decide (0 ≤ o.c ∧ o.c ≤ (i : Int) - 1) = true := decide_eq_true (by omega)
          have hqi : o.c.toNat < i := by omega
          obtain ⟨b, off, rfl, hb, hc⟩ := HO.out (by omega)
          have hk : wr.cell? ⟨b, off + o.c.toNat * 7, none⟩ = some (.int .i64 (f o.c.toNat).kind) := ((hc o.c.toNat hqi).below HWr.out.bel hb).c0
          obtain ⟨g, hg⟩ : ∃ g, (rr (f o.c.toNat).kind).gives = g := ⟨_, rfl⟩
          have HGV : Hid (gvn f i o.c = g) := by show _ = _; unfold gvn; rw [decide_eq_true hin, ← hg]; rfl
          have HD : Hid _ := d1
          have HG : Hid _ := hg
          have lb : b < wr.heap.size := by have := HWr.out.bel.size; omega
          have lb' := Nat.lt_succ_of_lt lb
          have ne : b ≠ wr.heap.size := by omega
          clear hin hc hb d1 hg hqi
          cases g with
          | true =>
            go_wp2_with (first
              | (go_at_call 99; refine (within_any o.c ((i : Int) - 1) _).mono ?_; rintro e w1 ⟨rfl, rfl⟩; rw [HD.out])
              | (go_at_call 44; refine (pgives_any (f o.c.toNat).kind _).mono ?_; rintro e w1 ⟨rfl, h1⟩; rw [HG.out])
              | (refine wpList_ix rfl 229 (.tmp 20) (.tmp 21) rfl _ _ _ rfl rfl (fun w => ix3_2 _ _ _ w) ?_))
            go_round
            case rel => exact ⟨3, by go_num, by omega, fun p hp => by
                rcases Nat.lt_succ_iff_lt_or_eq.1 hp with h | rfl
                · exact HA.out p h
                · show (x.hc && !(gvn f i o.c)) = false; rw [HY.out, HGV.out]; rfl, (HWr.out.alloc _).next h1⟩
            case measure => simp [intOf]
          | false =>
            have FB : Hid (takenBad x o f i = true) := by show _ = _; unfold takenBad; rw [show tk x o f i 2 = true by show (x.hc && !(gvn f i o.c)) = true; rw [HY.out, HGV.out]; rfl]; simp
            go_wp2_with (first
              | (go_at_call 99; refine (within_any o.c ((i : Int) - 1) _).mono ?_; rintro e w1 ⟨rfl, rfl⟩; rw [HD.out])
              | (go_at_call 44; refine (pgives_any (f o.c.toNat).kind _).mono ?_; rintro e w1 ⟨rfl, h1⟩; rw [HG.out])
              | (refine wpList_ix rfl 229 (.tmp 20) (.tmp 21) rfl _ _ _ rfl rfl (fun w => ix3_2 _ _ _ w) ?_))
            go_ret
            exact ⟨by rw [FB.out]; rfl, ((HWr.out.alloc _).next h1).bel⟩
        · have d1 : decide (0 ≤ o.c ∧ o.c ≤ (i : Int) - 1) = false := decide_eq_false (by omega)
          have HGV : Hid (gvn f i o.c = false) := by show _ = _; unfold gvn; rw [decide_eq_false hin]; rfl
          have FB : Hid (takenBad x o f i = true) := by show _ = _; unfold takenBad; rw [show tk x o f i 2 = true by show (x.hc && !(gvn f i o.c)) = true; rw [HY.out, HGV.out]; rfl]; simp
          have HD : Hid _ := d1
          clear hin d1
          go_wp2_with (first
            | (go_at_call 99; refine (within_any o.c ((i : Int) - 1) _).mono ?_; rintro e w1 ⟨rfl, rfl⟩; rw [HD.out])
            | (refine wpList_ix rfl 229 (.tmp 20) (.tmp 21) rfl _ _ _ rfl rfl (fun w => ix3_2 _ _ _ w) ?_))
          go_ret
          exact ⟨by rw [FB.out]; rfl, (HWr.out.alloc _).bel⟩
    · have FB : Hid (takenBad x o f i = false) := by show _ = _; unfold takenBad; rw [HA.out 0 (by omega), HA.out 1 (by omega), HA.out 2 (by omega)]; rfl
      go_wp2
      go_ret
      exact ⟨by rw [FB.out]; rfl, HWr.out.bel⟩
end Go.Proofs.Ytedkcaflopmefaa
