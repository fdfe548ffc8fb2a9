import Derived.Test.YtgkkghphlbgcoaaRO
import Derived.Test.YtgkkghphlbgcoaaNW
import Derived.Test.YtgkkghphlbgcoaaWT
namespace Go.Proofs.Ytgkkghphlbgcoaa.Ca
open Go.RowKit Go.Maps Ho
set_option maxRecDepth 100000
set_option linter.unusedVariables false
set_option linter.unusedSimpArgs false
theorem Rw.flushed {w : World} {D : Nat} {J : Rd} {d : Rs} (h : Rw w D J d) : Rw ((w.setCell ⟨D, 2, none⟩ (.slice none 0 0)).setCell ⟨D, 1, none⟩ (.int .i64 0)) D { J with bv := .slice none 0 0 } { d with filled := 0, bs := [] } := by
  obtain ⟨n1, n2, n3, _, _⟩ := h.ne
  obtain ⟨A, a1, a2⟩ := h.sl
  obtain ⟨B, b1, b2⟩ := h.hs
  refine ⟨So.blk_set (So.blk_set h.c0 _) _, World.ownsRow_nil _ _ _ _, ⟨A, (So.blk_other (Ne.symm n1) _).trans ((So.blk_other (Ne.symm n1) _).trans a1), a2⟩, ⟨B, (So.blk_other (Ne.symm n2) _).trans ((So.blk_other (Ne.symm n2) _).trans b1), b2⟩, fun k hk => (by cases hk), ?_, fun j hj => (by cases hj), ⟨h.rm.1, h.rm.2.1, Nat.zero_le _, h.rm.2.2.2.1, h.rm.2.2.2.2.1, Nat.zero_le _⟩⟩
  show ([D, J.sb, J.hb] ++ ([] ++ [])).Nodup
  simp [n1, n2, n3]
def offF (k : Nat) (hs : Nat → Bool) : Nat → Bool := fun i => if i < k then false else hs i
structure RflI (w : World) (D : Nat) (J : Rd) (d : Rs) (v : Value) (wr : World) : Prop where
  ex : ∃ k : Nat, v = .int .i64 k ∧ k ≤ d.n ∧ Rw wr D { J with bv := .slice none 0 0 } { d with filled := 0, bs := [], hs := offF k d.hs } ∧ Ch (fun j => j = D ∨ j = J.hb) w wr
set_option maxHeartbeats 4000000 in
theorem rFlush_any (D : Nat) (J : Rd) (d : Rs) (w : World) (h : Rw w D J d) :
    Calls Try.prog 27 #[.pointer (some ⟨D, 0, none⟩)] w fun e w' => e = .returned (.tuple #[]) ∧ Rw w' D { J with bv := .slice none 0 0 } { d with filled := 0, bs := [], hs := offF d.n d.hs } ∧ Ch (fun j => j = D ∨ j = J.hb) w w' := by
  have HR : Hid _ := h
  have HF : Hid _ := h.flushed
  obtain ⟨c0, c1, c2, c3, c4⟩ := h.cell
  have lD := h.lt D (.inl (mem_wr.2 (.inl rfl)))
  have fD1 := So.row_fr h.c0 1
  have fD2 := So.row_fr h.c0 2
  obtain ⟨_, _, _, m4, m5, _⟩ := h.rm
  obtain ⟨ba, bcap, hbv, _⟩ := h.blocks
  rw [hbv] at c2
  clear h hbv
  go_enter Try.func27, Try.ntmps27
  go_wp2
  go_loopw [14] (fun v wr => RflI w D J d v wr) (fun v _ => d.n - (intOf v).toNat)
  case atStart =>
    refine ⟨0, rfl, Nat.zero_le _, ?_, ((Ch.refl _ _).set (.inl rfl) _ _).set (.inl rfl) _ _⟩
    have := HF.out
    have e : offF 0 d.hs = d.hs := by funext i; unfold offF; rw [if_neg (Nat.not_lt_zero _)]
    rw [e]; exact this
  case round =>
    obtain ⟨k, rfl, hk, hrw, hch⟩ := hrel
    have HRW : Hid _ := hrw
    have HCH : Hid _ := hch
    obtain ⟨_, _, _, _, e4⟩ := hrw.cell
    have lD' := hrw.lt D (.inl (mem_wr.2 (.inl rfl)))
    by_cases hkn : k < d.n
    · have f1 : (k : Int) < (d.n : Int) := by omega
      have f2 : decide ((k : Int) < (d.n : Int)) = true := decide_eq_true f1
      have f3 : (0 : Int) ≤ (k : Int) := by omega
      obtain ⟨B, hB, hB1, hB2⟩ := hrw.hs
      have b0 := (So.row_cell hB k).trans (hB2 k hkn)
      have bf := So.row_fr hB k
      have lH := So.row_lt hB
      obtain ⟨k1, hk1⟩ : ∃ k1, k + 1 = k1 := ⟨_, rfl⟩
      have t1 : IntKind.i64.wrap ((k : Int) + 1) = (k1 : Int) := So.wr_one hk1 (by omega)
      have HK1 : Hid _ := hk1
      have HB : Hid _ := hB
      have HB1 : Hid _ := hB1
      have HB2 : Hid _ := hB2
      clear hrw hch hk1 hB hB1 hB2
      go_wp2
      obtain ⟨n1, n2, n3, _, _⟩ := HRW.out.ne
      have U := row_upd (v := .bool false) HB1.out HB2.out hkn
      refine ⟨⟨k1, rfl, by have := HK1.out; omega, ?_, HCH.out.set (.inr rfl) _ _⟩, by have := HK1.out; simp [intOf]; omega⟩
      obtain ⟨A, a1, a2⟩ := HRW.out.sl
      refine HRW.out.mk3 (fun j _ _ _ n3 => So.blk_other n3 _) 0 d.sl (offF k1 d.hs) ((So.blk_other n2 _).trans HRW.out.c0) (Nat.zero_le _) ⟨A, (So.blk_other n3 _).trans a1, a2⟩ ⟨_, So.blk_set HB.out _, U.1, fun i hi => ?_⟩
      rw [U.2 i hi]
      have := HK1.out
      unfold offF
      by_cases e : i = k
      · subst e
        rw [if_pos rfl, if_pos (by omega)]
      · rw [if_neg e]
        show some (Value.bool (if i < k then false else d.hs i)) = _
        by_cases e2 : i < k
        · rw [if_pos e2, if_pos (by omega)]
        · rw [if_neg e2, if_neg (by omega)]
    · have f1 : ¬ (k : Int) < (d.n : Int) := by omega
      have f2 : decide ((k : Int) < (d.n : Int)) = false := decide_eq_false f1
      obtain rfl : k = d.n := by omega
      clear hrw hch
      go_wp2
      go_end0
      exact ⟨rfl, HRW.out, HCH.out⟩
theorem infoB : (Try.prog.info? 4).map (fun i => (i.zero, i.size, i.bytes)) = some (some (.bool false), 1, 1) := by kernel_rfl
theorem infoU' : (Try.prog.info? 30).map (fun i => (i.zero, i.size, i.bytes)) = some (some (.int .u32 0), 1, 4) := by kernel_rfl
theorem made_get (v : Value) (n k : Nat) (hk : k < n) : (madeCells #[v] n)[k]? = some v := by
  unfold madeCells
  have : k < n := by omega
  rw [Array.getElem?_map, Array.getElem?_eq_getElem (by simpa using this)]
  simp [Nat.mod_one]
def newR (room n : Nat) : Rs := ⟨room, 0, n, fun _ => 0, fun _ => false, []⟩
theorem rw_new (w : World) (room n : Nat) (h1 : 1 ≤ room ∧ room ≤ 1048576) (h2 : 1 ≤ n ∧ n ≤ 65536) (sb hb : Nat) (hs : sb < w.heap.size) (hh : hb < w.heap.size) (hne : sb ≠ hb) (b1 : w.heap[sb]? = some (.cells (madeCells #[.int .u32 0] n) 30)) (b2 : w.heap[hb]? = some (.cells (madeCells #[.bool false] n) 4)) :
    Rw (w.alloc (.cells #[.int .i64 room, .int .i64 0, .slice none 0 0, .slice (some ⟨sb, 0, none⟩) n n, .slice (some ⟨hb, 0, none⟩) n n] 61)) w.heap.size ⟨.slice none 0 0, sb, hb⟩ (newR room n) := by
  have hk : Below w.heap.size w (w.alloc (.cells #[.int .i64 room, .int .i64 0, .slice none 0 0, .slice (some ⟨sb, 0, none⟩) n n, .slice (some ⟨hb, 0, none⟩) n n] 61)) := (Below.refl _ _).alloc (Nat.le_refl _) _
  have z1 : (madeCells #[Value.int .u32 0] n).size = n := by simp [madeCells]
  have z2 : (madeCells #[Value.bool false] n).size = n := by simp [madeCells]
  refine ⟨World.alloc_heap_new w _, World.ownsRow_nil _ _ _ _, ⟨_, (hk.block sb hs).trans b1, z1, fun k hk => made_get _ n k hk⟩, ⟨_, (hk.block hb hh).trans b2, z2, fun k hk => made_get _ n k hk⟩, fun k hk => (by cases hk), ?_, fun j hj => (by cases hj), ⟨h1.1, h1.2, Nat.zero_le _, h2.1, h2.2, Nat.zero_le _⟩⟩
  show ([w.heap.size, sb, hb] ++ ([] ++ [])).Nodup
  simp
  omega
set_option maxHeartbeats 8000000 in
theorem rNew_good (room n : Nat) (w : World) (h1 : 1 ≤ room ∧ room ≤ 1048576) (h2 : 1 ≤ n ∧ n ≤ 65536) :
    Calls Try.prog 6 #[.int .i64 room, .int .i64 n] w fun e w' => ∃ D J, e = .returned (.tuple #[.pointer (some ⟨D, 0, none⟩), .int .i64 0]) ∧ Rw w' D J (newR room n) ∧ (∀ j, allB D J [] j → w.heap.size ≤ j) ∧ Below w.heap.size w w' := by
  obtain ⟨i0, hi, hz0, hz1, hz2⟩ := info_parts infoU'
  obtain ⟨j0, gi, gz0, gz1, gz2⟩ := info_parts infoB
  have H1 : Hid _ := h1
  have H2 : Hid _ := h2
  have d0 : decide ((room : Int) < 1) = false := decide_eq_false (by omega)
  have d1 : decide (1048576 < (room : Int)) = false := decide_eq_false (by omega)
  have d2 : decide ((n : Int) < 1) = false := decide_eq_false (by omega)
  have d3 : decide (65536 < (n : Int)) = false := decide_eq_false (by omega)
  have d0n : ¬ room < 1 := by omega
  have d1n : ¬ 1048576 < room := by omega
  have d2n : ¬ n < 1 := by omega
  have d3n : ¬ 65536 < n := by omega
  have d2z : ¬ n = 0 := by omega
  have d0z : ¬ room = 0 := by omega
  have hmk := fun w' : World => run_make (P := Try.prog) w' 32 30 i0 _ Try.underlying32 hi hz0 .i64 .i64 (n : Int) (n : Int) (by omega) (Int.le_refl _) (by rw [hz2]; omega) (by omega)
  rw [hz1] at hmk
  simp only [Int.toNat_natCast] at hmk
  have gmk := fun w' : World => run_make (P := Try.prog) w' 58 4 j0 _ Try.underlying58 gi gz0 .i64 .i64 (n : Int) (n : Int) (by omega) (Int.le_refl _) (by rw [gz2]; omega) (by omega)
  rw [gz1] at gmk
  simp only [Int.toNat_natCast] at gmk
  clear h1 h2 hi hz0 hz1 hz2 gi gz0 gz1 gz2
  go_enter Try.func6, Try.ntmps6
  go_upto_region 3 with fail
  go_region
  all_goals go_wp2
  all_goals go_ret2
  · refine ⟨_, ⟨.slice none 0 0, w.heap.size, w.heap.size + 1⟩, rfl, ?_, ?_, ?_⟩
    · have h3 := rw_new ((w.alloc (.cells (madeCells #[.int .u32 0] n) 30)).alloc (.cells (madeCells #[.bool false] n) 4)) room n H1.out H2.out w.heap.size (w.heap.size + 1) (by simp; omega) (by simp) (by omega)
        ((((Below.refl (w.alloc (.cells (madeCells #[.int .u32 0] n) 30)).heap.size (w.alloc (.cells (madeCells #[.int .u32 0] n) 30))).alloc (Nat.le_refl _) _).block w.heap.size (by simp)).trans (World.alloc_heap_new w _)) (by have := World.alloc_heap_new (w.alloc (.cells (madeCells #[.int .u32 0] n) 30)) (.cells (madeCells #[.bool false] n) 4); simpa using this)
      simp only [World.size_alloc] at h3
      exact h3.below (Below.refl _ _).drew
    · intro j hj
      rcases hj with hj | hj
      · rcases mem_wr.1 hj with rfl | rfl | rfl | e | ⟨k, hm, _⟩
        · omega
        · exact Nat.le_refl _
        · show w.heap.size ≤ w.heap.size + 1; omega
        · cases e
        · cases hm
      · cases hj
    · exact ((((Below.refl _ w).alloc (Nat.le_refl _) _).alloc (by simp) _).alloc (by simp; omega) _).drew
  · refine ⟨_, ⟨.slice none 0 0, w.heap.size + 1, w.heap.size⟩, rfl, ?_, ?_, ?_⟩
    · have h3 := rw_new ((w.alloc (.cells (madeCells #[.bool false] n) 4)).alloc (.cells (madeCells #[.int .u32 0] n) 30)) room n H1.out H2.out (w.heap.size + 1) w.heap.size (by simp) (by simp; omega) (by omega)
        (by have := World.alloc_heap_new (w.alloc (.cells (madeCells #[.bool false] n) 4)) (.cells (madeCells #[.int .u32 0] n) 30); simpa using this) ((((Below.refl (w.alloc (.cells (madeCells #[.bool false] n) 4)).heap.size (w.alloc (.cells (madeCells #[.bool false] n) 4))).alloc (Nat.le_refl _) _).block w.heap.size (by simp)).trans (World.alloc_heap_new w _))
      simp only [World.size_alloc] at h3
      exact h3.below (Below.refl _ _).drew
    · intro j hj
      rcases hj with hj | hj
      · rcases mem_wr.1 hj with rfl | rfl | rfl | e | ⟨k, hm, _⟩
        · omega
        · show w.heap.size ≤ w.heap.size + 1; omega
        · exact Nat.le_refl _
        · cases e
        · cases hm
      · cases hj
    · exact ((((Below.refl _ w).alloc (Nat.le_refl _) _).alloc (by simp) _).alloc (by simp; omega) _).drew
end Go.Proofs.Ytgkkghphlbgcoaa.Ca
namespace Go.Proofs.Ytgkkghphlbgcoaa.Ca
open Go.RowKit Go.Maps Ho
set_option maxRecDepth 100000
set_option linter.unusedVariables false
set_option linter.unusedSimpArgs false
def Mk (P : Prop) : Prop := P
theorem mkI {P : Prop} (h : Mk P) : P := h
/-- Find, plain. -/
def fnR (d : Rs) (pc : Nat) : Int × Bool := match fdK d.bs pc with | none => (0, false) | some k => ((k.at' : Int), true)
theorem rFind_any (D pc : Nat) (J : Rd) (d : Rs) (w : World) (h : Rw w D J d) :
    Calls Try.prog 21 #[.pointer (some ⟨D, 0, none⟩), .int .u32 pc] w fun e w' => e = .returned (.tuple #[.int .i64 (fnR d pc).1, .bool (fnR d pc).2]) ∧ Below w.heap.size w w' := by
  unfold fnR
  cases hf : fdK d.bs pc with
  | none => exact rFind_none D pc J d w h hf
  | some k => exact rFind_some D pc J d k w h hf
/-- The table, plain. -/
def tpR (d : Rs) (k : Nat) : Nat := if d.hs k = true then d.sl k else 0
def taR (d : Rs) (k : Nat) : Int := if d.hs k = true then (fnR d (d.sl k)).1 else -1
structure RtI (w : World) (D : Nat) (J : Rd) (d : Rs) (u v : Value) (wr : World) : Prop where
  ex : ∃ k : Nat, v = .int .i64 k ∧ k ≤ d.n ∧ wr.ownsRow w.heap.size 56 2 u k (tL (tpR d) (taR d) k) ∧ Rw wr D J d ∧ Below w.heap.size w wr
set_option maxHeartbeats 8000000 in
theorem rTable_any (D : Nat) (J : Rd) (d : Rs) (w : World) (h : Rw w D J d) :
    Calls Try.prog 34 #[.pointer (some ⟨D, 0, none⟩)] w fun e w' => ∃ v, e = .returned v ∧ w'.ownsRow w.heap.size 56 2 v d.n (tL (tpR d) (taR d) d.n) ∧ Below w.heap.size w w' := by
  obtain ⟨i0, hi, hz0, hz1, hz2⟩ := info_parts infoT
  have HR : Hid _ := h
  obtain ⟨_, _, _, c3, c4⟩ := h.cell
  obtain ⟨_, _, _, m4, m5, _⟩ := h.rm
  clear h
  go_enter Try.func34, Try.ntmps34
  go_wp2
  go_loopw [3, 11] (fun u v wr => RtI w D J d u v wr) (fun _ v _ => d.n - (intOf v).toNat)
  case atStart => exact ⟨0, rfl, Nat.zero_le _, World.ownsRow_nil _ _ _ _, HR.out, Below.refl _ _⟩
  case round =>
    obtain ⟨k, rfl, hk, hrow, hrw, hb⟩ := hrel
    have HROW : Hid (wr.ownsRow w.heap.size 56 2 u3 k (tL (tpR d) (taR d) k)) := hrow
    have HRW : Hid _ := hrw
    have HB : Hid _ := hb
    obtain ⟨_, _, _, e3, e4⟩ := hrw.cell
    have lD := hrw.lt D (.inl (mem_wr.2 (.inl rfl)))
    by_cases hkn : k < d.n
    · have f1 : (k : Int) < (d.n : Int) := by omega
      have f2 : decide ((k : Int) < (d.n : Int)) = true := decide_eq_true f1
      have f3 : (0 : Int) ≤ (k : Int) := by omega
      obtain ⟨A, hA, hA1, hA2⟩ := hrw.sl
      obtain ⟨B, hB, hB1, hB2⟩ := hrw.hs
      have a0 := (So.row_cell hA k).trans (hA2 k hkn)
      have b0 := (So.row_cell hB k).trans (hB2 k hkn)
      have lS := So.row_lt hA
      have lH := So.row_lt hB
      obtain ⟨k1, hk1⟩ : ∃ k1, k + 1 = k1 := ⟨_, rfl⟩
      have t1 : IntKind.i64.wrap ((k : Int) + 1) = (k1 : Int) := So.wr_one hk1 (by omega)
      have HK1 : Hid _ := hk1
      have hal : Below wr.heap.size wr (wr.alloc (.cells #[.int .u32 0, .int .i64 (-1)] 56)) := (Below.refl _ _).alloc (Nat.le_refl _) _
      have HAL : Hid _ := hal
      have e3' := (hal.cell (p := ⟨D, 3, none⟩) lD).trans e3
      have e4' := (hal.cell (p := ⟨D, 4, none⟩) lD).trans e4
      have a0' := (hal.cell (p := ⟨J.sb, k, none⟩) lS).trans a0
      have b0' := (hal.cell (p := ⟨J.hb, k, none⟩) lH).trans b0
      clear hrow hrw hb hA hB hA1 hB1 hA2 hB2 hk1 hal
      cases hh : d.hs k with
      | false =>
        rw [hh] at b0'
        have HH : Hid _ := hh
        clear hh b0
        go_wp2_with (at_builtin; refine wpList_append_own _ rfl _ _ 50 rfl w.heap.size 56 i0 (.agg #[.int .u32 0, .int .i64 0]) 2 16 Try.underlying50 hi hz0 hz1 hz2 rfl (by decide) _ _ _ rfl ((HROW.out.alloc _).alloc _) ⟨wr.heap.size + 1, 0, none⟩ 1 1 [.int .u32 0, .int .i64 (-1)] rfl rfl (new_twoR _ _ _ _ _) (by simp [Value.oneCell']) (by rw [show maxLen = 9223372036854775807 by decide]; omega) (by omega) (by have := HB.out.size; simp; omega) ?_; intro v' w1 hown hgrow _)
        have hbl : Below w.heap.size ((wr.alloc (.cells #[.int .u32 0, .int .i64 (-1)] 56)).alloc (.cells #[.int .u32 0, .int .i64 (-1)] 56)) w1 := ⟨hgrow.os, hgrow.tape, hgrow.output, hgrow.size, fun j hj => hgrow.block j (by have := HB.out.size; simp; omega) (fun e => by have := (HROW.out.lt j e.symm).1; omega)⟩
        have HBL : Below w.heap.size w w1 := (HB.out.trans ((((Below.refl w.heap.size wr).alloc (HB.out.size) _).alloc (by have := HB.out.size; simp; omega) _).trans hbl))
        refine ⟨⟨k1, rfl, by have := HK1.out; omega, ?_, HR.out.below HBL, HBL⟩, by have := HK1.out; simp [intOf]; omega⟩
        rw [← HK1.out, tL_succ]
        simpa [tpR, taR, HH.out] using hown
      | true =>
        rw [hh] at b0'
        have HH : Hid _ := hh
        clear hh b0
        have hal2 : Below w.heap.size w (wr.alloc (.cells #[.int .u32 (d.sl k), .int .i64 (-1)] 56)) := HB.out.trans ((Below.refl w.heap.size wr).alloc (HB.out.size) _)
        have HA2 : Hid _ := hal2
        have HF : Hid _ := rFind_any D (d.sl k) J d _ (HR.out.below hal2)
        have hnew : (wr.alloc (.cells #[.int .u32 (d.sl k), .int .i64 (-1)] 56)).heap[wr.heap.size]? = some (.cells #[.int .u32 (d.sl k), .int .i64 (-1)] 56) := World.alloc_heap_new wr _
        clear hal2
        go_wp2_with (first
          | (go_at_call 21; refine Calls.mono HF.out ?_; rintro _ w1 ⟨rfl, hb1⟩; dsimp only; have hn1 := (hb1.block wr.heap.size (So.row_lt hnew)).trans hnew; have q0 : w1.cell? ⟨wr.heap.size, 0, none⟩ = some (.int .u32 (d.sl k)) := (So.row_cell hn1 0).trans rfl; have q1 : w1.cell? ⟨wr.heap.size, 1, none⟩ = some (.int .i64 (-1)) := (So.row_cell hn1 1).trans rfl; have z1 := So.row_fr hn1 1; have HN1 : Hid _ := hn1; clear hn1; have hWb : Below wr.heap.size wr (w1.setCell ⟨wr.heap.size, 1, none⟩ (.int .i64 (fnR d (d.sl k)).1)) := ((((Below.refl wr.heap.size wr).alloc (Nat.le_refl _) _).trans (hb1.mono (Nat.le_of_lt (So.row_lt hnew)))).setCell (Nat.le_refl _) _); have HWB : Hid _ := hWb; have HB1 : Hid _ := hb1; clear hWb hb1)
          | (at_builtin; refine mkI ?_))
        unfold Mk
        refine wpList_append_own _ rfl _ _ 50 rfl w.heap.size 56 i0 (.agg #[.int .u32 0, .int .i64 0]) 2 16 Try.underlying50 hi hz0 hz1 hz2 rfl (by decide) _ _ _ rfl (row_keep HROW.out (fun j e => (HWB.out.alloc HWB.out.size _).block j (HROW.out.lt j e).2)) ⟨w1.heap.size, 0, none⟩ 1 1 [.int .u32 (d.sl k), .int .i64 (fnR d (d.sl k)).1] rfl rfl (by have := new_two (w1.setCell ⟨wr.heap.size, 1, none⟩ (.int .i64 (fnR d (d.sl k)).1)) (.int .u32 (d.sl k)) (.int .i64 (fnR d (d.sl k)).1) 56; simpa using this) (by simp [Value.oneCell']) (by rw [show maxLen = 9223372036854775807 by decide]; omega) (by omega) (by have := HB.out.size; have := HWB.out.size; simp at this; simp; omega) ?_
        intro v' w3 hown hgrow _
        go_wp2
        have hbl : Below w.heap.size ((w1.setCell ⟨wr.heap.size, 1, none⟩ (.int .i64 (fnR d (d.sl k)).1)).alloc (.cells #[.int .u32 (d.sl k), .int .i64 (fnR d (d.sl k)).1] 56)) w3 := ⟨hgrow.os, hgrow.tape, hgrow.output, hgrow.size, fun j hj => hgrow.block j (by have := HB.out.size; have := HWB.out.size; simp at this; simp; omega) (fun e => by have := (HROW.out.lt j e.symm).1; omega)⟩
        have HBL : Below w.heap.size w w3 := HB.out.trans (((HWB.out.mono HB.out.size).alloc (by have := HB.out.size; have := HWB.out.size; simp at this; simp; omega) _).trans hbl)
        refine ⟨⟨k1, rfl, by have := HK1.out; omega, ?_, HR.out.below HBL, HBL⟩, by have := HK1.out; simp [intOf]; omega⟩
        rw [← HK1.out, tL_succ]
        simpa [tpR, taR, HH.out] using hown
    · have f1 : ¬ (k : Int) < (d.n : Int) := by omega
      have f2 : decide ((k : Int) < (d.n : Int)) = false := decide_eq_false f1
      obtain rfl : k = d.n := by omega
      clear hrow hrw hb
      go_wp2
      go_ret
      exact ⟨_, rfl, HROW.out, HB.out⟩
end Go.Proofs.Ytgkkghphlbgcoaa.Ca
namespace Go.Proofs.Ytgkkghphlbgcoaa.Ca
open Go.RowKit Go.Maps Ho
set_option maxRecDepth 100000
set_option linter.unusedVariables false
set_option linter.unusedSimpArgs false
/-- A row of single cells. -/
theorem row_one {w : World} {b e n : Nat} {v : Value} {xs : List Value} (h : w.ownsRow b e 1 v n xs) : ∃ a cap, v = .slice a n cap ∧ (0 < n → ∃ g, a = some ⟨g, 0, none⟩ ∧ g < w.heap.size ∧ ∀ i u, xs[i]? = some u → w.cell? ⟨g, i, none⟩ = some u) := by
  rcases h.2 with ⟨e, h0⟩ | ⟨g, cap, cur, e, h2, h3, h4, h5, h6, h7⟩
  · exact ⟨none, 0, by rw [e, h0], fun hp => by omega⟩
  · refine ⟨_, cap, e, fun _ => ⟨g, rfl, So.row_lt h3, fun i u hu => ?_⟩⟩
    have hi := (List.getElem?_eq_some_iff.1 hu).1
    rw [← h7] at hu hi
    rw [List.length_take] at hi
    rw [List.getElem?_take_of_lt (by omega)] at hu
    rw [So.row_cell h3]
    simpa using hu
/-- The number of what leads on at a word. -/
def ldI : List (Nat × Nat) → Nat → Int → Int
  | [], _, _ => -1
  | b :: r, i, x => if (b.1 : Int) = x then (i : Int) else ldI r (i + 1) x
theorem ldI_step (bs : List (Nat × Nat)) (i : Nat) (x : Int) (k : Nat × Nat) (h : bs[i]? = some k) : ldI (bs.drop i) i x = if (k.1 : Int) = x then (i : Int) else ldI (bs.drop (i + 1)) (i + 1) x := by
  have hl := (List.getElem?_eq_some_iff.1 h)
  rw [List.drop_eq_getElem_cons hl.1, hl.2]
  rfl
theorem ldI_neg : ∀ (bs : List (Nat × Nat)) (i : Nat) (x : Int), ldI bs i x = -1 ∨ 0 ≤ ldI bs i x ∧ ∃ p ∈ bs, (p.1 : Int) = x
  | [], _, _ => .inl rfl
  | b :: r, i, x => by
    unfold ldI
    by_cases e : (b.1 : Int) = x
    · rw [if_pos e]; exact .inr ⟨by omega, b, List.mem_cons_self, e⟩
    · rw [if_neg e]
      rcases ldI_neg r (i + 1) x with h | ⟨h, p, hp, hx⟩
      · exact .inl h
      · exact .inr ⟨h, p, List.mem_cons_of_mem _ hp, hx⟩
theorem ldI_none : ∀ (bs : List (Nat × Nat)) (i : Nat) (x : Int), ldI bs i x = -1 ↔ ∀ p ∈ bs, (p.1 : Int) ≠ x
  | [], _, _ => by simp [ldI]
  | b :: r, i, x => by
    unfold ldI
    by_cases e : (b.1 : Int) = x
    · rw [if_pos e]
      constructor
      · intro h; omega
      · intro h; exact absurd e (h b List.mem_cons_self)
    · rw [if_neg e, ldI_none r (i + 1) x]
      constructor
      · rintro h p hp
        rcases List.mem_cons.1 hp with rfl | hp
        · exact e
        · exact h p hp
      · exact fun h p hp => h p (List.mem_cons_of_mem _ hp)
structure LdI (w : World) (ls : List (Nat × Nat)) (x : Int) (v : Value) (wr : World) : Prop where
  ex : ∃ i : Nat, v = .int .i64 i ∧ i ≤ ls.length ∧ ldI ls 0 x = ldI (ls.drop i) i x ∧ wr = w
set_option maxHeartbeats 4000000 in
theorem rleads_any (g o : Nat) (x : Int) (ls : List (Nat × Nat)) (lv : Value) (w : World) (hc : w.cell? ⟨g, o + 4, none⟩ = some lv) (hr : w.ownsRow 0 3 1 lv ls.length (ls.map fun p => .int .i64 p.1)) (hn : ls.length ≤ 1048576) :
    Calls Try.prog 47 #[.pointer (some ⟨g, o, none⟩), .int .i64 x] w fun e w' => e = .returned (.int .i64 (ldI ls 0 x)) ∧ w' = w := by
  obtain ⟨a, cap, rfl, hrow⟩ := row_one hr
  obtain ⟨X, hX⟩ : ∃ X, ldI ls 0 x = X := ⟨_, rfl⟩
  have HX : Hid _ := hX
  have HROW : Hid _ := hrow
  rw [hX]
  clear hX hr hrow
  go_enter Try.func47, Try.ntmps47
  go_wp2
  go_loopw [12] (fun v wr => LdI w ls x v wr) (fun v _ => ls.length - (intOf v).toNat)
  case atStart => exact ⟨0, rfl, Nat.zero_le _, rfl, rfl⟩
  case round =>
    obtain ⟨i, rfl, hi, hfd, rfl⟩ := hrel
    have HF : Hid _ := hfd
    clear hfd
    by_cases hin : i < ls.length
    · obtain ⟨k, hk⟩ : ∃ k, ls[i]? = some k := ⟨_, List.getElem?_eq_getElem hin⟩
      obtain ⟨g2, rfl, hg2, hy⟩ := HROW.out (by omega)
      have y0 := hy i (.int .i64 k.1) (by rw [List.getElem?_map, hk]; rfl)
      have f1 : (i : Int) < (ls.length : Int) := by omega
      have f2 : decide ((i : Int) < (ls.length : Int)) = true := decide_eq_true f1
      have f3 : (0 : Int) ≤ (i : Int) := by omega
      obtain ⟨i1, hi1⟩ : ∃ i1, i + 1 = i1 := ⟨_, rfl⟩
      have t1 : IntKind.i64.wrap ((i : Int) + 1) = (i1 : Int) := So.wr_one hi1 (by omega)
      have HI1 : Hid _ := hi1
      have hst := ldI_step ls i x k hk
      have HST : Hid _ := hst
      clear hi1 hst hk hy
      by_cases he : (k.1 : Int) = x
      · have e2 : ((k.1 : Int) == x) = true := by simpa using he
        have hXi : X = (i : Int) := by rw [← HX.out, HF.out, HST.out, if_pos he]
        have HXi : Hid _ := hXi
        clear hXi
        go_wp2
        go_ret
        exact ⟨by rw [HXi.out]; rfl, rfl⟩
      · have e2 : ((k.1 : Int) == x) = false := by simpa using he
        have HE : Hid _ := he
        clear he
        go_wp2
        exact ⟨⟨i1, rfl, by have := HI1.out; omega, by rw [← HI1.out, HF.out, HST.out, if_neg HE.out], rfl⟩, by have := HI1.out; simp [intOf]; omega⟩
    · have f1 : ¬ (i : Int) < (ls.length : Int) := by omega
      have f2 : decide ((i : Int) < (ls.length : Int)) = false := decide_eq_false f1
      have hXi : X = -1 := by rw [← HX.out, HF.out, List.drop_eq_nil_of_le (by omega)]; rfl
      have HXi : Hid _ := hXi
      clear hXi
      go_wp2
      go_ret
      exact ⟨by rw [HXi.out]; rfl, rfl⟩
end Go.Proofs.Ytgkkghphlbgcoaa.Ca
