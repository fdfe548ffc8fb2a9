import Derived.Test.YtocefkpnlgfebabGM
namespace Go.Proofs.Ytocefkpnlgfebab.Ho
open Go.RowKit
set_option maxRecDepth 100000
set_option linter.unusedVariables false
set_option linter.unusedSimpArgs false

theorem cv_2 {w W w2 : World} {n : Nat} {bp : Option Addr} {cap regs : Nat} {f : Nat → OpR} {P : Nat → PL} {pc : Nat} {count bytes : Int} (hO : OpsR w bp n f) (ob : ∀ b off, bp = some ⟨b, off, none⟩ → b < w.heap.size) (hW : CW w W pc count bytes bp n cap) (hp : w2.rowIs (W.heap.size + 1) 180 (n * 8) (plF P)) (hb : Below (W.drew.alloc (.cells mkZ 122)).heap.size (W.drew.alloc (.cells mkZ 122)) w2) :
    CV w (w2.setRow W.heap.size (mkA (.slice bp n cap) (.slice (some ⟨W.heap.size + 1, 0, none⟩) n n) (.int .i64 regs))) W.heap.size (W.heap.size + 1) n bp cap regs f (g0 P) (.slice none 0 0) pc count bytes := by
  have sb := hW.bel.size
  have s2 := hb.size
  have e : (W.drew.alloc (.cells mkZ 122)).heap.size = W.heap.size + 1 := by simp
  have e' : W.drew.heap.size = W.heap.size := rfl
  rw [e] at s2
  have hm : w2.heap[W.heap.size]? = some (.cells mkZ 122) := (hb.block _ (by rw [e]; omega)).trans (heap_alloc_last W.drew _)
  have hB2 : Below w.heap.size w w2 := ((hW.bel.drew).alloc sb _).trans (hb.mono (by rw [e]; omega))
  have hB : Below w.heap.size w (w2.setRow W.heap.size (mkA (.slice bp n cap) (.slice (some ⟨W.heap.size + 1, 0, none⟩) n n) (.int .i64 regs))) := hB2.trans ⟨rfl, rfl, rfl, by simp [World.setRow], fun i hi => setRow_other (by omega)⟩
  have l1 := row_lt hW.b1
  refine ⟨⟨⟨_, setRow_at hm, mk_size _ _ _, fun i hi => mk_row _ _ regs P i hi⟩, World.ownsRow_nil _ _ _ _, hp.of_block (setRow_other (by omega)), hO.below hB (Nat.le_refl _), ob, sb, by omega, hB.size⟩, ?_, hB⟩
  rw [setRow_other (by omega), hb.block _ (by rw [e]; omega), Below.heap_alloc _ _ _ (by rw [e']; exact l1)]
  exact hW.b1
set_option maxHeartbeats 1000000 in
theorem code_bad (pc : Nat) (count bytes : Int) (bp : Option Addr) (n cap : Nat) (f : Nat → OpR) (regs : Int) (w : World) (hO : OpsR w bp n f) (hcap : n ≤ cap) (hn : n < 9223372036854775807) (he : (checkF count bytes n f).1 ≠ 0) :
    Calls Try.prog 29 #[.agg #[.int .u32 pc, .int .i64 count, .int .i64 bytes, .slice bp n cap], .int .i64 regs] w fun e w' => e = .returned (.tuple #[.slice none 0 0, .int .i64 (checkF count bytes n f).1]) ∧ Below w.heap.size w w' := by
  obtain ⟨E, HE⟩ : ∃ E, Hid (checkF count bytes n f = E) := ⟨_, rfl⟩
  rw [HE.out] at he
  have dE : (E.1 != 0) = true := by simpa using he
  have hb0 : Below w.heap.size w (w.alloc (.cells #[.int .u32 pc, .int .i64 count, .int .i64 bytes, .slice bp n cap] 25)) := (Below.refl _ _).alloc (Nat.le_refl _) _
  have HB0 : Hid _ := hb0
  have HO : Hid _ := hO.below hb0 (Nat.le_refl _)
  have HC : Hid (n ≤ cap) := hcap
  have HN : Hid (n < 9223372036854775807) := hn
  clear hO hcap hn he hb0
  rw [HE.out]
  go_enter Try.func29, Try.ntmps29
  go_wp2_with (go_at_call 44; refine (check_any pc count bytes bp n cap f _ HO.out HC.out HN.out).mono ?_; rintro e w1 ⟨rfl, hb1⟩; rw [HE.out]; have HB1 : Hid _ := hb1; clear hb1)
  go_ret2
  exact ⟨rfl, HB0.out.trans (HB1.out.mono HB0.out.size)⟩
set_option maxHeartbeats 1000000 in
theorem code_regs (pc : Nat) (count bytes : Int) (bp : Option Addr) (n cap : Nat) (f : Nat → OpR) (regs : Int) (w : World) (hO : OpsR w bp n f) (hcap : n ≤ cap) (hn : n < 9223372036854775807) (he : (checkF count bytes n f).1 = 0) (hr : regs < 3 ∨ 16 < regs) :
    Calls Try.prog 29 #[.agg #[.int .u32 pc, .int .i64 count, .int .i64 bytes, .slice bp n cap], .int .i64 regs] w fun e w' => e = .returned (.tuple #[.slice none 0 0, .int .i64 4]) ∧ Below w.heap.size w w' := by
  obtain ⟨E, HE⟩ : ∃ E, Hid (checkF count bytes n f = E) := ⟨_, rfl⟩
  rw [HE.out] at he
  obtain ⟨E1, E2⟩ := E
  have he : E1 = 0 := he
  subst he
  have hb0 : Below w.heap.size w (w.alloc (.cells #[.int .u32 pc, .int .i64 count, .int .i64 bytes, .slice bp n cap] 25)) := (Below.refl _ _).alloc (Nat.le_refl _) _
  have HB0 : Hid _ := hb0
  have HO : Hid _ := hO.below hb0 (Nat.le_refl _)
  have HC : Hid (n ≤ cap) := hcap
  have HN : Hid (n < 9223372036854775807) := hn
  clear hO hcap hn hb0
  by_cases h3 : regs < 3
  · have d3 : decide (regs < 3) = true := decide_eq_true h3
    clear hr
    go_enter Try.func29, Try.ntmps29
    go_wp2_with (go_at_call 44; refine (check_any pc count bytes bp n cap f _ HO.out HC.out HN.out).mono ?_; rintro e w1 ⟨rfl, hb1⟩; rw [HE.out]; have HB1 : Hid _ := hb1; clear hb1)
    go_ret2
    exact ⟨rfl, HB0.out.trans (HB1.out.mono HB0.out.size)⟩
  · have d3 : decide (regs < 3) = false := decide_eq_false h3
    have d16 : decide (16 < regs) = true := decide_eq_true (by omega)
    clear hr
    go_enter Try.func29, Try.ntmps29
    go_wp2_with (go_at_call 44; refine (check_any pc count bytes bp n cap f _ HO.out HC.out HN.out).mono ?_; rintro e w1 ⟨rfl, hb1⟩; rw [HE.out]; have HB1 : Hid _ := hb1; clear hb1)
    go_ret2
    exact ⟨rfl, HB0.out.trans (HB1.out.mono HB0.out.size)⟩

set_option maxHeartbeats 4000000 in
theorem code_ok (pc : Nat) (count bytes : Int) (bp : Option Addr) (n cap : Nat) (f : Nat → OpR) (regs : Nat) (w : World) (hO : OpsR w bp n f) (ob : ∀ b off, bp = some ⟨b, off, none⟩ → b < w.heap.size) (hcap : n ≤ cap) (hB : BlkOk n f) (he : (checkF count bytes n f).1 = 0) (h3 : 3 ≤ regs) (h16 : regs ≤ 16) (hpc : pc < 4294967296) :
    Calls Try.prog 29 #[.agg #[.int .u32 pc, .int .i64 count, .int .i64 bytes, .slice bp n cap], .int .i64 regs] w fun e w' => ∃ sv, e = .returned (.tuple #[sv, .int .i64 0]) ∧ w'.ownsRow w.heap.size 22 1 sv (runG f n regs count pc n).l.length (wdL (runG f n regs count pc n).l) ∧ Below w.heap.size w w' := by
  obtain ⟨E, HE⟩ : ∃ E, Hid (checkF count bytes n f = E) := ⟨_, rfl⟩
  rw [HE.out] at he
  obtain ⟨E1, E2⟩ := E
  have he : E1 = 0 := he
  subst he
  have hn := hB.hn
  have d3 : decide ((regs : Int) < 3) = false := decide_eq_false (by omega)
  have d16 : decide (16 < (regs : Int)) = false := decide_eq_false (by omega)
  have hb0 : Below w.heap.size w (w.alloc (.cells #[.int .u32 pc, .int .i64 count, .int .i64 bytes, .slice bp n cap] 25)) := (Below.refl _ _).alloc (Nat.le_refl _) _
  have HW0 : Hid (CW w (w.alloc (.cells #[.int .u32 pc, .int .i64 count, .int .i64 bytes, .slice bp n cap] 25)) pc count bytes bp n cap) := ⟨heap_alloc_last w _, hb0⟩
  have HO0 : Hid _ := hO
  have HOB : Hid _ := ob
  have HO : Hid _ := hO.below hb0 (Nat.le_refl _)
  have HC : Hid (n ≤ cap) := hcap
  have HN : Hid (n < 9223372036854775807) := show n < _ by omega
  have HBK : Hid _ := hB
  have H3 : Hid (3 ≤ regs) := h3
  have H16 : Hid (regs ≤ 16) := h16
  have HPC : Hid (pc < 4294967296) := hpc
  have n0 : (0 : Int) ≤ (n : Int) := by omega
  have n2 : (n : Int) ≤ 2048 := by omega
  have zM := (Go.zero_of_info mk_info).1
  have HZM : Hid _ := zM
  have HSZ : Hid ((Try.prog.info? 122).map (·.size) = some 2100) := (Go.zero_of_info mk_info).2
  clear hO hcap hb0 ob hB h3 h16 hpc hn zM
  go_enter Try.func29, Try.ntmps29
  go_upto_region 6 with (go_at_call 44; refine (check_any pc count bytes bp n cap f _ HO.out HC.out HN.out).mono ?_; rintro e w1 ⟨rfl, hb1⟩; rw [HE.out]; have HB1 : Hid _ := hb1; clear hb1)
  refine wp_gen (fun W' => CW w W' pc count bytes bp n cap) (HW0.out.next HB1.out) ?_
  clear HB1 HO d3 d16 HE
  intro W hW
  have m3 : W.cell? ⟨w.heap.size, 3, none⟩ = some (.slice bp n cap) := row_cell hW.b1 3
  have lW := row_lt hW.b1
  have HW : Hid _ := hW
  have HOW : Hid (OpsR W.drew bp n f) := show OpsR W.drew bp n f from OpsR.below HO0.out hW.bel.drew (Nat.le_refl _)
  have HOA : Hid (OpsR (W.drew.alloc (.cells mkZ 122)) bp n f) := show OpsR _ bp n f from OpsR.below HO0.out (hW.bel.drew.alloc hW.bel.size _) (Nat.le_refl _)
  have HOBW : Hid (∀ b off, bp = some ⟨b, off, none⟩ → b < W.drew.heap.size) := show ∀ b off, _ from fun b off e => Nat.lt_of_lt_of_le (HOB.out b off e) hW.bel.size
  have HOBA : Hid (∀ b off, bp = some ⟨b, off, none⟩ → b < (W.drew.alloc (.cells mkZ 122)).heap.size) := show ∀ b off, _ from fun b off e => by have := HOB.out b off e; have := hW.bel.size; simp; omega
  have HSA : Hid ((W.drew.alloc (.cells mkZ 122)).heap.size = W.heap.size + 1) := show _ = _ by simp
  clear hW
  refine wp_region_held_drew (S := fun W' => W'.cell? ⟨w.heap.size, 3, none⟩ = some (.slice bp n cap)) (by kernel_rfl) (by simp [go_sem, m3]) (fun hHeld => ?_)
  refine wpAnyH_take (i := 0) (oi := _) (v := ?vA0) rfl (by kernel_rfl) (by kernel_rfl) (by kernel_rfl) (fun _ _ _ h => h) (Or.inl ⟨by rfl, ?hyA0⟩) (by assumption) ?restA0
  case hyA0 => (intro w hSw; (try dsimp only at hSw); go_simp; (try with_reducible rfl))
  simp only [Act.put, List.getElem_toArray, List.getElem_cons_zero, List.getElem_cons_succ, List.setIfInBounds_toArray, List.set_cons_zero, List.set_cons_succ]
  refine wpAnyH_take (i := 1) (oi := _) (v := ?vA1) rfl (by kernel_rfl) (by kernel_rfl) (by kernel_rfl) (fun _ _ _ h => h) (Or.inl ⟨by rfl, ?hyA1⟩) (by assumption) ?restA1
  case hyA1 => (intro w hSw; (try dsimp only at hSw); go_simp; (try with_reducible rfl))
  simp only [Act.put, List.getElem_toArray, List.getElem_cons_zero, List.getElem_cons_succ, List.setIfInBounds_toArray, List.set_cons_zero, List.set_cons_succ]
  refine wpAnyH_take (i := 2) (oi := _) (v := ?vA2) rfl (by kernel_rfl) (by kernel_rfl) (by kernel_rfl) (fun _ _ _ h => h) (Or.inl ⟨by rfl, ?hyA2⟩) (by assumption) ?restA2
  case hyA2 => (intro w hSw; (try dsimp only at hSw); go_simp; (try with_reducible rfl))
  simp only [Act.put, List.getElem_toArray, List.getElem_cons_zero, List.getElem_cons_succ, List.setIfInBounds_toArray, List.set_cons_zero, List.set_cons_succ]
  refine wpAnyH_take (i := 3) (oi := _) (v := ?vA3) rfl (by kernel_rfl) (by kernel_rfl) (by kernel_rfl) (fun _ _ _ h => h) (Or.inl ⟨by rfl, ?hyA3⟩) (by assumption) ?restA3
  case hyA3 => (intro w hSw; (try dsimp only at hSw); go_simp; (try with_reducible rfl))
  simp only [Act.put, List.getElem_toArray, List.getElem_cons_zero, List.getElem_cons_succ, List.setIfInBounds_toArray, List.set_cons_zero, List.set_cons_succ]
  refine wpAnyH_take (i := 5) (oi := _) (v := ?vA5) rfl (by kernel_rfl) (by kernel_rfl) (by kernel_rfl) (fun _ _ _ h => h) (Or.inl ⟨by rfl, ?hyA5⟩) (by assumption) ?restA5
  case hyA5 => (intro w hSw; (try dsimp only at hSw); go_simp; (try with_reducible rfl))
  simp only [Act.put, List.getElem_toArray, List.getElem_cons_zero, List.getElem_cons_succ, List.setIfInBounds_toArray, List.set_cons_zero, List.set_cons_succ]
  refine wpAnyH_ready (rs := [4, 7]) (by kernel_rfl) (by simp) ?_
  refine AllReadyH.cons (o := _) rfl (fun K hK => ?_) (AllReadyH.cons (o := _) rfl (fun K hK => ?_) AllReadyH.nil)
  · go_simp
    go_at_call 63
    refine (plansOf_at n cap bp f W.drew W.heap.size rfl HOW.out HOBW.out HBK.out).mono ?_
    rintro e w2 ⟨rfl, hp2, hb2⟩
    have hS2 : w2.cell? ⟨w.heap.size, 3, none⟩ = some (.slice bp n cap) := (hb2.cell (p := ⟨w.heap.size, 3, none⟩) lW).trans m3
    have HLT2 : Hid (w.heap.size < w2.heap.size) := Nat.lt_of_lt_of_le lW hb2.size
    have HCV : Hid _ := cv_1 (regs := regs) HO0.out HOB.out HW.out hp2 hb2
    clear hp2 hb2
    refine hK.out _ _ hS2 (fun hHeld => ?_)
    clear hK K
    (try simp only [Act.put, List.getElem_toArray, List.getElem_cons_zero, List.getElem_cons_succ, List.setIfInBounds_toArray, List.set_cons_zero, List.set_cons_succ])
    refine wpAnyH_take (i := 6) (oi := _) (v := .agg (mkA (.slice bp n cap) (.slice (some ⟨W.heap.size, 0, none⟩) n n) (.int .i64 regs))) rfl (by kernel_rfl) (by kernel_rfl) (by kernel_rfl) (fun _ _ _ h => h) (Or.inl ⟨by rfl, fun w _ => run_mk _ _ _ rfl bp n cap regs W.heap.size (by kernel_rfl) w⟩) (by assumption) ?rest6
    (try simp only [Act.put, List.getElem_toArray, List.getElem_cons_zero, List.getElem_cons_succ, List.setIfInBounds_toArray, List.set_cons_zero, List.set_cons_succ])
    refine wpAnyH_ready (rs := [7]) (by kernel_rfl) (by simp) ?_
    refine AllReadyH.cons (o := _) rfl (fun K hK => ?_) AllReadyH.nil
    rw [if_pos (by rfl)]
    refine op_alloc 122 rfl mkZ HZM.out w2.heap.size rfl ?_
    refine hK.out _ _ ((World.cell?_alloc_past _ _ _ HLT2.out).trans hS2) (fun hHeld => ?_)
    clear hK K
    (try simp only [Act.put, List.getElem_toArray, List.getElem_cons_zero, List.getElem_cons_succ, List.setIfInBounds_toArray, List.set_cons_zero, List.set_cons_succ])
    refine wpAnyH_ready (rs := [8]) (by kernel_rfl) (by simp) ?_
    refine AllReadyH.cons (o := _) rfl (fun K hK => ?_) AllReadyH.nil
    rw [if_pos (by rfl)]
    refine wp_store_row 122 _ _ rfl w2.heap.size (mkA (.slice bp n cap) (.slice (some ⟨W.heap.size, 0, none⟩) n n) (.int .i64 regs)) (by rfl) (by rfl) 122 mkZ (heap_alloc_last _ _) (by rw [mk_size]; exact HSZ.out) (by unfold mkZ; rw [mk_size, mk_size]) (mk_one bp n cap regs _) ?_
    refine hK.out _ _ (row_cell HCV.out.bx 3) (fun hHeld => ?_)
    clear hK K
    (try simp only [Act.put, List.getElem_toArray, List.getElem_cons_zero, List.getElem_cons_succ, List.setIfInBounds_toArray, List.set_cons_zero, List.set_cons_succ])
    refine wpAnyH_done (by kernel_rfl) ?_ _
    go_upto_region 7 with fail
    refine wp_gen (fun W' => CV w W' w2.heap.size W.heap.size n bp cap regs f (g0 (planL f n n).P) (.slice none 0 0) pc count bytes) HCV.out ?_
    obtain ⟨M, hM⟩ : ∃ M, w2.heap.size = M := ⟨_, rfl⟩
    obtain ⟨Q, hQ⟩ : ∃ Q, W.heap.size = Q := ⟨_, rfl⟩
    rw [hM, hQ]
    clear hM hQ HCV m3 lW hS2 HLT2
    intro A hA
    have c0 : A.cell? ⟨w.heap.size, 0, none⟩ = some (.int .u32 pc) := row_cell hA.bx 0
    have c1 : A.cell? ⟨w.heap.size, 1, none⟩ = some (.int .i64 count) := row_cell hA.bx 1
    have lA := row_lt hA.bx
    have HA : Hid _ := hA
    clear hA
    go_upto_region 8 with (go_at_call 64; refine (glay w.heap.size M Q n bp cap n regs f (g0 (planL f n n).P) (.slice none 0 0) (enterX count pc) _ HA.out.gw HPC.out (Nat.zero_lt_succ _) (Nat.zero_le _)).mono ?_; rintro e w5 ⟨rfl, ⟨sv5, hG5⟩, hK5⟩; have HC5 : Hid _ := HA.out.call hG5 hK5; clear hG5 hK5)
    refine wp_gen (fun W' => CV w W' M Q n bp cap regs f (runG f n regs count pc 0) sv5 pc count bytes) HC5.out ?_
    clear HC5 HA c0 c1 lA
    intro B hB
    have c3 : B.cell? ⟨w.heap.size, 3, none⟩ = some (.slice bp n cap) := row_cell hB.bx 3
    have lB := row_lt hB.bx
    have HBB : Hid _ := hB
    clear hB
    go_upto_region 9 with fail
    go_loopw [40] (fun iv wr => ∃ i : Nat, iv = .int .i64 i ∧ i ≤ n ∧ ∃ sv', CV w wr M Q n bp cap regs f (runG f n regs count pc i) sv' pc count bytes) (fun iv _ => n - (intOf iv).toNat)
    case atStart => exact ⟨0, rfl, by omega, sv5, HBB.out⟩
    case round =>
      obtain ⟨i, rfl, hi, sv1, hr⟩ := hrel
      clear HBB c3 lB
      have HR : Hid _ := hr
      by_cases hlt : i < n
      · have HLT : Hid (i < n) := hlt
        have hii : (i : Int) < (n : Int) := by omega
        have i0 : (0 : Int) ≤ (i : Int) := by omega
        have dj : decide ((i : Int) < (n : Int)) = true := decide_eq_true hii
        clear hr hlt hi
        go_wp2_with (go_at_call 65; refine (op_any w.heap.size M Q n bp cap n regs f (runG f n regs count pc i) sv1 i _ HR.out.gw (runG_in f n regs count pc HBK.out H3.out H16.out i HLT.out) (runG_10 f n regs count pc i HLT.out)).mono ?_; rintro e w6 ⟨rfl, ⟨sv6, hG6⟩, hK6⟩; have HC6 : Hid _ := HR.out.call hG6 hK6; clear hG6 hK6)
        go_round
        case rel => exact ⟨i + 1, by go_num, HLT.out, sv6, HC6.out⟩
        case measure => have := HLT.out; simp [intOf]; omega
      · obtain rfl : i = n := by omega
        have dj : decide ((i : Int) < (i : Int)) = false := decide_eq_false (by omega)
        have c4 : wr.cell? ⟨M, 2099, none⟩ = some sv1 := hr.gw.mb.cell (i := 2099) (by omega)
        have lM := hr.gw.mb.lt
        obtain ⟨sa, sn, sc, rfl⟩ : ∃ sa sn sc, sv1 = .slice sa sn sc := by
          rcases hr.gw.wd.2 with ⟨hv, h0⟩ | ⟨g', c', cur, hv, -⟩
          · exact ⟨_, _, _, hv⟩
          · exact ⟨_, _, _, hv⟩
        clear hr hlt hi
        go_wp2
        go_ret2
        exact ⟨_, rfl, HR.out.gw.wd, HR.out.bel⟩
  · rw [if_pos (by rfl)]
    refine op_alloc 122 rfl mkZ HZM.out W.heap.size rfl ?_
    refine hK.out _ _ ((World.cell?_alloc_past _ _ _ lW).trans m3) (fun hHeld => ?_)
    clear hK K
    (try simp only [Act.put, List.getElem_toArray, List.getElem_cons_zero, List.getElem_cons_succ, List.setIfInBounds_toArray, List.set_cons_zero, List.set_cons_succ])
    refine wpAnyH_ready (rs := [4]) (by kernel_rfl) (by simp) ?_
    refine AllReadyH.cons (o := _) rfl (fun K hK => ?_) AllReadyH.nil
    go_simp
    go_at_call 63
    refine (plansOf_at n cap bp f (W.drew.alloc (.cells mkZ 122)) (W.heap.size + 1) HSA.out HOA.out HOBA.out HBK.out).mono ?_
    rintro e w2 ⟨rfl, hp2, hb2⟩
    have hS2 : w2.cell? ⟨w.heap.size, 3, none⟩ = some (.slice bp n cap) := (hb2.cell (p := ⟨w.heap.size, 3, none⟩) (by simp; exact Nat.lt_succ_of_lt lW)).trans ((World.cell?_alloc_past _ _ _ lW).trans m3)
    have HMM : Hid (w2.heap[W.heap.size]? = some (.cells mkZ 122)) := (hb2.block _ (by simp)).trans (heap_alloc_last W.drew _)
    have HCV : Hid _ := cv_2 (regs := regs) HO0.out HOB.out HW.out hp2 hb2
    clear hp2 hb2
    refine hK.out _ _ hS2 (fun hHeld => ?_)
    clear hK K
    (try simp only [Act.put, List.getElem_toArray, List.getElem_cons_zero, List.getElem_cons_succ, List.setIfInBounds_toArray, List.set_cons_zero, List.set_cons_succ])
    refine wpAnyH_take (i := 6) (oi := _) (v := .agg (mkA (.slice bp n cap) (.slice (some ⟨W.heap.size + 1, 0, none⟩) n n) (.int .i64 regs))) rfl (by kernel_rfl) (by kernel_rfl) (by kernel_rfl) (fun _ _ _ h => h) (Or.inl ⟨by rfl, fun w _ => run_mk _ _ _ rfl bp n cap regs (W.heap.size + 1) (by kernel_rfl) w⟩) (by assumption) ?rest6b
    (try simp only [Act.put, List.getElem_toArray, List.getElem_cons_zero, List.getElem_cons_succ, List.setIfInBounds_toArray, List.set_cons_zero, List.set_cons_succ])
    refine wpAnyH_ready (rs := [8]) (by kernel_rfl) (by simp) ?_
    refine AllReadyH.cons (o := _) rfl (fun K hK => ?_) AllReadyH.nil
    rw [if_pos (by rfl)]
    refine wp_store_row 122 _ _ rfl W.heap.size (mkA (.slice bp n cap) (.slice (some ⟨W.heap.size + 1, 0, none⟩) n n) (.int .i64 regs)) (by rfl) (by rfl) 122 mkZ HMM.out (by rw [mk_size]; exact HSZ.out) (by unfold mkZ; rw [mk_size, mk_size]) (mk_one bp n cap regs _) ?_
    refine hK.out _ _ (row_cell HCV.out.bx 3) (fun hHeld => ?_)
    clear hK K
    (try simp only [Act.put, List.getElem_toArray, List.getElem_cons_zero, List.getElem_cons_succ, List.setIfInBounds_toArray, List.set_cons_zero, List.set_cons_succ])
    refine wpAnyH_done (by kernel_rfl) ?_ _
    go_upto_region 7 with fail
    refine wp_gen (fun W' => CV w W' W.heap.size (W.heap.size + 1) n bp cap regs f (g0 (planL f n n).P) (.slice none 0 0) pc count bytes) HCV.out ?_
    obtain ⟨M, hM⟩ : ∃ M, W.heap.size = M := ⟨_, rfl⟩
    obtain ⟨Q, hQ⟩ : ∃ Q, W.heap.size + 1 = Q := ⟨_, rfl⟩
    rw [hQ, hM]
    clear hM hQ HCV m3 lW hS2 HMM
    intro A hA
    have c0 : A.cell? ⟨w.heap.size, 0, none⟩ = some (.int .u32 pc) := row_cell hA.bx 0
    have c1 : A.cell? ⟨w.heap.size, 1, none⟩ = some (.int .i64 count) := row_cell hA.bx 1
    have lA := row_lt hA.bx
    have HA : Hid _ := hA
    clear hA
    go_upto_region 8 with (go_at_call 64; refine (glay w.heap.size M Q n bp cap n regs f (g0 (planL f n n).P) (.slice none 0 0) (enterX count pc) _ HA.out.gw HPC.out (Nat.zero_lt_succ _) (Nat.zero_le _)).mono ?_; rintro e w5 ⟨rfl, ⟨sv5, hG5⟩, hK5⟩; have HC5 : Hid _ := HA.out.call hG5 hK5; clear hG5 hK5)
    refine wp_gen (fun W' => CV w W' M Q n bp cap regs f (runG f n regs count pc 0) sv5 pc count bytes) HC5.out ?_
    clear HC5 HA c0 c1 lA
    intro B hB
    have c3 : B.cell? ⟨w.heap.size, 3, none⟩ = some (.slice bp n cap) := row_cell hB.bx 3
    have lB := row_lt hB.bx
    have HBB : Hid _ := hB
    clear hB
    go_upto_region 9 with fail
    go_loopw [40] (fun iv wr => ∃ i : Nat, iv = .int .i64 i ∧ i ≤ n ∧ ∃ sv', CV w wr M Q n bp cap regs f (runG f n regs count pc i) sv' pc count bytes) (fun iv _ => n - (intOf iv).toNat)
    case atStart => exact ⟨0, rfl, by omega, sv5, HBB.out⟩
    case round =>
      obtain ⟨i, rfl, hi, sv1, hr⟩ := hrel
      clear HBB c3 lB
      have HR : Hid _ := hr
      by_cases hlt : i < n
      · have HLT : Hid (i < n) := hlt
        have hii : (i : Int) < (n : Int) := by omega
        have i0 : (0 : Int) ≤ (i : Int) := by omega
        have dj : decide ((i : Int) < (n : Int)) = true := decide_eq_true hii
        clear hr hlt hi
        go_wp2_with (go_at_call 65; refine (op_any w.heap.size M Q n bp cap n regs f (runG f n regs count pc i) sv1 i _ HR.out.gw (runG_in f n regs count pc HBK.out H3.out H16.out i HLT.out) (runG_10 f n regs count pc i HLT.out)).mono ?_; rintro e w6 ⟨rfl, ⟨sv6, hG6⟩, hK6⟩; have HC6 : Hid _ := HR.out.call hG6 hK6; clear hG6 hK6)
        go_round
        case rel => exact ⟨i + 1, by go_num, HLT.out, sv6, HC6.out⟩
        case measure => have := HLT.out; simp [intOf]; omega
      · obtain rfl : i = n := by omega
        have dj : decide ((i : Int) < (i : Int)) = false := decide_eq_false (by omega)
        have c4 : wr.cell? ⟨M, 2099, none⟩ = some sv1 := hr.gw.mb.cell (i := 2099) (by omega)
        have lM := hr.gw.mb.lt
        obtain ⟨sa, sn, sc, rfl⟩ : ∃ sa sn sc, sv1 = .slice sa sn sc := by
          rcases hr.gw.wd.2 with ⟨hv, h0⟩ | ⟨g', c', cur, hv, -⟩
          · exact ⟨_, _, _, hv⟩
          · exact ⟨_, _, _, hv⟩
        clear hr hlt hi
        go_wp2
        go_ret2
        exact ⟨_, rfl, HR.out.gw.wd, HR.out.bel⟩
end Go.Proofs.Ytocefkpnlgfebab.Ho
