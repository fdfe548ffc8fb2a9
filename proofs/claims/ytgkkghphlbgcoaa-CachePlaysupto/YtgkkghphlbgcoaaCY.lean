import Derived.Test.YtgkkghphlbgcoaaLV
import Derived.Test.YtgkkghphlbgcoaaRows
import Derived.ProofKit
import Derived.OpenShut
import Derived.ShutString
import Derived.ChangeOld
import Derived.Below
import Derived.Deep.Slices
import Derived.Deep.Grids
import Derived.JoinedCond
namespace Go.Proofs.Ytgkkghphlbgcoaa.Ca
open Go.RowKit Go.Maps Ho
set_option maxRecDepth 100000
set_option linter.unusedVariables false
set_option linter.unusedSimpArgs false
set_option maxHeartbeats 4000000 in
theorem new_bad5 (room n : Int) (w : World) (hb : room < 1 ∨ 1048576 < room ∨ n < 1) (hn : n ≤ 256) :
    Calls Try.prog 5 #[.int .i64 room, .int .i64 n] w fun e w' => e = .returned (.tuple #[.pointer none, .int .i64 4]) ∧ w' = w := by
  by_cases h1 : room < 1
  · have d1 : decide (room < 1) = true := decide_eq_true h1
    go_enter Try.func5, Try.ntmps5
    go_wp2
    go_ret2
    exact ⟨rfl, rfl⟩
  · have d1 : decide (room < 1) = false := decide_eq_false h1
    by_cases h2 : 1048576 < room
    · have d2 : decide (1048576 < room) = true := decide_eq_true h2
      go_enter Try.func5, Try.ntmps5
      go_wp2
      go_ret2
      exact ⟨rfl, rfl⟩
    · have d2 : decide (1048576 < room) = false := decide_eq_false h2
      have h3 : n < 1 := by omega
      have d3 : decide (n < 1) = true := decide_eq_true h3
      go_enter Try.func5, Try.ntmps5
      go_wp2
      go_ret2
      exact ⟨rfl, rfl⟩
set_option maxHeartbeats 4000000 in
theorem new_bad6 (room n : Int) (w : World) (hb : room < 1 ∨ 1048576 < room ∨ n < 1) (hn : n ≤ 256) :
    Calls Try.prog 6 #[.int .i64 room, .int .i64 n] w fun e w' => e = .returned (.tuple #[.pointer none, .int .i64 4]) ∧ w' = w := by
  by_cases h1 : room < 1
  · have d1 : decide (room < 1) = true := decide_eq_true h1
    go_enter Try.func6, Try.ntmps6
    go_wp2
    go_ret2
    exact ⟨rfl, rfl⟩
  · have d1 : decide (room < 1) = false := decide_eq_false h1
    by_cases h2 : 1048576 < room
    · have d2 : decide (1048576 < room) = true := decide_eq_true h2
      go_enter Try.func6, Try.ntmps6
      go_wp2
      go_ret2
      exact ⟨rfl, rfl⟩
    · have d2 : decide (1048576 < room) = false := decide_eq_false h2
      have h3 : n < 1 := by omega
      have d3 : decide (n < 1) = true := decide_eq_true h3
      go_enter Try.func6, Try.ntmps6
      go_wp2
      go_ret2
      exact ⟨rfl, rfl⟩
/-- One step, whatever its kind. -/
theorem step_any (C D pc : Nat) (kd nn : Int) (pa a : Option Addr) (pn pcap len cap : Nat) (pg : Nat → Int) (cw : Nat → Nat) (c : Cs) (d : Rs) (w0 w : World) (h : Pr (fun _ => False) w0 w0 w C D c d) (r : Rel c d) (hpc : pc < 4294967296) (hpg : Pg w0 pa pn pg) (hw : Ho.Wds w0 a len cap cw) (hlt : ∀ i, cw i < 4294967296) (hlen : len ≤ 1048576) (hpn : pn ≤ 1048576) (hwf : (Lit.int .i64 nn).wf = true) :
    Calls Try.prog 7 #[.pointer (some ⟨C, 0, none⟩), .pointer (some ⟨D, 0, none⟩), .agg #[.int .i64 kd, .int .u32 pc, .int .i64 nn, .slice pa pn pcap, .slice a len cap]] w fun e w' => StP w0 C D e w' := by
  by_cases h0 : kd = 0
  · subst h0; exact st_insert C D pc nn pa a pn pcap len cap pg cw c d w0 w h r hpc hpg hw hlt hlen hpn
  by_cases h1 : kd = 1
  · subst h1; exact st_find C D pc nn pa a pn pcap len cap c d w0 w h r hpc hwf
  by_cases h2 : kd = 2
  · subst h2; exact st_link C D pc nn pa a pn pcap len cap c d w0 w h r hpc hwf
  by_cases h3 : kd = 3
  · subst h3; exact st_note C D pc nn pa a pn pcap len cap c d w0 w h r hpc hwf
  by_cases h4 : kd = 4
  · subst h4; exact st_drop C D pc nn pa a pn pcap len cap c d w0 w h r hpc hwf
  by_cases h5 : kd = 5
  · subst h5; exact st_flush C D pc nn pa a pn pcap len cap c d w0 w h r hpc hwf
  exact st_other C D pc kd nn pa a pn pcap len cap c d w0 w h r h0 h1 h2 h3 h4 h5
/-- One step of the script that came in. -/
structure SpR (w : World) (sb o : Nat) : Prop where
  ex : ∃ (kd : Int) (pc : Nat) (nn : Int) (pa : Option Addr) (pn pcap : Nat) (pg : Nat → Int) (a : Option Addr) (len cap : Nat) (cw : Nat → Nat),
    (w.cell? ⟨sb, o, none⟩ = some (.int .i64 kd) ∧ w.cell? ⟨sb, o + 1, none⟩ = some (.int .u32 pc) ∧ w.cell? ⟨sb, o + 2, none⟩ = some (.int .i64 nn) ∧ w.cell? ⟨sb, o + 3, none⟩ = some (.slice pa pn pcap) ∧ w.cell? ⟨sb, o + 4, none⟩ = some (.slice a len cap)) ∧
    pc < 4294967296 ∧ (Lit.int .i64 nn).wf = true ∧ Pg w pa pn pg ∧ Ho.Wds w a len cap cw ∧ (∀ i, cw i < 4294967296) ∧ len ≤ 1048576 ∧ pn ≤ 1048576
def Sp (w : World) (sa : Option Addr) (n : Nat) : Prop := n ≤ 1048576 ∧ (n = 0 ∨ ∃ sb off, sa = some ⟨sb, off, none⟩ ∧ sb < w.heap.size ∧ ∀ i, i < n → SpR w sb (off + i * 5))
structure CpI (w : World) (C D n : Nat) (v : Value) (wr : World) : Prop where
  ex : ∃ (k : Nat) (c : Cs) (d : Rs), v = .int .i64 k ∧ k ≤ n ∧ Pr (fun _ => False) w w wr C D c d ∧ Rel c d
structure PlN (w : World) (v : Value) (wx : World) : Prop where
  ex : ∃ m : Int, v = .int .i64 m ∧ m ≤ 256 ∧ wx = w
set_option maxHeartbeats 8000000 in
theorem cp_walk (room slots : Int) (sa : Option Addr) (n cap : Nat) (w : World) (hS : Sp w sa n) :
    Calls Try.prog 3 #[.int .i64 room, .int .i64 slots, .slice sa n cap] w fun e w' => e = .returned (.bool true) ∧ Below w.heap.size w w' := by
  have HS : Hid (Sp w sa n) := hS
  have hnilC : ∀ (C : Nat) (W : World), (binOp .eql 23 (.pointer (some ⟨C, 0, none⟩)) (.pointer none)).run Try.prog W = .ok (.bool false) W := fun _ _ => rfl
  have hnilD : ∀ (D : Nat) (W : World), (binOp .eql 27 (.pointer (some ⟨D, 0, none⟩)) (.pointer none)).run Try.prog W = .ok (.bool false) W := fun _ _ => rfl
  have hnnC : ∀ W : World, (binOp .eql 23 (.pointer none) (.pointer none)).run Try.prog W = .ok (.bool true) W := fun _ => rfl
  have hnnD : ∀ W : World, (binOp .eql 27 (.pointer none) (.pointer none)).run Try.prog W = .ok (.bool true) W := fun _ => rfl
  clear hS
  go_enter Try.func3, Try.ntmps3
  go_upto_if 14 with fail
  go_cut [1] from 13 to 14 (fun v wx => PlN w v wx)
  case first =>
    by_cases hs : 256 < slots
    · have d1 : decide (256 < slots) = true := decide_eq_true hs
      go_wp2
      go_meet
      exact ⟨256, rfl, by decide, rfl⟩
    · have d1 : decide (256 < slots) = false := decide_eq_false hs
      go_wp2
      go_meet
      exact ⟨slots, rfl, by omega, rfl⟩
  case rest =>
    obtain ⟨m, rfl, hm, rfl⟩ := hcut
    by_cases hbad : room < 1 ∨ 1048576 < room ∨ m < 1
    · have HB5 : Hid _ := new_bad5 room m wc hbad hm
      have HB6 : Hid _ := new_bad6 room m wc hbad hm
      clear hbad
      go_wp2_with (go_at_call 5; fail)
      refine Calls.mono HB5.out ?_
      rintro _ w1 ⟨rfl, hw1⟩
      have hw1' := hw1.symm
      subst hw1'
      dsimp only
      go_wp2_with (go_at_call 6; fail)
      refine Calls.mono HB6.out ?_
      rintro _ w2 ⟨rfl, hw2⟩
      have hw2' := hw2.symm
      subst hw2'
      dsimp only
      go_wp2
      go_ret
      exact ⟨rfl, Below.refl _ _⟩
    · obtain ⟨r, hr⟩ : ∃ r : Nat, room = (r : Int) := ⟨room.toNat, by omega⟩
      obtain ⟨mm, hmm⟩ : ∃ mm : Nat, m = (mm : Int) := ⟨m.toNat, by omega⟩
      subst hr
      subst hmm
      have hr1 : 1 ≤ r ∧ r ≤ 1048576 := by omega
      have hm1 : 1 ≤ mm ∧ mm ≤ 65536 := by omega
      have HR1 : Hid _ := hr1
      have HM1 : Hid _ := hm1
      have HN5 : Hid _ := new_good r mm wc hr1 hm1
      clear hbad hm hr1 hm1
      go_wp2_with (go_at_call 5; fail)
      refine Calls.mono HN5.out ?_
      rintro _ w1 ⟨rfl, hc1, hb1⟩
      dsimp only
      have HC1 : Hid _ := hc1
      have HB1 : Hid _ := hb1
      clear hc1 hb1
      go_wp2_with (go_at_call 6; fail)
      refine Calls.mono (rNew_good r mm w1 HR1.out HM1.out) ?_
      rintro _ w2 ⟨D, J, rfl, hrw, hall, hb2⟩
      dsimp only
      have HPR : Hid (Pr (fun _ => False) wc wc w2 (wc.heap.size + 1 + 1 + 1) D (newC r mm mm) (newR r mm)) := (by
        refine ⟨newI wc.heap.size mm, J, HC1.out.below hb2, hrw, fun j ho ha => ?_, fun j ho => ?_, fun j ha => ?_, HB1.out.trans (hb2.mono HB1.out.size), fun j hj => hj.elim⟩
        · have := HC1.out.own_lt j ho
          have := hall j ha
          omega
        · rcases ho with e | e | e | e | e
          · omega
          · have e' : j = wc.heap.size := e; omega
          · have e' : j = wc.heap.size + 1 := e; omega
          · have e' : j = wc.heap.size + 1 + 1 := e; omega
          · cases e
        · have := hall j ha
          have := HB1.out.size
          omega)
      have HREL : Hid (Rel (newC r mm mm) (newR r mm)) := rel_new r mm HM1.out.1
      obtain ⟨hn, hsc⟩ := HS.out
      have HSC : Hid _ := hsc
      clear hrw hall hb2 hsc HC1 HN5
      go_wp2
      go_loopw [41] (fun v wr => CpI wc (wc.heap.size + 1 + 1 + 1) D n v wr) (fun v _ => n - (intOf v).toNat)
      case atStart => exact ⟨0, _, _, rfl, Nat.zero_le _, HPR.out, HREL.out⟩
      case round =>
        obtain ⟨wo, rfl⟩ : ∃ wo, wo = wr := ⟨_, rfl⟩
        obtain ⟨k, c, d, rfl, hk, hpr, hrel2⟩ := hrel
        have HP : Hid (Pr (fun _ => False) wc wc wo (wc.heap.size + 1 + 1 + 1) D c d) := hpr
        have HRE : Hid (Rel c d) := hrel2
        have hbw := hpr.bw
        clear hpr hrel2
        by_cases hkn : k < n
        · obtain ⟨sb, off, rfl, hsb, hst⟩ : ∃ sb off, sa = some ⟨sb, off, none⟩ ∧ sb < wc.heap.size ∧ ∀ i, i < n → SpR wc sb (off + i * 5) := HSC.out.elim (fun e => by omega) id
          obtain ⟨kd, pc, nn, pa, pn, pcap, pg, a, len, cap', cw, ⟨x0, x1, x2, x3, x4⟩, hpc, hwf, hpg, hwd, hlt, hlen, hpn⟩ := (hst k hkn).ex
          have y0 := (hbw.cell (p := ⟨sb, off + k * 5, none⟩) hsb).trans x0
          have y1 := (hbw.cell (p := ⟨sb, off + k * 5 + 1, none⟩) hsb).trans x1
          have y2 := (hbw.cell (p := ⟨sb, off + k * 5 + 2, none⟩) hsb).trans x2
          have y3 := (hbw.cell (p := ⟨sb, off + k * 5 + 3, none⟩) hsb).trans x3
          have y4 := (hbw.cell (p := ⟨sb, off + k * 5 + 4, none⟩) hsb).trans x4
          have f1 : (k : Int) < (n : Int) := by omega
          have f2 : decide ((k : Int) < (n : Int)) = true := decide_eq_true f1
          have f3 : (0 : Int) ≤ (k : Int) := by omega
          obtain ⟨k1, hk1⟩ : ∃ k1, k + 1 = k1 := ⟨_, rfl⟩
          have t9 : IntKind.i64.wrap ((k : Int) + 1) = (k1 : Int) := So.wr_one hk1 (by omega)
          have HK1 : Hid (k + 1 = k1) := hk1
          have HST : Hid _ := step_any (wc.heap.size + 1 + 1 + 1) D pc kd nn pa a pn pcap len cap' pg cw c d wc _ (HP.out.below ((Below.refl _ wo).alloc (Nat.le_refl _) (.cells #[.int .i64 kd, .int .u32 pc, .int .i64 nn, .slice pa pn pcap, .slice a len cap'] 34))) HRE.out hpc hpg hwd hlt hlen hpn hwf
          clear hbw x0 x1 x2 x3 x4 hst hpg hwd hlt hk1
          go_wp2_with (go_at_call 7; fail)
          refine Calls.mono HST.out ?_
          rintro _ w5 ⟨c5, d5, rfl, hpr5, hrel5⟩
          dsimp only
          have HP5 : Hid _ := hpr5
          have HRE5 : Hid _ := hrel5
          obtain ⟨I5, J5, g1, g2, _⟩ := hpr5.ex
          have HLK : Hid _ := looked_any (wc.heap.size + 1 + 1 + 1) D I5 J5 c5 d5 w5 g1 g2 hrel5
          clear hpr5 hrel5 g1 g2
          go_wp2_with (go_at_call 8; fail)
          refine Calls.mono HLK.out ?_
          rintro _ w6 ⟨rfl, hb6⟩
          dsimp only
          go_wp2
          exact ⟨⟨k1, c5, d5, rfl, by have := HK1.out; omega, HP5.out.below hb6, HRE5.out⟩, by have := HK1.out; simp [intOf]; omega⟩
        · have f1 : ¬ (k : Int) < (n : Int) := by omega
          have f2 : decide ((k : Int) < (n : Int)) = false := decide_eq_false f1
          have HBW : Hid _ := hbw
          clear hbw
          go_wp2
          go_ret
          exact ⟨rfl, HBW.out⟩
end Go.Proofs.Ytgkkghphlbgcoaa.Ca
namespace Go.Proofs.Ytgkkghphlbgcoaa.Ca
open Go.ChangeShapes Go.WideShapes Go.ChangeAt Go.RowKit Go.Deep Ho
set_option linter.unusedVariables false
set_option maxRecDepth 100000
theorem own : ownKnob Try.prog.godebug = none := by kernel_rfl
theorem laidOut : laidOutB Try.prog = true := by kernel_rfl
theorem cellsS : Try.prog.cellsOf 34 = 5 := by kernel_rfl
theorem cellsI : Try.prog.cellsOf 3 = 1 := by kernel_rfl
theorem cellsU : Try.prog.cellsOf 30 = 1 := by kernel_rfl
theorem cellsSI : Try.prog.cellsOf 31 = 1 := by kernel_rfl
theorem cellsSU : Try.prog.cellsOf 32 = 1 := by kernel_rfl
theorem bulk_one {H : Type} (d : DataW H) : 1 ≤ Rows.uptoBulk d := by
  cases d with
  | lit l => cases l <;> simp [Rows.uptoBulk]
  | nil => simp [Rows.uptoBulk]
  | ptr d => simp [Rows.uptoBulk]
  | slice elems spare => simp [Rows.uptoBulk]
  | agg parts => simp [Rows.uptoBulk]
  | iface t d => simp [Rows.uptoBulk]
  | map entries => simp [Rows.uptoBulk]
  | held h => simp [Rows.uptoBulk]
theorem bulk_part {H : Type} {d : DataW H} {l : List (DataW H)} (h : d ∈ l) : Rows.uptoBulk d ≤ Rows.uptoBulkAll l := by
  induction l with
  | nil => cases h
  | cons x r ih =>
    simp only [Rows.uptoBulkAll]
    cases List.mem_cons.1 h with
    | inl e => subst e; omega
    | inr e => have := ih e; omega
theorem bulk_len {H : Type} (l : List (DataW H)) : l.length ≤ Rows.uptoBulkAll l := by
  induction l with
  | nil => simp [Rows.uptoBulkAll]
  | cons x r ih => have := bulk_one x; simp only [Rows.uptoBulkAll, List.length_cons]; omega
/-- Pages that came in. -/
theorem open_pages {H : Type} {enc : TypeId × Value → H} {W : World} {fuel : Nat} {v : Value} {y : DataW H × List MemPlace}
    (hf : DataW.trod enc Try.prog W 0 (fun _ => true) true fuel 31 [v] = some y) (hsz : Rows.uptoBulk y.1 ≤ 1048576) :
    ∃ (pa : Option Addr) (pn pcap : Nat) (pg : Nat → Int), v = .slice pa pn pcap ∧ Pg W pa pn pg ∧ pn ≤ 1048576 := by
  rcases open_ints Try.underlying31 Try.underlying3 (by kernel_rfl) hf with ⟨hcs, _⟩ | ⟨x, l, c, zs, hcs, _, hl, hm, hz, hx, hcell, hwz⟩
  · simp only [List.cons.injEq, and_true] at hcs
    exact ⟨none, 0, 0, fun _ => 0, hcs, .inl rfl, by decide⟩
  · simp only [List.cons.injEq, and_true] at hcs
    simp only [if_true] at hz
    rw [hx] at hsz
    simp only [Rows.uptoBulk] at hsz
    have h1 := bulk_len (lits (H := H) .i64 (zs.take l))
    have hll : l ≤ 1048576 := by
      simp only [lits, List.length_map, List.length_take] at h1
      simp only [lits] at hsz
      omega
    by_cases h0 : l = 0
    · exact ⟨some x, l, c, fun i => zs.getD i 0, hcs, .inl h0, hll⟩
    · obtain ⟨b, off, spot⟩ := x
      have hc := hcell 0 (by omega)
      have hspot : spot = none := by simpa [Addr.add] using World.cell?_spot hc
      subst hspot
      refine ⟨_, l, c, fun i => zs.getD i 0, hcs, .inr ⟨b, off, rfl, fun i hi => ?_, block_lt_of_cell (a := ⟨b, off, none⟩) (by simpa [Addr.add] using hc), by omega⟩, hll⟩
      have := hcell i (by omega)
      rw [Addr.add_mid] at this
      exact this
/-- Code that came in. -/
theorem open_code {H : Type} {enc : TypeId × Value → H} {W : World} {fuel : Nat} {v : Value} {y : DataW H × List MemPlace}
    (hf : DataW.trod enc Try.prog W 0 (fun _ => true) true fuel 32 [v] = some y) (hsz : Rows.uptoBulk y.1 ≤ 1048576) :
    ∃ (a : Option Addr) (len cap : Nat) (cw : Nat → Nat), v = .slice a len cap ∧ Ho.Wds W a len cap cw ∧ (∀ i, cw i < 4294967296) ∧ len ≤ 1048576 := by
  rcases open_ints Try.underlying32 Try.underlying30 (by kernel_rfl) hf with ⟨hcs, _⟩ | ⟨x, l, c, zs, hcs, _, hl, hm, hz, hx, hcell, hwz⟩
  · simp only [List.cons.injEq, and_true] at hcs
    exact ⟨none, 0, 0, fun _ => 0, hcs, .inl rfl, fun _ => (by show (0 : Nat) < 4294967296; decide), by decide⟩
  · simp only [List.cons.injEq, and_true] at hcs
    simp only [if_true] at hz
    rw [hx] at hsz
    simp only [Rows.uptoBulk] at hsz
    have h1 := bulk_len (lits (H := H) .u32 (zs.take l))
    have hll : l ≤ 1048576 := by
      simp only [lits, List.length_map, List.length_take] at h1
      simp only [lits] at hsz
      omega
    have hb : ∀ i, 0 ≤ zs.getD i 0 ∧ zs.getD i 0 ≤ 4294967295 := fun i => by
      by_cases hi : i < zs.length
      · have hmem : zs.getD i 0 ∈ zs := by
          rw [List.getD_eq_getElem?_getD, List.getElem?_eq_getElem hi, Option.getD_some]; exact List.getElem_mem hi
        exact bounds_u32 (hwz _ hmem)
      · rw [List.getD_eq_getElem?_getD, List.getElem?_eq_none (by omega)]
        simp
    have hlt : ∀ i, (zs.getD i 0).toNat < 4294967296 := fun i => by have := hb i; omega
    by_cases h0 : l = 0
    · exact ⟨some x, l, c, fun i => (zs.getD i 0).toNat, hcs, .inl h0, hlt, hll⟩
    · obtain ⟨b, off, spot⟩ := x
      have hc := hcell 0 (by omega)
      have hspot : spot = none := by simpa [Addr.add] using World.cell?_spot hc
      subst hspot
      refine ⟨_, l, c, fun i => (zs.getD i 0).toNat, hcs, .inr ⟨b, off, rfl, by omega, by omega, fun i hi => ?_, hlt, block_lt_of_cell (a := ⟨b, off, none⟩) (by simpa [Addr.add] using hc)⟩, hlt, hll⟩
      have := hcell i (by omega)
      rw [Addr.add_mid] at this
      rw [this]
      have h2 := hb i
      show some (Value.int .u32 (zs.getD i 0)) = some (.int .u32 ((zs.getD i 0).toNat : Int))
      rw [Int.toNat_of_nonneg h2.1]
/-- A step that came in. -/
theorem open_step {H : Type} {enc : TypeId × Value → H} {W : World} {fuel : Nat} {cs : List Value} {y : DataW H × List MemPlace}
    (hf : DataW.trod enc Try.prog W 0 (fun _ => true) true fuel 34 cs = some y) (hsz : Rows.uptoBulk y.1 ≤ 1048576) {b o : Nat} (hc : ∀ i, i < 5 → W.cell? ⟨b, o + i, none⟩ = cs[i]?) : SpR W b o := by
  obtain ⟨xs, n, _, hx, hl, hlen, hfs⟩ := DataW.trod_struct Try.underlying34 hf
  rw [cellsS] at hl
  match cs, hl with
  | [v0, v1, v2, v3, v4], _ =>
    match xs, hlen with
    | [y0, y1, y2, y3, y4], _ =>
      have f0 := hfs 0 _ rfl
      have f1 := hfs 1 _ rfl
      have f2 := hfs 2 _ rfl
      have f3 := hfs 3 _ rfl
      have f4 := hfs 4 _ rfl
      simp [cellsI, cellsU, cellsSI, cellsSU] at f0 f1 f2 f3 f4
      obtain ⟨kd, e0, -, w0⟩ := DataW.trod_int Try.underlying3 f0
      obtain ⟨pc0, e1, -, w1⟩ := DataW.trod_int Try.underlying30 f1
      obtain ⟨nn, e2, -, w2⟩ := DataW.trod_int Try.underlying3 f2
      simp only [List.cons.injEq, and_true] at e0 e1 e2
      subst e0 e1 e2
      rw [hx] at hsz
      simp [Rows.uptoBulk, Rows.uptoBulkAll] at hsz
      obtain ⟨pa, pn, pcap, pg, rfl, hpg, hpn⟩ := open_pages f3 (by omega)
      obtain ⟨a, len, cap, cw, rfl, hwd, hlt, hll⟩ := open_code f4 (by omega)
      have b1 := bounds_u32 w1
      obtain ⟨pc, rfl⟩ : ∃ k : Nat, pc0 = k := ⟨pc0.toNat, by omega⟩
      exact ⟨kd, pc, nn, pa, pn, pcap, pg, a, len, cap, cw, ⟨(hc 0 (by omega)).trans rfl, (hc 1 (by omega)).trans rfl, (hc 2 (by omega)).trans rfl, (hc 3 (by omega)).trans rfl, (hc 4 (by omega)).trans rfl⟩, by omega, w2, hpg, hwd, hlt, hll, hpn⟩
theorem open_script {H : Type} {enc : TypeId × Value → H} {W : World} {a0 : Option Addr} {len0 cap0 : Nat} {d0 : DataW H} {p0 : List MemPlace}
    (h0 : DataW.Trod enc Try.prog W 0 (fun _ => true) true 22 (.slice a0 len0 cap0) d0 p0) (hsz : Rows.uptoBulk d0 ≤ 1048576) : Sp W a0 len0 := by
  obtain ⟨fuel, hf⟩ := h0
  rcases open_slice Try.underlying22 hf with ⟨hcs, _⟩ | ⟨a, len, cap, m, n, D, Pl, hcs, _, hl, hm, hmm, hx, hel⟩
  · simp [Value.cells] at hcs
    obtain ⟨rfl, rfl, rfl⟩ := hcs
    exact ⟨by decide, .inl rfl⟩
  · simp [Value.cells] at hcs
    obtain ⟨rfl, rfl, rfl⟩ := hcs
    simp only [if_true] at hmm
    subst hmm
    rw [cellsS] at hel
    simp only [Prod.mk.injEq] at hx
    have hd0 := hx.1
    rw [hd0] at hsz
    simp only [Rows.uptoBulk] at hsz
    have hD : ∀ i, i < len0 → Rows.uptoBulk (D i) ≤ 1048576 := fun i hi => by
      have := bulk_part (d := D i) (l := (List.range len0).map D) (List.mem_map.2 ⟨i, List.mem_range.2 hi, rfl⟩)
      omega
    have hlen : len0 ≤ 1048576 := by
      have := bulk_len ((List.range len0).map D)
      simp only [List.length_map, List.length_range] at this
      omega
    refine ⟨hlen, ?_⟩
    by_cases h0 : len0 = 0
    · exact .inl h0
    · obtain ⟨b, off, spot⟩ := a
      obtain ⟨cs', h1, -⟩ := hel 0 (by omega)
      obtain ⟨-, hl6, hc6⟩ := World.cells?_some h1
      have hc := hc6 0 (by omega)
      have hcl : 0 < cs'.length := by omega
      rw [List.getElem?_eq_getElem hcl] at hc
      have hspot : spot = none := by simpa [Addr.add] using World.cell?_spot hc
      subst hspot
      refine .inr ⟨b, off, rfl, block_lt_of_cell (a := ⟨b, off, none⟩) (by simpa [Addr.add] using hc), fun i hi => ?_⟩
      obtain ⟨cs2, g1, g2⟩ := hel i (by omega)
      obtain ⟨-, -, gc6⟩ := World.cells?_some g1
      refine open_step g2 (hD i hi) (fun j hj => ?_)
      have := gc6 j hj
      rw [Addr.add_mid, Addr.add_mid] at this
      exact this
theorem contract (H : Type) (enc : TypeId × Value → H) (W : World) (base : Nat) (args : Array Value) (ds gs : List (DataW H)) (before : List MemPlace)
    (hval : ∀ (j : Nat) t v, Try.f3.params[j]? = some t → args[j]? = some v → Value.okWide Try.prog W .any base t v)
    (hW : DataW.Whole enc Try.prog Try.f3.params.toList Rows.cachePlaysSpec.vars false W args.toList ds gs before) (hk : Rows.uptoSmall H (ds ++ gs) = true) :
    Calls Try.prog 3 args W fun e W' => ∃ v, e = .returned v ∧ Rows.cachePlaysSpec.post enc Try.prog Try.f3 false true false false W args v W' := by
  have hW' := hW
  obtain ⟨p, q, hA0, hV, rfl, hfz, hnd⟩ := hW
  have hA : DataW.TrodAll enc Try.prog W 0 (fun _ => true) true Try.f3.params.toList args.toList ds p := hA0
  rw [Try.params3] at hA hval
  obtain ⟨v0, vs, v1, d0, ds', d1, p0, ps, p1, rfl, rfl, rfl, h0, hs, h1⟩ := trodAll_three hA
  obtain ⟨rfl, rfl⟩ := trodVars_none hV
  obtain ⟨a0, rfl, rfl, rfl, w0⟩ := open_int Try.underlying3 (hval 0 3 v0 rfl rfl) h0
  obtain ⟨a1, rfl, rfl, rfl, ws⟩ := open_int Try.underlying3 (hval 1 3 vs rfl rfl) hs
  obtain ⟨sa, n, cap, rfl⟩ := okWide_slice Try.underlying22 (hval 2 22 v1 rfl rfl)
  have k1 := h1
  have lt1 : ∀ x ∈ p1, x.block < W.heap.size := by obtain ⟨m, hm⟩ := k1; exact DataW.trod_lt m _ _ _ hm
  simp only [List.append_nil] at hk
  have hbk : Rows.uptoBulkAll [DataW.lit (H := H) (.int .i64 a0), .lit (.int .i64 a1), d1] ≤ 1048576 := of_decide_eq_true hk
  simp only [Rows.uptoBulkAll] at hbk
  have hsc := open_script h1 (by omega)
  clear hA0
  refine (cp_walk a0 a1 sa n cap W hsc).mono fun e W' ⟨he, bel⟩ => ?_
  subst he
  exact ⟨_, rfl, _, _, _, [], _, [], hW', trodAll_mk1 (shut_bool Try.underlying4 _), trodAll_mk3 (shut_int Try.underlying3 w0) (shut_int Try.underlying3 ws) (Below.trod laidOut (by kernel_rfl) (of_decide_eq_true (by kernel_rfl)) k1 bel lt1), rfl, bel.frame _, fun h => by cases h⟩
theorem lifted (os : Os) (started : os.Started) (H : Type) (enc : TypeId × Value → H) (F : Stop.Interp) :
    ReturnsInHanded {} Try.checked os 3 .any ((Rows.OpenSpec.upto Rows.cachePlaysSpec).pre6 enc Try.prog Try.f3 Rows.cachePlaysUptoRow.domain false) (((Rows.OpenSpec.upto Rows.cachePlaysSpec).at F).post enc Try.prog Try.f3 false true false false) := by
  refine returnsInHanded_of_cond (C := Try.checked) (s := Rows.OpenSpec.upto Rows.cachePlaysSpec) (k := Rows.uptoSmall) rfl own started (by kernel_rfl) Try.func3
    (OpenSpec.witness (enc := enc) (C := Try.checked) (s := Rows.OpenSpec.upto Rows.cachePlaysSpec) (k := Rows.uptoSmall) rfl false ⟨#[], #[.int .i64 0, .int .i64 0, .slice none 0 0], []⟩ 8 (by kernel_rfl) (by kernel_rfl) (by kernel_rfl)
      (x := ([.lit (.int .i64 0), .lit (.int .i64 0), .nil], [], [])) (by kernel_rfl) rfl (by kernel_rfl)) ?_
  intro W base args ds gs before hval hW _ hk _
  exact contract H enc W base args ds gs before hval hW hk
end Go.Proofs.Ytgkkghphlbgcoaa.Ca
namespace Go.Proofs.Ytgkkghphlbgcoaa
open Go.ChangeShapes Go.WideShapes Go.ChangeAt Go.RowKit
theorem plays_holds : Rows.CachePlaysUptoSaid :=
  OpenClaim.holds_of_cond 3 Try.f3 rfl rfl rfl rfl rfl rfl rfl ⟨rfl, rfl, rfl, rfl, rfl⟩ rfl rfl rfl rfl rfl (by kernel_rfl) Try.func3 (by kernel_rfl)
    (of_decide_eq_true (by kernel_rfl)) (by unfold Func.isWrapper; first | (rw [if_pos (by decide +kernel)]; kernel_rfl) | (rw [if_neg (by decide +kernel)]; exact ⟨rfl, rfl⟩))
    (fun os started H enc _ F => Ca.lifted os started H enc F)
#print axioms plays_holds
end Go.Proofs.Ytgkkghphlbgcoaa
