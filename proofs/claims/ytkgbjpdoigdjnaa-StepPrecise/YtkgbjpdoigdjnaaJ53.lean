import Derived.Test.YtkgbjpdoigdjnaaJ25
import Derived.Test.YtkgbjpdoigdjnaaJ27
import Derived.BigQuiet
namespace Go.Proofs.Ytkgbjpdoigdjnaa
open Go.RowKit
set_option maxRecDepth 100000
set_option linter.unusedVariables false
set_option linter.unusedSimpArgs false

def partM (A : Int) (n : Nat) (z : Nat → Int) (R : Int) : MS := protT (pokeT newS (atF A) n z) (atF A / 256) R
def zs7 : Nat → Int := fun i => [66, 7, 0, 0, 0, 5, 9].getD i 0
def m7 : MS := partM 0 7 zs7 4
theorem m7_first : (stepF m7 gs0).k = 0 ∧ (stepF m7 gs0).t.R 2 = 7 ∧ (stepF m7 gs0).t.pc = 5 := by decide +kernel
theorem m7_second : (stepF (stepF m7 gs0).m (stepF m7 gs0).t).k = 1 ∧ (stepF (stepF m7 gs0).m (stepF m7 gs0).t).a = 9 ∧ (stepF (stepF m7 gs0).m (stepF m7 gs0).t).t.pc = 7 := by decide +kernel

set_option maxHeartbeats 4000000 in
theorem both_one (b off : Nat) (A : Int) (bp : Option Addr) (n c : Nat) (R : Int) (z : Nat → Int) (cap : Nat) (W : World) (hp : PartAt W b off A bp n c R z) :
    Calls Try.prog 35 #[.slice (some ⟨b, off, none⟩) 1 cap] W fun e w' => ∃ X k, e = .returned (.tuple #[.pointer (some ⟨X, 0, none⟩), .pointer (some ⟨k.y, 0, none⟩), .bool true]) ∧ BS W w' X k (partM A n z R) (partM A n z R) := by
  have HPt : Hid (PartAt W b off A bp n c R z) := hp
  clear hp
  go_enter Try.func35, Try.ntmps35
  go_wp2_with first
    | (go_at_call 25; refine (new_any _).mono ?_; rintro e w' ⟨rfl, rfl⟩)
    | (go_at_call 26; refine (rnew_any _).mono ?_; rintro e w3 ⟨k, rfl, hn1⟩; have HN1 : Hid (NewR (W.alloc (.cells zeroC 123)) k w3) := hn1; clear hn1)
  have HP0 : Hid (BS W w3 W.heap.size k newS newS) := both_new W HN1.out
  clear HN1
  go_loopw [20] (fun i wr => ∃ (j : Nat) (m : MS), i = .int .i64 j ∧ j ≤ 1 ∧ BS W wr W.heap.size k m m ∧ m = (if j = 0 then newS else partM A n z R)) (fun i _ => 1 - (intOf i).toNat)
  case atStart => exact ⟨0, newS, rfl, Nat.zero_le _, HP0.out, rfl⟩
  case round =>
    obtain ⟨j, m, rfl, hj, hB, hm⟩ := hrel
    have HM : Hid _ := hm
    clear hm
    have HB : Hid _ := hB
    clear hB
    by_cases hlt : j < 1
    · have hj00 : j = 0 := by omega
      subst hj00
      have HM0 : Hid (m = newS) := HM.out.trans (if_pos rfl)
      clear HM
      have hbW : b < W.heap.size := lt_of_cell HPt.out.c0
      have e0 := (HB.out.bel.cell (p := ⟨b, off, none⟩) hbW).trans HPt.out.c0
      have e1 := (HB.out.bel.cell (p := ⟨b, off + 1, none⟩) hbW).trans HPt.out.c1
      have e2 := (HB.out.bel.cell (p := ⟨b, off + 2, none⟩) hbW).trans HPt.out.c2
      have HAI : Hid (I64 A) := HPt.out.hA
      have hlw := HB.out.bel.size
      have hbr : b < wr.heap.size := by omega
      obtain ⟨t, ht⟩ : ∃ t, A.tmod 65536 = t := ⟨_, rfl⟩
      have t1 : t < 65536 := ht ▸ Int.tmod_lt_of_pos A (show (0 : Int) < 65536 by omega)
      have t2 : -65536 < t := ht ▸ Int.lt_tmod_of_pos A (show (0 : Int) < 65536 by omega)
      by_cases hneg : t < 0
      · have dn : decide (t < 0) = true := decide_eq_true hneg
        obtain ⟨x, hx⟩ : ∃ x, t + 65536 = x := ⟨_, rfl⟩
        have x0 : 0 ≤ x := by omega
        have x1 : x < 65536 := by omega
        have HX : Hid (True ∧ I64 x) := ⟨trivial, by omega, by omega⟩
        have HMX : Hid (protT (pokeT newS x n z) (x / 256) R = partM A n z R) := by
          have : atF A = x := by unfold atF; rw [ht]; first | (rw [if_pos hneg]; exact hx) | (rw [if_neg hneg])
          show _ = _
          unfold partM; rw [this]
        clear hneg
        go_wp2_with first
          | (go_at_call 69; refine (poke_tot W.heap.size x bp n c z m _ HX.out.2 (HPt.out.sr (HB.out.alloc _).bel) (HB.out.alloc _).pm).mono ?_; rintro e w1 ⟨rfl, hP1, hC1⟩; have HB1 : Hid (BS W w1 W.heap.size k (pokeT m x n z) m) := (HB.out.alloc _).x hP1 (ok_pokeT HB.out.ok1 _ _ _ HPt.out.bd) hC1; have HQ1 : Hid (w1.heap[wr.heap.size]? = some (partB A bp n c R)) := (hC1.block _ (by simp) (HB.out.nX (Nat.le_refl _))).trans (heap_alloc_last wr _); obtain ⟨f0, f1, f2⟩ := part_cells HQ1.out; clear hP1 hC1)
          | (go_at_call 70; refine (rpoke_tot k x bp n c z m _ HX.out.2 (Nat.le_trans HPt.out.le (by decide)) (HPt.out.sr HB1.out.bel) (HPt.out.off HB1.out) HB1.out.rm).mono ?_; rintro e w2 ⟨rfl, hR2, hC2⟩; have HB2 : Hid (BS W w2 W.heap.size k (pokeT m x n z) (pokeT m x n z)) := HB1.out.k hR2 (ok_pokeT HB.out.ok1 _ _ _ HPt.out.bd) hC2; have HQ2 : Hid (w2.heap[wr.heap.size]? = some (partB A bp n c R)) := (hC2.block _ (lt_of_block HQ1.out) (HB.out.nK (Nat.le_refl _))).trans HQ1.out; obtain ⟨g0, g1, g2⟩ := part_cells HQ2.out; clear hR2 hC2)
          | (go_at_call 67; refine (prot_tot W.heap.size (x / 256) R _ _ HB2.out.pm).mono ?_; rintro e w3' ⟨rfl, hP3, hC3⟩; have HB3 : Hid (BS W w3' W.heap.size k (protT (pokeT m x n z) (x / 256) R) (pokeT m x n z)) := HB2.out.x hP3 (ok_protT (ok_pokeT HB.out.ok1 _ _ _ HPt.out.bd) _ _) hC3; have HQ3 : Hid (w3'.heap[wr.heap.size]? = some (partB A bp n c R)) := (hC3.block _ (lt_of_block HQ2.out) (HB.out.nX (Nat.le_refl _))).trans HQ2.out; obtain ⟨y0, y1, y2⟩ := part_cells HQ3.out; clear hP3 hC3)
          | (go_at_call 68; refine (rprot_tot k (x / 256) R _ _ HB3.out.rm).mono ?_; rintro e w4 ⟨rfl, hR4, hC4⟩; have HB4 : Hid (BS W w4 W.heap.size k (protT (pokeT m x n z) (x / 256) R) (protT (pokeT m x n z) (x / 256) R)) := HB3.out.k hR4 (ok_protT (ok_pokeT HB.out.ok1 _ _ _ HPt.out.bd) _ _) hC4; clear hR4 hC4)
        go_roundw
        case rel => exact ⟨1, _, by go_num, by omega, HB4.out, by rw [HM0.out]; exact HMX.out⟩
        case measure => simp [intOf]
      · have dn : decide (t < 0) = false := decide_eq_false hneg
        obtain ⟨x, hx⟩ : ∃ x, t = x := ⟨_, rfl⟩
        subst hx
        obtain ⟨x, hx⟩ : ∃ x, x = t := ⟨_, rfl⟩
        subst hx
        have x0 : 0 ≤ x := by omega
        have HX : Hid (True ∧ I64 x) := ⟨trivial, by omega, by omega⟩
        have HMX : Hid (protT (pokeT newS x n z) (x / 256) R = partM A n z R) := by
          have : atF A = x := by unfold atF; rw [ht]; first | (rw [if_pos hneg]; exact hx) | (rw [if_neg hneg])
          show _ = _
          unfold partM; rw [this]
        clear hneg
        go_wp2_with first
          | (go_at_call 69; refine (poke_tot W.heap.size x bp n c z m _ HX.out.2 (HPt.out.sr (HB.out.alloc _).bel) (HB.out.alloc _).pm).mono ?_; rintro e w1 ⟨rfl, hP1, hC1⟩; have HB1 : Hid (BS W w1 W.heap.size k (pokeT m x n z) m) := (HB.out.alloc _).x hP1 (ok_pokeT HB.out.ok1 _ _ _ HPt.out.bd) hC1; have HQ1 : Hid (w1.heap[wr.heap.size]? = some (partB A bp n c R)) := (hC1.block _ (by simp) (HB.out.nX (Nat.le_refl _))).trans (heap_alloc_last wr _); obtain ⟨f0, f1, f2⟩ := part_cells HQ1.out; clear hP1 hC1)
          | (go_at_call 70; refine (rpoke_tot k x bp n c z m _ HX.out.2 (Nat.le_trans HPt.out.le (by decide)) (HPt.out.sr HB1.out.bel) (HPt.out.off HB1.out) HB1.out.rm).mono ?_; rintro e w2 ⟨rfl, hR2, hC2⟩; have HB2 : Hid (BS W w2 W.heap.size k (pokeT m x n z) (pokeT m x n z)) := HB1.out.k hR2 (ok_pokeT HB.out.ok1 _ _ _ HPt.out.bd) hC2; have HQ2 : Hid (w2.heap[wr.heap.size]? = some (partB A bp n c R)) := (hC2.block _ (lt_of_block HQ1.out) (HB.out.nK (Nat.le_refl _))).trans HQ1.out; obtain ⟨g0, g1, g2⟩ := part_cells HQ2.out; clear hR2 hC2)
          | (go_at_call 67; refine (prot_tot W.heap.size (x / 256) R _ _ HB2.out.pm).mono ?_; rintro e w3' ⟨rfl, hP3, hC3⟩; have HB3 : Hid (BS W w3' W.heap.size k (protT (pokeT m x n z) (x / 256) R) (pokeT m x n z)) := HB2.out.x hP3 (ok_protT (ok_pokeT HB.out.ok1 _ _ _ HPt.out.bd) _ _) hC3; have HQ3 : Hid (w3'.heap[wr.heap.size]? = some (partB A bp n c R)) := (hC3.block _ (lt_of_block HQ2.out) (HB.out.nX (Nat.le_refl _))).trans HQ2.out; obtain ⟨y0, y1, y2⟩ := part_cells HQ3.out; clear hP3 hC3)
          | (go_at_call 68; refine (rprot_tot k (x / 256) R _ _ HB3.out.rm).mono ?_; rintro e w4 ⟨rfl, hR4, hC4⟩; have HB4 : Hid (BS W w4 W.heap.size k (protT (pokeT m x n z) (x / 256) R) (protT (pokeT m x n z) (x / 256) R)) := HB3.out.k hR4 (ok_protT (ok_pokeT HB.out.ok1 _ _ _ HPt.out.bd) _ _) hC4; clear hR4 hC4)
        go_roundw
        case rel => exact ⟨1, _, by go_num, by omega, HB4.out, by rw [HM0.out]; exact HMX.out⟩
        case measure => simp [intOf]
    · have hjl : j = 1 := by omega
      subst hjl
      go_wp2
      refine bodyPost_ret (v := .tuple #[.pointer (some ⟨W.heap.size, 0, none⟩), .pointer (some ⟨k.y, 0, none⟩), .bool true]) (by simp [results, Try.results35, go_sem]) rfl ⟨_, k, rfl, by
        have h := HB.out
        rw [HM.out, if_neg (by omega)] at h
        exact h⟩
end Go.Proofs.Ytkgbjpdoigdjnaa

namespace Go.Proofs.Ytkgbjpdoigdjnaa
open Go.RowKit
set_option maxRecDepth 100000
set_option linter.unusedVariables false
set_option linter.unusedSimpArgs false

theorem Parts.below {W w : World} {sp : Option Addr} {len : Nat} (h : Parts W sp len) (bel : Below W.heap.size W w) : Parts w sp len := by
  refine ⟨fun h0 => ?_, h.le⟩
  obtain ⟨b, off, hp, hr⟩ := h.row h0
  refine ⟨b, off, hp, fun i hi => ?_⟩
  obtain ⟨A, bp, n, c, R, z, q⟩ := hr i hi
  have hb : b < W.heap.size := lt_of_cell q.c0
  exact ⟨A, bp, n, c, R, z, (bel.cell (p := ⟨b, off + i * 3, none⟩) hb).trans q.c0, (bel.cell (p := ⟨b, off + i * 3 + 1, none⟩) hb).trans q.c1, (bel.cell (p := ⟨b, off + i * 3 + 2, none⟩) hb).trans q.c2, q.hA, q.sr bel, q.le, q.bd⟩
abbrev bytes7 : Obj := .cells #[.int .u8 66, .int .u8 7, .int .u8 0, .int .u8 0, .int .u8 0, .int .u8 5, .int .u8 9] 5
abbrev prW (W : World) (s : GS) : World := ((W.alloc (gsB s)).alloc bytes7).alloc (partB 0 (some ⟨W.heap.size + 1, 0, none⟩) 7 7 4)
theorem part7 (W : World) (s : GS) : PartAt (prW W s) (W.heap.size + 1 + 1) 0 0 (some ⟨W.heap.size + 1, 0, none⟩) 7 7 4 zs7 := by
  have h2 : (prW W s).heap[W.heap.size + 1 + 1]? = some (partB 0 (some ⟨W.heap.size + 1, 0, none⟩) 7 7 4) := last_at _ _ _ (by simp)
  have h1 : (prW W s).heap[W.heap.size + 1]? = some bytes7 := alloc1 (last_at _ _ _ (by simp))
  obtain ⟨c0, c1, c2⟩ := part_cells h2
  refine ⟨c0, c1, c2, by omega, fun _ => ⟨_, 0, rfl, fun i hi => ?_⟩, by omega, fun i hi => ?_⟩
  · rw [Nat.zero_add, cell_of_row _ _ i _ 5 (0, 0) h1]
    match i, hi with
    | 0, _ => rfl
    | 1, _ => rfl
    | 2, _ => rfl
    | 3, _ => rfl
    | 4, _ => rfl
    | 5, _ => rfl
    | 6, _ => rfl
    | n + 7, h => omega
  · match i, hi with
    | 0, _ => decide
    | 1, _ => decide
    | 2, _ => decide
    | 3, _ => decide
    | 4, _ => decide
    | 5, _ => decide
    | 6, _ => decide
    | n + 7, h => omega
theorem gs0_ok : gs0.Ok := ⟨fun _ => by show 0 < 4294967296; omega, by show 0 < 4294967296; omega, by show 0 < 4294967296; omega⟩
theorem m7_ok : m7.Ok := by
  unfold m7 partM
  exact ok_protT (ok_pokeT newS_ok _ _ _ (fun i hi => by
    match i, hi with
    | 0, _ => decide
    | 1, _ => decide
    | 2, _ => decide
    | 3, _ => decide
    | 4, _ => decide
    | 5, _ => decide
    | 6, _ => decide
    | n + 7, h => omega)) _ _
theorem PM.setLow {w : World} {X n P : Nat} {m : MS} (h : PM w X m) (hX : n ≤ X) (hP : P < n) (o : Nat) (v : Value) : PM (w.setCell ⟨P, o, none⟩ v) X m := h.of_block (heap_setOther _ _ _ _ _ (by omega))
theorem RM.setLow {w : World} {k : RB} {n P : Nat} {m : MS} (h : RM w k m) (hl : ∀ x ∈ k.y :: k.all, n ≤ x) (hP : P < n) (o : Nat) (v : Value) : RM (w.setCell ⟨P, o, none⟩ v) k m := h.setOff (fun hm => by have := hl P hm; omega) o v
/-- The first steps of the given bytes. -/
theorem m7_steps : ∃ t1 a1 m1 t2 m2, stepF m7 gs0 = ⟨t1, 0, a1, m1⟩ ∧ stepF m1 t1 = ⟨t2, 1, 9, m2⟩ ∧ t1.R 2 = 7 ∧ t1.pc = 5 ∧ t2.pc = 7 ∧ t1.Ok ∧ m1.Ok ∧ m2.Ok := by
  obtain ⟨h1, h2, h3⟩ := m7_first
  obtain ⟨g1, g2, g3⟩ := m7_second
  have o1 := stepF_ok m7_ok gs0_ok
  have o2 := stepF_ok o1.m o1.t
  refine ⟨(stepF m7 gs0).t, (stepF m7 gs0).a, (stepF m7 gs0).m, (stepF (stepF m7 gs0).m (stepF m7 gs0).t).t, (stepF (stepF m7 gs0).m (stepF m7 gs0).t).m, ?_, ?_, h2, h3, g3, o1.t, o1.m, o2.m⟩
  · rw [← h1]
  · rw [← g1, ← g2]

set_option maxHeartbeats 8000000 in
theorem precise_walk (hStep : StepOk) (pp : Option Addr) (plen pcap : Nat) (s : GS) (W : World) (hp : Parts W pp plen) (hs : s.Ok) :
    Calls Try.prog 10 #[.slice pp plen pcap, gsV s] W fun e w' => e = .returned (.bool true) ∧ Below W.heap.size W w' := by
  have HPs : Hid _ := hp
  have HSt : Hid _ := hStep
  have HSO : Hid s.Ok := hs
  obtain ⟨t1, a1, m1, t2, m2, q1, q2, q3, q4, q5, q6, q7, q8⟩ := m7_steps
  have HA1 : Hid (∀ X w, PM w X m7 → Calls Try.prog 36 #[.pointer (some ⟨X, 0, none⟩), gsV gs0] w fun e w' => e = .returned (.tuple #[gsV t1, .agg #[.int .i64 0, .int .u32 a1]]) ∧ PM w' X m1 ∧ Chg [X] w w') := fun X w h => by
    have := hStep X m7 gs0 w h m7_ok gs0_ok
    rw [q1] at this
    exact this
  have HA2 : Hid (∀ X w, PM w X m1 → Calls Try.prog 36 #[.pointer (some ⟨X, 0, none⟩), gsV t1] w fun e w' => e = .returned (.tuple #[gsV t2, .agg #[.int .i64 1, .int .u32 9]]) ∧ PM w' X m2 ∧ Chg [X] w w') := fun X w h => by
    have := hStep X m1 t1 w h q7 q6
    rw [q2] at this
    exact this
  have HK : Hid (m1.Ok ∧ m2.Ok) := ⟨q7, q8⟩
  have HV : Hid (t1.R 2 = 7 ∧ t1.pc = 5 ∧ t2.pc = 7) := ⟨q3, q4, q5⟩
  clear hp hs hStep q1 q2 q3 q4 q5 q6 q7 q8
  go_enter Try.func10, Try.ntmps10
  go_upto_region 8 with (first
    | (go_at_call 36; have HQ3 := HB2; refine (HA2.out X _ ((HB2.out.alloc _).alloc _).pm).mono ?_; rintro e w3 ⟨rfl, hP3, hC3⟩; have HT3 : Hid (w3.heap[w2.heap.size]? = some (gsB t1)) := hC3.at (last1 w2 _ _) (HB2.out.nX (Nat.le_refl _)); have HE3 : Hid (w3.heap[w2.heap.size + 1]? = some (stopB 0 a1)) := hC3.at (last2 w2 _ _) (HB2.out.nX (Nat.le_succ _)); have HS3 : Hid (w3.heap[W.heap.size]? = some (gsB s)) := hC3.at (alloc1 (alloc1 HS2.out)) (fun hm => by have hx := HB1.out.far X (List.mem_cons_self ..); simp at hm hx; omega); have HW3 : Hid (Below W.heap.size W w3) := ((HW2.out.alloc HW2.out.size _).alloc (by have := HW2.out.size; simp; omega) _).trans (hC3.below (by have := HW2.out.size; simp; omega) (fun x hx => by have hf := HB1.out.far X (List.mem_cons_self ..); simp at hx hf; omega)); obtain ⟨t10, t11, t12, t13, t14, t15, t16, t17, t18, t19⟩ := gs_all HT3.out; obtain ⟨p0, p1, pf0, pf1⟩ := stop_cells HE3.out; have y2 : w2.heap.size < w3.heap.size := lt_of_block HT3.out; have y3 : w2.heap.size + 1 < w3.heap.size := lt_of_block HE3.out; have y4 := Nat.lt_succ_of_lt y2; have y5 := Nat.lt_succ_of_lt y3; have y6 : W.heap.size < w3.heap.size := lt_of_block HS3.out; have y7 := Nat.lt_succ_of_lt y6; obtain ⟨q3, q4, q5⟩ := HV.out; clear hP3 hC3 HA2 HQ3)
    | (go_at_call 36; have HQ2 := HA1; refine (HA1.out X _ HB1.out.pm).mono ?_; rintro e w2 ⟨rfl, hP2, hC2⟩; have HB2 : Hid (BS (prW W s) w2 X k m1 m7) := HB1.out.x hP2 HK.out.1 hC2; have HS2 : Hid (w2.heap[W.heap.size]? = some (gsB s)) := hC2.at HS1.out (fun hm => by have hx := HB1.out.far X (List.mem_cons_self ..); simp at hm hx; omega); have HW2 : Hid (Below W.heap.size W w2) := HW1.out.trans (hC2.below HW1.out.size (fun x hx => by have hf := HB1.out.far X (List.mem_cons_self ..); simp at hx hf; omega)); have y1 : W.heap.size < w2.heap.size := lt_of_block HS2.out; clear hP2 hC2 HA1 HQ2)
    | (go_at_call 35; have HQ0 := HA1; refine (both_one (W.heap.size + 1 + 1) 0 0 (some ⟨W.heap.size + 1, 0, none⟩) 7 7 4 zs7 1 _ (part7 W s)).mono ?_; rintro e w1 ⟨X, k, rfl, hB1⟩; have HB1 : Hid (BS (prW W s) w1 X k m7 m7) := hB1; have HS1 : Hid (w1.heap[W.heap.size]? = some (gsB s)) := (hB1.bel.block _ (by simp; omega)).trans (alloc1 (alloc1 (heap_alloc_last W _))); have HW1 : Hid (Below W.heap.size W w1) := (((((Below.refl _ _).alloc (Nat.le_refl _) _).alloc (by simp) _).alloc (by simp; omega) _)).trans (hB1.bel.mono (by simp; omega)); have y0 : W.heap.size < w1.heap.size := lt_of_block HS1.out; clear hB1 HQ0))
  clear t10 t11 t12 t13 t14 t15 t16 t17 t18 t19 p0 p1 pf0 pf1 q3 q4 q5
  go_upto_region 11 with (go_at_call 35; refine (both_any pp plen pcap _ (HPs.out.below ((HW3.out.alloc HW3.out.size _).alloc (by have := HW3.out.size; simp; omega) _))).mono ?_; rintro e w4 ⟨X', k', m, rfl, hB4⟩; have HP4 : Hid (PM w4 X' m) := hB4.pm; have HR4 : Hid (RM w4 k' m) := hB4.rm; have HO4 : Hid m.Ok := hB4.ok1; have HN4 : Hid (X' ∉ k'.y :: k'.all) := hB4.ne; have HF4 : Hid (∀ x ∈ X' :: k'.y :: k'.all, w3.heap.size + 2 ≤ x) := (fun x hx => by have := hB4.far x hx; simp at this; omega); have HS4 : Hid (w4.heap[W.heap.size]? = some (gsB s)) := (hB4.bel.block _ (by simp; omega)).trans (alloc1 (alloc1 HS3.out)); have HT4 : Hid (w4.heap[w2.heap.size]? = some (gsB t1)) := (hB4.bel.block _ (by simp; omega)).trans (alloc1 (alloc1 HT3.out)); have HW5 : Hid (Below W.heap.size W w4) := ((HW3.out.alloc HW3.out.size _).alloc (by have := HW3.out.size; simp; omega) _).trans (hB4.bel.mono (by simp; omega)); have z0 : W.heap.size < w4.heap.size := lt_of_block HS4.out; have z1 : w2.heap.size < w4.heap.size := lt_of_block HT4.out; clear hB4)
  obtain ⟨⟨t', kk, aa, m'⟩, HO⟩ : ∃ o, Hid (stepF m s = o) := ⟨_, rfl⟩
  obtain ⟨s0, s1, s2, s3, s4, s5, s6, s7, s8, s9⟩ := gs_all HS4.out
  have hE := stepF_end m s
  have hOk := stepF_ok HO4.out HSO.out
  have hA := HSt.out X'
  rw [HO.out] at hE hOk
  rcases hE with hk | ⟨e1, e2, e3⟩
  · simp only at hk
    have HMO : Hid m'.Ok := hOk.m
    have HA5 : Hid (∀ w, PM w X' m → Calls Try.prog 36 #[.pointer (some ⟨X', 0, none⟩), gsV s] w fun e w' => e = .returned (.tuple #[gsV t', .agg #[.int .i64 kk, .int .u32 aa]]) ∧ PM w' X' m' ∧ Chg [X'] w w') := fun w h => by
      have := hA m s w h HO4.out HSO.out
      rw [HO.out] at this
      exact this
    clear hA hOk
    rcases hk with rfl | rfl
    · go_wp2_with (go_at_call 36; refine (HA5.out _ HP4.out).mono ?_; rintro e w5 ⟨rfl, hP5, hC5⟩; have HP5 : Hid (PM w5 X' m') := hP5; have HR5 : Hid (RM w5 k' m) := HR4.out.keep hC5 (fun x hx hm => HN4.out (by simp at hm; subst hm; exact hx)); have HS5 : Hid (w5.heap[W.heap.size]? = some (gsB s)) := hC5.at HS4.out (fun hm => by have hx := HF4.out X' (List.mem_cons_self ..); simp at hm; omega); have HT5 : Hid (w5.heap[w2.heap.size]? = some (gsB t1)) := hC5.at HT4.out (fun hm => by have hx := HF4.out X' (List.mem_cons_self ..); simp at hm; omega); have HW6 : Hid (Below W.heap.size W w5) := HW5.out.trans (hC5.below HW5.out.size (fun x hx => by have hf := HF4.out X' (List.mem_cons_self ..); simp at hx; omega)); obtain ⟨t10, t11, t12, t13, t14, t15, t16, t17, t18, t19⟩ := gs_all HT5.out; have tf := gs_fr HT5.out; clear s0 s1 s2 s3 s4 s5 s6 s7 s8 s9; obtain ⟨s0, s1, s2, s3, s4, s5, s6, s7, s8, s9⟩ := gs_all HS5.out; have sf := gs_fr HS5.out; have z2 : W.heap.size < w5.heap.size := lt_of_block HS5.out; have z3 : w2.heap.size < w5.heap.size := lt_of_block HT5.out; have z4 : ¬ (W.heap.size = w2.heap.size) := Nat.ne_of_lt y1; clear hP5 hC5 HA5)
      go_ret
      exact ⟨rfl, by
          have hB := HW6.out
          have g1 := HW1.out.size
          have g2 := y1
          repeat first
            | with_reducible exact hB
            | with_reducible refine Below.setCell ?_ (by first | exact Nat.le_refl _ | (simp only; omega)) _
            | with_reducible refine Below.alloc ?_ (by first | omega | (simp; omega)) _
            | with_reducible refine Below.drew ?_⟩
    · go_wp2_with (go_at_call 36; refine (HA5.out _ HP4.out).mono ?_; rintro e w5 ⟨rfl, hP5, hC5⟩; have HP5 : Hid (PM w5 X' m') := hP5; have HR5 : Hid (RM w5 k' m) := HR4.out.keep hC5 (fun x hx hm => HN4.out (by simp at hm; subst hm; exact hx)); have HS5 : Hid (w5.heap[W.heap.size]? = some (gsB s)) := hC5.at HS4.out (fun hm => by have hx := HF4.out X' (List.mem_cons_self ..); simp at hm; omega); have HT5 : Hid (w5.heap[w2.heap.size]? = some (gsB t1)) := hC5.at HT4.out (fun hm => by have hx := HF4.out X' (List.mem_cons_self ..); simp at hm; omega); have HW6 : Hid (Below W.heap.size W w5) := HW5.out.trans (hC5.below HW5.out.size (fun x hx => by have hf := HF4.out X' (List.mem_cons_self ..); simp at hx; omega)); obtain ⟨t10, t11, t12, t13, t14, t15, t16, t17, t18, t19⟩ := gs_all HT5.out; have tf := gs_fr HT5.out; clear s0 s1 s2 s3 s4 s5 s6 s7 s8 s9; obtain ⟨s0, s1, s2, s3, s4, s5, s6, s7, s8, s9⟩ := gs_all HS5.out; have sf := gs_fr HS5.out; have z2 : W.heap.size < w5.heap.size := lt_of_block HS5.out; have z3 : w2.heap.size < w5.heap.size := lt_of_block HT5.out; have z4 : ¬ (W.heap.size = w2.heap.size) := Nat.ne_of_lt y1; clear hP5 hC5 HA5)
      go_ret
      exact ⟨rfl, by
          have hB := HW6.out
          have g1 := HW1.out.size
          have g2 := y1
          repeat first
            | with_reducible exact hB
            | with_reducible refine Below.setCell ?_ (by first | exact Nat.le_refl _ | (simp only; omega)) _
            | with_reducible refine Below.alloc ?_ (by first | omega | (simp; omega)) _
            | with_reducible refine Below.drew ?_⟩
  · simp only at e1 e2 e3
    subst e1
    have e2s := e2.symm
    subst e2s
    clear e2
    have HA5 : Hid (∀ w, PM w X' m → Calls Try.prog 36 #[.pointer (some ⟨X', 0, none⟩), gsV s] w fun e w' => e = .returned (.tuple #[.agg #[.int .u32 (s.R 0), .int .u32 (s.R 1), .int .u32 (s.R 2), .int .u32 (s.R 3), .int .u32 (s.R 4), .int .u32 (s.R 5), .int .u32 (s.R 6), .int .u32 (s.R 7), .int .u32 s.pc, .int .u32 ((s.f : Int) % 16)], .agg #[.int .i64 kk, .int .u32 aa]]) ∧ PM w' X' m ∧ Chg [X'] w w') := fun w h => by
      have := hA m s w h HO4.out HSO.out
      rw [HO.out] at this
      refine this.mono fun e w' ⟨h1, h2, h3⟩ => ⟨?_, h2, h3⟩
      rw [h1, show ((s.f : Int) % 16) = ((s.f % 16 : Nat) : Int) from (Int.natCast_emod s.f 16).symm]
      rfl
    have E8 := fun w => eq8 (s.R 0) (s.R 1) (s.R 2) (s.R 3) (s.R 4) (s.R 5) (s.R 6) (s.R 7) w
    clear hA hOk
    rcases e3 with rfl | rfl | rfl | ⟨hk, x, rfl, hx⟩
    · go_upto_region 26 with (first
        | (go_at_call 36; refine (HA5.out _ HP4.out).mono ?_; rintro e w5 ⟨rfl, hP5, hC5⟩; have HP5 : Hid (PM w5 X' m) := hP5; have HR5 : Hid (RM w5 k' m) := HR4.out.keep hC5 (fun x hx hm => HN4.out (by simp at hm; subst hm; exact hx)); have HS5 : Hid (w5.heap[W.heap.size]? = some (gsB s)) := hC5.at HS4.out (fun hm => by have hx := HF4.out X' (List.mem_cons_self ..); simp at hm; omega); have HT5 : Hid (w5.heap[w2.heap.size]? = some (gsB t1)) := hC5.at HT4.out (fun hm => by have hx := HF4.out X' (List.mem_cons_self ..); simp at hm; omega); have HW6 : Hid (Below W.heap.size W w5) := HW5.out.trans (hC5.below HW5.out.size (fun x hx => by have hf := HF4.out X' (List.mem_cons_self ..); simp at hx; omega)); obtain ⟨t10, t11, t12, t13, t14, t15, t16, t17, t18, t19⟩ := gs_all HT5.out; have tf := gs_fr HT5.out; clear s0 s1 s2 s3 s4 s5 s6 s7 s8 s9; obtain ⟨s0, s1, s2, s3, s4, s5, s6, s7, s8, s9⟩ := gs_all HS5.out; have sf := gs_fr HS5.out; have z2 : W.heap.size < w5.heap.size := lt_of_block HS5.out; have z3 : w2.heap.size < w5.heap.size := lt_of_block HT5.out; have z4 : ¬ (W.heap.size = w2.heap.size) := Nat.ne_of_lt y1; clear hP5 hC5 HA5)
        | (go_at_call 28; refine (whole_any X' k' m _ ?_ ?_).mono ?_; (focus (have hB := HP5.out; have hX := HF4.out X' (List.mem_cons_self ..); repeat (first | with_reducible exact hB | with_reducible refine PM.alloc ?_ _ | with_reducible refine PM.drew ?_ | with_reducible refine PM.setLow (n := w3.heap.size) ?_ (by omega) (by omega) _ _))); (focus (have hB := HR5.out; repeat (first | with_reducible exact hB | with_reducible refine RM.alloc ?_ _ | with_reducible refine RM.drew ?_ | with_reducible refine RM.setLow (n := w3.heap.size) ?_ (fun x hx => Nat.le_of_add_right_le (HF4.out x (List.mem_cons_of_mem _ hx))) (by omega) _ _))); rintro e w6 ⟨rfl, hb6⟩; have HR6 : Hid (RM w6 k' m) := RM.below (by have hB := HR5.out; repeat (first | with_reducible exact hB | with_reducible refine RM.alloc ?_ _ | with_reducible refine RM.drew ?_ | with_reducible refine RM.setLow (n := w3.heap.size) ?_ (fun x hx => Nat.le_of_add_right_le (HF4.out x (List.mem_cons_of_mem _ hx))) (by omega) _ _)) hb6 (Nat.le_refl _); have HQ6 : Hid (w6.heap[w5.heap.size]? = some (stopB 2 aa)) := (hb6.block _ (by simp [World.setCell])).trans (last_at _ _ _ (by simp [World.setCell])); have HW7 : Hid (Below W.heap.size W w6) := Below.trans (by have hB := HW6.out; have g1 := HW1.out.size; have g2 := y1; repeat (first | with_reducible exact hB | with_reducible refine Below.setCell ?_ (by first | exact Nat.le_refl _ | (simp only; omega)) _ | with_reducible refine Below.alloc ?_ (by first | omega | (simp [World.setCell]; omega)) _ | with_reducible refine Below.drew ?_)) (hb6.mono (by have g3 := HW6.out.size; simp [World.setCell]; omega)); obtain ⟨u0, u1, uf0, uf1⟩ := stop_cells HQ6.out; have c1 := HR6.out.c1; clear hb6))
      go_quiet (fail)
      go_wp2
      go_ret
      exact ⟨rfl, by first | exact HW7.out | exact below_drewN HW7.out _⟩
    · go_upto_region 26 with (first
        | (go_at_call 36; refine (HA5.out _ HP4.out).mono ?_; rintro e w5 ⟨rfl, hP5, hC5⟩; have HP5 : Hid (PM w5 X' m) := hP5; have HR5 : Hid (RM w5 k' m) := HR4.out.keep hC5 (fun x hx hm => HN4.out (by simp at hm; subst hm; exact hx)); have HS5 : Hid (w5.heap[W.heap.size]? = some (gsB s)) := hC5.at HS4.out (fun hm => by have hx := HF4.out X' (List.mem_cons_self ..); simp at hm; omega); have HT5 : Hid (w5.heap[w2.heap.size]? = some (gsB t1)) := hC5.at HT4.out (fun hm => by have hx := HF4.out X' (List.mem_cons_self ..); simp at hm; omega); have HW6 : Hid (Below W.heap.size W w5) := HW5.out.trans (hC5.below HW5.out.size (fun x hx => by have hf := HF4.out X' (List.mem_cons_self ..); simp at hx; omega)); obtain ⟨t10, t11, t12, t13, t14, t15, t16, t17, t18, t19⟩ := gs_all HT5.out; have tf := gs_fr HT5.out; clear s0 s1 s2 s3 s4 s5 s6 s7 s8 s9; obtain ⟨s0, s1, s2, s3, s4, s5, s6, s7, s8, s9⟩ := gs_all HS5.out; have sf := gs_fr HS5.out; have z2 : W.heap.size < w5.heap.size := lt_of_block HS5.out; have z3 : w2.heap.size < w5.heap.size := lt_of_block HT5.out; have z4 : ¬ (W.heap.size = w2.heap.size) := Nat.ne_of_lt y1; clear hP5 hC5 HA5)
        | (go_at_call 28; refine (whole_any X' k' m _ ?_ ?_).mono ?_; (focus (have hB := HP5.out; have hX := HF4.out X' (List.mem_cons_self ..); repeat (first | with_reducible exact hB | with_reducible refine PM.alloc ?_ _ | with_reducible refine PM.drew ?_ | with_reducible refine PM.setLow (n := w3.heap.size) ?_ (by omega) (by omega) _ _))); (focus (have hB := HR5.out; repeat (first | with_reducible exact hB | with_reducible refine RM.alloc ?_ _ | with_reducible refine RM.drew ?_ | with_reducible refine RM.setLow (n := w3.heap.size) ?_ (fun x hx => Nat.le_of_add_right_le (HF4.out x (List.mem_cons_of_mem _ hx))) (by omega) _ _))); rintro e w6 ⟨rfl, hb6⟩; have HR6 : Hid (RM w6 k' m) := RM.below (by have hB := HR5.out; repeat (first | with_reducible exact hB | with_reducible refine RM.alloc ?_ _ | with_reducible refine RM.drew ?_ | with_reducible refine RM.setLow (n := w3.heap.size) ?_ (fun x hx => Nat.le_of_add_right_le (HF4.out x (List.mem_cons_of_mem _ hx))) (by omega) _ _)) hb6 (Nat.le_refl _); have HQ6 : Hid (w6.heap[w5.heap.size]? = some (stopB 3 aa)) := (hb6.block _ (by simp [World.setCell])).trans (last_at _ _ _ (by simp [World.setCell])); have HW7 : Hid (Below W.heap.size W w6) := Below.trans (by have hB := HW6.out; have g1 := HW1.out.size; have g2 := y1; repeat (first | with_reducible exact hB | with_reducible refine Below.setCell ?_ (by first | exact Nat.le_refl _ | (simp only; omega)) _ | with_reducible refine Below.alloc ?_ (by first | omega | (simp [World.setCell]; omega)) _ | with_reducible refine Below.drew ?_)) (hb6.mono (by have g3 := HW6.out.size; simp [World.setCell]; omega)); obtain ⟨u0, u1, uf0, uf1⟩ := stop_cells HQ6.out; have c1 := HR6.out.c1; clear hb6))
      go_quiet (fail)
      go_wp2
      go_ret
      exact ⟨rfl, by first | exact HW7.out | exact below_drewN HW7.out _⟩
    · go_upto_region 26 with (first
        | (go_at_call 36; refine (HA5.out _ HP4.out).mono ?_; rintro e w5 ⟨rfl, hP5, hC5⟩; have HP5 : Hid (PM w5 X' m) := hP5; have HR5 : Hid (RM w5 k' m) := HR4.out.keep hC5 (fun x hx hm => HN4.out (by simp at hm; subst hm; exact hx)); have HS5 : Hid (w5.heap[W.heap.size]? = some (gsB s)) := hC5.at HS4.out (fun hm => by have hx := HF4.out X' (List.mem_cons_self ..); simp at hm; omega); have HT5 : Hid (w5.heap[w2.heap.size]? = some (gsB t1)) := hC5.at HT4.out (fun hm => by have hx := HF4.out X' (List.mem_cons_self ..); simp at hm; omega); have HW6 : Hid (Below W.heap.size W w5) := HW5.out.trans (hC5.below HW5.out.size (fun x hx => by have hf := HF4.out X' (List.mem_cons_self ..); simp at hx; omega)); obtain ⟨t10, t11, t12, t13, t14, t15, t16, t17, t18, t19⟩ := gs_all HT5.out; have tf := gs_fr HT5.out; clear s0 s1 s2 s3 s4 s5 s6 s7 s8 s9; obtain ⟨s0, s1, s2, s3, s4, s5, s6, s7, s8, s9⟩ := gs_all HS5.out; have sf := gs_fr HS5.out; have z2 : W.heap.size < w5.heap.size := lt_of_block HS5.out; have z3 : w2.heap.size < w5.heap.size := lt_of_block HT5.out; have z4 : ¬ (W.heap.size = w2.heap.size) := Nat.ne_of_lt y1; clear hP5 hC5 HA5)
        | (go_at_call 28; refine (whole_any X' k' m _ ?_ ?_).mono ?_; (focus (have hB := HP5.out; have hX := HF4.out X' (List.mem_cons_self ..); repeat (first | with_reducible exact hB | with_reducible refine PM.alloc ?_ _ | with_reducible refine PM.drew ?_ | with_reducible refine PM.setLow (n := w3.heap.size) ?_ (by omega) (by omega) _ _))); (focus (have hB := HR5.out; repeat (first | with_reducible exact hB | with_reducible refine RM.alloc ?_ _ | with_reducible refine RM.drew ?_ | with_reducible refine RM.setLow (n := w3.heap.size) ?_ (fun x hx => Nat.le_of_add_right_le (HF4.out x (List.mem_cons_of_mem _ hx))) (by omega) _ _))); rintro e w6 ⟨rfl, hb6⟩; have HR6 : Hid (RM w6 k' m) := RM.below (by have hB := HR5.out; repeat (first | with_reducible exact hB | with_reducible refine RM.alloc ?_ _ | with_reducible refine RM.drew ?_ | with_reducible refine RM.setLow (n := w3.heap.size) ?_ (fun x hx => Nat.le_of_add_right_le (HF4.out x (List.mem_cons_of_mem _ hx))) (by omega) _ _)) hb6 (Nat.le_refl _); have HQ6 : Hid (w6.heap[w5.heap.size]? = some (stopB 7 aa)) := (hb6.block _ (by simp [World.setCell])).trans (last_at _ _ _ (by simp [World.setCell])); have HW7 : Hid (Below W.heap.size W w6) := Below.trans (by have hB := HW6.out; have g1 := HW1.out.size; have g2 := y1; repeat (first | with_reducible exact hB | with_reducible refine Below.setCell ?_ (by first | exact Nat.le_refl _ | (simp only; omega)) _ | with_reducible refine Below.alloc ?_ (by first | omega | (simp [World.setCell]; omega)) _ | with_reducible refine Below.drew ?_)) (hb6.mono (by have g3 := HW6.out.size; simp [World.setCell]; omega)); obtain ⟨u0, u1, uf0, uf1⟩ := stop_cells HQ6.out; have c1 := HR6.out.c1; clear hb6))
      go_quiet (fail)
      go_wp2
      go_ret
      exact ⟨rfl, by first | exact HW7.out | exact below_drewN HW7.out _⟩
    · have hx0 : (0 : Int) ≤ x := Int.natCast_nonneg _
      rcases hk with rfl | rfl | rfl
      · have hx2 : ¬ (x < 65536 ∧ m.R (x / 256) / 4 % 2 = 1) := hx
        clear hx
        go_upto_region 26 with (first
          | (go_at_call 36; refine (HA5.out _ HP4.out).mono ?_; rintro e w5 ⟨rfl, hP5, hC5⟩; have HP5 : Hid (PM w5 X' m) := hP5; have HR5 : Hid (RM w5 k' m) := HR4.out.keep hC5 (fun x hx hm => HN4.out (by simp at hm; subst hm; exact hx)); have HS5 : Hid (w5.heap[W.heap.size]? = some (gsB s)) := hC5.at HS4.out (fun hm => by have hx := HF4.out X' (List.mem_cons_self ..); simp at hm; omega); have HT5 : Hid (w5.heap[w2.heap.size]? = some (gsB t1)) := hC5.at HT4.out (fun hm => by have hx := HF4.out X' (List.mem_cons_self ..); simp at hm; omega); have HW6 : Hid (Below W.heap.size W w5) := HW5.out.trans (hC5.below HW5.out.size (fun x hx => by have hf := HF4.out X' (List.mem_cons_self ..); simp at hx; omega)); obtain ⟨t10, t11, t12, t13, t14, t15, t16, t17, t18, t19⟩ := gs_all HT5.out; have tf := gs_fr HT5.out; clear s0 s1 s2 s3 s4 s5 s6 s7 s8 s9; obtain ⟨s0, s1, s2, s3, s4, s5, s6, s7, s8, s9⟩ := gs_all HS5.out; have sf := gs_fr HS5.out; have z2 : W.heap.size < w5.heap.size := lt_of_block HS5.out; have z3 : w2.heap.size < w5.heap.size := lt_of_block HT5.out; have z4 : ¬ (W.heap.size = w2.heap.size) := Nat.ne_of_lt y1; clear hP5 hC5 HA5)
          | (go_at_call 28; refine (whole_any X' k' m _ ?_ ?_).mono ?_; (focus (have hB := HP5.out; have hX := HF4.out X' (List.mem_cons_self ..); repeat (first | with_reducible exact hB | with_reducible refine PM.alloc ?_ _ | with_reducible refine PM.drew ?_ | with_reducible refine PM.setLow (n := w3.heap.size) ?_ (by omega) (by omega) _ _))); (focus (have hB := HR5.out; repeat (first | with_reducible exact hB | with_reducible refine RM.alloc ?_ _ | with_reducible refine RM.drew ?_ | with_reducible refine RM.setLow (n := w3.heap.size) ?_ (fun x hx => Nat.le_of_add_right_le (HF4.out x (List.mem_cons_of_mem _ hx))) (by omega) _ _))); rintro e w6 ⟨rfl, hb6⟩; have HR6 : Hid (RM w6 k' m) := RM.below (by have hB := HR5.out; repeat (first | with_reducible exact hB | with_reducible refine RM.alloc ?_ _ | with_reducible refine RM.drew ?_ | with_reducible refine RM.setLow (n := w3.heap.size) ?_ (fun x hx => Nat.le_of_add_right_le (HF4.out x (List.mem_cons_of_mem _ hx))) (by omega) _ _)) hb6 (Nat.le_refl _); have HQ6 : Hid (w6.heap[w5.heap.size]? = some (stopB 4 x)) := (hb6.block _ (by simp [World.setCell])).trans (last_at _ _ _ (by simp [World.setCell])); have HW7 : Hid (Below W.heap.size W w6) := Below.trans (by have hB := HW6.out; have g1 := HW1.out.size; have g2 := y1; repeat (first | with_reducible exact hB | with_reducible refine Below.setCell ?_ (by first | exact Nat.le_refl _ | (simp only; omega)) _ | with_reducible refine Below.alloc ?_ (by first | omega | (simp [World.setCell]; omega)) _ | with_reducible refine Below.drew ?_)) (hb6.mono (by have g3 := HW6.out.size; simp [World.setCell]; omega)); obtain ⟨u0, u1, uf0, uf1⟩ := stop_cells HQ6.out; have c1 := HR6.out.c1; clear hb6))
        by_cases hb : 65535 < x
        · have dx : decide (65535 < x) = true := decide_eq_true hb
          have dx2 : decide ((65535 : Int) < (x : Int)) = true := decide_eq_true (by omega)
          clear hx2
          go_quiet (fail)
          go_wp2
          go_ret
          exact ⟨rfl, by first | exact HW7.out | exact below_drewN HW7.out _⟩
        · have dx : decide (65535 < x) = false := decide_eq_false hb
          have dx2 : decide ((65535 : Int) < (x : Int)) = false := decide_eq_false (by omega)
          obtain ⟨p, hp⟩ : ∃ p, x / 256 = p := ⟨_, rfl⟩
          have hp1 : p < 256 := by omega
          have hp2 : (p : Int) < 256 := by omega
          have hp3 : (x : Int) / 256 = p := by omega
          have hri := HR6.out.ri p hp1
          have hbd := HO4.out.ri p
          rw [hp] at hx2
          obtain ⟨v, hv⟩ : ∃ v, m.R p = v := ⟨_, rfl⟩
          rw [hv] at hri hbd hx2
          have hv8 : v = 0 ∨ v = 1 ∨ v = 2 ∨ v = 3 ∨ v = 4 ∨ v = 5 ∨ v = 6 ∨ v = 7 := by omega
          clear hb hp hv
          rcases hv8 with rfl | rfl | rfl | rfl | rfl | rfl | rfl | rfl
          all_goals first
            | (exfalso; omega)
            | (clear hx2 hbd
               go_quiet (fail)
               go_wp2
               go_ret
               exact ⟨rfl, by first | exact HW7.out | exact below_drewN HW7.out _⟩)
      · have hx2 : ¬ (x < 65536 ∧ m.R (x / 256) / 1 % 2 = 1) := hx
        clear hx
        go_upto_region 26 with (first
          | (go_at_call 36; refine (HA5.out _ HP4.out).mono ?_; rintro e w5 ⟨rfl, hP5, hC5⟩; have HP5 : Hid (PM w5 X' m) := hP5; have HR5 : Hid (RM w5 k' m) := HR4.out.keep hC5 (fun x hx hm => HN4.out (by simp at hm; subst hm; exact hx)); have HS5 : Hid (w5.heap[W.heap.size]? = some (gsB s)) := hC5.at HS4.out (fun hm => by have hx := HF4.out X' (List.mem_cons_self ..); simp at hm; omega); have HT5 : Hid (w5.heap[w2.heap.size]? = some (gsB t1)) := hC5.at HT4.out (fun hm => by have hx := HF4.out X' (List.mem_cons_self ..); simp at hm; omega); have HW6 : Hid (Below W.heap.size W w5) := HW5.out.trans (hC5.below HW5.out.size (fun x hx => by have hf := HF4.out X' (List.mem_cons_self ..); simp at hx; omega)); obtain ⟨t10, t11, t12, t13, t14, t15, t16, t17, t18, t19⟩ := gs_all HT5.out; have tf := gs_fr HT5.out; clear s0 s1 s2 s3 s4 s5 s6 s7 s8 s9; obtain ⟨s0, s1, s2, s3, s4, s5, s6, s7, s8, s9⟩ := gs_all HS5.out; have sf := gs_fr HS5.out; have z2 : W.heap.size < w5.heap.size := lt_of_block HS5.out; have z3 : w2.heap.size < w5.heap.size := lt_of_block HT5.out; have z4 : ¬ (W.heap.size = w2.heap.size) := Nat.ne_of_lt y1; clear hP5 hC5 HA5)
          | (go_at_call 28; refine (whole_any X' k' m _ ?_ ?_).mono ?_; (focus (have hB := HP5.out; have hX := HF4.out X' (List.mem_cons_self ..); repeat (first | with_reducible exact hB | with_reducible refine PM.alloc ?_ _ | with_reducible refine PM.drew ?_ | with_reducible refine PM.setLow (n := w3.heap.size) ?_ (by omega) (by omega) _ _))); (focus (have hB := HR5.out; repeat (first | with_reducible exact hB | with_reducible refine RM.alloc ?_ _ | with_reducible refine RM.drew ?_ | with_reducible refine RM.setLow (n := w3.heap.size) ?_ (fun x hx => Nat.le_of_add_right_le (HF4.out x (List.mem_cons_of_mem _ hx))) (by omega) _ _))); rintro e w6 ⟨rfl, hb6⟩; have HR6 : Hid (RM w6 k' m) := RM.below (by have hB := HR5.out; repeat (first | with_reducible exact hB | with_reducible refine RM.alloc ?_ _ | with_reducible refine RM.drew ?_ | with_reducible refine RM.setLow (n := w3.heap.size) ?_ (fun x hx => Nat.le_of_add_right_le (HF4.out x (List.mem_cons_of_mem _ hx))) (by omega) _ _)) hb6 (Nat.le_refl _); have HQ6 : Hid (w6.heap[w5.heap.size]? = some (stopB 5 x)) := (hb6.block _ (by simp [World.setCell])).trans (last_at _ _ _ (by simp [World.setCell])); have HW7 : Hid (Below W.heap.size W w6) := Below.trans (by have hB := HW6.out; have g1 := HW1.out.size; have g2 := y1; repeat (first | with_reducible exact hB | with_reducible refine Below.setCell ?_ (by first | exact Nat.le_refl _ | (simp only; omega)) _ | with_reducible refine Below.alloc ?_ (by first | omega | (simp [World.setCell]; omega)) _ | with_reducible refine Below.drew ?_)) (hb6.mono (by have g3 := HW6.out.size; simp [World.setCell]; omega)); obtain ⟨u0, u1, uf0, uf1⟩ := stop_cells HQ6.out; have c1 := HR6.out.c1; clear hb6))
        by_cases hb : 65535 < x
        · have dx : decide (65535 < x) = true := decide_eq_true hb
          have dx2 : decide ((65535 : Int) < (x : Int)) = true := decide_eq_true (by omega)
          clear hx2
          go_quiet (fail)
          go_wp2
          go_ret
          exact ⟨rfl, by first | exact HW7.out | exact below_drewN HW7.out _⟩
        · have dx : decide (65535 < x) = false := decide_eq_false hb
          have dx2 : decide ((65535 : Int) < (x : Int)) = false := decide_eq_false (by omega)
          obtain ⟨p, hp⟩ : ∃ p, x / 256 = p := ⟨_, rfl⟩
          have hp1 : p < 256 := by omega
          have hp2 : (p : Int) < 256 := by omega
          have hp3 : (x : Int) / 256 = p := by omega
          have hri := HR6.out.ri p hp1
          have hbd := HO4.out.ri p
          rw [hp] at hx2
          obtain ⟨v, hv⟩ : ∃ v, m.R p = v := ⟨_, rfl⟩
          rw [hv] at hri hbd hx2
          have hv8 : v = 0 ∨ v = 1 ∨ v = 2 ∨ v = 3 ∨ v = 4 ∨ v = 5 ∨ v = 6 ∨ v = 7 := by omega
          clear hb hp hv
          rcases hv8 with rfl | rfl | rfl | rfl | rfl | rfl | rfl | rfl
          all_goals first
            | (exfalso; omega)
            | (clear hx2 hbd
               go_quiet (fail)
               go_wp2
               go_ret
               exact ⟨rfl, by first | exact HW7.out | exact below_drewN HW7.out _⟩)
      · have hx2 : ¬ (x < 65536 ∧ m.R (x / 256) / 2 % 2 = 1) := hx
        clear hx
        go_upto_region 26 with (first
          | (go_at_call 36; refine (HA5.out _ HP4.out).mono ?_; rintro e w5 ⟨rfl, hP5, hC5⟩; have HP5 : Hid (PM w5 X' m) := hP5; have HR5 : Hid (RM w5 k' m) := HR4.out.keep hC5 (fun x hx hm => HN4.out (by simp at hm; subst hm; exact hx)); have HS5 : Hid (w5.heap[W.heap.size]? = some (gsB s)) := hC5.at HS4.out (fun hm => by have hx := HF4.out X' (List.mem_cons_self ..); simp at hm; omega); have HT5 : Hid (w5.heap[w2.heap.size]? = some (gsB t1)) := hC5.at HT4.out (fun hm => by have hx := HF4.out X' (List.mem_cons_self ..); simp at hm; omega); have HW6 : Hid (Below W.heap.size W w5) := HW5.out.trans (hC5.below HW5.out.size (fun x hx => by have hf := HF4.out X' (List.mem_cons_self ..); simp at hx; omega)); obtain ⟨t10, t11, t12, t13, t14, t15, t16, t17, t18, t19⟩ := gs_all HT5.out; have tf := gs_fr HT5.out; clear s0 s1 s2 s3 s4 s5 s6 s7 s8 s9; obtain ⟨s0, s1, s2, s3, s4, s5, s6, s7, s8, s9⟩ := gs_all HS5.out; have sf := gs_fr HS5.out; have z2 : W.heap.size < w5.heap.size := lt_of_block HS5.out; have z3 : w2.heap.size < w5.heap.size := lt_of_block HT5.out; have z4 : ¬ (W.heap.size = w2.heap.size) := Nat.ne_of_lt y1; clear hP5 hC5 HA5)
          | (go_at_call 28; refine (whole_any X' k' m _ ?_ ?_).mono ?_; (focus (have hB := HP5.out; have hX := HF4.out X' (List.mem_cons_self ..); repeat (first | with_reducible exact hB | with_reducible refine PM.alloc ?_ _ | with_reducible refine PM.drew ?_ | with_reducible refine PM.setLow (n := w3.heap.size) ?_ (by omega) (by omega) _ _))); (focus (have hB := HR5.out; repeat (first | with_reducible exact hB | with_reducible refine RM.alloc ?_ _ | with_reducible refine RM.drew ?_ | with_reducible refine RM.setLow (n := w3.heap.size) ?_ (fun x hx => Nat.le_of_add_right_le (HF4.out x (List.mem_cons_of_mem _ hx))) (by omega) _ _))); rintro e w6 ⟨rfl, hb6⟩; have HR6 : Hid (RM w6 k' m) := RM.below (by have hB := HR5.out; repeat (first | with_reducible exact hB | with_reducible refine RM.alloc ?_ _ | with_reducible refine RM.drew ?_ | with_reducible refine RM.setLow (n := w3.heap.size) ?_ (fun x hx => Nat.le_of_add_right_le (HF4.out x (List.mem_cons_of_mem _ hx))) (by omega) _ _)) hb6 (Nat.le_refl _); have HQ6 : Hid (w6.heap[w5.heap.size]? = some (stopB 6 x)) := (hb6.block _ (by simp [World.setCell])).trans (last_at _ _ _ (by simp [World.setCell])); have HW7 : Hid (Below W.heap.size W w6) := Below.trans (by have hB := HW6.out; have g1 := HW1.out.size; have g2 := y1; repeat (first | with_reducible exact hB | with_reducible refine Below.setCell ?_ (by first | exact Nat.le_refl _ | (simp only; omega)) _ | with_reducible refine Below.alloc ?_ (by first | omega | (simp [World.setCell]; omega)) _ | with_reducible refine Below.drew ?_)) (hb6.mono (by have g3 := HW6.out.size; simp [World.setCell]; omega)); obtain ⟨u0, u1, uf0, uf1⟩ := stop_cells HQ6.out; have c1 := HR6.out.c1; clear hb6))
        by_cases hb : 65535 < x
        · have dx : decide (65535 < x) = true := decide_eq_true hb
          have dx2 : decide ((65535 : Int) < (x : Int)) = true := decide_eq_true (by omega)
          clear hx2
          go_quiet (fail)
          go_wp2
          go_ret
          exact ⟨rfl, by first | exact HW7.out | exact below_drewN HW7.out _⟩
        · have dx : decide (65535 < x) = false := decide_eq_false hb
          have dx2 : decide ((65535 : Int) < (x : Int)) = false := decide_eq_false (by omega)
          obtain ⟨p, hp⟩ : ∃ p, x / 256 = p := ⟨_, rfl⟩
          have hp1 : p < 256 := by omega
          have hp2 : (p : Int) < 256 := by omega
          have hp3 : (x : Int) / 256 = p := by omega
          have hri := HR6.out.ri p hp1
          have hbd := HO4.out.ri p
          rw [hp] at hx2
          obtain ⟨v, hv⟩ : ∃ v, m.R p = v := ⟨_, rfl⟩
          rw [hv] at hri hbd hx2
          have hv8 : v = 0 ∨ v = 1 ∨ v = 2 ∨ v = 3 ∨ v = 4 ∨ v = 5 ∨ v = 6 ∨ v = 7 := by omega
          clear hb hp hv
          rcases hv8 with rfl | rfl | rfl | rfl | rfl | rfl | rfl | rfl
          all_goals first
            | (exfalso; omega)
            | (clear hx2 hbd
               go_quiet (fail)
               go_wp2
               go_ret
               exact ⟨rfl, by first | exact HW7.out | exact below_drewN HW7.out _⟩)
end Go.Proofs.Ytkgbjpdoigdjnaa
