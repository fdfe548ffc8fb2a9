import Derived.Test.YtkgbjpdoigdjnabON
import Derived.Test.YtkgbjpdoigdjnabOO
set_option linter.unusedVariables false
set_option linter.unusedSimpArgs false
set_option maxHeartbeats 8000000
namespace Go.Proofs.Ytkgbjpdoigdjnab
open Go.RowKit
open Go.Maps
set_option maxRecDepth 100000
structure TS where
 s : SE
 t : Nat → Option Nat
def stS (h : Nat → ON) (i : Nat) (x : TS) : TS := ⟨(doS x.s (ren (h i) x.t)).1, upd x.t i (doS x.s (ren (h i) x.t)).2⟩
def se0 : SE := ⟨[], fun _ => none, none, false⟩
def runS (h : Nat → ON) : Nat → TS
 | 0 => ⟨se0, fun _ => some 0⟩
 | i + 1 => if (runS h i).s.lft then runS h i else stS h i (runS h i)
theorem runS_left (h : Nat → ON) (i : Nat) (hl : (runS h i).s.lft = true) : ∀ d, runS h (i + d) = runS h i
 | 0 => rfl
 | d + 1 => by
  show (if (runS h (i + d)).s.lft then runS h (i + d) else _) = _
  rw [runS_left h i hl d, if_pos hl]
theorem runS_next (h : Nat → ON) (j : Nat) (hl : (runS h j).s.lft = false) : runS h (j + 1) = stS h j (runS h j) := by
 show (if (runS h j).s.lft then _ else _) = _
 rw [if_neg (by rw [hl]; decide)]
def SetOk (h : Nat → ON) (n : Nat) : Prop := ∀ i, i < n → (runS h i).s.lft = false → DoOk (runS h i).s (ren (h i) (runS h i).t) ∧ (∀ q, q < tkN (h i).kd → arg (h i) q < n) ∧ ∀ q, q < tkN (h i).kd → ∃ v, (runS h i).t (arg (h i) q) = some v
theorem MapOk.nil : MapOk (.map []) [] := ⟨fun _ _ _ => rfl, fun _ _ _ _ h => by simp [fnd] at h⟩
structure SL (w W : World) (H n : Nat) (h : Nat → ON) (bp : Option Addr) (j : Nat) (sv : Value) : Prop where
 sw : SW W w.heap.size (w.heap.size + 1) w.heap.size (runS h j).s (runS h j).s.l sv
 tr : W.rowIs H 3 n (fun i => .int .i64 (oI ((runS h j).t i)))
 bH : w.heap.size ≤ H
 ops : OpsR W bp n (fun i => rO (h i))
 ob : ∀ b off, bp = some ⟨b, off, none⟩ → b < w.heap.size
 bel : Below w.heap.size w W
theorem ops_bel {w w' : World} {bp : Option Addr} {n base : Nat} {f : Nat → OpR} (h : OpsR w bp n f) (k : Below base w w') (hb : ∀ b off, bp = some ⟨b, off, none⟩ → b < base) : OpsR w' bp n f := fun h0 => by
 obtain ⟨b, off, e, hl, hc⟩ := h h0
 exact ⟨b, off, e, Nat.lt_of_lt_of_le hl k.size, fun i hi => (hc i hi).below k (hb b off e)⟩
theorem SL.below {w W W' : World} {H n : Nat} {h : Nat → ON} {bp : Option Addr} {j : Nat} {sv : Value} (x : SL w W H n h bp j sv) (k : Below W.heap.size W W') : SL w W' H n h bp j sv :=
 ⟨x.sw.below k, x.tr.of_block (k.block _ x.tr.lt), x.bH, x.ops.below k (Nat.le_refl _), x.ob, x.bel.trans (k.mono x.bel.size)⟩
theorem SL.next {w W W2 : World} {H n : Nat} {h : Nat → ON} {bp : Option Addr} {j : Nat} {sv sv2 : Value} (x : SL w W H n h bp j sv) (hl : (runS h j).s.lft = false) (h2 : SW W2 w.heap.size (w.heap.size + 1) w.heap.size (doS (runS h j).s (ren (h j) (runS h j).t)).1 (doS (runS h j).s (ren (h j) (runS h j).t)).1.l sv2) (k2 : Kz w.heap.size (w.heap.size + 1) w.heap.size sv W sv2 W2) : H ≠ w.heap.size + 1 ∧ W2.rowIs H 3 n (fun i => .int .i64 (oI ((runS h j).t i))) ∧ SL w (W2.setCell ⟨H, j, none⟩ (.int .i64 (oI (doS (runS h j).s (ren (h j) (runS h j).t)).2))) H n h bp (j + 1) sv2 := by
 have e : runS h (j + 1) = stS h j (runS h j) := by show (if (runS h j).s.lft then _ else _) = _; rw [if_neg (by rw [hl]; decide)]
 obtain ⟨cH, hcH, hcn, hcc⟩ := x.tr
 have nX : H ≠ w.heap.size + 1 := fun q => by
  obtain ⟨c, hc, -⟩ := x.sw.xb
  rw [← q, hcH] at hc; cases hc
 have nM : H ≠ w.heap.size := fun q => by
  obtain ⟨D, hD, -⟩ := x.sw.mp
  obtain ⟨es, ck, hm⟩ := own_map_lt hD
  rw [← q, hcH] at hm; cases hm
 have nO : sv.ownBlock ≠ some H := fun q => by
  obtain ⟨-, cur, hh⟩ := owns_blk x.sw.o q
  rw [hcH] at hh; cases hh
 have hr : W2.rowIs H 3 n (fun i => .int .i64 (oI ((runS h j).t i))) := x.tr.of_block (k2.blk H x.tr.lt nX nM nO)
 obtain ⟨cH2, hcH2, -, -⟩ := hr
 have nO2 : ∀ g, sv2.ownBlock = some g → g ≠ H := fun g hg q => by
  obtain ⟨-, cur, hh⟩ := owns_blk h2.o hg
  rw [q, hcH2] at hh; cases hh
 refine ⟨nX, x.tr.of_block (k2.blk H x.tr.lt nX nM nO), ?_⟩
 have hb : Below w.heap.size w (W2.setCell ⟨H, j, none⟩ (.int .i64 (oI (doS (runS h j).s (ren (h j) (runS h j).t)).2))) := (x.bel.trans k2.bel).setCell x.bH _
 refine ⟨?_, ?_, x.bH, ops_bel x.ops (k2.bel.setCell x.bH _) x.ob, x.ob, hb⟩
 ·rw [e]
  exact h2.keep (blk_other nX.symm _) (blk_other nM.symm _) (fun g hg => blk_other (nO2 g hg) _) (by simp)
 ·rw [e]
  refine ((x.tr.of_block (k2.blk H x.tr.lt nX nM nO)).set j _).congr fun i hi => ?_
  show _ = Value.int .i64 (oI (upd (runS h j).t j _ i))
  unfold upd
  split <;> rfl
def sef (j : Nat) : SE := ⟨[], fun i => if i < j then none else some 0, none, false⟩
theorem sef_next (j : Nat) : { sef j with sl := upd (sef j).sl j none } = sef (j + 1) := by
 show SE.mk [] (upd (fun i => if i < j then none else some 0) j none) none false = SE.mk [] (fun i => if i < j + 1 then none else some 0) none false
 congr 1
 funext i
 unfold upd
 by_cases h : i = j
 ·subst h; simp
 ·simp only [h, if_false]
  by_cases h2 : i < j
  ·simp [h2, Nat.lt_succ_of_lt h2]
  ·simp [h2, show ¬ i < j + 1 by omega]
theorem sef_start (w : World) : SW ((w.alloc (.map #[] 0)).alloc (.cells #[.slice none 0 0, .map (some w.heap.size), .int .i64 0, .int .i64 0, .int .i64 0, .int .i64 0, .int .i64 0, .int .i64 0, .int .i64 0, .int .i64 0, .int .i64 0, .int .i64 0, .int .i64 0, .int .i64 0, .int .i64 (-1), .bool false] 211)) w.heap.size (w.heap.size + 1) w.heap.size (sef 0) [] (.slice none 0 0) := by
 have hz : (w.alloc (.map #[] 0)).heap.size = w.heap.size + 1 := by simp
 refine ⟨?_, World.ownsRow_nil _ _ _ _, ⟨.map [], ((World.ownsMap_made w _ _ _).alloc _), MapOk.nil⟩, by omega, Nat.le_refl _, by simp; omega⟩
 have hr := World.rowIs_alloc (w.alloc (.map #[] 0)) #[.slice none 0 0, .map (some w.heap.size), .int .i64 0, .int .i64 0, .int .i64 0, .int .i64 0, .int .i64 0, .int .i64 0, .int .i64 0, .int .i64 0, .int .i64 0, .int .i64 0, .int .i64 0, .int .i64 0, .int .i64 (-1), .bool false] 211 (seF (.slice none 0 0) w.heap.size (sef 0)) (fun i hi => by
  have hi' : i < 16 := hi
  match i, hi' with
  | 0, _ | 1, _ | 2, _ | 3, _ | 4, _ | 5, _ | 6, _ | 7, _ | 8, _ | 9, _ | 10, _ | 11, _ | 12, _ | 13, _ | 14, _ | 15, _ => rfl
  | m + 16, q => exact absurd q (by omega))
 rw [hz] at hr
 exact hr
theorem sef_end {w W : World} {base X M : Nat} {sv : Value} (h : SW W base X M (sef 12) [] sv) : SW W base X M se0 [] sv :=
 ⟨h.xb.congr (fun j hj => by
  unfold seF
  by_cases h0 : j = 0
  ·rw [if_pos h0, if_pos h0]
  rw [if_neg h0, if_neg h0]
  by_cases h1 : j = 1
  ·rw [if_pos h1, if_pos h1]
  rw [if_neg h1, if_neg h1]
  by_cases h14 : j < 14
  ·rw [if_pos h14, if_pos h14]
   show Value.int .i64 (oI (if j - 2 < 12 then none else some 0)) = Value.int .i64 (oI none)
   rw [if_pos (by omega)]
  ·rw [if_neg h14, if_neg h14]; rfl), h.o, h.mp, h.bX, h.bM, h.bw⟩
theorem info3 : (Try.prog.info? 3).map (fun i => (i.zero, i.size, i.bytes)) = some (some (.int .i64 0), 1, 8) := by kernel_rfl
theorem settled_any (n cap : Nat) (bp : Option Addr) (h : Nat → ON) (w : World) (hO : OpsR w bp n (fun i => rO (h i))) (n1 : 0 < n) (hn : n ≤ 2048) (hk : SetOk h n) :
  Calls Try.prog 58 #[.slice bp n cap] w fun e w' => ∃ sv, e = .returned sv ∧ w'.ownsRow w.heap.size 67 7 sv (runS h n).s.l.length (onsV (runS h n).s.l) ∧ Below w.heap.size w w' := by
 obtain ⟨b, off, rfl, hb, hc⟩ := hO n1
 have HO : Hid (OpsR w (some ⟨b, off, none⟩) n (fun i => rO (h i))) := hO
 have HB : Hid (b < w.heap.size) := hb
 have HOB : Hid (∀ b' off', (some ⟨b, off, none⟩ : Option Addr) = some ⟨b', off', none⟩ → b' < w.heap.size) := show ∀ b' off', _ from fun b' off' e => by cases e; exact hb
 have HK : Hid (SetOk h n) := hk
 have HN1 : Hid (0 < n) := n1
 have HN2 : Hid (n ≤ 2048) := hn
 have hmm := @run_makeMap Try.prog
 have ni : (n : Int) ≤ 2048 := by omega
 have ni0 : (0 : Int) ≤ (n : Int) := by omega
 obtain ⟨i3, hi3, hz3, hs3, hb3⟩ := info_parts info3
 have hmk := run_make_row 29 3 i3 _ Try.underlying29 hi3 hz3 hs3 rfl .i64 .i64 n (by rw [hb3]; omega) (by omega)
 obtain ⟨R, HR⟩ : ∃ R, Hid (runS h n = R) := ⟨_, rfl⟩
 clear hO hk hc hb
 rw [HR.out]
 go_enter Try.func58, Try.ntmps58
 go_upto_region 2 with fail
 refine wp_gen (fun W' => SW W' w.heap.size (w.heap.size + 1) w.heap.size (sef 0) [] (.slice none 0 0) ∧ Below w.heap.size w W') ⟨sef_start w, ((Below.refl _ _).alloc (Nat.le_refl _) _).alloc (by simp) _⟩ ?_
 intro W hW
 have HW : Hid _ := hW
 clear hW hmm
 go_wp2
 go_loopw [10] (fun i' wr => ∃ j : Nat, i' = .int .i64 j ∧ j ≤ 12 ∧ SW wr w.heap.size (w.heap.size + 1) w.heap.size (sef j) [] (.slice none 0 0) ∧ Below w.heap.size w wr) (fun i _ => 12 - (intOf i).toNat)
 case atStart => exact ⟨0, rfl, by omega, HW.out.1, HW.out.2⟩
 case round =>
  obtain ⟨j, rfl, hj, hS, hBel⟩ := hrel
  have HS : Hid _ := hS
  have HBl : Hid _ := hBel
  clear hS hBel HW
  by_cases hlt : j < 12
  ·have j0 : (0 : Int) ≤ (j : Int) := by omega
   have j1 : (j : Int) < 12 := by omega
   have dj : decide ((j : Int) < 12) = true := decide_eq_true j1
   have cj := HS.out.xb.cell (i := 2 + j) (by omega)
   rw [se_sl _ _ _ _ hlt] at cj
   have xf := HS.out.xb.frozen
   have xl := HS.out.xb.lt
   have HLT : Hid (j < 12) := hlt
   clear hlt
   go_wp2
   go_round
   case rel => exact ⟨j + 1, by go_num, HLT.out, sef_next j ▸ HS.out.setSl j none HLT.out, HBl.out.setCell (by show w.heap.size ≤ w.heap.size + 1; omega) _⟩
   case measure => have := HLT.out; simp [intOf]; omega
  ·obtain rfl : j = 12 := by omega
   clear hlt hj
   have HS2 : Hid _ := sef_end (w := w) HS.out
   go_upto_region 8 with fail
   refine wp_gen (fun W' => ∃ H, H = wr.heap.size ∧ SL w W' H n h (some ⟨b, off, none⟩) 0 (.slice none 0 0)) ⟨wr.heap.size, rfl, ⟨HS2.out.below ((Below.refl _ _).alloc (Nat.le_refl _) _), (World.rowIs_made wr (.int .i64 0) n 3).congr (fun i _ => rfl), HBl.out.size, ops_bel HO.out (HBl.out.alloc HBl.out.size _) HOB.out, HOB.out, HBl.out.alloc HBl.out.size _⟩⟩ ?_
   rintro V ⟨H, HHe, hV⟩
   have HV : Hid _ := hV
   rw [← HHe, show ((12 : Nat) : Int) = 12 from rfl]
   clear hV HS2 HS HBl hmk HHe
   go_wp2
   go_loopw [22] (fun i' wr => ∃ (j : Nat) (sv : Value), i' = .int .i64 j ∧ j ≤ n ∧ (runS h j).s.lft = false ∧ SL w wr H n h (some ⟨b, off, none⟩) j sv) (fun i _ => n - (intOf i).toNat)
   case atStart => exact ⟨0, _, rfl, by omega, rfl, HV.out⟩
   case round =>
    obtain ⟨j, sv, rfl, hj, hlf, hS⟩ := hrel
    have HL : Hid _ := hS
    have HLF : Hid ((runS h j).s.lft = false) := hlf
    have xl := hS.sw.xb.lt
    have xf := hS.sw.xb.frozen
    have x0 : wr.cell? ⟨w.heap.size + 1, 0, none⟩ = some sv := hS.sw.xb.cell (i := 0) (by omega)
    have HJ : Hid (j ≤ n) := hj
    clear hS hlf HV
    by_cases hlt : j < n
    ·have hji : (j : Int) < (n : Int) := by omega
     have dj : decide ((j : Int) < (n : Int)) = true := decide_eq_true hji
     have j0 : (0 : Int) ≤ (j : Int) := by omega
     have HLT : Hid (j < n) := hlt
     obtain ⟨b', off', e', lb', hc'⟩ := HL.out.ops HN1.out
     cases e'
     have hop := hc' j hlt
     have m0 : wr.cell? ⟨b, off + j * 7, none⟩ = some (.int .i64 (h j).kd) := hop.c0
     have m1 : wr.cell? ⟨b, off + j * 7 + 1, none⟩ = some (.int .i64 (h j).w) := hop.c1
     have m2 : wr.cell? ⟨b, off + j * 7 + 2, none⟩ = some (.int .i64 (h j).a) := hop.c2
     have m3 : wr.cell? ⟨b, off + j * 7 + 3, none⟩ = some (.int .i64 (h j).b) := hop.c3
     have m4 : wr.cell? ⟨b, off + j * 7 + 4, none⟩ = some (.int .i64 (h j).c) := hop.c4
     have m5 : wr.cell? ⟨b, off + j * 7 + 5, none⟩ = some (.int .u32 (h j).k) := hop.c5
     have m6 : wr.cell? ⟨b, off + j * 7 + 6, none⟩ = some (.int .i64 (h j).n) := hop.c6
     obtain ⟨hdo, hq1, hq2⟩ := HK.out j hlt HLF.out
     have HDO : Hid _ := hdo
     have HQ1 : Hid _ := hq1
     have HQ2 : Hid _ := hq2
     obtain ⟨ro, HRO⟩ : ∃ ro, Hid (ren (h j) (runS h j).t = ro) := ⟨_, rfl⟩
     have HA : Hid _ := HL.out.below ((Below.refl wr.heap.size wr).alloc (Nat.le_refl _) (.cells #[.int .i64 (h j).kd, .int .i64 (h j).w, .int .i64 (h j).a, .int .i64 (h j).b, .int .i64 (h j).c, .int .u32 (h j).k, .int .i64 (h j).n] 67))
     have lbW : b < wr.heap.size := lb'
     have lb1 := Nat.lt_succ_of_lt lbW
     have nbW : b ≠ wr.heap.size := by omega
     clear hop hc' hlt hdo hq1 hq2 lb'
     obtain ⟨L, HLL⟩ : ∃ L, Hid ((runS h (j + 1)).s.lft = L) := ⟨_, rfl⟩
     cases L with
     | false =>
      go_wp2_with (first
       | (go_at_call 122; refine (ren_any H n n (runS h j).t (h j) _ HA.out.tr HQ1.out HQ2.out).mono ?_; rintro e w1 ⟨rfl, h1⟩; rw [HRO.out]; have H1 : Hid _ := HA.out.below h1; clear h1)
       | (go_at_call 121; refine (do_any w.heap.size (w.heap.size + 1) w.heap.size (runS h j).s sv ro _ H1.out.sw (HRO.out ▸ HDO.out)).mono ?_; rintro e w2 ⟨rfl, sv2, h2, k2⟩; rw [← HRO.out] at h2; have hN := H1.out.next HLF.out h2 k2; rw [HRO.out] at hN; have H2 : Hid _ := hN.2.2; have nH := hN.1; have nH2 := nH.symm; have tl := hN.2.1.lt; have tf := hN.2.1.frozen; have tc : w2.cell? ⟨H, j, none⟩ = some (.int .i64 (oI ((runS h j).t j))) := hN.2.1.cell (i := j) HLT.out; have q15 : w2.cell? ⟨w.heap.size + 1, 15, none⟩ = some (.bool false) := (h2.xb.cell (i := 15) (by omega)).trans (by rw [← HLL.out, runS_next h j HLF.out]; rfl); have q0 : w2.cell? ⟨w.heap.size + 1, 0, none⟩ = some sv2 := h2.xb.cell (i := 0) (by omega); have ql := h2.xb.lt; clear h2 k2 hN))
      go_round
      case rel => exact ⟨j + 1, sv2, by go_num, HLT.out, HLL.out, H2.out⟩
      case measure => have := HLT.out; simp [intOf]; omega
     | true =>
      have HRE : Hid (R = runS h (j + 1)) := show R = _ by (rw [← HR.out, show n = (j + 1) + (n - (j + 1)) by have := HLT.out; omega]; exact runS_left h (j + 1) HLL.out _)
      go_wp2_with (first
       | (go_at_call 122; refine (ren_any H n n (runS h j).t (h j) _ HA.out.tr HQ1.out HQ2.out).mono ?_; rintro e w1 ⟨rfl, h1⟩; rw [HRO.out]; have H1 : Hid _ := HA.out.below h1; clear h1)
       | (go_at_call 121; refine (do_any w.heap.size (w.heap.size + 1) w.heap.size (runS h j).s sv ro _ H1.out.sw (HRO.out ▸ HDO.out)).mono ?_; rintro e w2 ⟨rfl, sv2, h2, k2⟩; rw [← HRO.out] at h2; have hN := H1.out.next HLF.out h2 k2; rw [HRO.out] at hN; have H2 : Hid _ := hN.2.2; have nH := hN.1; have nH2 := nH.symm; have tl := hN.2.1.lt; have tf := hN.2.1.frozen; have tc : w2.cell? ⟨H, j, none⟩ = some (.int .i64 (oI ((runS h j).t j))) := hN.2.1.cell (i := j) HLT.out; have q15 : w2.cell? ⟨w.heap.size + 1, 15, none⟩ = some (.bool true) := (h2.xb.cell (i := 15) (by omega)).trans (by rw [← HLL.out, runS_next h j HLF.out]; rfl); have q0 : w2.cell? ⟨w.heap.size + 1, 0, none⟩ = some sv2 := h2.xb.cell (i := 0) (by omega); have ql := h2.xb.lt; clear h2 k2 hN))
      go_ret
      exact ⟨sv2, rfl, by rw [HRE.out]; exact H2.out.sw.o, H2.out.bel⟩
    ·obtain rfl : j = n := by have := HJ.out; omega
     have dj : decide ((j : Int) < (j : Int)) = false := decide_eq_false (by omega)
     clear hlt
     go_wp2
     go_ret
     exact ⟨sv, rfl, by rw [← HR.out]; exact HL.out.sw.o, HL.out.bel⟩
structure KS where
 l : List ON
 t : Nat → Option Nat
def keS (h : Nat → ON) (sy : Nat → Bool) : Nat → KS
 | 0 => ⟨[], fun _ => some 0⟩
 | i + 1 => if sy i then ⟨(keS h sy i).l ++ [ren (h i) (upd (keS h sy i).t i (some (keS h sy i).l.length))], upd (keS h sy i).t i (some (keS h sy i).l.length)⟩ else keS h sy i
theorem keS_some (h : Nat → ON) (sy : Nat → Bool) : ∀ i x, ∃ v, (keS h sy i).t x = some v
 | 0, x => ⟨0, rfl⟩
 | i + 1, x => by
  show ∃ v, (if sy i then _ else _ : KS).t x = some v
  split
  ·show ∃ v, upd _ i _ x = some v
   unfold upd
   split
   ·exact ⟨_, rfl⟩
   ·exact keS_some h sy i x
  ·exact keS_some h sy i x
theorem keS_len (h : Nat → ON) (sy : Nat → Bool) : ∀ i, (keS h sy i).l.length ≤ i
 | 0 => Nat.le_refl _
 | i + 1 => by
  have := keS_len h sy i
  show (if sy i then _ else _ : KS).l.length ≤ i + 1
  split
  ·simp; omega
  ·omega
structure KL (w W : World) (H n : Nat) (h : Nat → ON) (sy : Nat → Bool) (bp : Option Addr) (j : Nat) (sv : Value) (Tt : Nat → Option Nat) : Prop where
 o : W.ownsRow w.heap.size 67 7 sv (keS h sy j).l.length (onsV (keS h sy j).l)
 tr : W.rowIs H 3 n (fun i => .int .i64 (oI (Tt i)))
 bH : w.heap.size ≤ H
 ops : OpsR W bp n (fun i => rO (h i))
 bel : Below w.heap.size w W
theorem owns_below {w w' : World} {base n : Nat} {v : Value} {xs : List Value} (h : w.ownsRow base 67 7 v n xs) (b : Below w.heap.size w w') : w'.ownsRow base 67 7 v n xs :=
 owns_keep h fun g hg => by obtain ⟨-, cur, hh⟩ := owns_blk h hg; exact b.block g (row_lt hh)
theorem KL.below {w W W' : World} {H n : Nat} {h : Nat → ON} {sy : Nat → Bool} {bp : Option Addr} {j : Nat} {sv : Value} {Tt : Nat → Option Nat} (x : KL w W H n h sy bp j sv Tt) (k : Below W.heap.size W W') : KL w W' H n h sy bp j sv Tt :=
 ⟨owns_below x.o k, x.tr.of_block (k.block _ x.tr.lt), x.bH, x.ops.below k (Nat.le_refl _), x.bel.trans (k.mono x.bel.size)⟩
theorem KL.set {w W : World} {H n : Nat} {h : Nat → ON} {sy : Nat → Bool} {bp : Option Addr} {j : Nat} {sv : Value} {Tt : Nat → Option Nat} (x : KL w W H n h sy bp j sv Tt) (hob : ∀ b off, bp = some ⟨b, off, none⟩ → b < w.heap.size) (i v : Nat) : KL w (W.setCell ⟨H, i, none⟩ (.int .i64 v)) H n h sy bp j sv (upd Tt i (some v)) := by
 obtain ⟨cH, hcH, -, -⟩ := x.tr
 refine ⟨owns_keep x.o fun g hg => blk_other (fun e => ?_) _, (x.tr.set i _).congr fun k hk => ?_, x.bH, ops_bel x.ops ((Below.refl w.heap.size W).setCell x.bH _) hob, x.bel.setCell x.bH _⟩
 ·obtain ⟨-, cur, hh⟩ := owns_blk x.o hg
  rw [e, hcH] at hh; cases hh
 ·show _ = Value.int .i64 (oI (upd Tt i (some v) k))
  unfold upd
  by_cases e : k = i
  ·rw [if_pos e, if_pos e]; rfl
  ·rw [if_neg e, if_neg e]
theorem KL.app {w W W2 : World} {H n g cap2 : Nat} {h : Nat → ON} {sy : Nat → Bool} {bp : Option Addr} {j : Nat} {sv : Value} {Tt : Nat → Option Nat} {ro : ON} (x : KL w W H n h sy bp j sv Tt) (hob : ∀ b off, bp = some ⟨b, off, none⟩ → b < w.heap.size) (hown : W2.ownsRow w.heap.size 67 7 (.slice (some ⟨g, 0, none⟩) ((keS h sy j).l.length + 1) cap2) ((keS h sy j).l.length + 1) (onsV (keS h sy j).l ++ onL ro)) (hgr : W.grownBy W2 sv.ownBlock) (hj : sy j = true) (hT : Tt = upd (keS h sy j).t j (some (keS h sy j).l.length)) (hro : ren (h j) Tt = ro) : KL w W2 H n h sy bp (j + 1) (.slice (some ⟨g, 0, none⟩) ((keS h sy j).l.length + 1) cap2) (keS h sy (j + 1)).t := by
 have e : keS h sy (j + 1) = ⟨(keS h sy j).l ++ [ro], Tt⟩ := by
  show (if sy j then _ else _ : KS) = _
  rw [if_pos hj, ← hT, hro]
 obtain ⟨cH, hcH, -, -⟩ := x.tr
 have hb : Below w.heap.size W W2 := Below.grown (Below.refl _ _) hgr x.bel.size (fun k hk => (owns_blk x.o hk).1)
 rw [e]
 refine ⟨?_, x.tr.of_block (hgr.block H x.tr.lt (fun q => ?_)), x.bH, ops_bel x.ops hb hob, x.bel.trans hb⟩
 ·rw [e]
  show W2.ownsRow w.heap.size 67 7 _ ((keS h sy j).l ++ [ro]).length (onsV ((keS h sy j).l ++ [ro]))
  rw [onsV_app, List.length_append]
  exact hown
 ·obtain ⟨-, cur, hh⟩ := owns_blk x.o q.symm
  rw [hcH] at hh; cases hh
theorem kept_any (n cap : Nat) (bp : Option Addr) (h : Nat → ON) (sy : Nat → Bool) (Sb : Nat) (w : World) (hO : OpsR w bp n (fun i => rO (h i))) (hY : w.rowIs Sb 4 n (fun i => .bool (sy i))) (n1 : 0 < n) (hn : n ≤ 2048) (hk : ∀ i, i < n → ∀ q, q < tkN (h i).kd → arg (h i) q < n) :
  Calls Try.prog 120 #[.slice bp n cap, .slice (some ⟨Sb, 0, none⟩) n n] w fun e w' => ∃ sv, e = .returned sv ∧ w'.ownsRow w.heap.size 67 7 sv (keS h sy n).l.length (onsV (keS h sy n).l) ∧ Below w.heap.size w w' := by
 obtain ⟨b, off, rfl, hb, hc⟩ := hO n1
 have HO : Hid (OpsR w (some ⟨b, off, none⟩) n (fun i => rO (h i))) := hO
 have HOB : Hid (∀ b' off', (some ⟨b, off, none⟩ : Option Addr) = some ⟨b', off', none⟩ → b' < w.heap.size) := show ∀ b' off', _ from fun b' off' e => by cases e; exact hb
 have HK : Hid (∀ i, i < n → ∀ q, q < tkN (h i).kd → arg (h i) q < n) := hk
 have HN1 : Hid (0 < n) := n1
 have HN2 : Hid (n ≤ 2048) := hn
 have HY : Hid (∀ i, i < n → w.cell? ⟨Sb, i, none⟩ = some (.bool (sy i))) := show ∀ i, _ from fun i hi => hY.cell hi
 have HYL : Hid (Sb < w.heap.size) := hY.lt
 have ni : (n : Int) ≤ 2048 := by omega
 have ni0 : (0 : Int) ≤ (n : Int) := by omega
 obtain ⟨i3, hi3, hz3, hs3, hb3⟩ := info_parts info3
 have hmk := run_make_row 29 3 i3 _ Try.underlying29 hi3 hz3 hs3 rfl .i64 .i64 n (by rw [hb3]; omega) (by omega)
 obtain ⟨io, hio, hzo, hso, hbo⟩ := info_parts info160
 clear hO hk hc hb hY
 go_enter Try.func120, Try.ntmps120
 go_upto_region 3 with fail
 refine wp_gen (fun W' => KL w W' w.heap.size n h sy (some ⟨b, off, none⟩) 0 (.slice none 0 0) (keS h sy 0).t) ⟨World.ownsRow_nil _ _ _ _, (World.rowIs_made w (.int .i64 0) n 3).congr (fun i _ => rfl), Nat.le_refl _, ops_bel HO.out ((Below.refl _ _).alloc (Nat.le_refl _) _) HOB.out, (Below.refl _ _).alloc (Nat.le_refl _) _⟩ ?_
 intro V hV
 have HV : Hid _ := hV
 clear hV hmk
 go_wp2
 go_loopw [5, 14] (fun lv i' wr => ∃ (j : Nat), i' = .int .i64 j ∧ j ≤ n ∧ KL w wr w.heap.size n h sy (some ⟨b, off, none⟩) j lv (keS h sy j).t) (fun _ i _ => n - (intOf i).toNat)
 case atStart => exact ⟨0, rfl, by omega, HV.out⟩
 case round =>
  obtain ⟨j, rfl, hj, hS⟩ := hrel
  have HL : Hid _ := hS
  obtain ⟨sa, sn, sc, rfl⟩ := owns_sl hS.o
  have HJ : Hid (j ≤ n) := hj
  clear hS HV
  by_cases hlt : j < n
  ·have hji : (j : Int) < (n : Int) := by omega
   have dj : decide ((j : Int) < (n : Int)) = true := decide_eq_true hji
   have j0 : (0 : Int) ≤ (j : Int) := by omega
   have HLT : Hid (j < n) := hlt
   obtain ⟨b', off', e', lb', hc'⟩ := HL.out.ops HN1.out
   cases e'
   have hop := hc' j hlt
   have m0 : wr.cell? ⟨b, off + j * 7, none⟩ = some (.int .i64 (h j).kd) := hop.c0
   have m1 : wr.cell? ⟨b, off + j * 7 + 1, none⟩ = some (.int .i64 (h j).w) := hop.c1
   have m2 : wr.cell? ⟨b, off + j * 7 + 2, none⟩ = some (.int .i64 (h j).a) := hop.c2
   have m3 : wr.cell? ⟨b, off + j * 7 + 3, none⟩ = some (.int .i64 (h j).b) := hop.c3
   have m4 : wr.cell? ⟨b, off + j * 7 + 4, none⟩ = some (.int .i64 (h j).c) := hop.c4
   have m5 : wr.cell? ⟨b, off + j * 7 + 5, none⟩ = some (.int .u32 (h j).k) := hop.c5
   have m6 : wr.cell? ⟨b, off + j * 7 + 6, none⟩ = some (.int .i64 (h j).n) := hop.c6
   have ys : wr.cell? ⟨Sb, j, none⟩ = some (.bool (sy j)) := (HL.out.bel.cell (p := ⟨Sb, j, none⟩) HYL.out).trans (HY.out j hlt)
   have yl : Sb < wr.heap.size := Nat.lt_of_lt_of_le HYL.out HL.out.bel.size
   have HA : Hid _ := HL.out.below ((Below.refl wr.heap.size wr).alloc (Nat.le_refl _) (.cells #[.int .i64 (h j).kd, .int .i64 (h j).w, .int .i64 (h j).a, .int .i64 (h j).b, .int .i64 (h j).c, .int .u32 (h j).k, .int .i64 (h j).n] 67))
   have lbW : b < wr.heap.size := lb'
   have lb1 := Nat.lt_succ_of_lt lbW
   have nbW : b ≠ wr.heap.size := by omega
   have yl1 := Nat.lt_succ_of_lt yl
   have nyW : Sb ≠ wr.heap.size := by omega
   have tlW := HL.out.tr.lt
   have tl1 := Nat.lt_succ_of_lt tlW
   have ntW : w.heap.size ≠ wr.heap.size := by omega
   have tf := HL.out.tr.frozen
   have tc : wr.cell? ⟨w.heap.size, j, none⟩ = some (.int .i64 (oI ((keS h sy j).t j))) := HL.out.tr.cell (i := j) hlt
   have slen : sn = (keS h sy j).l.length := by
    rcases HL.out.o.2 with ⟨hv, h0⟩ | ⟨g', c', cur, hv, -⟩
    ·cases hv; simpa using h0.symm
    ·cases hv; rfl
   subst slen
   clear hop hc' hlt lb'
   obtain ⟨Y, HYJ⟩ : ∃ Y, Hid (sy j = Y) := ⟨_, rfl⟩
   rw [HYJ.out] at ys
   cases Y with
   | false =>
    have e : keS h sy (j + 1) = keS h sy j := by show (if sy j then _ else _ : KS) = _; rw [if_neg (by rw [HYJ.out]; decide)]
    have HE : Hid (KL w (wr.alloc (.cells #[.int .i64 (h j).kd, .int .i64 (h j).w, .int .i64 (h j).a, .int .i64 (h j).b, .int .i64 (h j).c, .int .u32 (h j).k, .int .i64 (h j).n] 67)) w.heap.size n h sy (some ⟨b, off, none⟩) (j + 1) (.slice sa (keS h sy j).l.length sc) (keS h sy (j + 1)).t) := ⟨by rw [e]; exact HA.out.o, by rw [e]; exact HA.out.tr, HA.out.bH, HA.out.ops, HA.out.bel⟩
    clear e
    go_wp2
    go_round
    case rel => exact ⟨j + 1, by go_num, HLT.out, HE.out⟩
    case measure => have := HLT.out; simp [intOf]; omega
   | true =>
    obtain ⟨Tt, HTt⟩ : ∃ Tt, Hid (Tt = upd (keS h sy j).t j (some (keS h sy j).l.length)) := ⟨_, rfl⟩
    have HK2 : Hid (KL w ((wr.setCell ⟨w.heap.size, j, none⟩ (.int .i64 (keS h sy j).l.length)).alloc (.cells #[.int .i64 (h j).kd, .int .i64 (h j).w, .int .i64 (h j).a, .int .i64 (h j).b, .int .i64 (h j).c, .int .u32 (h j).k, .int .i64 (h j).n] 67)) w.heap.size n h sy (some ⟨b, off, none⟩) j (.slice sa (keS h sy j).l.length sc) Tt) := HTt.out ▸ (HL.out.set HOB.out j (keS h sy j).l.length).below ((Below.refl _ _).alloc (Nat.le_refl _) _)
    obtain ⟨ro, HRO⟩ : ∃ ro, Hid (ren (h j) Tt = ro) := ⟨_, rfl⟩
    have HSM : Hid (∀ q, q < tkN (h j).kd → ∃ v, Tt (arg (h j) q) = some v) := show ∀ q, _ from fun q _ => by
     rw [HTt.out]
     unfold upd
     split
     ·exact ⟨_, rfl⟩
     ·exact keS_some h sy j _
    have HLN : Hid ((keS h sy j).l.length ≤ 2048) := show _ ≤ 2048 by have := keS_len h sy j; have := HJ.out; omega
    have H63 : Hid ((keS h sy j).l.length + 1 ≤ maxLen) := show _ ≤ maxLen by unfold maxLen; have := HLN.out; omega
    have HBY : Hid (((keS h sy j).l.length + 1) * 56 ≤ 140737488355328) := show _ ≤ _ by have := HLN.out; omega
    have HONE : Hid (∀ u ∈ onL ro, u.oneCell' = true) := show ∀ u ∈ onL ro, _ from fun u hu => by
     simp only [onL, List.mem_cons, List.not_mem_nil, or_false] at hu
     rcases hu with rfl | rfl | rfl | rfl | rfl | rfl | rfl <;> rfl
    go_wp2_with (first
     | (go_at_call 122; refine (ren_any w.heap.size n n Tt (h j) _ HK2.out.tr (HK.out j HLT.out) HSM.out).mono ?_; rintro e w3 ⟨rfl, h3⟩; rw [HRO.out]; have H3 : Hid _ := HK2.out.below h3; have H4 : Hid _ := H3.out.below ((Below.refl w3.heap.size w3).alloc (Nat.le_refl _) (.cells #[.int .i64 ro.kd, .int .i64 ro.w, .int .i64 ro.a, .int .i64 ro.b, .int .i64 ro.c, .int .u32 ro.k, .int .i64 ro.n] 67)); have HNW : Hid (∀ j' u, (onL ro)[j']? = some u → (w3.alloc (.cells #[.int .i64 ro.kd, .int .i64 ro.w, .int .i64 ro.a, .int .i64 ro.b, .int .i64 ro.c, .int .u32 ro.k, .int .i64 ro.n] 67)).cell? ((⟨w3.heap.size, 0, none⟩ : Addr).add j') = some u) := (show ∀ j' u, _ from fun j' u hu => (by rw [Addr.add_mid, Nat.zero_add, row_cell (heap_alloc_last w3 _)]; simpa [onL] using hu)); clear h3)
     | (at_builtin; refine wpList_append_lies _ rfl _ _ _ rfl w.heap.size 67 io _ 7 56 Try.underlying23 hio hzo hso hbo rfl (by decide) (.slice sa (keS h sy j).l.length sc) (keS h sy j).l.length (onsV (keS h sy j).l) rfl H4.out.o ⟨w3.heap.size, 0, none⟩ 1 1 (onL ro) rfl rfl HNW.out HONE.out (by decide) H63.out HBY.out H4.out.bel.size _ rfl ?_; intro g cap2 w5 hown hgr hgg hlt; have H5 : Hid _ := H4.out.app HOB.out hown hgr HYJ.out HTt.out HRO.out; clear hown hgr hgg hlt))
    go_round
    case rel => exact ⟨j + 1, by go_num, HLT.out, H5.out⟩
    case measure => have := HLT.out; simp [intOf]; omega
  ·obtain rfl : j = n := by have := HJ.out; omega
   have dj : decide ((j : Int) < (j : Int)) = false := decide_eq_false (by omega)
   clear hlt
   go_wp2
   go_ret
   exact ⟨_, rfl, HL.out.o, HL.out.bel⟩
end Go.Proofs.Ytkgbjpdoigdjnab
