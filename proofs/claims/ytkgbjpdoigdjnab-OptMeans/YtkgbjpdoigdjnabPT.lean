import Derived.Test.YtkgbjpdoigdjnabPE
import Derived.Deep.AppendLies
import Derived.OwnWalk
import Derived.Test.YtkgbjpdoigdjnabWJ03
import Derived.Test.YtkgbjpdoigdjnabOE
import Derived.Test.YtkgbjpdoigdjnabWEE
import Derived.Test.YtkgbjpdoigdjnabWEL
import Derived.Test.YtkgbjpdoigdjnabWBO
import Derived.Test.YtkgbjpdoigdjnabWEF
import Derived.Test.YtkgbjpdoigdjnabCR
import Derived.ChangeKeysEq
set_option linter.unusedVariables false
set_option linter.unusedSimpArgs false
set_option maxHeartbeats 2000000
namespace Go.Proofs.Ytkgbjpdoigdjnab
open Go.RowKit
set_option maxRecDepth 100000
theorem twin_any (pc : Nat) (count bytes : Int) (bp : Option Addr) (n cap : Nat) (f : Nat → OpR) (w : World) (hO : OpsR w bp n f) (hby : n * 56 ≤ 140737488355328) :
  Calls Try.prog 12 #[.agg #[.int .u32 pc, .int .i64 count, .int .i64 bytes, .slice bp n cap]] w fun e w' => ∃ bp' cap', e = .returned (.agg #[.int .u32 pc, .int .i64 count, .int .i64 bytes, .slice bp' n cap']) ∧ OpsR w' bp' n f ∧ n ≤ cap' ∧ Below w.heap.size w w' ∧ ∀ b off, bp' = some ⟨b, off, none⟩ → w.heap.size ≤ b := by
 by_cases hn : n = 0
 ·subst hn
  cases bp with
  | none =>
   go_enter Try.func12, Try.ntmps12
   go_wp2_with (at_builtin; refine wpList_app rfl _ _ 23 rfl _ _ (.slice none 0 0) rfl rfl (by simp [Builtin.append_, go_sem]) ?_)
   exact bodyPost_ret (v := .agg #[.int .u32 pc, .int .i64 count, .int .i64 bytes, .slice none 0 0]) (by simp [results, Try.results12, go_sem]) rfl ⟨none, 0, rfl, fun h => by omega, Nat.le_refl _, by (repeat first | with_reducible exact Below.refl _ _ | with_reducible exact hB | with_reducible refine Below.drew ?_ | with_reducible refine Below.alloc ?_ (by first | (simp; done) | (simp; omega) | omega) _ | with_reducible refine Below.setCell ?_ (by first | (simp; done) | (simp; omega) | omega) _), fun b off e => by cases e⟩
  | some ad =>
   go_enter Try.func12, Try.ntmps12
   go_wp2_with (at_builtin; refine wpList_app rfl _ _ 23 rfl _ _ (.slice none 0 0) rfl rfl (by simp [Builtin.append_, go_sem]) ?_)
   exact bodyPost_ret (v := .agg #[.int .u32 pc, .int .i64 count, .int .i64 bytes, .slice none 0 0]) (by simp [results, Try.results12, go_sem]) rfl ⟨none, 0, rfl, fun h => by omega, Nat.le_refl _, by (repeat first | with_reducible exact Below.refl _ _ | with_reducible exact hB | with_reducible refine Below.drew ?_ | with_reducible refine Below.alloc ?_ (by first | (simp; done) | (simp; omega) | omega) _ | with_reducible refine Below.setCell ?_ (by first | (simp; done) | (simp; omega) | omega) _), fun b off e => by cases e⟩
 ·obtain ⟨b, off, rfl, hb, hc⟩ := hO (by omega)
  obtain ⟨i0, hi, hz0, hz1, hz2⟩ := info_parts info160
  have HNW : Hid (∀ j v, (opsL f n)[j]? = some v → ((w.alloc (.cells #[.int .u32 pc, .int .i64 count, .int .i64 bytes, .slice (some ⟨b, off, none⟩) n cap] 25)).alloc (.cells #[.int .u32 0, .int .i64 0, .int .i64 0, .slice none 0 0] 25)).cell? ((⟨b, off, none⟩ : Addr).add j) = some v) := show ∀ j v, _ from fun j v hv => by
   obtain ⟨hj, rfl⟩ := opsL_at f n j v hv
   rw [Addr.add_mid, show off + j = (off + j / 7 * 7) + j % 7 by omega]
   exact (((hc (j / 7) (by omega)).below (wk_bel w _ _) hb).cells (j % 7) (by omega))
  have HPOS : Hid (0 < n) := show 0 < n by omega
  have C3 : Hid (0 + n ≤ maxLen) := show 0 + n ≤ maxLen by unfold maxLen; omega
  have C4 : Hid ((0 + n) * 56 ≤ 140737488355328) := show (0 + n) * 56 ≤ 140737488355328 by omega
  have C5 : Hid (w.heap.size ≤ ((w.alloc (.cells #[.int .u32 pc, .int .i64 count, .int .i64 bytes, .slice (some ⟨b, off, none⟩) n cap] 25)).alloc (.cells #[.int .u32 0, .int .i64 0, .int .i64 0, .slice none 0 0] 25)).heap.size) := show w.heap.size ≤ _ by simp; omega
  have HBY : Hid _ := hby
  have HB : Hid _ := hb
  clear hO hc
  go_enter Try.func12, Try.ntmps12
  go_wp2_with (at_builtin; refine wpList_append_lies _ rfl _ _ _ rfl w.heap.size 67 i0 _ 7 56 Try.underlying23 hi hz0 hz1 hz2 rfl (by decide) (.slice none 0 0) 0 [] (by rfl) (World.ownsRow_nil _ _ _ _) ⟨b, off, none⟩ n cap (opsL f n) (by rfl) (opsL_len f n) HNW.out (opsL_one f n) HPOS.out C3.out C4.out C5.out (w.heap.size + 1 + 1) (by simp) ?_; intro g cap2 w2 hown hgr hgg hlt; rw [Nat.zero_add] at *; have HOW : Hid _ := hown; have HGR : Hid _ := Below.grown (Below.refl _ _) hgr (Nat.le_refl _) (fun k hk => by cases hk); have HG : Hid (g = w.heap.size + 1 + 1) := (hgg.elim (fun h => by cases h) id); clear hown hgr hgg; obtain ⟨B2, B5, BB1⟩ := keep2 HGR.out; have HB2 : Hid _ := B2; have HB5 : Hid _ := B5; have HBB : Hid _ := BB1; clear B2 B5 BB1; have e0 : w2.cell? ⟨w.heap.size, 0, none⟩ = some (.int .u32 pc) := row_cell HB2.out 0; have e1 : w2.cell? ⟨w.heap.size, 1, none⟩ = some (.int .i64 count) := row_cell HB2.out 1; have e2 : w2.cell? ⟨w.heap.size, 2, none⟩ = some (.int .i64 bytes) := row_cell HB2.out 2; have e3 : w2.cell? ⟨w.heap.size, 3, none⟩ = some (.slice (some ⟨b, off, none⟩) n cap) := row_cell HB2.out 3; have q0 : w2.cell? ⟨w.heap.size + 1, 0, none⟩ = some (.int .u32 0) := row_cell HB5.out 0; have q1 : w2.cell? ⟨w.heap.size + 1, 1, none⟩ = some (.int .i64 0) := row_cell HB5.out 1; have q2 : w2.cell? ⟨w.heap.size + 1, 2, none⟩ = some (.int .i64 0) := row_cell HB5.out 2; have q3 : w2.cell? ⟨w.heap.size + 1, 3, none⟩ = some (.slice none 0 0) := row_cell HB5.out 3; have fr0 := row_fr HB2.out; have fr1 := row_fr HB5.out; have l2 := row_lt HB2.out; have l5 := row_lt HB5.out)
  have hO2 := owns_ops (f := f) (base := w.heap.size) (w := w2) (g := g) (n := n) (cap := cap2) HOW.out HPOS.out
  have hgn := HG.out
  exact bodyPost_ret (v := .agg #[.int .u32 pc, .int .i64 count, .int .i64 bytes, .slice (some ⟨g, 0, none⟩) n cap2]) (by simp [results, Try.results12, go_sem, l2, l5, fr0, fr1, e0, e1, e2, e3, q0, q1, q2, q3]) rfl ⟨_, cap2, rfl, by
   have hB := hO2.1
   repeat (first | with_reducible exact hB | with_reducible refine OpsR.set ?_ (by omega) _ _), hO2.2, by
   have hB := HBB.out
   (repeat first | with_reducible exact Below.refl _ _ | with_reducible exact hB | with_reducible refine Below.drew ?_ | with_reducible refine Below.alloc ?_ (by first | (simp; done) | (simp; omega) | omega) _ | with_reducible refine Below.setCell ?_ (by first | (simp; done) | (simp; omega) | omega) _), fun b1 off1 e1 => by cases e1; omega⟩
theorem sameOps_any (bp bp' : Option Addr) (n cap cap' : Nat) (f : Nat → OpR) (w : World) (h : OpsR w bp n f) (h' : OpsR w bp' n f) (hn : n < 9223372036854775807) :
  Calls Try.prog 14 #[.slice bp n cap, .slice bp' n cap'] w fun e w' => e = .returned (.bool true) ∧ Below w.heap.size w w' := by
 have HH : Hid (OpsR w bp n f) := h
 have HH' : Hid (OpsR w bp' n f) := h'
 have n0 : (0 : Int) ≤ (n : Int) := by omega
 have nb : (n : Int) < 9223372036854775807 := by omega
 clear h h'
 go_enter Try.func14, Try.ntmps14
 go_wp2
 go_loopw [13] (fun i wr => ∃ j : Nat, i = .int .i64 j ∧ j ≤ n ∧ Below w.heap.size w wr) (fun i _ => n - (intOf i).toNat)
 case atStart => exact ⟨0, rfl, by omega, Below.refl _ _⟩
 case round =>
  obtain ⟨j, rfl, hj, hW⟩ := hrel
  have HWr : Hid _ := hW
  clear hW
  by_cases hlt : j < n
  ·have hji : (j : Int) < (n : Int) := by omega
   have dj : decide ((j : Int) < (n : Int)) = true := decide_eq_true hji
   have j0 : (0 : Int) ≤ (j : Int) := by omega
   have HLT : Hid _ := hlt
   obtain ⟨b, off, rfl, hb, hc⟩ := HH.out (by omega)
   obtain ⟨b', off', rfl, hb', hc'⟩ := HH'.out (by omega)
   obtain ⟨o, HOO⟩ : ∃ o, Hid (f j = o) := ⟨_, rfl⟩
   obtain ⟨z0, z1, z2, z3, z4, z5, z6⟩ : OpAt wr b (off + j * 7) o := (HOO.out ▸ hc j hlt).below HWr.out hb
   obtain ⟨y0, y1, y2, y3, y4, y5, y6⟩ : OpAt wr b' (off' + j * 7) o := (HOO.out ▸ hc' j hlt).below HWr.out hb'
   clear hc hc' hlt hb hb'
   go_wp2
   go_region
   all_goals go_wp2
   all_goals go_round
   case rel => exact ⟨j + 1, by go_num, HLT.out, HWr.out.drew⟩
   case measure => have := HLT.out; simp [intOf]; omega
  ·obtain rfl : j = n := by omega
   have dj : decide ((j : Int) < (j : Int)) = false := decide_eq_false (by omega)
   clear hlt hj
   go_wp2
   go_ret
   exact ⟨rfl, HWr.out⟩
theorem rsame_any (k k' : Va.RB) (s s' : Va.MS) (w : World) (h : Va.RM w k s) (h' : Va.RM w k' s') (hs : s.B = s'.B) :
  Calls Try.prog 19 #[.pointer (some ⟨k.y, 0, none⟩), .pointer (some ⟨k'.y, 0, none⟩)] w fun e w' => e = .returned (.bool true) ∧ Below w.heap.size w w' := by
 have HH : Hid (Va.RM w k s) := h
 have HH' : Hid (Va.RM w k' s') := h'
 have HS : Hid (s.B = s'.B) := hs
 have c0 := h.c0
 have ly := h.lty
 clear h h' hs
 go_enter Try.func19, Try.ntmps19
 go_wp2
 clear c0 ly
 go_loopw [11] (fun i wr => ∃ j : Nat, i = .int .i64 j ∧ j ≤ 65536 ∧ Below w.heap.size w wr) (fun i _ => 65536 - (intOf i).toNat)
 case atStart => exact ⟨0, rfl, by omega, Below.refl _ _⟩
 case round =>
  obtain ⟨j, rfl, hj, hW⟩ := hrel
  have HWr : Hid _ := hW
  clear hW
  by_cases hlt : j < 65536
  ·have hji : (j : Int) < 65536 := by omega
   have dj : decide ((j : Int) < 65536) = true := decide_eq_true hji
   have j0 : (0 : Int) ≤ (j : Int) := by omega
   have HLT : Hid _ := hlt
   have H1 : Hid (Va.RM wr k s) := HH.out.below HWr.out (Nat.le_refl _)
   have H2 : Hid (Va.RM wr k' s') := HH'.out.below HWr.out (Nat.le_refl _)
   obtain ⟨x, hx⟩ : ∃ x, s'.B j = x := ⟨_, rfl⟩
   have b1 : wr.cell? ⟨k.b, j, none⟩ = some (.int .u8 x) := by have := H1.out.by_ j hlt; rw [HS.out, hx] at this; exact this
   have b2 : wr.cell? ⟨k'.b, j, none⟩ = some (.int .u8 x) := by have := H2.out.by_ j hlt; rw [hx] at this; exact this
   have c1 := H1.out.c0
   have c2 := H2.out.c0
   have l1 := H1.out.lty
   have l2 := H2.out.lty
   have l3 := H1.out.ltb
   have l4 := H2.out.ltb
   clear hlt hx
   go_wp2
   go_region
   all_goals go_wp2
   all_goals go_round
   case rel => exact ⟨j + 1, by go_num, HLT.out, HWr.out.drew⟩
   case measure => have := HLT.out; simp [intOf]; omega
  ·obtain rfl : j = 65536 := by omega
   clear hlt hj
   go_wp2
   go_ret
   exact ⟨rfl, HWr.out⟩
open Go.Maps
theorem eqa1 (d : Nat) (x : Int) (w : World) : (Op.equalIn (d + 1) 22 (.int .u32 x) (.int .u32 x)).run Try.prog w = .ok true w := by
 rw [run_equalIn_int w d 22 .u32 .u32 x x Try.underlying22]
 simp
theorem parta1 (xs : Array Value) (i : Nat) (x : Int) (h : xs[i]? = some (.int .u32 x)) (w : World) : (part 22 xs i).run Try.prog w = .ok (.int .u32 x) w := by
 simp [part, h, go_sem]
theorem eqa8 (a0 a1 a2 a3 a4 a5 a6 a7 : Int) (w : World) : (Op.equalIn 9999 46 (.agg #[.int .u32 a0, .int .u32 a1, .int .u32 a2, .int .u32 a3, .int .u32 a4, .int .u32 a5, .int .u32 a6, .int .u32 a7]) (.agg #[.int .u32 a0, .int .u32 a1, .int .u32 a2, .int .u32 a3, .int .u32 a4, .int .u32 a5, .int .u32 a6, .int .u32 a7])).run Try.prog w = .ok true w := by
 obtain ⟨i, hi⟩ : ∃ i, Try.prog.info? 22 = some i := ⟨_, rfl⟩
 have hc : Try.prog.cellsOf 22 = 1 := by kernel_rfl
 rw [show (9999 : Nat) = 9998 + 1 from rfl, run_equalIn_array w 9998 _ _ Try.underlying46 hi, hc]
 have e := fun x => eqa1 9997 x w
 have p := fun xs i x h => parta1 xs i x h w
 simp [List.range, List.range.loop, Op.eqItems, e, p]
structure Kp (wx : World) (L : List (Nat × Obj)) : Prop where
 k : ∀ p ∈ L, wx.heap[p.1]? = some p.2
theorem Kp.lt {wx : World} {L : List (Nat × Obj)} (h : Kp wx L) {p : Nat × Obj} (hp : p ∈ L) : p.1 < wx.heap.size := by
 rcases Nat.lt_or_ge p.1 wx.heap.size with g | g
 ·exact g
 ·have := h.k p hp
  rw [Array.getElem?_eq_none g] at this
  cases this
theorem Kp.below {wx w' : World} {L : List (Nat × Obj)} (h : Kp wx L) (k : Below wx.heap.size wx w') : Kp w' L := ⟨fun p hp => (k.block _ (h.lt hp)).trans (h.k p hp)⟩
theorem Kp.chg {wx w' : World} {L : List (Nat × Obj)} {S : List Nat} (h : Kp wx L) (k : Va.Chg S wx w') (hn : ∀ p ∈ L, p.1 ∉ S) : Kp w' L := ⟨fun p hp => (k.block _ (h.lt hp) (hn p hp)).trans (h.k p hp)⟩
theorem Kp.new {wx : World} {L : List (Nat × Obj)} (h : Kp wx L) (o : Obj) : Kp (wx.alloc o) ((wx.heap.size, o) :: L) := ⟨fun p hp => by
 rcases List.mem_cons.1 hp with rfl | hp
 ·exact heap_alloc_last wx o
 ·exact (((Below.refl wx.heap.size wx).alloc (Nat.le_refl _) o).block _ (h.lt hp)).trans (h.k p hp)⟩
theorem opsR_chg {wx w' : World} {bp : Option Addr} {n : Nat} {f : Nat → OpR} {S : List Nat} (h : OpsR wx bp n f) (hb : ∀ b off, bp = some ⟨b, off, none⟩ → b ∉ S) (hC : Va.Chg S wx w') : OpsR w' bp n f := Va.OpsR.chg h hb hC
theorem runO_ok (f : Nat → OpR) : ∀ (m i : Nat) (q : Va.Sq), Va.SqOk q → (∀ j, i ≤ j → j < i + m → (f j).k < 4294967296) → Va.SqOk (Va.runO f m i q).1
 | 0, i, q, h, _ => h
 | m + 1, i, q, h, hk => by
  simp only [Va.runO]
  have hn := Va.nextO_ok (f i) i q h (hk i (by omega) (by omega))
  split
  ·exact hn
  ·exact runO_ok f m (i + 1) _ hn (fun j h1 h2 => hk j (by omega) (by omega))
theorem w2b (W : World) (o1 o2 : Obj) : Below W.heap.size W ((W.alloc o1).alloc o2) := ((Below.refl _ _).alloc (Nat.le_refl _) _).alloc (by simp) _
theorem kp0 (W : World) (o1 o2 : Obj) : Kp ((W.alloc o1).alloc o2) [(W.heap.size + 1, o2), (W.heap.size, o1)] := ⟨fun p hp => by
 simp at hp
 rcases hp with rfl | rfl
 ·exact (al2 W o1 o2).2
 ·exact (al2 W o1 o2).1⟩
theorem partAt_below {W w : World} {b o : Nat} {A : Int} {bp : Option Addr} {n c : Nat} {R : Int} {z : Nat → Int} (h : Va.PartAt W b o A bp n c R z) (k : Below W.heap.size W w) : Va.PartAt w b o A bp n c R z :=
 ⟨(k.cell (p := ⟨b, o, none⟩) (Va.lt_of_cell h.c0)).trans h.c0, (k.cell (p := ⟨b, o + 1, none⟩) (Va.lt_of_cell h.c1)).trans h.c1, (k.cell (p := ⟨b, o + 2, none⟩) (Va.lt_of_cell h.c2)).trans h.c2, h.hA, fun h0 => by
  obtain ⟨b', off', e, hc⟩ := h.row h0
  exact ⟨b', off', e, fun i hi => (k.cell (p := ⟨b', off' + i, none⟩) (Va.lt_of_cell (hc i hi))).trans (hc i hi)⟩, h.le, h.bd⟩
theorem parts_below {W w : World} {sp : Option Addr} {len : Nat} (h : Va.Parts W sp len) (k : Below W.heap.size W w) : Va.Parts w sp len :=
 ⟨fun h0 => by
  obtain ⟨b, off, e, hc⟩ := h.row h0
  exact ⟨b, off, e, fun i hi => by obtain ⟨A, bp, n, c, R, z, hp⟩ := hc i hi; exact ⟨A, bp, n, c, R, z, partAt_below hp k⟩⟩, h.le⟩
theorem marks_below {W w : World} {sp : Option Addr} {len : Nat} (h : Va.Marks W sp len) (k : Below W.heap.size W w) : Va.Marks w sp len :=
 ⟨fun h0 => by
  obtain ⟨b, off, e, hc⟩ := h.row h0
  exact ⟨b, off, e, fun i hi => by obtain ⟨v, hv⟩ := hc i hi; exact ⟨v, (k.cell (p := ⟨b, off + i, none⟩) (Va.lt_of_cell hv)).trans hv⟩⟩, h.le⟩
structure OMA (W wx : World) (X : Nat) (k : Va.RB) (m : Va.MS) (L : List (Nat × Obj)) (bp bp' bq : Option Addr) (n n2 : Nat) (f g : Nat → OpR) : Prop where
 bs : Va.BS W wx X k m m
 kp : Kp wx L
 o : OpsR wx bp n f
 o' : OpsR wx bp' n f
 q : OpsR wx bq n2 g
theorem OMA.below {W wx w' : World} {X : Nat} {k : Va.RB} {m : Va.MS} {L : List (Nat × Obj)} {bp bp' bq : Option Addr} {n n2 : Nat} {f g : Nat → OpR} (h : OMA W wx X k m L bp bp' bq n n2 f g) (hb : Below wx.heap.size wx w') : OMA W w' X k m L bp bp' bq n n2 f g :=
 ⟨h.bs.below hb, h.kp.below hb, h.o.below hb (Nat.le_refl _), h.o'.below hb (Nat.le_refl _), h.q.below hb (Nat.le_refl _)⟩
def BlkR (g : Nat → OpR) (n2 : Nat) (pc : Nat) (count bytes : Int) (bp : Option Addr) (n cap : Nat) (f : Nat → OpR) : Prop :=
 ∀ w, OpsR w bp n f → Calls Try.prog 13 #[.agg #[.int .u32 pc, .int .i64 count, .int .i64 bytes, .slice bp n cap]] w fun e w' => ∃ bq cap2, e = .returned (.agg #[.int .u32 pc, .int .i64 count, .int .i64 bytes, .slice bq n2 cap2]) ∧ OpsR w' bq n2 g ∧ (∀ b off, bq = some ⟨b, off, none⟩ → 0 < n2 → w.heap.size ≤ b) ∧ Below w.heap.size w w'
structure RunS (f : Nat → OpR) (n : Nat) (c : Nat → Nat) (m : Va.MS) (c' : Nat → Nat) (m' : Va.MS) (xk xa xn : Int) (p : Nat) : Prop where
 rc : (Va.runO f n 0 ⟨c, m, fun _ => 0⟩).1.c = c'
 rs : (Va.runO f n 0 ⟨c, m, fun _ => 0⟩).1.s = m'
 rx : (Va.runO f n 0 ⟨c, m, fun _ => 0⟩).2.1 = ⟨xk, xa, p, xn⟩
structure Fini (count bytes : Int) (c : Nat → Nat) (f : Nat → OpR) (n : Nat) (g : Nat → OpR) (n2 : Nat) : Prop where
 le : n2 ≤ n
 pos : 0 < n2
 ck : checkF count bytes n2 g = (0, 0)
 kg : ∀ j, j < n2 → (g j).k < 4294967296
 run : ∀ m : Va.MS, m.Ok → ∃ c' m' xk xa xn p, Va.cxOk c' ∧ RunS f n c m c' m' xk xa xn p ∧ RunS g n2 c m c' m' xk xa xn p
def BlkE (pc : Nat) (count bytes : Int) (bp : Option Addr) (n cap : Nat) (f : Nat → OpR) (c : Nat → Nat) : Prop :=
 ∀ w, OpsR w bp n f → Calls Try.prog 13 #[.agg #[.int .u32 pc, .int .i64 count, .int .i64 bytes, .slice bp n cap]] w fun e w' => ∃ n2 g bq cap2, Fini count bytes c f n g n2 ∧ e = .returned (.agg #[.int .u32 pc, .int .i64 count, .int .i64 bytes, .slice bq n2 cap2]) ∧ OpsR w' bq n2 g ∧ (∀ b off, bq = some ⟨b, off, none⟩ → 0 < n2 → w.heap.size ≤ b) ∧ Below w.heap.size w w'
structure G (count bytes : Int) (l : List ON) : Prop where
 ck : checkF count bytes l.length (fun i => rO (hOf l i)) = (0, 0)
 ks : ∀ i, (hOf l i).k < 4294967296
theorem OpsR.congr {w : World} {bp : Option Addr} {n : Nat} {f g : Nat → OpR} (h : OpsR w bp n f) (e : ∀ i, i < n → f i = g i) : OpsR w bp n g := fun h0 => by
 obtain ⟨b, off, e1, hb, hc⟩ := h h0
 exact ⟨b, off, e1, hb, fun i hi => e i hi ▸ hc i hi⟩
end Go.Proofs.Ytkgbjpdoigdjnab
