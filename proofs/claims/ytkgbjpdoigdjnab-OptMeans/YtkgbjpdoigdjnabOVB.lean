import Derived.Test.YtkgbjpdoigdjnabPE
import Derived.Test.YtkgbjpdoigdjnabPP
import Derived.Test.YtkgbjpdoigdjnabLMD
import Derived.Test.YtkgbjpdoigdjnabPZ1
set_option linter.unusedVariables false
set_option linter.unusedSimpArgs false
set_option maxHeartbeats 4000000
namespace Go.Proofs.Ytkgbjpdoigdjnab
open Go.RowKit
open Go.Maps
set_option maxRecDepth 100000
theorem sl_nilA (ad : Addr) (n cap : Nat) (w : World) : Sem.run Try.prog (binOp BinOp.eql 23 (Value.slice (some ad) n cap) (Value.slice none 0 0)) w = .ok (.bool false) w := by
 unfold binOp
 simp [go_sem, run_equal_slice_nil _ 23 67 _ _ _ Try.underlying23]
theorem sl_nil0 (n cap : Nat) (w : World) : Sem.run Try.prog (binOp BinOp.eql 23 (Value.slice none n cap) (Value.slice none 0 0)) w = .ok (.bool true) w := by
 unfold binOp
 simp [go_sem, run_equal_slice_nil _ 23 67 _ _ _ Try.underlying23]
theorem clone_all (n cap : Nat) (bp : Option Addr) (f : Nat → OpR) (w : World) (hO : OpsR w bp n f) (hn : n * 56 ≤ 140737488355328) :
  Calls Try.prog 55 #[.slice bp n cap] w fun e w' => ∃ bp' cap', e = .returned (.slice bp' n cap') ∧ OpsR w' bp' n f ∧ n ≤ cap' ∧ Below w.heap.size w w' ∧ ∀ b off, bp' = some ⟨b, off, none⟩ → w.heap.size ≤ b := by
 by_cases h0 : n = 0
 ·subst h0
  cases bp with
  | none =>
   have sn := sl_nil0 0 cap
   go_enter Try.func55, Try.ntmps55
   go_wp2
   go_ret
   exact ⟨none, 0, rfl, fun h => absurd h (by omega), Nat.le_refl _, by (repeat first | with_reducible exact Below.refl _ _ | with_reducible exact hB | with_reducible refine Below.drew ?_ | with_reducible refine below_drewN ?_ _ | with_reducible refine Below.alloc ?_ (by first | (simp; done) | (simp; omega) | omega) _ | with_reducible refine Below.setCell ?_ (by first | (simp; done) | (simp; omega) | omega) _), fun b off e => by cases e⟩
  | some ad =>
   have sn := sl_nilA ad 0 cap
   go_enter Try.func55, Try.ntmps55
   go_wp2_with (at_builtin; refine wpList_app rfl _ _ 23 rfl _ _ (.slice (some ⟨w.heap.size, 0, none⟩) 0 0) rfl rfl (by simp [Builtin.append_, go_sem]) ?_)
   go_ret
   exact ⟨some ⟨w.heap.size, 0, none⟩, 0, rfl, fun h => absurd h (by omega), Nat.le_refl _, by (repeat first | with_reducible exact Below.refl _ _ | with_reducible exact hB | with_reducible refine Below.drew ?_ | with_reducible refine below_drewN ?_ _ | with_reducible refine Below.alloc ?_ (by first | (simp; done) | (simp; omega) | omega) _ | with_reducible refine Below.setCell ?_ (by first | (simp; done) | (simp; omega) | omega) _), fun b off e => by cases e; exact Nat.le_refl _⟩
 ·refine (clone_any n cap bp f w hO (by omega) hn).mono ?_
  rintro e w' ⟨sv, rfl, h1, h2⟩
  have h' := h1
  rcases h1.2 with ⟨-, h3⟩ | ⟨g, c', cur, hv, hb, hh, g1, g2, g3, g4⟩
  ·omega
  ·rw [hv] at h'
   have h5 := owns_ops (f := f) h' (by omega)
   exact ⟨some ⟨g, 0, none⟩, c', by rw [hv], h5.1, h5.2, h2, fun b off e => by cases e; exact hb⟩
structure BX (w W : World) (pc : Nat) (count bytes : Int) (bp : Option Addr) (n cap : Nat) (f : Nat → OpR) : Prop where
 x : W.heap[w.heap.size]? = some (.cells #[.int .u32 pc, .int .i64 count, .int .i64 bytes, .slice bp n cap] 25)
 r : W.heap[w.heap.size + 1]? = some (.cells #[.int .u32 0, .int .i64 0, .int .i64 0, .slice none 0 0] 25)
 o : OpsR W bp n f
 bel : Below w.heap.size w W
 nb : ∀ b off, bp = some ⟨b, off, none⟩ → w.heap.size + 1 < b
theorem BX.below {w W W' : World} {pc : Nat} {count bytes : Int} {bp : Option Addr} {n cap : Nat} {f : Nat → OpR} (h : BX w W pc count bytes bp n cap f) (k : Below W.heap.size W W') : BX w W' pc count bytes bp n cap f :=
 ⟨(k.block _ (row_lt h.x)).trans h.x, (k.block _ (row_lt h.r)).trans h.r, h.o.below k (Nat.le_refl _), h.bel.trans (k.mono h.bel.size), h.nb⟩
theorem OpsR.setO {w : World} {bp : Option Addr} {n X : Nat} {f : Nat → OpR} (h : OpsR w bp n f) (hne : ∀ b off, bp = some ⟨b, off, none⟩ → b ≠ X) (o : Nat) (v : Value) : OpsR (w.setCell ⟨X, o, none⟩ v) bp n f := fun h0 => by
 obtain ⟨b, off, e, hb, hc⟩ := h h0
 exact ⟨b, off, e, by simpa using hb, fun i hi => opAt_of fun r hr => (cell_setOther v (hne b off e) _).trans ((hc i hi).cells r hr)⟩
theorem block_bad (pc : Nat) (count bytes : Int) (bp : Option Addr) (n cap : Nat) (f : Nat → OpR) (w : World) (hO : OpsR w bp n f) (hby : n * 56 ≤ 140737488355328) (hck : (checkF count bytes n f).1 ≠ 0) :
  Calls Try.prog 13 #[.agg #[.int .u32 pc, .int .i64 count, .int .i64 bytes, .slice bp n cap]] w fun e w' => ∃ bp' cap', e = .returned (.agg #[.int .u32 pc, .int .i64 count, .int .i64 bytes, .slice bp' n cap']) ∧ OpsR w' bp' n f ∧ n ≤ cap' ∧ Below w.heap.size w w' ∧ ∀ b off, bp' = some ⟨b, off, none⟩ → w.heap.size ≤ b := by
 have HO : Hid (OpsR w bp n f) := hO
 have HBY : Hid _ := hby
 obtain ⟨⟨e1, e2⟩, HE⟩ : ∃ E, Hid (checkF count bytes n f = E) := ⟨_, rfl⟩
 rw [HE.out] at hck
 have d0 : (e1 != 0) = true := by simpa using hck
 have b2 := wk_bel w (.cells #[.int .u32 pc, .int .i64 count, .int .i64 bytes, .slice bp n cap] 25) (.cells #[.int .u32 0, .int .i64 0, .int .i64 0, .slice none 0 0] 25)
 have HB2 : Hid _ := b2
 have HX2 : Hid _ := al2 w (.cells #[.int .u32 pc, .int .i64 count, .int .i64 bytes, .slice bp n cap] 25) (.cells #[.int .u32 0, .int .i64 0, .int .i64 0, .slice none 0 0] 25)
 clear hO hck b2 hby
 go_enter Try.func13, Try.ntmps13
 go_upto_region 2 with (go_at_call 55; refine (clone_all n cap bp f _ (HO.out.below HB2.out (Nat.le_refl _)) HBY.out).mono ?_; rintro e w1 ⟨bp', cap', rfl, h1, h2, k1, hf⟩; have hf' : ∀ b off, bp' = some ⟨b, off, none⟩ → w.heap.size + 1 < b := fun b off e => (by have := hf b off e; simp at this; omega); have HC : Hid _ := h2; have x1 := (k1.block w.heap.size (by first | (simp; done) | (simp; omega) | omega)).trans HX2.out.1; have r1 := (k1.block (w.heap.size + 1) (by first | (simp; done) | (simp; omega))).trans HX2.out.2; have H1 : Hid (BX w (w1.setCell ⟨w.heap.size, 3, none⟩ (.slice bp' n cap')) pc count bytes bp' n cap' f) := ⟨(heap_setCell_same w1 _ 3 _ _ _ x1).trans rfl, (blk_other (by omega) _).trans r1, h1.setO (fun b off e => by have := hf' b off e; omega) _ _, (HB2.out.trans (k1.mono (by first | (simp; done) | (simp; omega) | omega))).setCell (Nat.le_refl _) _, hf'⟩; have xl := row_lt x1; have xf := row_fr x1; have xc3 := row_cell x1 3; clear h1 k1 x1 r1 hf hf' h2)
 refine wp_gen (fun W' => BX w W' pc count bytes bp' n cap' f) H1.out ?_
 clear xl xf xc3 H1 HX2 HB2
 intro W hW
 have HW : Hid _ := hW
 have x0 := row_cell hW.x 0
 have x1 := row_cell hW.x 1
 have x2 := row_cell hW.x 2
 have x3 := row_cell hW.x 3
 have xl := row_lt hW.x
 clear hW
 go_upto_region 3 with (go_at_call 56; refine (check_any pc count bytes bp' n cap' f _ HW.out.o HC.out (by have := HBY.out; omega)).mono ?_; rintro e w2 ⟨rfl, h2⟩; rw [HE.out]; have H2 : Hid _ := HW.out.below h2; clear h2)
 clear x0 x1 x2 x3 xl HW
 have X : Hid (w2.heap[w.heap.size]? = _) := H2.out.x
 have y0 := row_cell X.out 0
 have y1 := row_cell X.out 1
 have y2 := row_cell X.out 2
 have y3 := row_cell X.out 3
 have yl := row_lt X.out
 have z0 := row_cell H2.out.r 0
 have z1 := row_cell H2.out.r 1
 have z2 := row_cell H2.out.r 2
 have z3 := row_cell H2.out.r 3
 have zl := row_lt H2.out.r
 have zf := row_fr H2.out.r
 go_wp2
 exact bodyPost_ret (v := .agg #[.int .u32 pc, .int .i64 count, .int .i64 bytes, .slice bp' n cap']) (by simp [results, Try.results13, go_sem, z0, z1, z2, z3]) rfl ⟨bp', cap', rfl, by
  have hB := H2.out.o
  have hn : ∀ b off, bp' = some ⟨b, off, none⟩ → b ≠ w.heap.size + 1 := fun b off e => by have := H2.out.nb b off e; omega
  (repeat first | with_reducible exact hB | with_reducible refine OpsR.setO ?_ hn _ _), HC.out, by
  have hB := H2.out.bel
  (repeat first | with_reducible exact Below.refl _ _ | with_reducible exact hB | with_reducible refine Below.drew ?_ | with_reducible refine below_drewN ?_ _ | with_reducible refine Below.alloc ?_ (by first | (simp; done) | (simp; omega) | omega) _ | with_reducible refine Below.setCell ?_ (by first | (simp; done) | (simp; omega) | omega) _), fun b off e => by have := H2.out.nb b off e; omega⟩
def fN (o : OpR) : ON := ⟨o.kind.toNat, o.w.toNat, o.a.toNat, o.b.toNat, o.c.toNat, o.k, o.n.toNat⟩
theorem gvn_congr {f g : Nat → OpR} {n i : Nat} (h : ∀ j, j < n → f j = g j) (hi : i ≤ n) (t : Int) : gvn f i t = gvn g i t := by
 unfold gvn
 by_cases q : 0 ≤ t ∧ t < i
 ·rw [h t.toNat (by omega)]
 ·rw [decide_eq_false q, Bool.false_and, Bool.false_and]
theorem opErr_congr {f g : Nat → OpR} {n i : Nat} (count : Int) (h : ∀ j, j < n → f j = g j) (hi : i < n) : opErr count n f i = opErr count n g i := by
 unfold opErr takenBad tk
 rw [h i hi, gvn_congr h (by omega), gvn_congr h (by omega), gvn_congr h (by omega)]
theorem scan_congr {f g : Nat → OpR} {n : Nat} (count : Int) (h : ∀ j, j < n → f j = g j) : ∀ m i, i + m = n → scan count n f m i = scan count n g m i
 | 0, i, _ => by
  show endR n f = endR n g
  unfold endR
  by_cases q : n = 0
  ·rw [if_pos (.inl q), if_pos (.inl q)]
  ·rw [h (n - 1) (by omega)]
 | m + 1, i, hi => by
  show (if opErr count n f i = 0 then scan count n f m (i + 1) else _) = (if opErr count n g i = 0 then scan count n g m (i + 1) else _)
  rw [opErr_congr count h (by omega), scan_congr count h m (i + 1) (by omega)]
theorem check_congr {f g : Nat → OpR} {n : Nat} (count bytes : Int) (h : ∀ j, j < n → f j = g j) : checkF count bytes n f = checkF count bytes n g := by
 unfold checkF
 rw [scan_congr count h n 0 (by omega)]
theorem nn_ok {count : Int} {n : Nat} {f : Nat → OpR} {i : Nat} (hq : opErr count n f i = 0) : f i = rO (fN (f i)) := by
 unfold opErr at hq
 by_cases h1 : eOp (f i) = true
 ·rw [if_pos h1] at hq; exact absurd hq (by decide)
 rw [if_neg h1] at hq
 by_cases h2 : fieldBad (flT (f i).kind.toNat) (f i) count = true
 ·rw [if_pos h2] at hq; exact absurd hq (by decide)
 rw [if_neg h2] at hq
 by_cases h3 : takenBad (flT (f i).kind.toNat) (f i) f i = true
 ·rw [if_pos h3] at hq; exact absurd hq (by decide)
 clear hq
 have h1' : eOp (f i) = false := by simpa using h1
 have h2' : fieldBad (flT (f i).kind.toNat) (f i) count = false := by simpa using h2
 have h3' : takenBad (flT (f i).kind.toNat) (f i) f i = false := by simpa using h3
 clear h1 h2 h3
 have hb := rr_bd (f i).kind
 have hg : ∀ t : Int, gvn f i t = true → 0 ≤ t := fun t q => by
  unfold gvn at q
  simp only [Bool.and_eq_true, decide_eq_true_eq] at q
  exact q.1.1
 unfold eOp at h1'
 simp only [Bool.or_eq_false_iff, Bool.not_eq_false', decide_eq_false_iff_not, isK_iff] at h1'
 obtain ⟨⟨⟨e1, e2⟩, e3⟩, -⟩ := h1'
 generalize hx : f i = o at *
 generalize hy : flT o.kind.toNat = x at *
 unfold fieldBad bd bg at h2'
 unfold takenBad tk at h3'
 obtain ⟨ha, hbb, hc, hk, hn, hgg⟩ := x
 have w0' : 0 ≤ o.w := by omega
 obtain ⟨kd, w, a, b, c, k, nn⟩ := o
 have w0 : 0 ≤ w := w0'
 simp only [Bool.or_eq_false_iff, Bool.and_eq_false_iff, bne_eq_false_iff_eq, Bool.not_eq_false', decide_eq_false_iff_not, decide_eq_true_eq] at h2' h3'
 obtain ⟨⟨⟨⟨⟨⟨fa, fb⟩, fc⟩, -⟩, -⟩, fg⟩, fn⟩ := h2'
 obtain ⟨⟨ta, tb⟩, tc⟩ := h3'
 have a0 : 0 ≤ a := by
  rcases fa with q | q
  ·omega
  ·rcases ta with r | r
   ·rw [q] at r; cases r
   ·exact hg a r
 have b0 : 0 ≤ b := by
  rcases fb with q | q
  ·omega
  ·rcases tb with r | r
   ·rw [r, Bool.false_or] at q
    rcases fg with s | s
    ·rw [q] at s; cases s
    ·omega
   ·exact hg b r
 have c0 : 0 ≤ c := by
  rcases fc with q | q
  ·omega
  ·rcases tc with r | r
   ·rw [q] at r; cases r
   ·exact hg c r
 have n0 : 0 ≤ nn := fn.1
 have k0 : 0 ≤ kd := by have : 1 ≤ kd := e1; omega
 unfold fN rO
 simp only [Int.toNat_of_nonneg w0, Int.toNat_of_nonneg a0, Int.toNat_of_nonneg b0, Int.toNat_of_nonneg c0, Int.toNat_of_nonneg n0, Int.toNat_of_nonneg k0]
theorem inp {count bytes : Int} {n : Nat} {f : Nat → OpR} (hc : (checkF count bytes n f).1 = 0) (hk : ∀ i, i < n → (f i).k < 4294967296) : ∃ l : List ON, l.length = n ∧ G count bytes l ∧ ∀ i, i < n → f i = rO (hOf l i) := by
 have hz := chk_zero _ _ _ _ hc
 have hs : ∀ i, i < n → opErr count n f i = 0 := fun i hi => by
  unfold checkF at hc
  by_cases h1 : 2048 < n
  ·rw [if_pos h1] at hc
   have q' : (5 : Int) = 0 := hc
   exact absurd q' (by decide)
  rw [if_neg h1] at hc
  by_cases h2 : (0 ≤ count ∧ count ≤ 64) ∧ (0 ≤ bytes ∧ bytes ≤ 384)
  ·rw [if_pos h2, scan_ok] at hc
   exact hc.1 i (Nat.zero_le _) (by omega)
  ·rw [if_neg h2] at hc
   have q' : (4 : Int) = 0 := hc
   exact absurd q' (by decide)
 have hl : ((List.range n).map fun i => fN (f i)).length = n := by simp
 have ho : ∀ i, i < n → hOf ((List.range n).map fun i => fN (f i)) i = fN (f i) := fun i hi => by
  unfold hOf
  rw [List.getD_eq_getElem?_getD, List.getElem?_map, List.getElem?_range hi]
  rfl
 have hf : ∀ i, i < n → f i = rO (hOf ((List.range n).map fun i => fN (f i)) i) := fun i hi => by rw [ho i hi]; exact nn_ok (hs i hi)
 refine ⟨_, hl, ⟨?_, fun i => ?_⟩, hf⟩
 ·rw [hl, ← check_congr count bytes hf]; exact hz
 ·by_cases hi : i < n
  ·rw [ho i hi]; exact hk i hi
  ·rw [hOf_out (by rw [hl]; omega)]; exact (by decide : (0 : Nat) < 4294967296)
theorem means_walk (pc : Nat) (count bytes : Int) (bp pp mp : Option Addr) (n cap plen pcap mlen mcap : Nat) (f : Nat → OpR) (c : Nat → Nat) (W : World) (hO : OpsR W bp n f) (hby : n * 56 ≤ 140737488355328) (hkk : ∀ j, j < n → (f j).k < 4294967296) (hc : Va.cxOk c) (hp : Va.Parts W pp plen) (hm : Va.Marks W mp mlen) :
  Calls Try.prog 3 #[.agg #[.int .u32 pc, .int .i64 count, .int .i64 bytes, .slice bp n cap], Va.cxV c, .slice pp plen pcap, .slice mp mlen mcap] W fun e w' => e = .returned (.bool true) ∧ Below W.heap.size W w' := by
 by_cases h0 : (checkF count bytes n f).1 = 0
 ·obtain ⟨l, hl, g, hf⟩ := inp h0 hkk
  subst hl
  refine om_good pc count bytes bp pp mp l.length cap plen pcap mlen mcap (fun i => rO (hOf l i)) c W (hO.congr hf) hby hp hm ?_ g.ck (fun j _ => g.ks j) hc
  intro w hOw
  refine (block_any (G2 count bytes refE l) mu (good2 count bytes refE l) pc count bytes bp cap l w hOw (g2_self refE g) g.ck).mono ?_
  rintro e w' ⟨sv, l', rfl, g', -, hown, hB⟩
  have pos := ((G_iff _ _ _).1 g'.g).2.1.n0
  obtain ⟨gg, cap2, rfl, hgb, -, hops⟩ := owns_opsR hown pos
  refine ⟨l'.length, fun i => rO (hOf l' i), some ⟨gg, 0, none⟩, cap2, ⟨g'.le, pos, g'.g.ck, fun j _ => g'.g.ks j, fun m hm => ?_⟩, rfl, hops, fun b off e _ => by cases e; exact hgb, hB⟩
  obtain ⟨c', m', x, hx⟩ := blk_out g refE ⟨c, m, fun _ => 0⟩
  have hx' := g'.sm _ _ _ _ hx
  obtain ⟨p, hp'⟩ := out_pc ⟨c, m, fun _ => 0⟩ (hOf l) l.length c' m' x hx
  obtain ⟨a1, a2, a3⟩ := ref_run g c m hx
  obtain ⟨b1, b2, b3⟩ := ref_run g'.g c m hx'
  obtain ⟨xk, xa, xp, xn⟩ := x
  simp only at hp'
  subst hp'
  have ok := (runO_ok (fun i => rO (hOf l i)) l.length 0 ⟨c, m, fun _ => 0⟩ ⟨hc, hm, fun _ => (by decide : (0 : Nat) < 4294967296)⟩ (fun j _ _ => g.ks j)).c
  rw [a1] at ok
  exact ⟨c', m', xk, xa, xn, p, ok, ⟨a1, a2, a3⟩, ⟨b1, b2, b3⟩⟩
 ·refine om_bad pc count bytes bp pp mp n cap plen pcap mlen mcap f c W hO hby hp hm ?_ h0
  intro w hOw
  refine (block_bad pc count bytes bp n cap f w hOw hby h0).mono ?_
  rintro e w' ⟨bp', cap', rfl, h1, h2, h3, h4⟩
  exact ⟨bp', cap', rfl, h1, fun b off e _ => h4 b off e, h3⟩
end Go.Proofs.Ytkgbjpdoigdjnab
