import Derived.Test.YtkgbjpdoigdjnabPD
import Derived.Test.YtkgbjpdoigdjnabOR3
import Derived.Deep.LoopGhost
set_option linter.unusedVariables false
set_option linter.unusedSimpArgs false
set_option maxHeartbeats 8000000
namespace Go.Proofs.Ytkgbjpdoigdjnab
open Go.RowKit
set_option maxRecDepth 100000
theorem check_any (pc : Nat) (count bytes : Int) (bp : Option Addr) (n cap : Nat) (f : Nat → OpR) (w : World) (hO : OpsR w bp n f) (hcap : n ≤ cap) (hn : n < 9223372036854775807) :
  Calls Try.prog 56 #[.agg #[.int .u32 pc, .int .i64 count, .int .i64 bytes, .slice bp n cap]] w fun e w' => e = .returned (.tuple #[.int .i64 (checkF count bytes n f).1, .int .i64 (checkF count bytes n f).2]) ∧ Below w.heap.size w w' := by
 have HO : Hid (OpsR w bp n f) := hO
 have n0 : (0 : Int) ≤ (n : Int) := by omega
 have nb : (n : Int) ≤ 9223372036854775807 := by omega
 have HW : Hid (CW w (w.alloc (.cells #[.int .u32 pc, .int .i64 count, .int .i64 bytes, .slice bp n cap] 25)) pc count bytes bp n cap) := ⟨heap_alloc_last w _, wk_bel1 w _⟩
 have HCAP : Hid _ := hcap
 clear hO hcap
 by_cases hL : 2048 < n
 ·have d : decide (2048 < (n : Int)) = true := decide_eq_true (by omega)
  have HE : Hid (checkF count bytes n f = (5, -1)) := by show _ = _; unfold checkF; rw [if_pos hL]
  clear hL
  go_enter Try.func56, Try.ntmps56
  go_wp2
  go_ret2
  exact ⟨by rw [HE.out]; rfl, HW.out.bel⟩
 have d : decide (2048 < (n : Int)) = false := decide_eq_false (by omega)
 by_cases hC : 0 ≤ count ∧ count ≤ 64
 rotate_left
 ·have HD : Hid (decide (0 ≤ count ∧ count ≤ 64) = false) := decide_eq_false hC
  have HE : Hid (checkF count bytes n f = (4, -1)) := by show _ = _; unfold checkF; rw [if_neg hL, if_neg (fun h => hC h.1)]
  clear hL hC
  go_enter Try.func56, Try.ntmps56
  go_wp2_with (go_at_call 115; refine (within_any count 64 _).mono ?_; rintro e w1 ⟨rfl, rfl⟩; rw [HD.out])
  go_ret2
  exact ⟨by rw [HE.out]; rfl, HW.out.bel⟩
 have HD : Hid (decide (0 ≤ count ∧ count ≤ 64) = true) := decide_eq_true hC
 by_cases hB : 0 ≤ bytes ∧ bytes ≤ 384
 rotate_left
 ·have HD2 : Hid (decide (0 ≤ bytes ∧ bytes ≤ 384) = false) := decide_eq_false hB
  have HE : Hid (checkF count bytes n f = (4, -1)) := by show _ = _; unfold checkF; rw [if_neg hL, if_neg (fun h => hB h.2)]
  clear hL hC hB
  go_enter Try.func56, Try.ntmps56
  go_wp2_with (first
   | (go_at_call 115; have HZ1 := HQ1; refine (within_any bytes 384 _).mono ?_; rintro e w1 ⟨rfl, rfl⟩; rw [HD2.out])
   | (go_at_call 115; refine (within_any count 64 _).mono ?_; rintro e w1 ⟨rfl, rfl⟩; rw [HD.out]; have HQ1 : Hid True := trivial))
  go_ret2
  exact ⟨by rw [HE.out]; rfl, HW.out.bel⟩
 have HD2 : Hid (decide (0 ≤ bytes ∧ bytes ≤ 384) = true) := decide_eq_true hB
 obtain ⟨E, HE⟩ : ∃ E, Hid (checkF count bytes n f = E) := ⟨_, rfl⟩
 have HS : Hid (scan count n f n 0 = E) := by show _ = _; rw [← HE.out]; unfold checkF; rw [if_neg hL, if_pos ⟨hC, hB⟩]
 have HL : Hid (n ≤ 2048) := show n ≤ 2048 by omega
 have n1 : (n : Int) ≤ 2048 := by omega
 clear hL hC hB
 rw [HE.out]
 go_enter Try.func56, Try.ntmps56
 go_wp2_with (first
  | (go_at_call 115; have HZ1 := HQ1; refine (within_any bytes 384 _).mono ?_; rintro e w1 ⟨rfl, rfl⟩; rw [HD2.out])
  | (go_at_call 115; refine (within_any count 64 _).mono ?_; rintro e w1 ⟨rfl, rfl⟩; rw [HD.out]; have HQ1 : Hid True := trivial))
 go_loopw [24] (fun i' wr => ∃ j : Nat, i' = .int .i64 j ∧ j ≤ n ∧ scan count n f (n - j) j = E ∧ CW w wr pc count bytes bp n cap) (fun i _ => n - (intOf i).toNat)
 case atStart => exact ⟨0, rfl, by omega, HS.out, HW.out⟩
 case round =>
  obtain ⟨j, rfl, hj, hsc, hW⟩ := hrel
  have HSC : Hid _ := hsc
  have HWr : Hid _ := hW
  have l1 := row_lt hW.b1
  have m0 : wr.cell? ⟨w.heap.size, 0, none⟩ = some (.int .u32 pc) := row_cell hW.b1 0
  have m1 : wr.cell? ⟨w.heap.size, 1, none⟩ = some (.int .i64 count) := row_cell hW.b1 1
  have m2 : wr.cell? ⟨w.heap.size, 2, none⟩ = some (.int .i64 bytes) := row_cell hW.b1 2
  have m3 : wr.cell? ⟨w.heap.size, 3, none⟩ = some (.slice bp n cap) := row_cell hW.b1 3
  clear hsc hW HW
  by_cases hlt : j < n
  ·have hji : (j : Int) < (n : Int) := by omega
   have dj : decide ((j : Int) < (n : Int)) = true := decide_eq_true hji
   have j0 : (0 : Int) ≤ (j : Int) := by omega
   have hstep : n - j = (n - (j + 1)) + 1 := by omega
   have HLT : Hid _ := hlt
   obtain ⟨q, HQ⟩ : ∃ q, Hid (opErr count n f j = q) := ⟨_, rfl⟩
   have HST : Hid (scan count n f ((n - (j + 1)) + 1) j = E) := hstep ▸ HSC.out
   clear hstep hlt
   by_cases hq : q = 0
   ·subst hq
    have HN : Hid (scan count n f (n - (j + 1)) (j + 1) = E) := by
     show _ = _
     have := HST.out
     simp only [scan, HQ.out, if_true] at this
     exact this
    go_wp2_with (go_at_call 116; refine (checkOp_any pc count bytes bp n cap j f _ (HO.out.below HWr.out.bel (Nat.le_refl _)) HLT.out HL.out HCAP.out).mono ?_; rintro e w2 ⟨rfl, h2⟩; rw [HQ.out])
    go_round
    case rel => exact ⟨j + 1, by go_num, HLT.out, HN.out, HWr.out.next h2⟩
    case measure => have := HLT.out; simp [intOf]; omega
   ·have dq : (q != 0) = true := by simpa using hq
    have HN : Hid (E = (q, (j : Int))) := by
     show _ = _
     have := HST.out
     simp only [scan, HQ.out, if_neg hq] at this
     exact this.symm
    clear hq
    go_wp2_with (go_at_call 116; refine (checkOp_any pc count bytes bp n cap j f _ (HO.out.below HWr.out.bel (Nat.le_refl _)) HLT.out HL.out HCAP.out).mono ?_; rintro e w2 ⟨rfl, h2⟩; rw [HQ.out])
    go_ret2
    exact ⟨by rw [HN.out]; rfl, (HWr.out.next h2).bel⟩
  ·obtain rfl : j = n := by omega
   have dj : decide ((j : Int) < (j : Int)) = false := decide_eq_false (by omega)
   have HST : Hid (endR j f = E) := by
    show _ = _
    have := HSC.out
    rw [Nat.sub_self] at this
    exact this
   clear hlt hj HSC
   by_cases hz : j = 0
   ·subst hz
    have HN : Hid (E = (7, 0)) := by show _ = _; rw [← HST.out]; rfl
    go_wp2
    go_ret2
    exact ⟨by rw [HN.out]; rfl, HWr.out.bel⟩
   ·obtain ⟨p, HP⟩ : ∃ p, Hid (j = p + 1) := ⟨j - 1, show j = j - 1 + 1 by omega⟩
    have hp := HP.out
    obtain ⟨b, off, rfl, hb, hc⟩ := HO.out (by omega)
    have hk : wr.cell? ⟨b, off + p * 7, none⟩ = some (.int .i64 (f p).kind) := ((hc p (by omega)).below HWr.out.bel hb).c0
    obtain ⟨R, HR⟩ : ∃ R, Hid (ru (f p).kind = R) := ⟨_, rfl⟩
    have dz : ((j : Int) == 0) = false := by simp; omega
    have hsub : (j : Int) - 1 = (p : Int) := by omega
    have p0 : (0 : Int) ≤ (p : Int) := by omega
    have p1 : (p : Int) < (j : Int) := by omega
    have HF := ru_ends R
    obtain ⟨en, HEN⟩ : ∃ en, Hid (R.ends = en) := ⟨_, rfl⟩
    have HN : Hid (E = if en then (0, 0) else (7, (j : Int))) := by
     show _ = _
     rw [← HST.out]
     unfold endR
     rw [show j - 1 = p by omega, ← (ru_rr (f p).kind).2.2.2, HR.out, HEN.out]
     cases en <;> simp [hz]
    have lb : b < wr.heap.size := by have := HWr.out.bel.size; omega
    clear hc HO hp hz
    rw [HEN.out] at HF
    cases en with
    | true =>
     go_wp2_with (go_at_call 117; refine (ruleOf_me (f p).kind R _ HR.out).mono ?_; rintro e w3 ⟨rfl, h3⟩; rw [HEN.out])
     go_ret2
     exact ⟨by rw [HN.out]; rfl, (HWr.out.next h3).bel⟩
    | false =>
     go_wp2_with (go_at_call 117; refine (ruleOf_me (f p).kind R _ HR.out).mono ?_; rintro e w3 ⟨rfl, h3⟩; rw [HEN.out])
     go_ret2
     exact ⟨by rw [HN.out]; rfl, (HWr.out.next h3).bel⟩
open Go.Maps
def setL (l : List ON) : List ON := (runS (hOf l) l.length).s.l
def nedL (l : List ON) : List ON := (keS (hOf l) (neS (hOf l) l.length l.length).sy l.length).l
def pass (l : List ON) : List ON := nedL (setL l)
structure GoodP (G : List ON → Prop) (mu : List ON → Nat) : Prop where
 l0 : ∀ {l}, G l → 0 < l.length
 l1 : ∀ {l}, G l → l.length ≤ 2048
 st : ∀ {l}, G l → SetOk (hOf l) l.length
 ne : ∀ {l}, G l → NeOk (hOf l) l.length
 g1 : ∀ {l}, G l → G (setL l)
 g2 : ∀ {l}, G l → G (nedL l)
 mu : ∀ {l}, G l → pass l ≠ l → mu (pass l) < mu l
structure BW (w W : World) (pc : Nat) (count bytes : Int) (l : List ON) (sv : Value) : Prop where
 x : W.heap[w.heap.size]? = some (.cells #[.int .u32 pc, .int .i64 count, .int .i64 bytes, sv] 25)
 r : W.heap[w.heap.size + 1]? = some (.cells #[.int .u32 0, .int .i64 0, .int .i64 0, .slice none 0 0] 25)
 o : W.ownsRow w.heap.size 67 7 sv l.length (onsV l)
 bel : Below w.heap.size w W
theorem BW.below {w W W' : World} {pc : Nat} {count bytes : Int} {l : List ON} {sv : Value} (h : BW w W pc count bytes l sv) (k : Below W.heap.size W W') : BW w W' pc count bytes l sv :=
 ⟨(k.block _ (row_lt h.x)).trans h.x, (k.block _ (row_lt h.r)).trans h.r, owns_below h.o k, h.bel.trans (k.mono h.bel.size)⟩
theorem owns_base {w : World} {base base' n : Nat} {v : Value} {xs : List Value} (h : w.ownsRow base' 67 7 v n xs) (hb : base ≤ base') : w.ownsRow base 67 7 v n xs := by
 refine ⟨h.1, ?_⟩
 rcases h.2 with ⟨hv, h0⟩ | ⟨g', c', cur, hv, hb', hh, h1, h2', h3, h4⟩
 ·exact Or.inl ⟨hv, h0⟩
 ·exact Or.inr ⟨g', c', cur, hv, Nat.le_trans hb hb', hh, h1, h2', h3, h4⟩
theorem BW.make {w W : World} {pc : Nat} {count bytes : Int} {l' : List ON} {sv sv' : Value} (hx : W.heap[w.heap.size]? = some (.cells #[.int .u32 pc, .int .i64 count, .int .i64 bytes, sv] 25)) (hr : W.heap[w.heap.size + 1]? = some (.cells #[.int .u32 0, .int .i64 0, .int .i64 0, .slice none 0 0] 25)) (hb : Below w.heap.size w W) (h' : W.ownsRow w.heap.size 67 7 sv' l'.length (onsV l')) : BW w (W.setCell ⟨w.heap.size, 3, none⟩ sv') pc count bytes l' sv' :=
 ⟨(heap_setCell_same W _ 3 _ _ sv' hx).trans rfl, (blk_other (by omega) _).trans hr, owns_keep h' (fun g hg => blk_other (fun e => by
  obtain ⟨-, cur, hh⟩ := owns_blk h' hg
  rw [e, hx] at hh; cases hh) _), hb.setCell (Nat.le_refl _) _⟩
theorem BW.set {w W : World} {pc : Nat} {count bytes : Int} {l l' : List ON} {sv sv' : Value} (h : BW w W pc count bytes l sv) (h' : W.ownsRow w.heap.size 67 7 sv' l'.length (onsV l')) : BW w (W.setCell ⟨w.heap.size, 3, none⟩ sv') pc count bytes l' sv' := BW.make h.x h.r h.bel h'
theorem eq_of_eqN {l l' : List ON} (h : (decide (l.length = l'.length) && eqN (hOf l) (hOf l') l.length) = true) : l = l' := by
 simp only [Bool.and_eq_true, decide_eq_true_eq] at h
 obtain ⟨h1, h2⟩ := h
 apply List.ext_getElem h1
 intro i hi hi'
 have := eqN_all h2 i hi
 unfold hOf at this
 simpa [List.getD_eq_getElem?_getD, List.getElem?_eq_getElem hi, List.getElem?_eq_getElem hi'] using this
theorem eqN_refl (h : Nat → ON) : ∀ n, eqN h h n = true
 | 0 => rfl
 | n + 1 => by simp [eqN, eqN_refl h n, (onEq_iff (h n) (h n)).2 rfl]
theorem block_any (G : List ON → Prop) (mu : List ON → Nat) (hG : GoodP G mu) (pc : Nat) (count bytes : Int) (bp : Option Addr) (cap : Nat) (l0 : List ON) (w : World) (hO : OpsR w bp l0.length (fun i => rO (hOf l0 i))) (h0 : G l0) (hck : checkF count bytes l0.length (fun i => rO (hOf l0 i)) = (0, 0)) :
  Calls Try.prog 13 #[.agg #[.int .u32 pc, .int .i64 count, .int .i64 bytes, .slice bp l0.length cap]] w fun e w' => ∃ sv l, e = .returned (.agg #[.int .u32 pc, .int .i64 count, .int .i64 bytes, sv]) ∧ G l ∧ pass l = l ∧ w'.ownsRow w.heap.size 67 7 sv l.length (onsV l) ∧ Below w.heap.size w w' := by
 have HO : Hid (OpsR w bp l0.length (fun i => rO (hOf l0 i))) := hO
 have HG : Hid (GoodP G mu) := hG
 have H0 : Hid (G l0) := h0
 have HCK : Hid _ := hck
 have hn1 := hG.l0 h0
 have hn2 := hG.l1 h0
 have b2 := wk_bel w (.cells #[.int .u32 pc, .int .i64 count, .int .i64 bytes, .slice bp l0.length cap] 25) (.cells #[.int .u32 0, .int .i64 0, .int .i64 0, .slice none 0 0] 25)
 have HB2 : Hid _ := b2
 have HX2 : Hid _ := al2 w (.cells #[.int .u32 pc, .int .i64 count, .int .i64 bytes, .slice bp l0.length cap] 25) (.cells #[.int .u32 0, .int .i64 0, .int .i64 0, .slice none 0 0] 25)
 have HL1 : Hid (0 < l0.length) := hn1
 have HL2 : Hid (l0.length ≤ 2048) := hn2
 clear hO hG h0 hck b2
 go_enter Try.func13, Try.ntmps13
 go_upto_region 2 with (go_at_call 55; refine (clone_any l0.length cap bp (fun i => rO (hOf l0 i)) _ (OpsR.below (f := fun i => rO (hOf l0 i)) HO.out HB2.out (Nat.le_refl _)) HL1.out (by have := HL2.out; omega)).mono ?_; rintro e w1 ⟨sv, rfl, h1, k1⟩; rw [opsL_on (hOf l0) l0 (fun _ _ => rfl)] at h1; obtain ⟨g, cp, rfl, hgb, hcp, hops⟩ := owns_opsR h1 HL1.out; have HCP : Hid (l0.length ≤ cp) := hcp; clear hgb hcp hops; have x1 := (k1.block w.heap.size (by first | (simp; done) | (simp; omega) | omega)).trans HX2.out.1; have r1 := (k1.block (w.heap.size + 1) (by first | (simp; done) | (simp; omega))).trans HX2.out.2; have H1 : Hid (BW w (w1.setCell ⟨w.heap.size, 3, none⟩ (.slice (some ⟨g, 0, none⟩) l0.length cp)) pc count bytes l0 (.slice (some ⟨g, 0, none⟩) l0.length cp)) := BW.make x1 r1 (HB2.out.trans (k1.mono (by first | (simp; done) | (simp; omega) | omega))) (owns_base h1 (by first | (simp; done) | (simp; omega) | omega)); have xl := row_lt x1; have xf := row_fr x1; have xc3 := row_cell x1 3; clear h1 k1 x1 r1)
 refine wp_gen (fun W' => BW w W' pc count bytes l0 (.slice (some ⟨g, 0, none⟩) l0.length cp)) H1.out ?_
 clear xl xf xc3 H1 HX2 HB2
 intro W hW
 have HW : Hid _ := hW
 obtain ⟨g', cp', hsv, -, -, hops⟩ := owns_opsR hW.o hn1
 cases hsv
 have HOP : Hid (OpsR W (some ⟨g, 0, none⟩) l0.length (fun i => rO (hOf l0 i))) := hops
 have x0 := row_cell hW.x 0
 have x1 := row_cell hW.x 1
 have x2 := row_cell hW.x 2
 have x3 := row_cell hW.x 3
 have xl := row_lt hW.x
 clear hW hops hn1 hn2
 go_wp2_with (go_at_call 56; refine (check_any pc count bytes (some ⟨g, 0, none⟩) l0.length cp (fun i => rO (hOf l0 i)) _ HOP.out HCP.out (by have := HL2.out; omega)).mono ?_; rintro e w2 ⟨rfl, h2⟩; rw [HCK.out]; have H2 : Hid _ := HW.out.below h2; clear h2)
 clear x0 x1 x2 x3 xl HOP
 go_loopg [5] (mu l0) (fun k _ wr => ∃ (l : List ON) (g cp : Nat), G l ∧ mu l ≤ k ∧ BW w wr pc count bytes l (.slice (some ⟨g, 0, none⟩) l.length cp))
 case atStart => exact ⟨l0, g, cp, H0.out, Nat.le_refl _, H2.out⟩
 case round =>
  clear H2 HW HCP H0 HO HCK HL1 HL2
  obtain ⟨l, g, cp, hg, hmu, hW⟩ := hrel
  have HGl : Hid (G l) := hg
  have HMU : Hid (mu l ≤ gk) := hmu
  have HW : Hid _ := hW
  have hl1 := HG.out.l0 hg
  obtain ⟨g', cp', hsv, -, -, hops⟩ := owns_opsR hW.o hl1
  cases hsv
  have HOP : Hid (OpsR wr (some ⟨g, 0, none⟩) l.length (fun i => rO (hOf l i))) := hops
  have x3 := row_cell hW.x 3
  have xl := row_lt hW.x
  have HL1 : Hid (0 < l.length) := hl1
  have HL2 : Hid (l.length ≤ 2048) := HG.out.l1 hg
  have HST : Hid (SetOk (hOf l) l.length) := HG.out.st hg
  have HG1 : Hid (G (setL l)) := HG.out.g1 hg
  have HG2 : Hid (G (pass l)) := HG.out.g2 HG1.out
  have HS1 : Hid (0 < (setL l).length) := HG.out.l0 HG1.out
  have HS2 : Hid ((setL l).length ≤ 2048) := HG.out.l1 HG1.out
  have HNE : Hid (NeOk (hOf (setL l)) (setL l).length) := HG.out.ne HG1.out
  have HP1 : Hid (0 < (pass l).length) := HG.out.l0 HG2.out
  have HP2 : Hid ((pass l).length ≤ 2048) := HG.out.l1 HG2.out
  obtain ⟨B, HB⟩ : ∃ B, Hid ((decide ((pass l).length = l.length) && eqN (hOf (pass l)) (hOf l) (pass l).length) = B) := ⟨_, rfl⟩
  clear hW hg hmu hops hl1
  have ARM : True := trivial
  cases B with
  | true =>
   have HE : Hid (pass l = l) := eq_of_eqN HB.out
   go_upto_region 7 with (first
    | (go_at_call 58; refine (settled_any l.length cp (some ⟨g, 0, none⟩) (hOf l) _ HOP.out HL1.out HL2.out HST.out).mono ?_; rintro e w3 ⟨sv1, rfl, h3, k3⟩; obtain ⟨g1, cp1, rfl, hgb1, -, hops1⟩ := owns_opsR (l := setL l) h3 HS1.out; have H3 : Hid _ := HW.out.below k3; have HO1 : Hid (OpsR w3 (some ⟨g1, 0, none⟩) (setL l).length (fun i => rO (hOf (setL l) i))) := hops1; clear h3 k3 hops1 hgb1)
    | (go_at_call 57; refine (needed_any (setL l).length cp1 (some ⟨g1, 0, none⟩) (hOf (setL l)) _ HO1.out HS1.out HS2.out HNE.out).mono ?_; rintro e w4 ⟨sv2, rfl, h4, k4⟩; obtain ⟨g2, cp2, rfl, hgb2, -, hops2⟩ := owns_opsR (l := pass l) h4 HP1.out; have H4 : Hid _ := H3.out.below k4; have HO2 : Hid (OpsR w4 (some ⟨g2, 0, none⟩) (pass l).length (fun i => rO (hOf (pass l) i))) := hops2; have HOW : Hid (w4.ownsRow w.heap.size 67 7 (.slice (some ⟨g2, 0, none⟩) (pass l).length cp2) (pass l).length (onsV (pass l))) := owns_base h4 H3.out.bel.size; have xa3 := row_cell H4.out.x 3; have xal := row_lt H4.out.x; have HOL : Hid (OpsR w4 (some ⟨g, 0, none⟩) l.length (fun i => rO (hOf l i))) := (by obtain ⟨gq, cq, hq, -, -, ho⟩ := owns_opsR H4.out.o HL1.out; cases hq; exact ho); clear h4 k4 hops2 hgb2)
    | (go_at_call 59; refine (equal_any g2 cp2 g cp (pass l).length l.length (hOf (pass l)) (hOf l) _ HO2.out HOL.out HP2.out HL2.out).mono ?_; rintro e w5 ⟨rfl, h5⟩; rw [HB.out]; have H5 : Hid _ := H4.out.below h5; have H6 : Hid _ := owns_below HOW.out h5; have xb3 := row_cell H5.out.x 3; have xbl := row_lt H5.out.x; have xbf := row_fr H5.out.x; clear h5))
   have HF := H3.out
   have X : Hid (w5.heap[w.heap.size]? = _) := H5.out.x
   have y0 := row_cell X.out 0
   have y1 := row_cell X.out 1
   have y2 := row_cell X.out 2
   have y3 := row_cell X.out 3
   have yl := row_lt X.out
   have z0 := row_cell H5.out.r 0
   have z1 := row_cell H5.out.r 1
   have z2 := row_cell H5.out.r 2
   have z3 := row_cell H5.out.r 3
   have zl := row_lt H5.out.r
   have zf := row_fr H5.out.r
   go_wp2
   exact bodyPost_ret (v := .agg #[.int .u32 pc, .int .i64 count, .int .i64 bytes, .slice (some ⟨g, 0, none⟩) l.length cp]) (by simp [results, Try.results13, go_sem, z0, z1, z2, z3]) rfl ⟨_, l, rfl, HGl.out, HE.out, by
    refine owns_keep H5.out.o (fun k hk => ?_)
    have hne : k ≠ w.heap.size + 1 := fun e => by
     obtain ⟨-, cur, hh⟩ := owns_blk H5.out.o hk
     rw [e, H5.out.r] at hh; cases hh
    rw [blk_other hne, blk_other hne, blk_other hne, blk_other hne], by
    have hB := H5.out.bel
    (repeat first | with_reducible exact Below.refl _ _ | with_reducible exact hB | with_reducible refine Below.drew ?_ | with_reducible refine below_drewN ?_ _ | with_reducible refine Below.alloc ?_ (by first | (simp; done) | (simp; omega) | omega) _ | with_reducible refine Below.setCell ?_ (by first | (simp; done) | (simp; omega) | omega) _)⟩
  | false =>
   have HNP : Hid (pass l ≠ l) := show pass l ≠ l from fun e => by
    have h := HB.out
    rw [e, eqN_refl] at h
    simp at h
   have HMM : Hid (mu (pass l) < mu l) := HG.out.mu HGl.out HNP.out
   go_wp2_with (first
    | (go_at_call 58; refine (settled_any l.length cp (some ⟨g, 0, none⟩) (hOf l) _ HOP.out HL1.out HL2.out HST.out).mono ?_; rintro e w3 ⟨sv1, rfl, h3, k3⟩; obtain ⟨g1, cp1, rfl, hgb1, -, hops1⟩ := owns_opsR (l := setL l) h3 HS1.out; have H3 : Hid _ := HW.out.below k3; have HO1 : Hid (OpsR w3 (some ⟨g1, 0, none⟩) (setL l).length (fun i => rO (hOf (setL l) i))) := hops1; clear h3 k3 hops1 hgb1)
    | (go_at_call 57; refine (needed_any (setL l).length cp1 (some ⟨g1, 0, none⟩) (hOf (setL l)) _ HO1.out HS1.out HS2.out HNE.out).mono ?_; rintro e w4 ⟨sv2, rfl, h4, k4⟩; obtain ⟨g2, cp2, rfl, hgb2, -, hops2⟩ := owns_opsR (l := pass l) h4 HP1.out; have H4 : Hid _ := H3.out.below k4; have HO2 : Hid (OpsR w4 (some ⟨g2, 0, none⟩) (pass l).length (fun i => rO (hOf (pass l) i))) := hops2; have HOW : Hid (w4.ownsRow w.heap.size 67 7 (.slice (some ⟨g2, 0, none⟩) (pass l).length cp2) (pass l).length (onsV (pass l))) := owns_base h4 H3.out.bel.size; have xa3 := row_cell H4.out.x 3; have xal := row_lt H4.out.x; have HOL : Hid (OpsR w4 (some ⟨g, 0, none⟩) l.length (fun i => rO (hOf l i))) := (by obtain ⟨gq, cq, hq, -, -, ho⟩ := owns_opsR H4.out.o HL1.out; cases hq; exact ho); clear h4 k4 hops2 hgb2)
    | (go_at_call 59; refine (equal_any g2 cp2 g cp (pass l).length l.length (hOf (pass l)) (hOf l) _ HO2.out HOL.out HP2.out HL2.out).mono ?_; rintro e w5 ⟨rfl, h5⟩; rw [HB.out]; have H5 : Hid _ := H4.out.below h5; have H6 : Hid _ := owns_below HOW.out h5; have xb3 := row_cell H5.out.x 3; have xbl := row_lt H5.out.x; have xbf := row_fr H5.out.x; clear h5))
   go_roundg (mu (pass l))
   case measure => have := HMM.out; have := HMU.out; omega
   case rel => exact ⟨pass l, g2, cp2, HG2.out, Nat.le_refl _, H5.out.set H6.out⟩
end Go.Proofs.Ytkgbjpdoigdjnab
