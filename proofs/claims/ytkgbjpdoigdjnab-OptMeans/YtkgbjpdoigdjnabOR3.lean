import Derived.Test.YtkgbjpdoigdjnabOR1
import Derived.Test.YtkgbjpdoigdjnabOR2
import Derived.Test.YtkgbjpdoigdjnabOP
import Derived.Laws.Cover3
set_option linter.unusedVariables false
set_option linter.unusedSimpArgs false
set_option maxHeartbeats 8000000
namespace Go.Proofs.Ytkgbjpdoigdjnab
open Go.RowKit
open Go.Maps
set_option maxRecDepth 100000
theorem asks_any (base X Tb n : Nat) (d : ND) (o : ON) (w : World) (hN : NWo w base X Tb n d) (hb : base ≤ w.heap.size) (h1 : 1 ≤ o.kd) (h2 : o.kd ≤ 17) (hi : ∀ q, q < tkN o.kd → arg o q < n) (hw : o.kd = 2 ∨ o.kd = 3 → o.w < 12) :
  Calls Try.prog 119 #[.pointer (some ⟨X, 0, none⟩), .agg #[.int .i64 o.kd, .int .i64 o.w, .int .i64 o.a, .int .i64 o.b, .int .i64 o.c, .int .u32 o.k, .int .i64 o.n]] w fun e w' => e = .returned (.tuple #[]) ∧ NWo w' base X Tb n (askN d o) ∧ KN base X Tb w w' := by
 obtain ⟨kd, w0, a, b, c, kk, nn⟩ := o
 simp only at h1 h2
 rcases (by omega : kd = 1 ∨ kd = 2 ∨ kd = 3 ∨ kd = 4 ∨ kd = 5 ∨ kd = 6 ∨ kd = 7 ∨ kd = 8 ∨ kd = 9 ∨ kd = 10 ∨ kd = 11 ∨ kd = 12 ∨ kd = 13 ∨ kd = 14 ∨ kd = 15 ∨ kd = 16 ∨ kd = 17) with rfl | rfl | rfl | rfl | rfl | rfl | rfl | rfl | rfl | rfl | rfl | rfl | rfl | rfl | rfl | rfl | rfl
 ·exact asks_1 base X Tb n d w0 a b c kk nn w hN hb hi
 ·exact asks_2 base X Tb n d w0 a b c kk nn w hN hb hi (hw (.inl rfl))
 ·exact asks_3 base X Tb n d w0 a b c kk nn w hN hb hi (hw (.inr rfl))
 ·exact asks_4 base X Tb n d w0 a b c kk nn w hN hb hi
 ·exact asks_5 base X Tb n d w0 a b c kk nn w hN hb hi
 ·exact asks_6 base X Tb n d w0 a b c kk nn w hN hb hi
 ·exact asks_7 base X Tb n d w0 a b c kk nn w hN hb hi
 ·exact asks_8 base X Tb n d w0 a b c kk nn w hN hb hi
 ·exact asks_9 base X Tb n d w0 a b c kk nn w hN hb hi
 ·exact asks_10 base X Tb n d w0 a b c kk nn w hN hb hi
 ·exact asks_11 base X Tb n d w0 a b c kk nn w hN hb hi
 ·exact asks_12 base X Tb n d w0 a b c kk nn w hN hb hi
 ·exact asks_13 base X Tb n d w0 a b c kk nn w hN hb hi
 ·exact asks_14 base X Tb n d w0 a b c kk nn w hN hb hi
 ·exact asks_15 base X Tb n d w0 a b c kk nn w hN hb hi
 ·exact asks_16 base X Tb n d w0 a b c kk nn w hN hb hi
 ·exact asks_17 base X Tb n d w0 a b c kk nn w hN hb hi
structure NS where
 d : ND
 sy : Nat → Bool
def neS (h : Nat → ON) (n : Nat) : Nat → NS
 | 0 => ⟨⟨fun _ => false, fun _ => false⟩, fun _ => false⟩
 | m + 1 => ⟨if staB (neS h n m).d (n - 1 - m) (h (n - 1 - m)) then askN (neS h n m).d (h (n - 1 - m)) else (neS h n m).d, upd (neS h n m).sy (n - 1 - m) (staB (neS h n m).d (n - 1 - m) (h (n - 1 - m)))⟩
structure NeOk (h : Nat → ON) (n : Nat) : Prop where
 k1 : ∀ i, i < n → 1 ≤ (h i).kd
 k2 : ∀ i, i < n → (h i).kd ≤ 17
 tk : ∀ i, i < n → ∀ q, q < tkN (h i).kd → arg (h i) q < n
 w : ∀ i, i < n → (h i).kd = 2 ∨ (h i).kd = 3 → (h i).w < 12
structure NL (w W : World) (n : Nat) (h : Nat → ON) (bp : Option Addr) (d : ND) (sy : Nat → Bool) : Prop where
 nw : NWo W w.heap.size (w.heap.size + 1) w.heap.size n d
 sr : W.rowIs (w.heap.size + 2) 4 n (fun i => .bool (sy i))
 ops : OpsR W bp n (fun i => rO (h i))
 bel : Below w.heap.size w W
theorem NL.below {w W W' : World} {n : Nat} {h : Nat → ON} {bp : Option Addr} {d : ND} {sy : Nat → Bool} (x : NL w W n h bp d sy) (k : Below W.heap.size W W') : NL w W' n h bp d sy :=
 ⟨x.nw.below k, x.sr.of_block (k.block _ x.sr.lt), x.ops.below k (Nat.le_refl _), x.bel.trans (k.mono x.bel.size)⟩
theorem NL.set {w W : World} {n : Nat} {h : Nat → ON} {bp : Option Addr} {d : ND} {sy : Nat → Bool} (x : NL w W n h bp d sy) (hob : ∀ b off, bp = some ⟨b, off, none⟩ → b < w.heap.size) (i : Nat) (v : Bool) : NL w (W.setCell ⟨w.heap.size + 2, i, none⟩ (.bool v)) n h bp d (upd sy i v) :=
 ⟨⟨x.nw.xb.setOther (by show w.heap.size + 1 ≠ w.heap.size + 2; omega) _, x.nw.tb.setOther (by show w.heap.size ≠ w.heap.size + 2; omega) _, x.nw.bX, x.nw.bT⟩, (x.sr.set i _).congr (fun k _ => by (unfold upd; by_cases e : k = i <;> simp [e])), ops_bel x.ops ((Below.refl w.heap.size W).setCell (by show w.heap.size ≤ w.heap.size + 2; omega) _) hob, x.bel.setCell (by show w.heap.size ≤ w.heap.size + 2; omega) _⟩
theorem NL.kn {w W W2 : World} {n : Nat} {h : Nat → ON} {bp : Option Addr} {d d2 : ND} {sy : Nat → Bool} (x : NL w W n h bp d sy) (hob : ∀ b off, bp = some ⟨b, off, none⟩ → b < w.heap.size) (h2 : NWo W2 w.heap.size (w.heap.size + 1) w.heap.size n d2) (k : KN w.heap.size (w.heap.size + 1) w.heap.size W W2) : NL w W2 n h bp d2 sy :=
 ⟨h2, x.sr.of_block (k.blk _ x.sr.lt (by omega) (by omega)), ops_bel x.ops k.bel hob, x.bel.trans k.bel⟩
theorem infoB : (Try.prog.info? 4).map (fun i => (i.zero, i.size, i.bytes)) = some (some (.bool false), 1, 1) := by kernel_rfl
theorem nl_start (w : World) (n : Nat) (h : Nat → ON) (bp : Option Addr) (hO : OpsR w bp n (fun i => rO (h i))) (hob : ∀ b off, bp = some ⟨b, off, none⟩ → b < w.heap.size) : NL w (((w.alloc (.cells (madeCells #[.bool false] n) 4)).alloc (.cells #[.slice (some ⟨w.heap.size, 0, none⟩) n n, .bool false, .bool false, .bool false, .bool false, .bool false, .bool false, .bool false, .bool false, .bool false, .bool false, .bool false, .bool false] 205)).alloc (.cells (madeCells #[.bool false] n) 4)) n h bp (neS h n 0).d (neS h n 0).sy := by
 have hb : Below w.heap.size w (((w.alloc (.cells (madeCells #[.bool false] n) 4)).alloc (.cells #[.slice (some ⟨w.heap.size, 0, none⟩) n n, .bool false, .bool false, .bool false, .bool false, .bool false, .bool false, .bool false, .bool false, .bool false, .bool false, .bool false, .bool false] 205)).alloc (.cells (madeCells #[.bool false] n) 4)) := (((Below.refl _ _).alloc (Nat.le_refl _) _).alloc (by simp) _).alloc (by simp; omega) _
 have r1 := World.rowIs_made w (.bool false) n 4
 have r2 := World.rowIs_alloc (w.alloc (.cells (madeCells #[.bool false] n) 4)) #[.slice (some ⟨w.heap.size, 0, none⟩) n n, .bool false, .bool false, .bool false, .bool false, .bool false, .bool false, .bool false, .bool false, .bool false, .bool false, .bool false, .bool false] 205 (ndF w.heap.size n (neS h n 0).d) (fun i hi => by
  have hi' : i < 13 := hi
  match i, hi' with
  | 0, _ | 1, _ | 2, _ | 3, _ | 4, _ | 5, _ | 6, _ | 7, _ | 8, _ | 9, _ | 10, _ | 11, _ | 12, _ => rfl
  | m + 13, q => exact absurd q (by omega))
 have r3 := World.rowIs_made ((w.alloc (.cells (madeCells #[.bool false] n) 4)).alloc (.cells #[.slice (some ⟨w.heap.size, 0, none⟩) n n, .bool false, .bool false, .bool false, .bool false, .bool false, .bool false, .bool false, .bool false, .bool false, .bool false, .bool false, .bool false] 205)) (.bool false) n 4
 rw [show (w.alloc (.cells (madeCells #[.bool false] n) 4)).heap.size = w.heap.size + 1 by simp] at r2
 rw [show ((w.alloc (.cells (madeCells #[.bool false] n) 4)).alloc (.cells #[.slice (some ⟨w.heap.size, 0, none⟩) n n, .bool false, .bool false, .bool false, .bool false, .bool false, .bool false, .bool false, .bool false, .bool false, .bool false, .bool false, .bool false] 205)).heap.size = w.heap.size + 2 by simp] at r3
 exact ⟨⟨r2.alloc _, ((r1.alloc _).alloc _).congr (fun _ _ => rfl), by omega, Nat.le_refl _⟩, r3.congr (fun _ _ => rfl), ops_bel hO hb hob, hb⟩
theorem needed_any (n cap : Nat) (bp : Option Addr) (h : Nat → ON) (w : World) (hO : OpsR w bp n (fun i => rO (h i))) (n1 : 0 < n) (hn : n ≤ 2048) (hk : NeOk h n) :
  Calls Try.prog 57 #[.slice bp n cap] w fun e w' => ∃ sv, e = .returned sv ∧ w'.ownsRow w.heap.size 67 7 sv (keS h (neS h n n).sy n).l.length (onsV (keS h (neS h n n).sy n).l) ∧ Below w.heap.size w w' := by
 obtain ⟨b, off, rfl, hb, hc⟩ := hO n1
 have HO : Hid (OpsR w (some ⟨b, off, none⟩) n (fun i => rO (h i))) := hO
 have HOB : Hid (∀ b' off', (some ⟨b, off, none⟩ : Option Addr) = some ⟨b', off', none⟩ → b' < w.heap.size) := show ∀ b' off', _ from fun b' off' e => by cases e; exact hb
 have HK : Hid _ := hk
 have HN1 : Hid (0 < n) := n1
 have HN2 : Hid (n ≤ 2048) := hn
 have ni : (n : Int) ≤ 2048 := by omega
 have ni0 : (0 : Int) ≤ (n : Int) := by omega
 obtain ⟨i3, hi3, hz3, hs3, hb3⟩ := info_parts infoB
 have hmk := run_make_row 114 4 i3 _ Try.underlying114 hi3 hz3 hs3 rfl .i64 .i64 n (by rw [hb3]; omega) (by omega)
 clear hO hk hc hb
 go_enter Try.func57, Try.ntmps57
 go_upto_region 3 with fail
 refine wp_gen (fun W' => NL w W' n h (some ⟨b, off, none⟩) (neS h n 0).d (neS h n 0).sy) (nl_start w n h _ HO.out HOB.out) ?_
 intro V hV
 have HV : Hid _ := hV
 clear hV hmk
 go_wp2
 go_loopw [5] (fun i' wr => ∃ (k : Nat), i' = .int .i64 ((k : Int) - 1) ∧ k ≤ n ∧ NL w wr n h (some ⟨b, off, none⟩) (neS h n (n - k)).d (neS h n (n - k)).sy) (fun i _ => (intOf i + 1).toNat)
 case atStart => exact ⟨n, rfl, Nat.le_refl _, by rw [Nat.sub_self]; exact HV.out⟩
 case round =>
  obtain ⟨k, rfl, hkn, hS⟩ := hrel
  have HL : Hid _ := hS
  clear hS HV
  by_cases h0 : k = 0
  ·subst h0
   have HL2 : Hid (NL w wr n h (some ⟨b, off, none⟩) (neS h n n).d (neS h n n).sy) := HL.out
   go_wp2_with (go_at_call 120; refine (kept_any n cap _ h (neS h n n).sy (w.heap.size + 2) _ HL2.out.ops HL2.out.sr HN1.out HN2.out HK.out.tk).mono ?_; rintro e w2 ⟨sv, rfl, h2, k2⟩; have H2 : Hid _ := h2; have K2 : Hid _ := k2; clear h2 k2)
   go_ret
   refine ⟨sv, rfl, ?_, HL.out.bel.trans (K2.out.mono HL.out.bel.size)⟩
   have h2 := H2.out
   refine ⟨h2.1, ?_⟩
   rcases h2.2 with ⟨hv, h0⟩ | ⟨g', c', cur, hv, hb', hh, h1, h2', h3, h4⟩
   ·exact Or.inl ⟨hv, h0⟩
   ·exact Or.inr ⟨g', c', cur, hv, Nat.le_trans HL.out.bel.size hb', hh, h1, h2', h3, h4⟩
  ·obtain ⟨p, rfl⟩ : ∃ p, k = p + 1 := ⟨k - 1, by omega⟩
   rw [show ((p + 1 : Nat) : Int) - 1 = (p : Int) by omega]
   have hp : p < n := by omega
   have HP : Hid (p < n) := hp
   obtain ⟨m, HM⟩ : ∃ m, Hid (n - (p + 1) = m) := ⟨_, rfl⟩
   have HM2 : Hid (n - p = m + 1) := show _ = _ by have := HM.out; omega
   have HM3 : Hid (n - 1 - m = p) := show _ = _ by have := HM.out; omega
   rw [HM.out] at HL
   obtain ⟨d, HD⟩ : ∃ d, Hid ((neS h n m).d = d) := ⟨_, rfl⟩
   obtain ⟨sy, HSY⟩ : ∃ sy, Hid ((neS h n m).sy = sy) := ⟨_, rfl⟩
   rw [HD.out, HSY.out] at HL
   obtain ⟨B, HB⟩ : ∃ B, Hid (staB d p (h p) = B) := ⟨_, rfl⟩
   have HNX : Hid (neS h n (m + 1) = ⟨if B then askN d (h p) else d, upd sy p B⟩) := show neS h n (m + 1) = _ by
    show NS.mk (if staB (neS h n m).d (n - 1 - m) (h (n - 1 - m)) then _ else _) (upd _ _ _) = _
    rw [HM3.out, HD.out, HSY.out, HB.out]
   have pi : (p : Int) < (n : Int) := by omega
   have p0 : (0 : Int) ≤ (p : Int) := by omega
   have dp : decide ((0 : Int) ≤ (p : Int)) = true := decide_eq_true p0
   obtain ⟨b', off', e', lb', hc'⟩ := HL.out.ops HN1.out
   cases e'
   have hop := hc' p hp
   have m0 : wr.cell? ⟨b, off + p * 7, none⟩ = some (.int .i64 (h p).kd) := hop.c0
   have m1 : wr.cell? ⟨b, off + p * 7 + 1, none⟩ = some (.int .i64 (h p).w) := hop.c1
   have m2 : wr.cell? ⟨b, off + p * 7 + 2, none⟩ = some (.int .i64 (h p).a) := hop.c2
   have m3 : wr.cell? ⟨b, off + p * 7 + 3, none⟩ = some (.int .i64 (h p).b) := hop.c3
   have m4 : wr.cell? ⟨b, off + p * 7 + 4, none⟩ = some (.int .i64 (h p).c) := hop.c4
   have m5 : wr.cell? ⟨b, off + p * 7 + 5, none⟩ = some (.int .u32 (h p).k) := hop.c5
   have m6 : wr.cell? ⟨b, off + p * 7 + 6, none⟩ = some (.int .i64 (h p).n) := hop.c6
   have sl := HL.out.sr.lt
   have sf := HL.out.sr.frozen
   have sc : wr.cell? ⟨w.heap.size + 2, p, none⟩ = some (.bool (sy p)) := HL.out.sr.cell (i := p) hp
   have lbW : b < wr.heap.size := lb'
   have nb2 : b ≠ w.heap.size + 2 := by have := HOB.out b off rfl; omega
   clear hop hc' hp h0 hkn lb'
   have ARM : True := trivial
   cases B with
   | true =>
    go_wp2_with (first
     | (go_at_call 118; refine (stays_any w.heap.size (w.heap.size + 1) w.heap.size n d p (h p) _ HL.out.nw HP.out (fun q => HK.out.w p HP.out (.inr q))).mono ?_; rintro e w1 ⟨rfl, h1⟩; rw [HB.out]; have H1 : Hid _ := HL.out.below h1; have s1 := H1.out.sr.lt; have sf1 := H1.out.sr.frozen; have sc1 : w1.cell? ⟨w.heap.size + 2, p, none⟩ = some (.bool (sy p)) := H1.out.sr.cell (i := p) HP.out; have lb1 : b < w1.heap.size := Nat.lt_of_lt_of_le lbW h1.size; have mm0 := (h1.cell (p := ⟨b, off + p * 7, none⟩) lbW).trans m0; have mm1 := (h1.cell (p := ⟨b, off + p * 7 + 1, none⟩) lbW).trans m1; have mm2 := (h1.cell (p := ⟨b, off + p * 7 + 2, none⟩) lbW).trans m2; have mm3 := (h1.cell (p := ⟨b, off + p * 7 + 3, none⟩) lbW).trans m3; have mm4 := (h1.cell (p := ⟨b, off + p * 7 + 4, none⟩) lbW).trans m4; have mm5 := (h1.cell (p := ⟨b, off + p * 7 + 5, none⟩) lbW).trans m5; have mm6 := (h1.cell (p := ⟨b, off + p * 7 + 6, none⟩) lbW).trans m6; have H2 : Hid _ := H1.out.set HOB.out p true; clear h1)
     | (go_at_call 119; refine (asks_any w.heap.size (w.heap.size + 1) w.heap.size n d (h p) _ H2.out.nw H2.out.bel.size (HK.out.k1 p HP.out) (HK.out.k2 p HP.out) (HK.out.tk p HP.out) (HK.out.w p HP.out)).mono ?_; rintro e w3 ⟨rfl, h3, k3⟩; have H3 : Hid _ := H2.out.kn HOB.out h3 k3; clear h3 k3))
    go_round
    case rel => exact ⟨p, by go_num, by have := HP.out; omega, by rw [HM2.out, HNX.out]; exact H3.out⟩
    case measure => (have := HP.out; simp [intOf])
   | false =>
    go_wp2_with (go_at_call 118; refine (stays_any w.heap.size (w.heap.size + 1) w.heap.size n d p (h p) _ HL.out.nw HP.out (fun q => HK.out.w p HP.out (.inr q))).mono ?_; rintro e w1 ⟨rfl, h1⟩; rw [HB.out]; have H1 : Hid _ := HL.out.below h1; have s1 := H1.out.sr.lt; have sf1 := H1.out.sr.frozen; have sc1 : w1.cell? ⟨w.heap.size + 2, p, none⟩ = some (.bool (sy p)) := H1.out.sr.cell (i := p) HP.out; have H2 : Hid _ := H1.out.set HOB.out p false; clear h1)
    go_round
    case rel => exact ⟨p, by go_num, by have := HP.out; omega, by rw [HM2.out, HNX.out]; exact H2.out⟩
    case measure => (have := HP.out; simp [intOf])
def hOf (l : List ON) : Nat → ON := fun i => l.getD i onD
theorem rO_cells (o : ON) (r : Nat) : opCell (rO o) r = onC o r := by
 match r with
 | 0 | 1 | 2 | 3 | 4 | 5 => rfl
 | n + 6 => rfl
theorem opsL_on (h : Nat → ON) (l : List ON) (e : ∀ i, i < l.length → h i = l.getD i onD) : opsL (fun i => rO (h i)) l.length = onsV l := by
 apply List.ext_getElem?
 intro j
 by_cases hj : j < l.length * 7
 ·have h1 := onsV_at l (j / 7) (j % 7) (by omega) (by omega)
  rw [show j / 7 * 7 + j % 7 = j by omega] at h1
  rw [h1]
  unfold opsL
  rw [List.getElem?_map, List.getElem?_range hj]
  show some (opCell (rO (h (j / 7))) (j % 7)) = _
  rw [rO_cells, e _ (by omega)]
 ·rw [List.getElem?_eq_none (by rw [opsL_len]; omega), List.getElem?_eq_none (by rw [onsV_len]; omega)]
theorem owns_opsR {w : World} {base : Nat} {sv : Value} {l : List ON} (h : w.ownsRow base 67 7 sv l.length (onsV l)) (hn : 0 < l.length) : ∃ g cap, sv = .slice (some ⟨g, 0, none⟩) l.length cap ∧ base ≤ g ∧ l.length ≤ cap ∧ OpsR w (some ⟨g, 0, none⟩) l.length (fun i => rO (hOf l i)) := by
 rcases h.2 with ⟨-, h0⟩ | ⟨g, c', cur, hv, hb, hh, h1, h2, h3, h4⟩
 ·omega
 ·have h' := h
  rw [hv, ← opsL_on (hOf l) l (fun _ _ => rfl)] at h'
  exact ⟨g, c', hv, hb, h1, (owns_ops h' hn).1⟩
theorem sl_nil (b off n cap : Nat) (w : World) : Sem.run Try.prog (binOp BinOp.eql 23 (Value.slice (some ⟨b, off, none⟩) n cap) (Value.slice none 0 0)) w = .ok (.bool false) w := by
 unfold binOp
 simp [go_sem, run_equal_slice_nil _ 23 67 _ _ _ Try.underlying23]
theorem on_eqIn (x y : ON) (w : World) : (Op.equalIn 10000 67 (onV x) (onV y)).run Try.prog w = .ok (onEq x y) w := by
 have u3 := Try.underlying3
 have u22 := Try.underlying22
 have a3 := Try.isAgg3
 have a22 := Try.isAgg22
 have z3 := Try.sizeOf3
 have z22 := Try.sizeOf22
 have hS : Try.prog.underlying 67 = some (.struct (Try.prog.fieldsOf 67)) := by kernel_rfl
 have hp : Try.prog.stoodInHeld 67 = false := by kernel_rfl
 rw [show (10000 : Nat) = 9999 + 1 from rfl, run_equalIn_agg w 9999 67 _ _ hS hp]
 simp only [Program.fieldsOf, Try.underlying67]
 go_simp
 simp only [Int.ofNat_inj]
 unfold onEq
 repeat' split
 all_goals simp_all
theorem on_neq (x y : ON) (w : World) : Sem.run Try.prog (binOp BinOp.neq 67 (.agg #[.int .i64 x.kd, .int .i64 x.w, .int .i64 x.a, .int .i64 x.b, .int .i64 x.c, .int .u32 x.k, .int .i64 x.n]) (.agg #[.int .i64 y.kd, .int .i64 y.w, .int .i64 y.a, .int .i64 y.b, .int .i64 y.c, .int .u32 y.k, .int .i64 y.n])) w = .ok (.bool (!onEq x y)) w := by
 rw [run_neq_struct, show (Op.equalIn 10000 67 (.agg #[.int .i64 x.kd, .int .i64 x.w, .int .i64 x.a, .int .i64 x.b, .int .i64 x.c, .int .u32 x.k, .int .i64 x.n]) (.agg #[.int .i64 y.kd, .int .i64 y.w, .int .i64 y.a, .int .i64 y.b, .int .i64 y.c, .int .u32 y.k, .int .i64 y.n])).run Try.prog w = .ok (onEq x y) w from on_eqIn x y w]
 rfl
theorem clone_any (n cap : Nat) (bp : Option Addr) (f : Nat → OpR) (w : World) (hO : OpsR w bp n f) (n1 : 0 < n) (hn : n * 56 ≤ 140737488355328) :
  Calls Try.prog 55 #[.slice bp n cap] w fun e w' => ∃ sv, e = .returned sv ∧ w'.ownsRow w.heap.size 67 7 sv n (opsL f n) ∧ Below w.heap.size w w' := by
 obtain ⟨b, off, rfl, hb, hc⟩ := hO n1
 obtain ⟨io, hio, hzo, hso, hbo⟩ := info_parts info160
 have hb0 : Below w.heap.size w (w.alloc (.cells #[] 67)) := (Below.refl _ _).alloc (Nat.le_refl _) _
 have HNW : Hid (∀ j v, (opsL f n)[j]? = some v → (w.alloc (.cells #[] 67)).cell? ((⟨b, off, none⟩ : Addr).add j) = some v) := show ∀ j v, _ from fun j v hv => by
  obtain ⟨hj, rfl⟩ := opsL_at f n j v hv
  rw [Addr.add_mid, show off + j = (off + j / 7 * 7) + j % 7 by omega]
  exact (((hc (j / 7) (by omega)).below hb0 hb).cells (j % 7) (by omega))
 have HOW0 : Hid ((w.alloc (.cells #[] 67)).ownsRow w.heap.size 67 7 (.slice (some ⟨w.heap.size, 0, none⟩) 0 0) 0 []) := ⟨rfl, Or.inr ⟨w.heap.size, 0, #[], rfl, Nat.le_refl _, heap_alloc_last _ _, Nat.le_refl _, by unfold maxLen; omega, rfl, rfl⟩⟩
 have HN : Hid (0 < n) := n1
 have C3 : Hid (0 + n ≤ maxLen) := show 0 + n ≤ maxLen by unfold maxLen; omega
 have C4 : Hid ((0 + n) * 56 ≤ 140737488355328) := show (0 + n) * 56 ≤ 140737488355328 by omega
 have C5 : Hid (w.heap.size ≤ (w.alloc (.cells #[] 67)).heap.size) := show w.heap.size ≤ _ by simp
 have HB0 : Hid _ := hb0
 have sn := sl_nil b off n cap
 clear hO hc hb n1 hn hb0
 go_enter Try.func55, Try.ntmps55
 go_wp2_with (at_builtin; refine wpList_append_lies _ rfl _ _ _ rfl w.heap.size 67 io _ 7 56 Try.underlying23 hio hzo hso hbo rfl (by decide) (.slice (some ⟨w.heap.size, 0, none⟩) 0 0) 0 [] (by rfl) HOW0.out ⟨b, off, none⟩ n cap (opsL f n) (by rfl) (opsL_len f n) HNW.out (opsL_one f n) HN.out C3.out C4.out C5.out (w.heap.size + 1) (by simp) ?_; intro g cap2 w2 hown hgr hgg hlt; have HOW : Hid _ := hown; have HGR : Hid _ := hgr; clear hown hgr hgg hlt)
 go_ret
 refine ⟨_, rfl, ?_, Below.grown HB0.out HGR.out C5.out (fun k hk => by cases hk; exact Nat.le_refl _)⟩
 have h1 := HOW.out
 rw [Nat.zero_add, List.nil_append] at h1
 exact h1
def eqN (h1 h2 : Nat → ON) : Nat → Bool
 | 0 => true
 | m + 1 => eqN h1 h2 m && onEq (h1 m) (h2 m)
theorem eqN_no {h1 h2 : Nat → ON} {q : Nat} (h : onEq (h1 q) (h2 q) = false) : ∀ p, q < p → eqN h1 h2 p = false
 | 0, hp => absurd hp (Nat.not_lt_zero _)
 | p + 1, hp => by
  rcases Nat.lt_succ_iff_lt_or_eq.1 hp with h1' | rfl
  ·simp [eqN, eqN_no h p h1']
  ·simp [eqN, h]
theorem eqN_all {h1 h2 : Nat → ON} : ∀ {p : Nat}, eqN h1 h2 p = true → ∀ i, i < p → h1 i = h2 i
 | 0, _, i, hi => absurd hi (Nat.not_lt_zero _)
 | p + 1, h, i, hi => by
  simp only [eqN, Bool.and_eq_true] at h
  rcases Nat.lt_succ_iff_lt_or_eq.1 hi with h1' | rfl
  ·exact eqN_all h.1 i h1'
  ·exact (onEq_iff _ _).1 h.2
theorem equal_any (b1 c1 b2 c2 n m : Nat) (h1 h2 : Nat → ON) (w : World) (hO1 : OpsR w (some ⟨b1, 0, none⟩) n (fun i => rO (h1 i))) (hO2 : OpsR w (some ⟨b2, 0, none⟩) m (fun i => rO (h2 i))) (hn : n ≤ 2048) (hm : m ≤ 2048) :
  Calls Try.prog 59 #[.slice (some ⟨b1, 0, none⟩) n c1, .slice (some ⟨b2, 0, none⟩) m c2] w fun e w' => e = .returned (.bool (decide (n = m) && eqN h1 h2 n)) ∧ Below w.heap.size w w' := by
 have H1 : Hid (OpsR w (some ⟨b1, 0, none⟩) n (fun i => rO (h1 i))) := hO1
 have H2 : Hid (OpsR w (some ⟨b2, 0, none⟩) m (fun i => rO (h2 i))) := hO2
 have ni : (n : Int) ≤ 2048 := by omega
 by_cases he : n = m
 rotate_left
 ·have ie : ¬ (n : Int) = (m : Int) := by omega
  have de : ((n : Int) == (m : Int)) = false := by simpa using ie
  rw [decide_eq_false he]
  clear hO1 hO2 he
  go_enter Try.func59, Try.ntmps59
  go_wp2
  go_ret
  exact ⟨rfl, Below.refl _ _⟩
 subst he
 rw [decide_eq_true rfl, Bool.true_and]
 obtain ⟨E, HE⟩ : ∃ E, Hid (eqN h1 h2 n = E) := ⟨_, rfl⟩
 rw [HE.out]
 clear hO1 hO2
 go_enter Try.func59, Try.ntmps59
 go_wp2
 go_loopw [13] (fun i' wr => ∃ j : Nat, i' = .int .i64 j ∧ j ≤ n ∧ eqN h1 h2 j = true ∧ Below w.heap.size w wr) (fun i _ => n - (intOf i).toNat)
 case atStart => exact ⟨0, rfl, by omega, rfl, Below.refl _ _⟩
 case round =>
  obtain ⟨j, rfl, hj, hall, hW⟩ := hrel
  have HA : Hid _ := hall
  have HB : Hid _ := hW
  clear hall hW
  by_cases hlt : j < n
  ·have hji : (j : Int) < (n : Int) := by omega
   have dj : decide ((j : Int) < (n : Int)) = true := decide_eq_true hji
   have j0 : (0 : Int) ≤ (j : Int) := by omega
   have HLT : Hid (j < n) := hlt
   obtain ⟨x1, o1, e1, l1, p1⟩ := (OpsR.below (f := fun i => rO (h1 i)) (bp := some ⟨b1, 0, none⟩) H1.out HB.out (Nat.le_refl _)) (by omega)
   obtain ⟨x2, o2, e2, l2, p2⟩ := (OpsR.below (f := fun i => rO (h2 i)) (bp := some ⟨b2, 0, none⟩) H2.out HB.out (Nat.le_refl _)) (by omega)
   cases e1
   cases e2
   have q1 := p1 j hlt
   have q2 := p2 j hlt
   simp only [Nat.zero_add] at q1 q2
   have a0 : wr.cell? ⟨b1, j * 7, none⟩ = some (.int .i64 (h1 j).kd) := q1.c0
   have d0 : wr.cell? ⟨b2, j * 7, none⟩ = some (.int .i64 (h2 j).kd) := q2.c0
   have a1 : wr.cell? ⟨b1, j * 7 + 1, none⟩ = some (.int .i64 (h1 j).w) := q1.c1
   have d1 : wr.cell? ⟨b2, j * 7 + 1, none⟩ = some (.int .i64 (h2 j).w) := q2.c1
   have a2 : wr.cell? ⟨b1, j * 7 + 2, none⟩ = some (.int .i64 (h1 j).a) := q1.c2
   have d2 : wr.cell? ⟨b2, j * 7 + 2, none⟩ = some (.int .i64 (h2 j).a) := q2.c2
   have a3 : wr.cell? ⟨b1, j * 7 + 3, none⟩ = some (.int .i64 (h1 j).b) := q1.c3
   have d3 : wr.cell? ⟨b2, j * 7 + 3, none⟩ = some (.int .i64 (h2 j).b) := q2.c3
   have a4 : wr.cell? ⟨b1, j * 7 + 4, none⟩ = some (.int .i64 (h1 j).c) := q1.c4
   have d4 : wr.cell? ⟨b2, j * 7 + 4, none⟩ = some (.int .i64 (h2 j).c) := q2.c4
   have a5 : wr.cell? ⟨b1, j * 7 + 5, none⟩ = some (.int .u32 (h1 j).k) := q1.c5
   have d5 : wr.cell? ⟨b2, j * 7 + 5, none⟩ = some (.int .u32 (h2 j).k) := q2.c5
   have a6 : wr.cell? ⟨b1, j * 7 + 6, none⟩ = some (.int .i64 (h1 j).n) := q1.c6
   have d6 : wr.cell? ⟨b2, j * 7 + 6, none⟩ = some (.int .i64 (h2 j).n) := q2.c6
   obtain ⟨C, HC⟩ : ∃ C, Hid (onEq (h1 j) (h2 j) = C) := ⟨_, rfl⟩
   have ne := on_neq (h1 j) (h2 j)
   rw [HC.out] at ne
   clear p1 p2 q1 q2 hlt
   cases C with
   | true =>
    go_upto_region 6 with fail
    go_quiet (fail)
    go_wp2
    go_round
    case rel => exact ⟨j + 1, by go_num, HLT.out, by show (eqN h1 h2 j && onEq (h1 j) (h2 j)) = true; rw [HA.out, HC.out]; rfl, below_drewN HB.out _⟩
    case measure => have := HLT.out; simp [intOf]; omega
   | false =>
    have FB : Hid (E = false) := show E = false by rw [← HE.out]; exact eqN_no HC.out n HLT.out
    go_upto_region 6 with fail
    go_quiet (fail)
    go_wp2
    go_ret
    exact ⟨by rw [FB.out]; rfl, below_drewN HB.out _⟩
  ·obtain rfl : j = n := by omega
   have dj : decide ((j : Int) < (j : Int)) = false := decide_eq_false (by omega)
   clear hlt
   go_wp2
   go_ret
   exact ⟨by rw [← HE.out, HA.out]; rfl, HB.out⟩
end Go.Proofs.Ytkgbjpdoigdjnab
