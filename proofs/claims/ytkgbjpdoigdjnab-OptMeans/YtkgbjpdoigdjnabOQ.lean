import Derived.Test.YtkgbjpdoigdjnabOO
set_option linter.unusedVariables false
set_option linter.unusedSimpArgs false
set_option maxHeartbeats 1000000
namespace Go.Proofs.Ytkgbjpdoigdjnab
open Go.RowKit
open Go.Maps
set_option maxRecDepth 100000
structure ND where
 tk : Nat → Bool
 sn : Nat → Bool
def ndF (Tb n : Nat) (d : ND) (o : Nat) : Value := if o = 0 then .slice (some ⟨Tb, 0, none⟩) n n else .bool (d.sn (o - 1))
structure NWo (w : World) (base X Tb n : Nat) (d : ND) : Prop where
 xb : w.rowIs X 205 13 (ndF Tb n d)
 tb : w.rowIs Tb 4 n (fun i => .bool (d.tk i))
 bX : base ≤ X
 bT : base ≤ Tb
structure KN (base X Tb : Nat) (w w' : World) : Prop where
 bel : Below base w w'
 blk : ∀ i, i < w.heap.size → i ≠ X → i ≠ Tb → w'.heap[i]? = w.heap[i]?
theorem KN.refl (base X Tb : Nat) (w : World) : KN base X Tb w w := ⟨Below.refl _ _, fun _ _ _ _ => rfl⟩
theorem KN.trans {base X Tb : Nat} {a b c : World} (h : KN base X Tb a b) (k : KN base X Tb b c) : KN base X Tb a c :=
 ⟨h.bel.trans k.bel, fun i h1 h2 h3 => (k.blk i (Nat.lt_of_lt_of_le h1 h.bel.size) h2 h3).trans (h.blk i h1 h2 h3)⟩
theorem KN.of_below {base X Tb : Nat} {w w' : World} (h : Below w.heap.size w w') (hb : base ≤ w.heap.size) : KN base X Tb w w' := ⟨h.mono hb, fun i h1 _ _ => h.block i h1⟩
theorem KN.set {base X Tb : Nat} {w w' : World} (k : KN base X Tb w w') {B : Nat} (hB : B = X ∨ B = Tb ∨ w.heap.size ≤ B) (hb : base ≤ B) (o : Nat) (v : Value) : KN base X Tb w (w'.setCell ⟨B, o, none⟩ v) :=
 ⟨k.bel.setCell hb v, fun i h1 h2 h3 => (blk_other (by rcases hB with e | e | e; (subst e; exact h2); (subst e; exact h3); omega) v).trans (k.blk i h1 h2 h3)⟩
theorem NWo.ne {w : World} {base X Tb n : Nat} {d : ND} (h : NWo w base X Tb n d) : X ≠ Tb := fun e => by
 obtain ⟨c, hc, -⟩ := h.xb
 obtain ⟨c2, hc2, -⟩ := h.tb
 rw [e, hc2] at hc; cases hc
theorem NWo.below {w w' : World} {base X Tb n : Nat} {d : ND} (h : NWo w base X Tb n d) (k : Below w.heap.size w w') : NWo w' base X Tb n d :=
 ⟨h.xb.of_block (k.block _ h.xb.lt), h.tb.of_block (k.block _ h.tb.lt), h.bX, h.bT⟩
theorem NWo.setSn {w : World} {base X Tb n : Nat} {d : ND} (h : NWo w base X Tb n d) (i : Nat) (v : Bool) (hi : i < 12) : NWo (w.setCell ⟨X, 1 + i, none⟩ (.bool v)) base X Tb n ⟨d.tk, upd d.sn i v⟩ :=
 ⟨(h.xb.set _ _).congr fun j hj => by
  unfold ndF upd
  by_cases e : j = 1 + i
  ·subst e; rw [if_pos rfl, if_neg (by omega)]; simp
  ·rw [if_neg e]
   by_cases e0 : j = 0
   ·rw [if_pos e0, if_pos e0]
   ·rw [if_neg e0, if_neg e0]; simp [show ¬ j - 1 = i by omega], h.tb.setOther (fun e => h.ne e.symm) _, h.bX, h.bT⟩
theorem NWo.setTk {w : World} {base X Tb n : Nat} {d : ND} (h : NWo w base X Tb n d) (i : Nat) (v : Bool) : NWo (w.setCell ⟨Tb, i, none⟩ (.bool v)) base X Tb n ⟨upd d.tk i v, d.sn⟩ :=
 ⟨h.xb.setOther (fun e => h.ne e) _, (h.tb.set _ _).congr fun j hj => by (unfold upd; by_cases e : j = i <;> simp [e]), h.bX, h.bT⟩
theorem NWo.congr {w : World} {base X Tb n : Nat} {d d' : ND} (h : NWo w base X Tb n d) (h1 : ∀ i, i < n → d.tk i = d'.tk i) (h2 : ∀ i, i < 12 → d.sn i = d'.sn i) : NWo w base X Tb n d' :=
 ⟨h.xb.congr fun j hj => by (unfold ndF; by_cases e : j = 0; (rw [if_pos e, if_pos e]); (rw [if_neg e, if_neg e, h2 (j - 1) (by omega)])), h.tb.congr fun j hj => by rw [h1 j hj], h.bX, h.bT⟩
def seeN (d : ND) (k : Nat) : ND := ⟨d.tk, fun i => decide (k ≤ i) || d.sn i⟩
theorem nd_sn (Tb n : Nat) (d : ND) (i : Nat) : ndF Tb n d (1 + i) = .bool (d.sn i) := by unfold ndF; rw [if_neg (by omega), show 1 + i - 1 = i by omega]
theorem see_any (base X Tb n : Nat) (d : ND) (k : Nat) (w : World) (hN : NWo w base X Tb n d) (hk : k ≤ 12) :
  Calls Try.prog 168 #[.pointer (some ⟨X, 0, none⟩), .int .i64 k] w fun e w' => e = .returned (.tuple #[]) ∧ NWo w' base X Tb n (seeN d k) ∧ KN base X Tb w w' := by
 have HN : Hid _ := hN
 have HK : Hid (k ≤ 12) := hk
 clear hN
 go_enter Try.func168, Try.ntmps168
 go_wp2
 go_loopw [4] (fun i' wr => ∃ j : Nat, i' = .int .i64 j ∧ k ≤ j ∧ j ≤ 12 ∧ NWo wr base X Tb n ⟨d.tk, fun i => (decide (k ≤ i) && decide (i < j)) || d.sn i⟩ ∧ KN base X Tb w wr) (fun i _ => 12 - (intOf i).toNat)
 case atStart => exact ⟨k, rfl, Nat.le_refl _, HK.out, HN.out.congr (fun _ _ => rfl) (fun i _ => by show d.sn i = ((decide (k ≤ i) && decide (i < k)) || d.sn i); (by_cases h : k ≤ i; (simp [show ¬ i < k by omega]); (simp [h]))), KN.refl _ _ _ _⟩
 case round =>
  obtain ⟨j, rfl, hj, hj2, hW, hkn⟩ := hrel
  have HW : Hid _ := hW
  have HKN : Hid _ := hkn
  have xl := hW.xb.lt
  have xf := hW.xb.frozen
  clear hkn
  by_cases hlt : j < 12
  ·have j1 : (j : Int) < 12 := by omega
   have j0 : (0 : Int) ≤ (j : Int) := by omega
   have dj : decide ((j : Int) < 12) = true := decide_eq_true j1
   have cj := hW.xb.cell (i := 1 + j) (by omega)
   rw [nd_sn] at cj
   have HLT : Hid (j < 12) := hlt
   have HJ : Hid (k ≤ j) := hj
   clear hW hlt hj hj2 HN
   go_wp2
   go_round
   case rel => exact ⟨j + 1, by go_num, Nat.le_succ_of_le HJ.out, HLT.out, (HW.out.setSn j true HLT.out).congr (fun _ _ => rfl) (fun i _ => by
     show upd _ j true i = _
     unfold upd
     have := HJ.out
     by_cases e : i = j
     ·subst e; simp [this]
     ·rw [if_neg e]
      by_cases h2 : i < j
      ·simp [h2, Nat.lt_succ_of_lt h2]
      ·simp [h2, show ¬ i < j + 1 by omega]), HKN.out.set (.inl rfl) HW.out.bX _ _⟩
   case measure => have := HLT.out; simp [intOf]; omega
  ·obtain rfl : j = 12 := by omega
   clear hW hlt hj hj2
   go_wp2
   go_end0
   exact ⟨rfl, HW.out.congr (fun _ _ => rfl) (fun i hi => by show ((decide (k ≤ i) && decide (i < 12)) || d.sn i) = (decide (k ≤ i) || d.sn i); simp [hi]), HKN.out⟩
def staB (d : ND) (i : Nat) (o : ON) : Bool := if (ruT o.kd).leaves then true else if o.kd = 3 then d.sn o.w else d.tk i
theorem stays_any (base X Tb n : Nat) (d : ND) (i : Nat) (o : ON) (w : World) (hN : NWo w base X Tb n d) (hi : i < n) (hw : o.kd = 3 → o.w < 12) :
  Calls Try.prog 118 #[.pointer (some ⟨X, 0, none⟩), .int .i64 i, .agg #[.int .i64 o.kd, .int .i64 o.w, .int .i64 o.a, .int .i64 o.b, .int .i64 o.c, .int .u32 o.k, .int .i64 o.n]] w fun e w' => e = .returned (.bool (staB d i o)) ∧ Below w.heap.size w w' := by
 obtain ⟨R, HR0⟩ : ∃ R, Hid (ruT o.kd = R) := ⟨_, rfl⟩
 have HR : Hid (ru (o.kd : Int) = R) := show _ = _ by rw [ru_nat]; exact HR0.out
 have HF := ru_leaves R
 obtain ⟨lv, HLV⟩ : ∃ lv, Hid (R.leaves = lv) := ⟨_, rfl⟩
 rw [HLV.out] at HF
 have xl := hN.xb.lt
 have HN : Hid _ := hN
 have ARM : True := trivial
 cases lv with
 | true =>
  have HS : Hid (staB d i o = true) := show _ = _ by unfold staB; rw [HR0.out, HLV.out]; rfl
  rw [HS.out]
  clear hN hi hw
  go_enter Try.func118, Try.ntmps118
  go_wp2_with (go_at_call 117; refine (ruleOf_me o.kd R _ HR.out).mono ?_; rintro e w1 ⟨rfl, h1⟩; rw [HLV.out]; have H1 : Hid _ := h1; clear h1)
  go_ret
  exact ⟨rfl, ((Below.refl _ _).alloc (Nat.le_refl _) _).trans (H1.out.mono (by simp))⟩
 | false =>
  by_cases h3 : o.kd = 3
  ·have HS : Hid (staB d i o = d.sn o.w) := show _ = _ by unfold staB; rw [HR0.out, HLV.out, if_neg (by decide), if_pos h3]
   rw [HS.out]
   have d3 : ((o.kd : Int) == 3) = true := by rw [h3]; rfl
   have hw' := hw h3
   have w0 : (0 : Int) ≤ (o.w : Int) := by omega
   have w1 : (o.w : Int) < 12 := by omega
   have cs := hN.xb.cell (i := 1 + o.w) (by omega)
   rw [nd_sn] at cs
   have HCS : Hid _ := cs
   clear hN hi hw h3 hw' cs
   go_enter Try.func118, Try.ntmps118
   go_upto_region 4 with (go_at_call 117; refine (ruleOf_me o.kd R _ HR.out).mono ?_; rintro e w1 ⟨rfl, h1⟩; rw [HLV.out]; have H1 : Hid _ := h1; have hk := (h1.block w.heap.size (by simp)).trans (heap_alloc_last _ _); have kl := row_lt hk; have k0 := row_cell hk 0; have k1 := row_cell hk 1; have hB1 : Below w.heap.size w w1 := ((Below.refl _ _).alloc (Nat.le_refl _) _).trans (h1.mono (by simp)); have HB1 : Hid _ := hB1; have cs : w1.cell? ⟨X, 1 + o.w, none⟩ = some (.bool (d.sn o.w)) := (hB1.cell (p := ⟨X, 1 + o.w, none⟩) xl).trans HCS.out; have xl1 : X < w1.heap.size := Nat.lt_of_lt_of_le xl hB1.size; clear h1 hk hB1)
   go_quiet (fail)
   go_wp2
   go_ret
   have hB := HB1.out
   exact ⟨rfl, by (repeat first | with_reducible exact Below.refl _ _ | with_reducible exact hB | with_reducible refine Below.drew ?_ | with_reducible refine below_drewN ?_ _ | with_reducible refine Below.alloc ?_ (by first | (simp; done) | (simp; omega) | omega) _ | with_reducible refine Below.setCell ?_ (by first | (simp; done) | (simp; omega) | omega) _)⟩
  ·have HS : Hid (staB d i o = d.tk i) := show _ = _ by unfold staB; rw [HR0.out, HLV.out, if_neg (by decide), if_neg h3]
   rw [HS.out]
   have i3 : ¬ (o.kd : Int) = 3 := by omega
   have d3 : ((o.kd : Int) == 3) = false := by simpa using i3
   have i0 : (0 : Int) ≤ (i : Int) := by omega
   have i1 : (i : Int) < (n : Int) := by omega
   have HC0 : Hid (w.cell? ⟨X, 0, none⟩ = some (.slice (some ⟨Tb, 0, none⟩) n n)) := hN.xb.cell (i := 0) (by omega)
   have HCT : Hid (w.cell? ⟨Tb, i, none⟩ = some (.bool (d.tk i))) := hN.tb.cell hi
   have tl := hN.tb.lt
   clear hN hi hw h3
   go_enter Try.func118, Try.ntmps118
   go_wp2_with (go_at_call 117; refine (ruleOf_me o.kd R _ HR.out).mono ?_; rintro e w1 ⟨rfl, h1⟩; rw [HLV.out]; have H1 : Hid _ := h1; have hk := (h1.block w.heap.size (by simp)).trans (heap_alloc_last _ _); have kl := row_lt hk; have k0 := row_cell hk 0; have hB1 : Below w.heap.size w w1 := ((Below.refl _ _).alloc (Nat.le_refl _) _).trans (h1.mono (by simp)); have HB1 : Hid _ := hB1; have cs : w1.cell? ⟨X, 0, none⟩ = some (.slice (some ⟨Tb, 0, none⟩) n n) := (hB1.cell (p := ⟨X, 0, none⟩) xl).trans HC0.out; have ct : w1.cell? ⟨Tb, i, none⟩ = some (.bool (d.tk i)) := (hB1.cell (p := ⟨Tb, i, none⟩) tl).trans HCT.out; have xl1 : X < w1.heap.size := Nat.lt_of_lt_of_le xl hB1.size; have tl1 : Tb < w1.heap.size := Nat.lt_of_lt_of_le tl hB1.size; clear h1 hk hB1)
   go_ret
   exact ⟨rfl, HB1.out⟩
end Go.Proofs.Ytkgbjpdoigdjnab
