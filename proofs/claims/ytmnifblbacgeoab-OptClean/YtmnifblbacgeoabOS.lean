import Derived.Test.YtmnifblbacgeoabOP
namespace Go.Proofs.Ytmnifblbacgeoab
open Go.RowKit
open Go.Maps
set_option maxRecDepth 100000
set_option linter.unusedVariables false
set_option linter.unusedSimpArgs false

/-! ## opt: what is kept -/
structure KS where
  l : List ON
  t : Nat → Option Nat
def keS (h : Nat → ON) (sy : Nat → Bool) : Nat → KS
  | 0 => ⟨[], fun _ => some 0⟩
  | i + 1 => if sy i then ⟨(keS h sy i).l ++ [ren (h i) (upd (keS h sy i).t i (some (keS h sy i).l.length))], upd (keS h sy i).t i (some (keS h sy i).l.length)⟩ else keS h sy i
theorem keS_some (h : Nat → ON) (sy : Nat → Bool) : ∀ i x, ∃ v, (keS h sy i).t x = some v
  | 0, x => ⟨0, rfl⟩
  | i + 1, x => by
    show ∃ v, (if sy i then _ else _ : KS).t x = some v
    split
    · show ∃ v, upd _ i _ x = some v
      unfold upd
      split
      · exact ⟨_, rfl⟩
      · exact keS_some h sy i x
    · exact keS_some h sy i x
theorem keS_len (h : Nat → ON) (sy : Nat → Bool) : ∀ i, (keS h sy i).l.length ≤ i
  | 0 => Nat.le_refl _
  | i + 1 => by
    have := keS_len h sy i
    show (if sy i then _ else _ : KS).l.length ≤ i + 1
    split
    · simp; omega
    · omega
structure KL (w W : World) (H n : Nat) (h : Nat → ON) (sy : Nat → Bool) (bp : Option Addr) (j : Nat) (sv : Value) (Tt : Nat → Option Nat) : Prop where
  o : W.ownsRow w.heap.size 67 7 sv (keS h sy j).l.length (onsV (keS h sy j).l)
  tr : W.rowIs H 3 n (fun i => .int .i64 (oI (Tt i)))
  bH : w.heap.size ≤ H
  ops : OpsR W bp n (fun i => rO (h i))
  bel : Below w.heap.size w W
theorem owns_below {w w' : World} {base n : Nat} {v : Value} {xs : List Value} (h : w.ownsRow base 67 7 v n xs) (b : Below w.heap.size w w') : w'.ownsRow base 67 7 v n xs :=
  owns_keep h fun g hg => by obtain ⟨-, cur, hh⟩ := owns_blk h hg; exact b.block g (row_lt hh)
theorem KL.below {w W W' : World} {H n : Nat} {h : Nat → ON} {sy : Nat → Bool} {bp : Option Addr} {j : Nat} {sv : Value} {Tt : Nat → Option Nat} (x : KL w W H n h sy bp j sv Tt) (k : Below W.heap.size W W') : KL w W' H n h sy bp j sv Tt :=
  ⟨owns_below x.o k, x.tr.of_block (k.block _ x.tr.lt), x.bH, x.ops.below k (Nat.le_refl _), x.bel.trans (k.mono x.bel.size)⟩
theorem KL.set {w W : World} {H n : Nat} {h : Nat → ON} {sy : Nat → Bool} {bp : Option Addr} {j : Nat} {sv : Value} {Tt : Nat → Option Nat} (x : KL w W H n h sy bp j sv Tt) (hob : ∀ b off, bp = some ⟨b, off, none⟩ → b < w.heap.size) (i v : Nat) : KL w (W.setCell ⟨H, i, none⟩ (.int .i64 v)) H n h sy bp j sv (upd Tt i (some v)) := by
  obtain ⟨cH, hcH, -, -⟩ := x.tr
  refine ⟨owns_keep x.o fun g hg => blk_other (fun e => ?_) _, (x.tr.set i _).congr fun k hk => ?_, x.bH, ops_bel x.ops ((Below.refl w.heap.size W).setCell x.bH _) hob, x.bel.setCell x.bH _⟩
  · obtain ⟨-, cur, hh⟩ := owns_blk x.o hg
    rw [e, hcH] at hh; cases hh
  · show _ = Value.int .i64 (oI (upd Tt i (some v) k))
    unfold upd
    by_cases e : k = i
    · rw [if_pos e, if_pos e]; rfl
    · rw [if_neg e, if_neg e]
theorem KL.app {w W W2 : World} {H n g cap2 : Nat} {h : Nat → ON} {sy : Nat → Bool} {bp : Option Addr} {j : Nat} {sv : Value} {Tt : Nat → Option Nat} {ro : ON} (x : KL w W H n h sy bp j sv Tt) (hob : ∀ b off, bp = some ⟨b, off, none⟩ → b < w.heap.size) (hown : W2.ownsRow w.heap.size 67 7 (.slice (some ⟨g, 0, none⟩) ((keS h sy j).l.length + 1) cap2) ((keS h sy j).l.length + 1) (onsV (keS h sy j).l ++ onL ro)) (hgr : W.grownBy W2 sv.ownBlock) (hj : sy j = true) (hT : Tt = upd (keS h sy j).t j (some (keS h sy j).l.length)) (hro : ren (h j) Tt = ro) : KL w W2 H n h sy bp (j + 1) (.slice (some ⟨g, 0, none⟩) ((keS h sy j).l.length + 1) cap2) (keS h sy (j + 1)).t := by
  have e : keS h sy (j + 1) = ⟨(keS h sy j).l ++ [ro], Tt⟩ := by
    show (if sy j then _ else _ : KS) = _
    rw [if_pos hj, ← hT, hro]
  obtain ⟨cH, hcH, -, -⟩ := x.tr
  have hb : Below w.heap.size W W2 := Below.grown (Below.refl _ _) hgr x.bel.size (fun k hk => (owns_blk x.o hk).1)
  rw [e]
  refine ⟨?_, x.tr.of_block (hgr.block H x.tr.lt (fun q => ?_)), x.bH, ops_bel x.ops hb hob, x.bel.trans hb⟩
  · rw [e]
    show W2.ownsRow w.heap.size 67 7 _ ((keS h sy j).l ++ [ro]).length (onsV ((keS h sy j).l ++ [ro]))
    rw [onsV_app, List.length_append]
    exact hown
  · obtain ⟨-, cur, hh⟩ := owns_blk x.o q.symm
    rw [hcH] at hh; cases hh
set_option maxHeartbeats 8000000 in
theorem kept_any (n cap : Nat) (bp : Option Addr) (h : Nat → ON) (sy : Nat → Bool) (Sb : Nat) (w : World) (hO : OpsR w bp n (fun i => rO (h i))) (hY : w.rowIs Sb 4 n (fun i => .bool (sy i))) (n1 : 0 < n) (hn : n ≤ 2048) (hk : ∀ i, i < n → ∀ q, q < tkN (h i).kd → arg (h i) q < n) :
    Calls Try.prog 120 #[.slice bp n cap, .slice (some ⟨Sb, 0, none⟩) n n] w fun e w' => ∃ sv, e = .returned sv ∧ w'.ownsRow w.heap.size 67 7 sv (keS h sy n).l.length (onsV (keS h sy n).l) ∧ Below w.heap.size w w' := by
  obtain ⟨b, off, rfl, hb, hc⟩ := hO n1
  have HO : Hid (OpsR w (some ⟨b, off, none⟩) n (fun i => rO (h i))) := hO
  have HOB : Hid (∀ b' off', (some ⟨b, off, none⟩ : Option Addr) = some ⟨b', off', none⟩ → b' < w.heap.size) := show ∀ b' off', _ from fun b' off' e => by cases e; exact hb
  have HK : Hid (∀ i, i < n → ∀ q, q < tkN (h i).kd → arg (h i) q < n) := hk
  have HN1 : Hid (0 < n) := n1
  have HN2 : Hid (n ≤ 2048) := hn
  have HY : Hid (∀ i, i < n → w.cell? ⟨Sb, i, none⟩ = some (.bool (sy i))) := show ∀ i, _ from fun i hi => hY.cell hi
  have HYL : Hid (Sb < w.heap.size) := hY.lt
  have ni : (n : Int) ≤ 2048 := by omega
  have ni0 : (0 : Int) ≤ (n : Int) := by omega
  obtain ⟨i3, hi3, hz3, hs3, hb3⟩ := info_parts info3
  have hmk := run_make_row 29 3 i3 _ Try.underlying29 hi3 hz3 hs3 rfl .i64 .i64 n (by rw [hb3]; omega) (by omega)
  obtain ⟨io, hio, hzo, hso, hbo⟩ := info_parts info160
  clear hO hk hc hb hY
  go_enter Try.func120, Try.ntmps120
  go_upto_region 3 with fail
  refine wp_gen (fun W' => KL w W' w.heap.size n h sy (some ⟨b, off, none⟩) 0 (.slice none 0 0) (keS h sy 0).t) ⟨World.ownsRow_nil _ _ _ _, (World.rowIs_made w (.int .i64 0) n 3).congr (fun i _ => rfl), Nat.le_refl _, ops_bel HO.out ((Below.refl _ _).alloc (Nat.le_refl _) _) HOB.out, (Below.refl _ _).alloc (Nat.le_refl _) _⟩ ?_
  intro V hV
  have HV : Hid _ := hV
  clear hV hmk
  go_wp2
  go_loopw [5, 14] (fun lv i' wr => ∃ (j : Nat), i' = .int .i64 j ∧ j ≤ n ∧ KL w wr w.heap.size n h sy (some ⟨b, off, none⟩) j lv (keS h sy j).t) (fun _ i _ => n - (intOf i).toNat)
  case atStart => exact ⟨0, rfl, by omega, HV.out⟩
  case round =>
    obtain ⟨j, rfl, hj, hS⟩ := hrel
    have HL : Hid _ := hS
    obtain ⟨sa, sn, sc, rfl⟩ := owns_sl hS.o
    have HJ : Hid (j ≤ n) := hj
    clear hS HV
    by_cases hlt : j < n
    · have hji : (j : Int) < (n : Int) := by omega
      have dj : decide ((j : Int) < (n : Int)) = true := decide_eq_true hji
      have j0 : (0 : Int) ≤ (j : Int) := by omega
      have HLT : Hid (j < n) := hlt
      obtain ⟨b', off', e', lb', hc'⟩ := HL.out.ops HN1.out
      cases e'
      have hop := hc' j hlt
      have m0 : wr.cell? ⟨b, off + j * 7, none⟩ = some (.int .i64 (h j).kd) := hop.c0
      have m1 : wr.cell? ⟨b, off + j * 7 + 1, none⟩ = some (.int .i64 (h j).w) := hop.c1
      have m2 : wr.cell? ⟨b, off + j * 7 + 2, none⟩ = some (.int .i64 (h j).a) := hop.c2
      have m3 : wr.cell? ⟨b, off + j * 7 + 3, none⟩ = some (.int .i64 (h j).b) := hop.c3
      have m4 : wr.cell? ⟨b, off + j * 7 + 4, none⟩ = some (.int .i64 (h j).c) := hop.c4
      have m5 : wr.cell? ⟨b, off + j * 7 + 5, none⟩ = some (.int .u32 (h j).k) := hop.c5
      have m6 : wr.cell? ⟨b, off + j * 7 + 6, none⟩ = some (.int .i64 (h j).n) := hop.c6
      have ys : wr.cell? ⟨Sb, j, none⟩ = some (.bool (sy j)) := (HL.out.bel.cell (p := ⟨Sb, j, none⟩) HYL.out).trans (HY.out j hlt)
      have yl : Sb < wr.heap.size := Nat.lt_of_lt_of_le HYL.out HL.out.bel.size
      have HA : Hid _ := HL.out.below ((Below.refl wr.heap.size wr).alloc (Nat.le_refl _) (.cells #[.int .i64 (h j).kd, .int .i64 (h j).w, .int .i64 (h j).a, .int .i64 (h j).b, .int .i64 (h j).c, .int .u32 (h j).k, .int .i64 (h j).n] 67))
      have lbW : b < wr.heap.size := lb'
      have lb1 := Nat.lt_succ_of_lt lbW
      have nbW : b ≠ wr.heap.size := by omega
      have yl1 := Nat.lt_succ_of_lt yl
      have nyW : Sb ≠ wr.heap.size := by omega
      have tlW := HL.out.tr.lt
      have tl1 := Nat.lt_succ_of_lt tlW
      have ntW : w.heap.size ≠ wr.heap.size := by omega
      have tf := HL.out.tr.frozen
      have tc : wr.cell? ⟨w.heap.size, j, none⟩ = some (.int .i64 (oI ((keS h sy j).t j))) := HL.out.tr.cell (i := j) hlt
      have slen : sn = (keS h sy j).l.length := by
        rcases HL.out.o.2 with ⟨hv, h0⟩ | ⟨g', c', cur, hv, -⟩
        · cases hv; simpa using h0.symm
        · cases hv; rfl
      subst slen
      clear hop hc' hlt lb'
      obtain ⟨Y, HYJ⟩ : ∃ Y, Hid (sy j = Y) := ⟨_, rfl⟩
      rw [HYJ.out] at ys
      cases Y with
      | false =>
        have e : keS h sy (j + 1) = keS h sy j := by show (if sy j then _ else _ : KS) = _; rw [if_neg (by rw [HYJ.out]; decide)]
        have HE : Hid (KL w (wr.alloc (.cells #[.int .i64 (h j).kd, .int .i64 (h j).w, .int .i64 (h j).a, .int .i64 (h j).b, .int .i64 (h j).c, .int .u32 (h j).k, .int .i64 (h j).n] 67)) w.heap.size n h sy (some ⟨b, off, none⟩) (j + 1) (.slice sa (keS h sy j).l.length sc) (keS h sy (j + 1)).t) := ⟨by rw [e]; exact HA.out.o, by rw [e]; exact HA.out.tr, HA.out.bH, HA.out.ops, HA.out.bel⟩
        clear e
        go_wp2
        go_round
        case rel => exact ⟨j + 1, by go_num, HLT.out, HE.out⟩
        case measure => have := HLT.out; simp [intOf]; omega
      | true =>
        obtain ⟨Tt, HTt⟩ : ∃ Tt, Hid (Tt = upd (keS h sy j).t j (some (keS h sy j).l.length)) := ⟨_, rfl⟩
        have HK2 : Hid (KL w ((wr.setCell ⟨w.heap.size, j, none⟩ (.int .i64 (keS h sy j).l.length)).alloc (.cells #[.int .i64 (h j).kd, .int .i64 (h j).w, .int .i64 (h j).a, .int .i64 (h j).b, .int .i64 (h j).c, .int .u32 (h j).k, .int .i64 (h j).n] 67)) w.heap.size n h sy (some ⟨b, off, none⟩) j (.slice sa (keS h sy j).l.length sc) Tt) := HTt.out ▸ (HL.out.set HOB.out j (keS h sy j).l.length).below ((Below.refl _ _).alloc (Nat.le_refl _) _)
        obtain ⟨ro, HRO⟩ : ∃ ro, Hid (ren (h j) Tt = ro) := ⟨_, rfl⟩
        have HSM : Hid (∀ q, q < tkN (h j).kd → ∃ v, Tt (arg (h j) q) = some v) := show ∀ q, _ from fun q _ => by
          rw [HTt.out]
          unfold upd
          split
          · exact ⟨_, rfl⟩
          · exact keS_some h sy j _
        have HLN : Hid ((keS h sy j).l.length ≤ 2048) := show _ ≤ 2048 by have := keS_len h sy j; have := HJ.out; omega
        have H63 : Hid ((keS h sy j).l.length + 1 ≤ maxLen) := show _ ≤ maxLen by unfold maxLen; have := HLN.out; omega
        have HBY : Hid (((keS h sy j).l.length + 1) * 56 ≤ 140737488355328) := show _ ≤ _ by have := HLN.out; omega
        have HONE : Hid (∀ u ∈ onL ro, u.oneCell' = true) := show ∀ u ∈ onL ro, _ from fun u hu => by
          simp only [onL, List.mem_cons, List.not_mem_nil, or_false] at hu
          rcases hu with rfl | rfl | rfl | rfl | rfl | rfl | rfl <;> rfl
        go_wp2_with (first
          | (go_at_call 122; refine (ren_any w.heap.size n n Tt (h j) _ HK2.out.tr (HK.out j HLT.out) HSM.out).mono ?_; rintro e w3 ⟨rfl, h3⟩; rw [HRO.out]; have H3 : Hid _ := HK2.out.below h3; have H4 : Hid _ := H3.out.below ((Below.refl w3.heap.size w3).alloc (Nat.le_refl _) (.cells #[.int .i64 ro.kd, .int .i64 ro.w, .int .i64 ro.a, .int .i64 ro.b, .int .i64 ro.c, .int .u32 ro.k, .int .i64 ro.n] 67)); have HNW : Hid (∀ j' u, (onL ro)[j']? = some u → (w3.alloc (.cells #[.int .i64 ro.kd, .int .i64 ro.w, .int .i64 ro.a, .int .i64 ro.b, .int .i64 ro.c, .int .u32 ro.k, .int .i64 ro.n] 67)).cell? ((⟨w3.heap.size, 0, none⟩ : Addr).add j') = some u) := (show ∀ j' u, _ from fun j' u hu => (by rw [Addr.add_mid, Nat.zero_add, row_cell (heap_alloc_last w3 _)]; simpa [onL] using hu)); clear h3)
          | (at_builtin; refine wpList_append_lies _ rfl _ _ _ rfl w.heap.size 67 io _ 7 56 Try.underlying23 hio hzo hso hbo rfl (by decide) (.slice sa (keS h sy j).l.length sc) (keS h sy j).l.length (onsV (keS h sy j).l) rfl H4.out.o ⟨w3.heap.size, 0, none⟩ 1 1 (onL ro) rfl rfl HNW.out HONE.out (by decide) H63.out HBY.out H4.out.bel.size _ rfl ?_; intro g cap2 w5 hown hgr hgg hlt; have H5 : Hid _ := H4.out.app HOB.out hown hgr HYJ.out HTt.out HRO.out; clear hown hgr hgg hlt))
        go_round
        case rel => exact ⟨j + 1, by go_num, HLT.out, H5.out⟩
        case measure => have := HLT.out; simp [intOf]; omega
    · obtain rfl : j = n := by have := HJ.out; omega
      have dj : decide ((j : Int) < (j : Int)) = false := decide_eq_false (by omega)
      clear hlt
      go_wp2
      go_ret
      exact ⟨_, rfl, HL.out.o, HL.out.bel⟩
end Go.Proofs.Ytmnifblbacgeoab
