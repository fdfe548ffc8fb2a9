import Derived.Test.YtkgbjpdoigdjnaaJ17
import Derived.Test.YtkgbjpdoigdjnaaJ18
import Derived.Test.YtkgbjpdoigdjnaaJ19
import Derived.Test.YtkgbjpdoigdjnaaJ20
import Derived.Test.YtkgbjpdoigdjnaaJ21
import Derived.Test.YtkgbjpdoigdjnaaJ22
import Derived.Test.YtkgbjpdoigdjnaaJ03
import Derived.Test.YtkgbjpdoigdjnaaJ23
import Derived.Test.YtkgbjpdoigdjnaaJ24
namespace Go.Proofs.Ytkgbjpdoigdjnaa
open Go.RowKit

theorem rmem_any (k : RB) (m : MS) (i : IR) (s t : GS) (at' : Nat) (w : World) (H : MmIn w k m i s t at') (hop : memOp i.op) :
    Calls Try.prog 98 #[.pointer (some ⟨k.y, 0, none⟩), insA i.op i.D i.S i.O i.imm, gsV s, gsV t, .int .u32 at'] w fun e w' =>
      e = .returned (.tuple #[gsV (memF m i s t at').t, .agg #[.int .i64 (memF m i s t at').k, .int .u32 (memF m i s t at').a]]) ∧ RM w' k (memF m i s t at').m ∧ Chg k.all w w' := by
  rcases hop with h | h | h | h | h | h | h | h | h | h | h
  · exact rmem1 k m i s t at' w H (.inl h)
  · exact rmem1 k m i s t at' w H (.inr (.inl h))
  · exact rmem1 k m i s t at' w H (.inr (.inr (.inl h)))
  · exact rmem1 k m i s t at' w H (.inr (.inr (.inr (.inl h))))
  · exact rmem1 k m i s t at' w H (.inr (.inr (.inr (.inr h))))
  · exact rmem2 k m i s t at' w H (.inl h)
  · exact rmem2 k m i s t at' w H (.inr (.inl h))
  · exact rmem2 k m i s t at' w H (.inr (.inr h))
  · exact rmem3 k m i s t at' w H h
  · have h0 := H.iok.O0
    have h1 := H.iok.st h
    by_cases e0 : i.O = 0
    · exact rmem4a k m i s t at' w H h e0
    by_cases e1 : i.O = 1
    · exact rmem4b k m i s t at' w H h e1
    · exact rmem4c k m i s t at' w H h (by omega)
  · exact rmem5 k m i s t at' w H h
end Go.Proofs.Ytkgbjpdoigdjnaa

namespace Go.Proofs.Ytkgbjpdoigdjnaa
open Go.RowKit
set_option maxRecDepth 100000
set_option linter.unusedVariables false
set_option linter.unusedSimpArgs false

set_option maxHeartbeats 4000000 in
theorem rstep7 (k : RB) (m : MS) (s0 s : GS) (i : IR) (w : World) (hrm : RM w k m) (hs0 : s0.Ok) (hs : s0.setF (s0.f % 16) = s)
    (hins : ∀ w1, RM w1 k m → Calls Try.prog 97 #[.pointer (some ⟨k.y, 0, none⟩), .int .u32 s.pc] w1 fun e w' => e = .returned (insV i) ∧ Below w1.heap.size w1 w') (hk : i.k = 0) (hok : InsOk i) (hop : memOp i.op) (hmok : m.Ok) :
    Calls Try.prog 37 #[.pointer (some ⟨k.y, 0, none⟩), gsV s0] w fun e w' =>
      e = .returned (.tuple #[gsV (stepH m s i).t, .agg #[.int .i64 (stepH m s i).k, .int .u32 (stepH m s i).a]]) ∧ RM w' k (stepH m s i).m ∧ Chg k.all w w' := by
  obtain ⟨op, d, e, O, im, n, ik, ia⟩ := i
  have HA : Hid (StA w (stW0 w (s0.setF (s0.f % 16))) k m (s0.setF (s0.f % 16))) := st_start hrm
  have HF16 : Hid ((s0.f : Int) % 16 = ((s0.f % 16 : Nat) : Int)) := (Int.natCast_emod s0.f 16).symm
  have HI : Hid _ := hins
  have HS : Hid (s0.setF (s0.f % 16) = s) := hs
  have HSO : Hid s.Ok := hs ▸ hs0.setF _ (by omega)
  simp only at hk
  subst hk
  have HOP : Hid (memOp op) := hop
  have HOK : Hid _ := hok
  have hd : d < 8 := Nat.lt_succ_of_le hok.D1
  have he : e < 8 := Nat.lt_succ_of_le hok.S1
  have hd0 : (0 : Int) ≤ d := Int.natCast_nonneg _
  have hd1 : (d : Int) < 8 := by omega
  have he0 : (0 : Int) ≤ e := Int.natCast_nonneg _
  have he1 : (e : Int) < 8 := by omega
  have hn0 : (0 : Int) ≤ n := Int.natCast_nonneg _
  have hn1 : (n : Int) < 4294967296 := by have h9 : n ≤ 9 := hok.n1; omega
  have HMK : Hid m.Ok := hmok
  clear hop hok hmok
  clear hrm hins hs hs0
  go_enter Try.func37, Try.ntmps37
  go_upto_region 2 with fail
  rw [HF16.out]
  change Code.wp _ _ _ _ (stW0 w (s0.setF (s0.f % 16)))
  have HA' := HA.out
  rw [HS.out] at HA' ⊢
  clear HA
  have HA : Hid _ := HA'
  clear HA'
  generalize stW0 w s = W at HA ⊢
  have c8 := gs_pc HA.out.b0
  have aS0 := gs_reg HA.out.b0 e he
  clear aS0
  go_upto_block 0 with (go_at_call 97; refine (HI.out _ HA.out.rm).mono ?_; rintro e1 w1 ⟨rfl, hb1⟩; have HA1 : Hid (StA w w1 k m s) := HA.out.below hb1; clear hb1; obtain ⟨x0, x1, x2, x3, x4, x5, x6, x7, x8, x9⟩ := gs_all HA1.out.b0; have l0 := lt_of_block HA1.out.b0; have l1 := lt_of_block HA1.out.b1; have l2 := lt_of_block HA1.out.b2; have xD := gs_reg HA1.out.b0 d hd; have xE := gs_reg HA1.out.b0 e he; have l01 := Nat.lt_succ_of_lt l0; have l02 := Nat.lt_succ_of_lt l01)
  rw [← w32_cast ((s.pc : Int) + n), ← w32_cast ((s.R e : Int) + im)]
  change Code.wp _ _ _ _ (((w1.alloc (Gu.insB op d e O im)).alloc (stopB 0 ia)).alloc (gsB (s.setPC (w32 ((s.pc : Int) + n)))))
  have HB : Hid (StB w (((w1.alloc (Gu.insB op d e O im)).alloc (stopB 0 ia)).alloc (gsB (s.setPC (w32 ((s.pc : Int) + n))))) k m s ⟨op, d, e, O, im, n, 0, ia⟩ (s.setPC (w32 ((s.pc : Int) + n))) w1.heap.size) := stB_start (i := ⟨op, d, e, O, im, n, 0, ia⟩) HA1.out 0 ia
  clear x0 x1 x2 x3 x4 x5 x6 x7 x8 x9 l0 l1 l2 l01 l02 xD xE HA1 HA c8 HI
  generalize (((w1.alloc (Gu.insB op d e O im)).alloc (stopB 0 ia)).alloc (gsB (s.setPC (w32 ((s.pc : Int) + n))))) = W2 at HB ⊢
  generalize w1.heap.size = q at HB ⊢
  have HNL : Hid (w32 ((s.pc : Int) + n) < 4294967296) := w32_lt _
  have ci := Gu.ins_cells HB.out.b3
  obtain ⟨i0, i1, i2, i3, i4⟩ := ci
  have aS := gs_reg HB.out.a.b0 e he
  have aD := gs_reg HB.out.a.b0 d hd
  have a9 := gs_f HB.out.a.b0
  have tD := gs_reg HB.out.b5 d hd
  have t8 := gs_pc HB.out.b5
  have t9 := gs_f HB.out.b5
  have tf := gs_fr HB.out.b5
  have hq0 := HB.out.hq
  have hd8 : ¬ d = 9 := by omega
  have hd8' : ¬ 9 = d := by omega
  have hne : ¬ (w.heap.size = q + 1 + 1) := by omega
  have hne1 : ¬ (q + 1 + 1 = w.heap.size) := by omega
  have c1 : (op == 1) = false := by have := HOP.out; unfold memOp at this; simp; omega
  have c5 : (op == 5) = false := by have := HOP.out; unfold memOp at this; simp; omega
  have c6 : (op == 6) = false := by have := HOP.out; unfold memOp at this; simp; omega
  have c7 : (op == 7) = false := by have := HOP.out; unfold memOp at this; simp; omega
  have c12 : (op == 12) = false := by have := HOP.out; unfold memOp at this; simp; omega
  have c13 : (op == 13) = false := by have := HOP.out; unfold memOp at this; simp; omega
  have c9 : (op == 9) = false := by have := HOP.out; unfold memOp at this; simp; omega
  have c16 : (op == 16) = false := by have := HOP.out; unfold memOp at this; simp; omega
  have c22 : (op == 22) = false := by have := HOP.out; unfold memOp at this; simp; omega
  have c23 : (op == 23) = false := by have := HOP.out; unfold memOp at this; simp; omega
  have c20 : (op == 20) = false := by have := HOP.out; unfold memOp at this; simp; omega
  have c17 : (op == 17) = false := by have := HOP.out; unfold memOp at this; simp; omega
  have c18 : (op == 18) = false := by have := HOP.out; unfold memOp at this; simp; omega
  have c19 : (op == 19) = false := by have := HOP.out; unfold memOp at this; simp; omega
  have c21 : (op == 21) = false := by have := HOP.out; unfold memOp at this; simp; omega
  have c27 : (op == 27) = false := by have := HOP.out; unfold memOp at this; simp; omega
  have c28 : (op == 28) = false := by have := HOP.out; unfold memOp at this; simp; omega
  have c29 : (op == 29) = false := by have := HOP.out; unfold memOp at this; simp; omega
  have c0 : (op == 0) = false := by have := HOP.out; unfold memOp at this; simp; omega
  have HF0 : Hid (stepH m s ⟨op, d, e, O, im, n, 0, ia⟩ = memF m ⟨op, d, e, O, im, n, 0, ia⟩ s (s.setPC (w32 ((s.pc : Int) + n))) (w32 ((s.R e : Int) + im))) := by
    have := HOP.out
    unfold memOp at this
    show stepH _ _ _ = _
    unfold stepH
    simp only
    rw [if_neg (by simp)]
    repeat rw [if_neg (by omega)]
  obtain ⟨R, HF⟩ : ∃ R : SO, Hid (memF m ⟨op, d, e, O, im, n, 0, ia⟩ s (s.setPC (w32 ((s.pc : Int) + n))) (w32 ((s.R e : Int) + im)) = R ∧ stepH m s ⟨op, d, e, O, im, n, 0, ia⟩ = R) := ⟨_, rfl, HF0.out⟩
  clear HF0
  obtain ⟨x0, x1, x2, x3, x4, x5, x6, x7, x8, x9⟩ := gs_all HB.out.a.b0
  obtain ⟨y0, y1, y2, y3, y4, y5, y6, y7, y8, y9⟩ := gs_all HB.out.b5
  go_wp2_with (go_at_call 98; refine (rmem_any k m ⟨op, d, e, O, im, n, 0, ia⟩ s (s.setPC (w32 ((s.pc : Int) + n))) (w32 ((s.R e : Int) + im)) _ ⟨HB.out.a.rm, HMK.out, HSO.out, HSO.out.setPC _ (w32_lt _), HOK.out, w32_lt _⟩ HOP.out).mono ?_; rintro e2 w2 ⟨rfl, hR2, hC2⟩; rw [HF.out.1] at hR2; rw [HF.out.1]; have HA2 : Hid (StA w w2 k R.m s) := HB.out.a.after hR2 hC2; obtain ⟨z0, z1, z2, z3, z4, z5, z6, z7, z8, z9⟩ := gs_all HA2.out.b1; have zf := gs_fr HA2.out.b1; obtain ⟨p0, p1, pf0, pf1⟩ := stop_cells HA2.out.b2; clear hR2 hC2)
  exact bodyPost_ret (v := .tuple #[gsV R.t, .agg #[.int .i64 R.k, .int .u32 R.a]]) (by simp [results, Try.results37, go_sem, x0, x1, x2, x3, x4, x5, x6, x7, x8, x9, z0, z1, z2, z3, z4, z5, z6, z7, z8, z9, p0, p1]) rfl ⟨by rw [HF.out.2], by
    rw [HF.out.2]
    have hB := HA2.out.rm
    have hl := HA2.out.lk
    repeat first
      | with_reducible exact hB
      | with_reducible refine RM.drew ?_
      | with_reducible refine RM.setOff' ?_ hl (by omega) _ _
      | with_reducible refine RM.alloc ?_ _, by
    have hB := HA2.out.chg
    repeat first
      | with_reducible exact hB
      | with_reducible refine Chg.drew ?_
      | with_reducible refine Chg.setNew ?_ (by omega) _ _
      | with_reducible refine Chg.alloc ?_ _⟩
end Go.Proofs.Ytkgbjpdoigdjnaa

namespace Go.Proofs.Ytkgbjpdoigdjnaa
open Go.RowKit
set_option maxRecDepth 100000
set_option linter.unusedVariables false
set_option linter.unusedSimpArgs false

abbrev soV (o : SO) : Value := .tuple #[gsV o.t, .agg #[.int .i64 o.k, .int .u32 o.a]]
theorem rstep_any (k : RB) (m : MS) (s0 : GS) (w : World) (hrm : RM w k m) (hm : m.Ok) (hs : s0.Ok) :
    Calls Try.prog 37 #[.pointer (some ⟨k.y, 0, none⟩), gsV s0] w fun e w' => e = .returned (soV (stepF m s0)) ∧ RM w' k (stepF m s0).m ∧ Chg k.all w w' := by
  rw [stepF_eq]
  have hins : ∀ w1, RM w1 k m → Calls Try.prog 97 #[.pointer (some ⟨k.y, 0, none⟩), .int .u32 (s0.setF (s0.f % 16)).pc] w1 fun e w' => e = .returned (insV (insOf m s0.pc)) ∧ Below w1.heap.size w1 w' :=
    fun w1 h1 => rins_any k s0.pc m w1 hs.p hm h1
  by_cases hk : (insOf m s0.pc).k = 0
  · have hok := insOf_ok m s0.pc hm hk
    have h0 := hok.op0
    have h1 := hok.op1
    by_cases g1 : (insOf m s0.pc).op = 6 ∨ (insOf m s0.pc).op = 7 ∨ (insOf m s0.pc).op = 9 ∨ (insOf m s0.pc).op = 16 ∨ (insOf m s0.pc).op = 22 ∨ (insOf m s0.pc).op = 23 ∨ (insOf m s0.pc).op = 20 ∨ (insOf m s0.pc).op = 0
    · exact rstep1 k m s0 _ _ w hrm hs rfl hins hk hok g1
    by_cases g2 : (insOf m s0.pc).op = 17 ∨ (insOf m s0.pc).op = 18 ∨ (insOf m s0.pc).op = 19
    · exact rstep2 k m s0 _ _ w hrm hs rfl hins hk hok g2
    by_cases g3 : (insOf m s0.pc).op = 12 ∨ (insOf m s0.pc).op = 13
    · exact rstep3 k m s0 _ _ w hrm hs rfl hins hk hok g3
    by_cases g4 : (insOf m s0.pc).op = 21
    · exact rstep4 k m s0 _ _ w hrm hs rfl hins hk hok g4
    by_cases g5 : (insOf m s0.pc).op = 27 ∨ (insOf m s0.pc).op = 28 ∨ (insOf m s0.pc).op = 29
    · exact rstep5 k m s0 _ _ w hrm hs rfl hins hk hok g5
    by_cases g6 : (insOf m s0.pc).op = 1 ∨ (insOf m s0.pc).op = 5
    · exact rstep6 k m s0 _ _ w hrm hs rfl hins hk hok g6
    exact rstep7 k m s0 _ _ w hrm hs rfl hins hk hok (by unfold memOp; omega) hm
  · exact rstep_bad k m s0 _ _ w hrm hs rfl hins hk

/-! ## A step leaves what is right right -/
structure SO.Ok (o : SO) : Prop where
  t : o.t.Ok
  m : o.m.Ok
theorem ldG_ok {m : MS} {s : GS} (hm : m.Ok) (hs : s.Ok) (a : Nat) (n : Int) (g : Nat → GS) (hg : ∀ v, v < 4294967296 → (g v).Ok) : (ldG m s a n g).Ok := by
  unfold ldG
  cases badN m 1 a n.toNat with
  | some x => exact ⟨hs, hm⟩
  | none => exact ⟨hg _ (ldN_lt hm _ _), hm⟩
theorem stG_ok {m : MS} {s : GS} (hm : m.Ok) (hs : s.Ok) (a : Nat) (n : Int) (v : Nat) (t : GS) (ht : t.Ok) : (stG m s a n v t).Ok := by
  unfold stG
  cases sto m a n with
  | some x => exact ⟨hs, hm⟩
  | none => exact ⟨ht, ok_storeT hm _ _ _⟩
theorem fl_lt (k : Int) (a b old : Nat) : (Fl.flagsF k a b old).toNat < 4294967296 := by have := flagsF_bd k a b old; omega
theorem swT_ok {i : IR} {s t : GS} (ht : t.Ok) {v : Nat} (hv : v < 4294967296) : (swT i s t v).Ok := by
  unfold swT
  by_cases h1 : i.op = 24
  · rw [if_pos h1]; exact ht.setR _ _ hv
  rw [if_neg h1]
  by_cases h2 : i.op = 25
  · rw [if_pos h2]; exact (ht.setR _ _ hv).setF _ (fl_lt ..)
  rw [if_neg h2]
  by_cases h3 : v = s.R 0
  · rw [if_pos h3]; exact ht.setF _ (fl_lt ..)
  rw [if_neg h3]; exact (ht.setF _ (fl_lt ..)).setR _ _ hv
theorem sx_lt (O : Int) (v : Nat) (hv : v < 4294967296) (h1 : O = 1 → v ≤ 255) (h3 : O = 3 → v ≤ 65535) : sx O v < 4294967296 := by
  unfold sx
  by_cases g1 : O = 1 ∧ 128 ≤ v
  · rw [if_pos g1]; have := h1 g1.1; omega
  rw [if_neg g1]
  by_cases g2 : O = 3 ∧ 32768 ≤ v
  · rw [if_pos g2]; have := h3 g2.1; omega
  rw [if_neg g2]; exact hv
theorem memF_ok {m : MS} {i : IR} {s t : GS} (hm : m.Ok) (hs : s.Ok) (ht : t.Ok) (at' : Nat) : (memF m i s t at').Ok := by
  have hdn := w32_lt ((s.R 7 : Int) - 4)
  have hup := w32_lt ((s.R 7 : Int) + 4)
  unfold memF
  simp only
  by_cases h1 : i.op = 11
  · rw [if_pos h1]; exact ldG_ok hm hs _ _ _ fun v hv => ht.setPC _ hv
  rw [if_neg h1]
  by_cases h2 : i.op = 14
  · rw [if_pos h2]; exact stG_ok hm hs _ _ _ _ (ht.setR _ _ hdn)
  rw [if_neg h2]
  by_cases h3 : i.op = 3
  · rw [if_pos h3]; exact stG_ok hm hs _ _ _ _ (ht.setR _ _ hdn)
  rw [if_neg h3]
  by_cases h4 : i.op = 8
  · rw [if_pos h4]; exact stG_ok hm hs _ _ _ _ ((ht.setR _ _ hdn).setPC _ (w32_lt _))
  rw [if_neg h4]
  by_cases h5 : i.op = 10
  · rw [if_pos h5]; exact stG_ok hm hs _ _ _ _ ((ht.setR _ _ hdn).setPC _ (hs.r _))
  rw [if_neg h5]
  by_cases h6 : i.op = 15
  · rw [if_pos h6]; exact ldG_ok hm hs _ _ _ fun v hv => (ht.setR _ _ hup).setR _ _ hv
  rw [if_neg h6]
  by_cases h7 : i.op = 4
  · rw [if_pos h7]; exact ldG_ok hm hs _ _ _ fun v hv => (ht.setR _ _ hup).setF _ (by omega)
  rw [if_neg h7]
  by_cases h8 : i.op = 2
  · rw [if_pos h8]; exact ldG_ok hm hs _ _ _ fun v hv => (ht.setR _ _ hup).setPC _ hv
  rw [if_neg h8]
  by_cases h9 : i.op = 30
  · rw [if_pos h9]
    unfold ldG
    cases badN m 1 at' (ldW i.O).toNat with
    | some x => exact ⟨hs, hm⟩
    | none =>
      refine ⟨ht.setR _ _ (sx_lt _ _ (ldN_lt hm _ _) (fun h => ?_) (fun h => ?_)), hm⟩
      · rw [h]; exact ldN_1 hm at'
      · rw [h]; exact ldN_2 hm at'
  rw [if_neg h9]
  by_cases h10 : i.op = 31
  · rw [if_pos h10]; exact stG_ok hm hs _ _ _ _ ht
  rw [if_neg h10]
  cases badN m 1 at' 4 with
  | some x => exact ⟨hs, hm⟩
  | none => exact stG_ok hm hs _ _ _ _ (swT_ok ht (ldN_lt hm _ _))
theorem stepH_ok {m : MS} {s : GS} {i : IR} (hm : m.Ok) (hs : s.Ok) (hi : i.k = 0 → InsOk i) : (stepH m s i).Ok := by
  unfold stepH
  by_cases h0 : i.k ≠ 0
  · rw [if_pos h0]; exact ⟨hs, hm⟩
  rw [if_neg h0]
  have hio := hi (by omega)
  have hn := w32_lt ((s.pc : Int) + i.n)
  have ht : (s.setPC (w32 ((s.pc : Int) + i.n))).Ok := hs.setPC _ hn
  have hj := w32_lt (((w32 ((s.pc : Int) + i.n) : Nat) : Int) + i.imm)
  simp only
  by_cases h1 : i.op = 1
  · rw [if_pos h1]; exact ⟨hs, hm⟩
  rw [if_neg h1]
  by_cases h2 : i.op = 5
  · rw [if_pos h2]; exact ⟨ht, hm⟩
  rw [if_neg h2]
  by_cases h3 : i.op = 6 ∨ i.op = 7
  · rw [if_pos h3]; exact ⟨ht.setPC _ hj, hm⟩
  rw [if_neg h3]
  by_cases h4 : i.op = 12 ∨ i.op = 13
  · rw [if_pos h4]
    refine ⟨?_, hm⟩
    by_cases hh : Fl.holdsF i.O s.f = true
    · rw [if_pos hh]; exact ht.setPC _ hj
    · rw [if_neg hh]; exact ht
  rw [if_neg h4]
  by_cases h5 : i.op = 9
  · rw [if_pos h5]; exact ⟨ht.setPC _ (hs.r _), hm⟩
  rw [if_neg h5]
  by_cases h6 : i.op = 16
  · rw [if_pos h6]; exact ⟨ht.setR _ _ hio.im, hm⟩
  rw [if_neg h6]
  by_cases h7 : i.op = 22
  · rw [if_pos h7]; exact ⟨ht.setR _ _ (hs.r _), hm⟩
  rw [if_neg h7]
  by_cases h8 : i.op = 23
  · rw [if_pos h8]; exact ⟨ht.setR _ _ (w32_lt _), hm⟩
  rw [if_neg h8]
  by_cases h9 : i.op = 20
  · rw [if_pos h9]; exact ⟨ht.setR _ _ (w32_lt _), hm⟩
  rw [if_neg h9]
  by_cases h10 : i.op = 17
  · rw [if_pos h10]; exact ⟨(ht.setR _ _ (w32_lt _)).setF _ (fl_lt ..), hm⟩
  rw [if_neg h10]
  by_cases h11 : i.op = 18
  · rw [if_pos h11]; exact ⟨(ht.setR _ _ (w32_lt _)).setF _ (fl_lt ..), hm⟩
  rw [if_neg h11]
  by_cases h12 : i.op = 19
  · rw [if_pos h12]; exact ⟨(ht.setR _ _ (w32_lt _)).setF _ (fl_lt ..), hm⟩
  rw [if_neg h12]
  by_cases h13 : i.op = 21
  · rw [if_pos h13]
    refine ⟨ht.setR _ _ ?_, hm⟩
    by_cases hh : Fl.holdsF i.O s.f = true
    · rw [if_pos hh]; omega
    · rw [if_neg hh]; omega
  rw [if_neg h13]
  by_cases h14 : i.op = 27 ∨ i.op = 28 ∨ i.op = 29
  · rw [if_pos h14]
    have hb : (if i.op = 27 then s.R i.S else i.imm) < 4294967296 := by
      by_cases g : i.op = 27
      · rw [if_pos g]; exact hs.r _
      · rw [if_neg g]; exact hio.im
    generalize (if i.op = 27 then s.R i.S else i.imm) = b at hb
    by_cases hh : Fl.recOk i.O b = true
    · rw [if_pos hh]
      have hx := recX_bd i.O (s.R i.D) b s.f (hs.r _) hb
      have hf := recFl_bd i.O (s.R i.D) b s.f
      exact ⟨(ht.setR _ _ (by omega)).setF _ (by omega), hm⟩
    · rw [if_neg hh]; exact ⟨hs, hm⟩
  rw [if_neg h14]
  by_cases h15 : i.op = 0
  · rw [if_pos h15]; exact ⟨ht, hm⟩
  rw [if_neg h15]
  exact memF_ok hm hs ht _
theorem stepF_ok {m : MS} {s : GS} (hm : m.Ok) (hs : s.Ok) : (stepF m s).Ok := by
  rw [stepF_eq]
  exact stepH_ok hm (hs.setF _ (by omega)) fun h => insOf_ok m s.pc hm h
end Go.Proofs.Ytkgbjpdoigdjnaa

namespace Go.Proofs.Ytkgbjpdoigdjnaa
open Go.RowKit
set_option maxRecDepth 100000
set_option linter.unusedVariables false

/-! ## What stops leaves all as it was -/
theorem badN_not {m : MS} {r : Int} : ∀ {n a x : Nat}, badN m r a n = some x → ¬ (x < 65536 ∧ m.R (x / 256) / r % 2 = 1)
  | 0, _, _, h => by simp [badN] at h
  | n + 1, a, x, h => by
    unfold badN at h
    split at h
    · exact badN_not h
    · rename_i hn
      cases h
      exact hn
def rightOf (k : Int) : Int := if k = 5 then 1 else if k = 6 then 2 else 4
/-- A stop by memory, or another. -/
def StopWhy (m : MS) (k a : Int) : Prop := k = 2 ∨ k = 3 ∨ k = 7 ∨ ((k = 4 ∨ k = 5 ∨ k = 6) ∧ ∃ x : Nat, a = x ∧ ¬ (x < 65536 ∧ m.R (x / 256) / rightOf k % 2 = 1))
structure Stopped (m : MS) (s : GS) (o : SO) : Prop where
  t : o.t = s
  mm : o.m = m
  why : StopWhy m o.k o.a
def Ended (m : MS) (s : GS) (o : SO) : Prop := (o.k = 0 ∨ o.k = 1) ∨ Stopped m s o
theorem ldG_end (m : MS) (s : GS) (a : Nat) (n : Int) (g : Nat → GS) : Ended m s (ldG m s a n g) := by
  unfold ldG
  cases h : badN m 1 a n.toNat with
  | some x => exact .inr ⟨rfl, rfl, .inr (.inr (.inr ⟨.inr (.inl rfl), x, rfl, badN_not h⟩))⟩
  | none => exact .inl (.inl rfl)
theorem stG_end (m : MS) (s : GS) (a : Nat) (n : Int) (v : Nat) (t : GS) : Ended m s (stG m s a n v t) := by
  unfold stG
  cases h : sto m a n with
  | some x =>
    unfold sto at h
    by_cases hw : wid n
    · rw [if_pos hw] at h
      exact .inr ⟨rfl, rfl, .inr (.inr (.inr ⟨.inr (.inr rfl), x, rfl, badN_not h⟩))⟩
    · rw [if_neg hw] at h; cases h
  | none => exact .inl (.inl rfl)
theorem memF_end (m : MS) (i : IR) (s t : GS) (at' : Nat) : Ended m s (memF m i s t at') := by
  unfold memF
  simp only
  by_cases h1 : i.op = 11
  · rw [if_pos h1]; exact ldG_end ..
  rw [if_neg h1]
  by_cases h2 : i.op = 14
  · rw [if_pos h2]; exact stG_end ..
  rw [if_neg h2]
  by_cases h3 : i.op = 3
  · rw [if_pos h3]; exact stG_end ..
  rw [if_neg h3]
  by_cases h4 : i.op = 8
  · rw [if_pos h4]; exact stG_end ..
  rw [if_neg h4]
  by_cases h5 : i.op = 10
  · rw [if_pos h5]; exact stG_end ..
  rw [if_neg h5]
  by_cases h6 : i.op = 15
  · rw [if_pos h6]; exact ldG_end ..
  rw [if_neg h6]
  by_cases h7 : i.op = 4
  · rw [if_pos h7]; exact ldG_end ..
  rw [if_neg h7]
  by_cases h8 : i.op = 2
  · rw [if_pos h8]; exact ldG_end ..
  rw [if_neg h8]
  by_cases h9 : i.op = 30
  · rw [if_pos h9]; exact ldG_end ..
  rw [if_neg h9]
  by_cases h10 : i.op = 31
  · rw [if_pos h10]; exact stG_end ..
  rw [if_neg h10]
  cases h : badN m 1 at' 4 with
  | some x => exact .inr ⟨rfl, rfl, .inr (.inr (.inr ⟨.inr (.inl rfl), x, rfl, badN_not h⟩))⟩
  | none => exact stG_end ..
theorem stepH_end (m : MS) (s : GS) (i : IR) (hi : i.k ≠ 0 → StopWhy m i.k i.a) : Ended m s (stepH m s i) := by
  unfold stepH
  by_cases h0 : i.k ≠ 0
  · rw [if_pos h0]; exact .inr ⟨rfl, rfl, hi h0⟩
  rw [if_neg h0]
  simp only
  by_cases h1 : i.op = 1
  · rw [if_pos h1]; exact .inr ⟨rfl, rfl, .inl rfl⟩
  rw [if_neg h1]
  by_cases h2 : i.op = 5
  · rw [if_pos h2]; exact .inl (.inr rfl)
  rw [if_neg h2]
  by_cases h3 : i.op = 6 ∨ i.op = 7
  · rw [if_pos h3]; exact .inl (.inl rfl)
  rw [if_neg h3]
  by_cases h4 : i.op = 12 ∨ i.op = 13
  · rw [if_pos h4]; exact .inl (.inl rfl)
  rw [if_neg h4]
  by_cases h5 : i.op = 9
  · rw [if_pos h5]; exact .inl (.inl rfl)
  rw [if_neg h5]
  by_cases h6 : i.op = 16
  · rw [if_pos h6]; exact .inl (.inl rfl)
  rw [if_neg h6]
  by_cases h7 : i.op = 22
  · rw [if_pos h7]; exact .inl (.inl rfl)
  rw [if_neg h7]
  by_cases h8 : i.op = 23
  · rw [if_pos h8]; exact .inl (.inl rfl)
  rw [if_neg h8]
  by_cases h9 : i.op = 20
  · rw [if_pos h9]; exact .inl (.inl rfl)
  rw [if_neg h9]
  by_cases h10 : i.op = 17
  · rw [if_pos h10]; exact .inl (.inl rfl)
  rw [if_neg h10]
  by_cases h11 : i.op = 18
  · rw [if_pos h11]; exact .inl (.inl rfl)
  rw [if_neg h11]
  by_cases h12 : i.op = 19
  · rw [if_pos h12]; exact .inl (.inl rfl)
  rw [if_neg h12]
  by_cases h13 : i.op = 21
  · rw [if_pos h13]; exact .inl (.inl rfl)
  rw [if_neg h13]
  by_cases h14 : i.op = 27 ∨ i.op = 28 ∨ i.op = 29
  · rw [if_pos h14]
    generalize (if i.op = 27 then s.R i.S else i.imm) = b
    by_cases hh : Fl.recOk i.O b = true
    · rw [if_pos hh]; exact .inl (.inl rfl)
    · rw [if_neg hh]; exact .inr ⟨rfl, rfl, .inr (.inr (.inl rfl))⟩
  rw [if_neg h14]
  by_cases h15 : i.op = 0
  · rw [if_pos h15]; exact .inl (.inl rfl)
  rw [if_neg h15]
  exact memF_end ..
theorem insOf_why (m : MS) (pc : Nat) (h : (insOf m pc).k ≠ 0) : StopWhy m (insOf m pc).k (insOf m pc).a := by
  unfold insOf at h ⊢
  cases hb : badN m 4 pc 1 with
  | some x => exact .inr (.inr (.inr ⟨.inl rfl, x, rfl, badN_not hb⟩))
  | none =>
    rw [hb] at h
    simp only at h ⊢
    cases hb2 : fet m pc (Gu.sizeF (m.B pc)) with
    | some x =>
      unfold fet at hb2
      split at hb2
      · exact .inr (.inr (.inr ⟨.inl rfl, x, rfl, badN_not hb2⟩))
      · cases hb2
    | none =>
      rw [hb2] at h
      simp only at h ⊢
      split at h
      · exact absurd rfl h
      · rename_i he
        rw [if_neg he]
        exact .inr (.inl rfl)
theorem stepF_end (m : MS) (s : GS) : Ended m (s.setF (s.f % 16)) (stepF m s) := by
  rw [stepF_eq]
  exact stepH_end m _ _ (insOf_why m s.pc)
end Go.Proofs.Ytkgbjpdoigdjnaa
