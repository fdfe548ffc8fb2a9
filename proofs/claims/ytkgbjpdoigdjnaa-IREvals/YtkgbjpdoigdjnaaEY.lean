import Derived.Test.YtkgbjpdoigdjnaaEM
import Derived.Test.YtkgbjpdoigdjnaaPE
import Derived.Test.YtkgbjpdoigdjnaaES
import Derived.Test.YtkgbjpdoigdjnaaEW0
namespace Go.Proofs.Ytkgbjpdoigdjnaa
open Go.RowKit
set_option maxRecDepth 100000
set_option linter.unusedVariables false
set_option linter.unusedSimpArgs false
theorem opLess_of (count : Int) (n : Nat) (f : Nat → OpR) (i : Nat) (h : opErr count n f i = 0) (h9 : (f i).kind = 9) : (f i).a < i := by
  unfold opErr at h
  by_cases e1 : eOp (f i) = true
  · rw [if_pos e1] at h; omega
  rw [if_neg e1] at h
  by_cases e2 : fieldBad (flT (f i).kind.toNat) (f i) count = true
  · rw [if_pos e2] at h; omega
  rw [if_neg e2] at h
  by_cases e3 : takenBad (flT (f i).kind.toNat) (f i) f i = true
  · rw [if_pos e3] at h; omega
  have hx : (flT (f i).kind.toNat).ha = true := by rw [h9]; rfl
  generalize flT (f i).kind.toNat = x at e3 hx
  simp only [takenBad, tk, gvn, hx, Bool.true_and, Bool.or_eq_true, Bool.not_eq_true', Bool.and_eq_false_iff, decide_eq_false_iff_not, not_or, Classical.not_not, Bool.not_eq_false] at e3
  have := e3.1.1.1
  omega
theorem check_less (count bytes : Int) (n : Nat) (f : Nat → OpR) (h : (checkF count bytes n f).1 = 0) : ∀ j, j < n → (f j).kind = 9 → (f j).a < j := by
  unfold checkF at h
  by_cases e : 2048 < n
  · rw [if_pos e] at h; simp at h
  rw [if_neg e] at h
  by_cases e2 : (0 ≤ count ∧ count ≤ 64) ∧ (0 ≤ bytes ∧ bytes ≤ 384)
  · rw [if_pos e2] at h
    have := scan_ok count n f n 0 (by omega) h
    exact fun j hj => opLess_of count n f j (this.1 j (by omega) hj)
  · rw [if_neg e2] at h; simp at h
end Go.Proofs.Ytkgbjpdoigdjnaa
namespace Go.Proofs.Ytkgbjpdoigdjnaa
open Go.RowKit
set_option maxRecDepth 100000
set_option linter.unusedVariables false
set_option linter.unusedSimpArgs false
structure EvO where
  c : Nat → Nat
  x : ExR
  e : Int
  s : MS
def evF (count bytes : Int) (n : Nat) (f : Nat → OpR) (c : Nat → Nat) (s : MS) : EvO :=
  if (checkF count bytes n f).1 = 0 then ⟨(runO f n 0 ⟨c, s, fun _ => 0⟩).1.c, (runO f n 0 ⟨c, s, fun _ => 0⟩).2.1, 0, (runO f n 0 ⟨c, s, fun _ => 0⟩).1.s⟩ else ⟨c, ⟨0, 0, 0, 0⟩, (checkF count bytes n f).1, s⟩
/-- Eval's own four blocks. -/
structure E4 (w wx : World) (S : List Nat) (pc : Nat) (count bytes : Int) (bp : Option Addr) (n cap : Nat) (c : Nat → Nat) : Prop where
  b3 : wx.heap[w.heap.size]? = some (.cells #[.int .u32 pc, .int .i64 count, .int .i64 bytes, .slice bp n cap] 82)
  b4 : wx.heap[w.heap.size + 1]? = some (.cells (cxA c) 89)
  b6 : wx.heap[w.heap.size + 1 + 1]? = some (.cells #[.int .u32 0, .int .u32 0, .int .u32 0, .int .u32 0, .int .u32 0, .int .u32 0, .int .u32 0, .int .u32 0, .int .u32 0, .int .u32 0, .int .u32 0, .int .u32 0] 89)
  b7 : wx.heap[w.heap.size + 1 + 1 + 1]? = some (.cells #[.int .i64 0, .int .u32 0, .int .u32 0, .int .i64 0] 93)
  chg : Chg S w wx
theorem E4.below {w wx w' : World} {S : List Nat} {pc : Nat} {count bytes : Int} {bp : Option Addr} {n cap : Nat} {c : Nat → Nat} (h : E4 w wx S pc count bytes bp n cap c) (b : Below wx.heap.size wx w') : E4 w w' S pc count bytes bp n cap c :=
  ⟨(b.block _ (row_lt h.b3)).trans h.b3, (b.block _ (row_lt h.b4)).trans h.b4, (b.block _ (row_lt h.b6)).trans h.b6, (b.block _ (row_lt h.b7)).trans h.b7, h.chg.trans (Chg.of_below S b)⟩
theorem E4.next {w wx w' : World} {S T : List Nat} {pc : Nat} {count bytes : Int} {bp : Option Addr} {n cap : Nat} {c : Nat → Nat} (h : E4 w wx S pc count bytes bp n cap c) (b : Chg T wx w') (hT : ∀ x ∈ T, x ∈ S ∧ x < w.heap.size ∨ w.heap.size + 1 + 1 + 1 < x) : E4 w w' S pc count bytes bp n cap c := by
  have k : ∀ j, w.heap.size ≤ j → j ≤ w.heap.size + 1 + 1 + 1 → j ∉ T := fun j h1 h2 hm => by have := hT j hm; omega
  refine ⟨(b.block _ (row_lt h.b3) (k _ (by omega) (by omega))).trans h.b3, (b.block _ (row_lt h.b4) (k _ (by omega) (by omega))).trans h.b4, (b.block _ (row_lt h.b6) (k _ (by omega) (by omega))).trans h.b6, (b.block _ (row_lt h.b7) (k _ (by omega) (by omega))).trans h.b7, ⟨b.os.trans h.chg.os, b.tape.trans h.chg.tape, b.output.trans h.chg.output, Nat.le_trans h.chg.size b.size, fun j hj hs => ?_⟩⟩
  have hj2 : j ∉ T := fun hm => by
    rcases hT j hm with ⟨h1, _⟩ | h1
    · exact hs h1
    · omega
  exact (b.block j (Nat.lt_of_lt_of_le hj h.chg.size) hj2).trans (h.chg.block j hj hs)
theorem e4Start (w : World) (S : List Nat) (pc : Nat) (count bytes : Int) (bp : Option Addr) (n cap : Nat) (c : Nat → Nat) : E4 w ((((w.alloc (.cells #[.int .u32 pc, .int .i64 count, .int .i64 bytes, .slice bp n cap] 82)).alloc (.cells (cxA c) 89)).alloc (.cells #[.int .u32 0, .int .u32 0, .int .u32 0, .int .u32 0, .int .u32 0, .int .u32 0, .int .u32 0, .int .u32 0, .int .u32 0, .int .u32 0, .int .u32 0, .int .u32 0] 89)).alloc (.cells #[.int .i64 0, .int .u32 0, .int .u32 0, .int .i64 0] 93)) S pc count bytes bp n cap c := by
  have l0 := heap_alloc_last w (.cells #[.int .u32 pc, .int .i64 count, .int .i64 bytes, .slice bp n cap] 82)
  have l1 := heap_alloc_last (w.alloc (.cells #[.int .u32 pc, .int .i64 count, .int .i64 bytes, .slice bp n cap] 82)) (.cells (cxA c) 89)
  have l2 := heap_alloc_last ((w.alloc (.cells #[.int .u32 pc, .int .i64 count, .int .i64 bytes, .slice bp n cap] 82)).alloc (.cells (cxA c) 89)) (.cells #[.int .u32 0, .int .u32 0, .int .u32 0, .int .u32 0, .int .u32 0, .int .u32 0, .int .u32 0, .int .u32 0, .int .u32 0, .int .u32 0, .int .u32 0, .int .u32 0] 89)
  have l3 := heap_alloc_last (((w.alloc (.cells #[.int .u32 pc, .int .i64 count, .int .i64 bytes, .slice bp n cap] 82)).alloc (.cells (cxA c) 89)).alloc (.cells #[.int .u32 0, .int .u32 0, .int .u32 0, .int .u32 0, .int .u32 0, .int .u32 0, .int .u32 0, .int .u32 0, .int .u32 0, .int .u32 0, .int .u32 0, .int .u32 0] 89)) (.cells #[.int .i64 0, .int .u32 0, .int .u32 0, .int .i64 0] 93)
  rw [show (w.alloc (.cells #[.int .u32 pc, .int .i64 count, .int .i64 bytes, .slice bp n cap] 82)).heap.size = w.heap.size + 1 by simp] at l1
  rw [show ((w.alloc (.cells #[.int .u32 pc, .int .i64 count, .int .i64 bytes, .slice bp n cap] 82)).alloc (.cells (cxA c) 89)).heap.size = w.heap.size + 1 + 1 by simp] at l2
  rw [show (((w.alloc (.cells #[.int .u32 pc, .int .i64 count, .int .i64 bytes, .slice bp n cap] 82)).alloc (.cells (cxA c) 89)).alloc (.cells #[.int .u32 0, .int .u32 0, .int .u32 0, .int .u32 0, .int .u32 0, .int .u32 0, .int .u32 0, .int .u32 0, .int .u32 0, .int .u32 0, .int .u32 0, .int .u32 0] 89)).heap.size = w.heap.size + 1 + 1 + 1 by simp] at l3
  exact ⟨(al_old _ _ _ (by simp <;> omega)).trans ((al_old _ _ _ (by simp <;> omega)).trans ((al_old _ _ _ (by simp)).trans l0)), (al_old _ _ _ (by simp <;> omega)).trans ((al_old _ _ _ (by simp)).trans l1), (al_old _ _ _ (by simp)).trans l2, l3, Chg.of_below S ((((Below.refl w.heap.size w).alloc (Nat.le_refl _) _).alloc (by simp) _).alloc (by simp; omega) _ |>.alloc (by simp; omega) _)⟩
theorem wkStart (w wx : World) (P V X n : Nat) (c : Nat → Nat) (s : MS) (h : PM w X s) (b : Below w.heap.size w wx) (hP : wx.heap[P]? = some (.cells #[.int .u32 (c 0), .int .u32 (c 1), .int .u32 (c 2), .int .u32 (c 3), .int .u32 (c 4), .int .u32 (c 5), .int .u32 (c 6), .int .u32 (c 7), .int .u32 (c 8), .int .u32 (c 9), .int .u32 (c 10), .int .u32 (c 11), .pointer (some ⟨X, 0, none⟩), .slice (some ⟨V, 0, none⟩) n n] 173)) (hV : wx.heap[V]? = some (.cells (madeCells #[.int .u32 0] n) 24)) (n0 : 0 < n) (pv : P ≠ V) (lP : w.heap.size ≤ P) (lV : w.heap.size ≤ V) : WkW wx P V X n ⟨c, s, fun _ => 0⟩ := by
  have lX := h.lt
  refine ⟨⟨fun i hi => ?_, row_cell hP 12, row_cell hP 13, fun i hi => ?_⟩, ⟨fun j => row_fr hP j⟩, ⟨fun j => row_fr hV j⟩, h.below b h.lt, n0, pv, by omega, by omega⟩
  · rw [row_cell hP]
    have : i = 0 ∨ i = 1 ∨ i = 2 ∨ i = 3 ∨ i = 4 ∨ i = 5 ∨ i = 6 ∨ i = 7 ∨ i = 8 ∨ i = 9 ∨ i = 10 ∨ i = 11 := by omega
    rcases this with rfl | rfl | rfl | rfl | rfl | rfl | rfl | rfl | rfl | rfl | rfl | rfl <;> rfl
  · rw [row_cell hV]
    exact made_at _ _ _ hi
theorem al2a (w : World) (o1 o2 : Obj) : ((w.alloc o1).alloc o2).drew.heap[w.heap.size]? = some o1 := (al_old _ _ _ (by simp)).trans (heap_alloc_last w _)
theorem al2b (w : World) (o1 o2 : Obj) : ((w.alloc o1).alloc o2).drew.heap[w.heap.size + 1]? = some o2 := by
  have := heap_alloc_last (w.alloc o1) o2
  rwa [show (w.alloc o1).heap.size = w.heap.size + 1 by simp] at this
theorem bel2d (w : World) (o1 o2 : Obj) : Below w.heap.size w ((w.alloc o1).alloc o2).drew := (((Below.refl _ _).alloc (Nat.le_refl _) _).alloc (by simp) _).drew
set_option maxHeartbeats 8000000 in
theorem peval_ok (pc : Nat) (count bytes : Int) (bp : Option Addr) (n cap X : Nat) (f : Nat → OpR) (c : Nat → Nat) (s : MS) (w : World) (hH : HoldsOk) (hO : OpsR w bp n f) (hb : ∀ b off, bp = some ⟨b, off, none⟩ → b ≠ X) (hk : ∀ j, j < n → (f j).k < 4294967296) (hcap : n ≤ cap) (hn : n < 9223372036854775807) (hc : cxOk c) (hs : s.Ok) (h : PM w X s) (h0 : (checkF count bytes n f).1 = 0) :
    Calls Try.prog 47 #[.agg #[.int .u32 pc, .int .i64 count, .int .i64 bytes, .slice bp n cap], cxV c, .pointer (some ⟨X, 0, none⟩)] w fun e w' => e = .returned (.tuple #[cxV (runO f n 0 ⟨c, s, fun _ => 0⟩).1.c, exR (runO f n 0 ⟨c, s, fun _ => 0⟩).2.1, .int .i64 0]) ∧ PM w' X (runO f n 0 ⟨c, s, fun _ => 0⟩).1.s ∧ Chg [X] w w' := by
  obtain ⟨R, HR⟩ : ∃ R, Hid (runO f n 0 ⟨c, s, fun _ => 0⟩ = R) := ⟨_, rfl⟩
  rw [HR.out]
  obtain ⟨g1, g2, g3⟩ := check_good count bytes n f h0
  have HN0 : Hid (0 < n) := g2
  have HG : Hid (∀ j, j < n → OpGood n (f j) ∧ (f j).k < 4294967296) := show ∀ j, _ from fun j hj => ⟨g3 j hj, hk j hj⟩
  have HNL : Hid (n ≤ 2048) := g1
  obtain ⟨E, HE⟩ : ∃ E, Hid (checkF count bytes n f = E) := ⟨_, rfl⟩
  have HE1 : Hid (E.1 = 0) := HE.out ▸ h0
  have HH : Hid _ := hH
  have HO : Hid (OpsR w bp n f) := hO
  have HBX : Hid _ := hb
  have HCAP : Hid _ := hcap
  have HNN : Hid _ := hn
  have HQ : Hid (StOk ⟨c, s, fun _ => 0⟩) := ⟨hc, hs, fun i => (show (0 : Nat) < 4294967296 by decide)⟩
  have HP : Hid _ := h
  have lX : X < w.heap.size := h.lt
  have H0 : Hid _ := e4Start w [X] pc count bytes bp n cap c
  have n1 : (n : Int) ≤ 2048 := by omega
  have n0 : (0 : Int) ≤ (n : Int) := by omega
  clear hH hO hb hk hcap hn hc hs h h0 g1 g2 g3
  go_enter Try.func47, Try.ntmps47
  go_upto_region 6 with (go_at_call 41; refine (check_any pc count bytes bp n cap f _ (HO.out.below (((((Below.refl w.heap.size w).alloc (Nat.le_refl _) _).alloc (by simp) _).alloc (by simp; omega) _).alloc (by simp; omega) _) (Nat.le_refl _)) HCAP.out HNN.out).mono ?_; rintro e w1 ⟨rfl, h1⟩; rw [HE.out, HE1.out]; have H1 : Hid _ := H0.out.below h1; have HB1 : Hid (Below w.heap.size w w1) := ((((Below.refl w.heap.size w).alloc (Nat.le_refl _) _).alloc (by simp) _).alloc (by simp; omega) _ |>.alloc (by simp; omega) _).trans (h1.mono (by simp; omega)); clear h1)
  have b0 : w1.cell? ⟨w.heap.size, 0, none⟩ = some (.int .u32 pc) := row_cell H1.out.b3 0
  have b1 : w1.cell? ⟨w.heap.size, 1, none⟩ = some (.int .i64 count) := row_cell H1.out.b3 1
  have b2 : w1.cell? ⟨w.heap.size, 2, none⟩ = some (.int .i64 bytes) := row_cell H1.out.b3 2
  have b3 : w1.cell? ⟨w.heap.size, 3, none⟩ = some (.slice bp n cap) := row_cell H1.out.b3 3
  have c0 : w1.cell? ⟨w.heap.size + 1, 0, none⟩ = some (.int .u32 (c 0)) := row_cell H1.out.b4 0
  have c1 : w1.cell? ⟨w.heap.size + 1, 1, none⟩ = some (.int .u32 (c 1)) := row_cell H1.out.b4 1
  have c2 : w1.cell? ⟨w.heap.size + 1, 2, none⟩ = some (.int .u32 (c 2)) := row_cell H1.out.b4 2
  have c3 : w1.cell? ⟨w.heap.size + 1, 3, none⟩ = some (.int .u32 (c 3)) := row_cell H1.out.b4 3
  have c4 : w1.cell? ⟨w.heap.size + 1, 4, none⟩ = some (.int .u32 (c 4)) := row_cell H1.out.b4 4
  have c5 : w1.cell? ⟨w.heap.size + 1, 5, none⟩ = some (.int .u32 (c 5)) := row_cell H1.out.b4 5
  have c6 : w1.cell? ⟨w.heap.size + 1, 6, none⟩ = some (.int .u32 (c 6)) := row_cell H1.out.b4 6
  have c7 : w1.cell? ⟨w.heap.size + 1, 7, none⟩ = some (.int .u32 (c 7)) := row_cell H1.out.b4 7
  have c8 : w1.cell? ⟨w.heap.size + 1, 8, none⟩ = some (.int .u32 (c 8)) := row_cell H1.out.b4 8
  have c9 : w1.cell? ⟨w.heap.size + 1, 9, none⟩ = some (.int .u32 (c 9)) := row_cell H1.out.b4 9
  have c10 : w1.cell? ⟨w.heap.size + 1, 10, none⟩ = some (.int .u32 (c 10)) := row_cell H1.out.b4 10
  have c11 : w1.cell? ⟨w.heap.size + 1, 11, none⟩ = some (.int .u32 (c 11)) := row_cell H1.out.b4 11
  have m0 := row_lt H1.out.b3
  have m1 := row_lt H1.out.b4
  have m6 := row_lt H1.out.b6
  have m7 := row_lt H1.out.b7
  have hmd : ∀ W : World, (Instr.makeSlice 171 (.int .i64 n) (.int .i64 n)).run Try.prog W = .ok (.slice (some ⟨W.heap.size, 0, none⟩) n n) (W.alloc (.cells (madeCells #[.int .u32 0] n) 24)) := fun W => made_run n Try.underlying171 info24 (by decide) (by have := HNL.out; omega) rfl W
  go_region
  · have HPM1 : Hid (PM w1 X s) := HP.out.below HB1.out HP.out.lt
    have HK : Hid _ := wkStart w1 ((w1.alloc (.cells (madeCells #[.int .u32 0] n) 24)).alloc (.cells #[.int .u32 (c 0), .int .u32 (c 1), .int .u32 (c 2), .int .u32 (c 3), .int .u32 (c 4), .int .u32 (c 5), .int .u32 (c 6), .int .u32 (c 7), .int .u32 (c 8), .int .u32 (c 9), .int .u32 (c 10), .int .u32 (c 11), .pointer (some ⟨X, 0, none⟩), .slice (some ⟨w1.heap.size, 0, none⟩) n n] 173)).drew (w1.heap.size + 1) (w1.heap.size) X n c s HPM1.out (bel2d w1 _ _) (al2b w1 _ _) (al2a w1 _ _) HN0.out (by omega) (by omega) (by omega)
    have H2 : Hid _ := H1.out.below (bel2d w1 (.cells (madeCells #[.int .u32 0] n) 24) (.cells #[.int .u32 (c 0), .int .u32 (c 1), .int .u32 (c 2), .int .u32 (c 3), .int .u32 (c 4), .int .u32 (c 5), .int .u32 (c 6), .int .u32 (c 7), .int .u32 (c 8), .int .u32 (c 9), .int .u32 (c 10), .int .u32 (c 11), .pointer (some ⟨X, 0, none⟩), .slice (some ⟨w1.heap.size, 0, none⟩) n n] 173))
    have HPL : Hid (w.heap.size + 1 + 1 + 1 < w1.heap.size + 1 ∧ w.heap.size + 1 + 1 + 1 < w1.heap.size) := ⟨by omega, by omega⟩
    generalize ((w1.alloc (.cells (madeCells #[.int .u32 0] n) 24)).alloc (.cells #[.int .u32 (c 0), .int .u32 (c 1), .int .u32 (c 2), .int .u32 (c 3), .int .u32 (c 4), .int .u32 (c 5), .int .u32 (c 6), .int .u32 (c 7), .int .u32 (c 8), .int .u32 (c 9), .int .u32 (c 10), .int .u32 (c 11), .pointer (some ⟨X, 0, none⟩), .slice (some ⟨w1.heap.size, 0, none⟩) n n] 173)).drew = W2 at HK H2 ⊢
    generalize hPP : (w1.heap.size + 1) = P at HK HPL ⊢
    generalize hVV : (w1.heap.size) = V at HK HPL ⊢
    clear b0 b1 b2 b3 c0 c1 c2 c3 c4 c5 c6 c7 c8 c9 c10 c11 hmd hPP hVV
    have ub0 : W2.cell? ⟨w.heap.size, 0, none⟩ = some (.int .u32 pc) := row_cell H2.out.b3 0
    have ub1 : W2.cell? ⟨w.heap.size, 1, none⟩ = some (.int .i64 count) := row_cell H2.out.b3 1
    have ub2 : W2.cell? ⟨w.heap.size, 2, none⟩ = some (.int .i64 bytes) := row_cell H2.out.b3 2
    have ub3 : W2.cell? ⟨w.heap.size, 3, none⟩ = some (.slice bp n cap) := row_cell H2.out.b3 3
    have l2 := row_lt H2.out.b3
    have HO2 : Hid (OpsR W2 bp n f) := OpsR.chg HO.out (fun b off e => by simpa using HBX.out b off e) H2.out.chg
    have HBN : Hid (∀ b off, bp = some ⟨b, off, none⟩ → b ∉ [P, V, X]) := show ∀ b off, _ from fun b off e => by
      obtain ⟨b', off', e', hl, -⟩ := HO.out HN0.out
      rw [e'] at e
      cases e
      have := HBX.out b off e'
      have := HPL.out
      simp
      omega
    have HSS : Hid (∀ x ∈ [P, V, X], x ∈ [X] ∧ x < w.heap.size ∨ w.heap.size + 1 + 1 + 1 < x) := show ∀ x ∈ [P, V, X], _ from fun x hx => by
      have := HPL.out
      simp at hx
      rcases hx with rfl | rfl | rfl
      · exact Or.inr (by omega)
      · exact Or.inr (by omega)
      · exact Or.inl ⟨List.mem_cons_self, lX⟩
    go_upto_region 8 with (go_at_call 106; refine (leave_any P V X n bp cap f ⟨c, s, fun _ => 0⟩ _ HH.out HO2.out HBN.out HG.out HNL.out HQ.out HK.out).mono ?_; rintro e w3 ⟨rfl, h3, h4⟩; rw [HR.out] at *; have H3 : Hid _ := h3; have H4 : Hid _ := H2.out.next h4 HSS.out; clear h3 h4)
    obtain ⟨q, x, z⟩ := R
    have p0 : w3.cell? ⟨P, 0, none⟩ = some (.int .u32 (q.c 0)) := H3.out.k.cc 0 (by omega)
    have p1 : w3.cell? ⟨P, 1, none⟩ = some (.int .u32 (q.c 1)) := H3.out.k.cc 1 (by omega)
    have p2 : w3.cell? ⟨P, 2, none⟩ = some (.int .u32 (q.c 2)) := H3.out.k.cc 2 (by omega)
    have p3 : w3.cell? ⟨P, 3, none⟩ = some (.int .u32 (q.c 3)) := H3.out.k.cc 3 (by omega)
    have p4 : w3.cell? ⟨P, 4, none⟩ = some (.int .u32 (q.c 4)) := H3.out.k.cc 4 (by omega)
    have p5 : w3.cell? ⟨P, 5, none⟩ = some (.int .u32 (q.c 5)) := H3.out.k.cc 5 (by omega)
    have p6 : w3.cell? ⟨P, 6, none⟩ = some (.int .u32 (q.c 6)) := H3.out.k.cc 6 (by omega)
    have p7 : w3.cell? ⟨P, 7, none⟩ = some (.int .u32 (q.c 7)) := H3.out.k.cc 7 (by omega)
    have p8 : w3.cell? ⟨P, 8, none⟩ = some (.int .u32 (q.c 8)) := H3.out.k.cc 8 (by omega)
    have p9 : w3.cell? ⟨P, 9, none⟩ = some (.int .u32 (q.c 9)) := H3.out.k.cc 9 (by omega)
    have p10 : w3.cell? ⟨P, 10, none⟩ = some (.int .u32 (q.c 10)) := H3.out.k.cc 10 (by omega)
    have p11 : w3.cell? ⟨P, 11, none⟩ = some (.int .u32 (q.c 11)) := H3.out.k.cc 11 (by omega)
    have vy0 : w3.cell? ⟨w.heap.size + 1 + 1, 0, none⟩ = some (.int .u32 0) := row_cell H4.out.b6 0
    have vy1 : w3.cell? ⟨w.heap.size + 1 + 1, 1, none⟩ = some (.int .u32 0) := row_cell H4.out.b6 1
    have vy2 : w3.cell? ⟨w.heap.size + 1 + 1, 2, none⟩ = some (.int .u32 0) := row_cell H4.out.b6 2
    have vy3 : w3.cell? ⟨w.heap.size + 1 + 1, 3, none⟩ = some (.int .u32 0) := row_cell H4.out.b6 3
    have vy4 : w3.cell? ⟨w.heap.size + 1 + 1, 4, none⟩ = some (.int .u32 0) := row_cell H4.out.b6 4
    have vy5 : w3.cell? ⟨w.heap.size + 1 + 1, 5, none⟩ = some (.int .u32 0) := row_cell H4.out.b6 5
    have vy6 : w3.cell? ⟨w.heap.size + 1 + 1, 6, none⟩ = some (.int .u32 0) := row_cell H4.out.b6 6
    have vy7 : w3.cell? ⟨w.heap.size + 1 + 1, 7, none⟩ = some (.int .u32 0) := row_cell H4.out.b6 7
    have vy8 : w3.cell? ⟨w.heap.size + 1 + 1, 8, none⟩ = some (.int .u32 0) := row_cell H4.out.b6 8
    have vy9 : w3.cell? ⟨w.heap.size + 1 + 1, 9, none⟩ = some (.int .u32 0) := row_cell H4.out.b6 9
    have vy10 : w3.cell? ⟨w.heap.size + 1 + 1, 10, none⟩ = some (.int .u32 0) := row_cell H4.out.b6 10
    have vy11 : w3.cell? ⟨w.heap.size + 1 + 1, 11, none⟩ = some (.int .u32 0) := row_cell H4.out.b6 11
    have vyf := row_fr H4.out.b6
    have vz0 : w3.cell? ⟨w.heap.size + 1 + 1 + 1, 0, none⟩ = some (.int .i64 0) := row_cell H4.out.b7 0
    have vz1 : w3.cell? ⟨w.heap.size + 1 + 1 + 1, 1, none⟩ = some (.int .u32 0) := row_cell H4.out.b7 1
    have vz2 : w3.cell? ⟨w.heap.size + 1 + 1 + 1, 2, none⟩ = some (.int .u32 0) := row_cell H4.out.b7 2
    have vz3 : w3.cell? ⟨w.heap.size + 1 + 1 + 1, 3, none⟩ = some (.int .i64 0) := row_cell H4.out.b7 3
    have vzf := row_fr H4.out.b7
    have m6 := row_lt H4.out.b6
    have m7 := row_lt H4.out.b7
    have lP3 := H3.out.lP
    go_region
    all_goals go_wp2
    all_goals exact bodyPost_ret (v := .tuple #[cxV q.c, exR x, .int .i64 0]) (by simp [results, Try.results47, go_sem, vy0, vy1, vy2, vy3, vy4, vy5, vy6, vy7, vy8, vy9, vy10, vy11, vz0, vz1, vz2, vz3, vyf, vzf, m6, m7]) rfl ⟨rfl, by
      have hB := H3.out.m
      (repeat first | with_reducible exact hB | with_reducible refine PM.drew ?_ | with_reducible refine PM.alloc ?_ _ | with_reducible refine PM.setX ?_ (by omega) _), by
      have hC := H4.out.chg
      (repeat first | with_reducible exact hC | with_reducible refine Chg.drewC ?_ | with_reducible refine Chg.allocC ?_ _ | with_reducible refine Chg.setN ?_ (by omega))⟩
  · have HPM1 : Hid (PM w1 X s) := HP.out.below HB1.out HP.out.lt
    have HK : Hid _ := wkStart w1 ((w1.alloc (.cells #[.int .u32 (c 0), .int .u32 (c 1), .int .u32 (c 2), .int .u32 (c 3), .int .u32 (c 4), .int .u32 (c 5), .int .u32 (c 6), .int .u32 (c 7), .int .u32 (c 8), .int .u32 (c 9), .int .u32 (c 10), .int .u32 (c 11), .pointer (some ⟨X, 0, none⟩), .slice (some ⟨w1.heap.size + 1, 0, none⟩) n n] 173)).alloc (.cells (madeCells #[.int .u32 0] n) 24)).drew (w1.heap.size) (w1.heap.size + 1) X n c s HPM1.out (bel2d w1 _ _) (al2a w1 _ _) (al2b w1 _ _) HN0.out (by omega) (by omega) (by omega)
    have H2 : Hid _ := H1.out.below (bel2d w1 (.cells #[.int .u32 (c 0), .int .u32 (c 1), .int .u32 (c 2), .int .u32 (c 3), .int .u32 (c 4), .int .u32 (c 5), .int .u32 (c 6), .int .u32 (c 7), .int .u32 (c 8), .int .u32 (c 9), .int .u32 (c 10), .int .u32 (c 11), .pointer (some ⟨X, 0, none⟩), .slice (some ⟨w1.heap.size + 1, 0, none⟩) n n] 173) (.cells (madeCells #[.int .u32 0] n) 24))
    have HPL : Hid (w.heap.size + 1 + 1 + 1 < w1.heap.size ∧ w.heap.size + 1 + 1 + 1 < w1.heap.size + 1) := ⟨by omega, by omega⟩
    generalize ((w1.alloc (.cells #[.int .u32 (c 0), .int .u32 (c 1), .int .u32 (c 2), .int .u32 (c 3), .int .u32 (c 4), .int .u32 (c 5), .int .u32 (c 6), .int .u32 (c 7), .int .u32 (c 8), .int .u32 (c 9), .int .u32 (c 10), .int .u32 (c 11), .pointer (some ⟨X, 0, none⟩), .slice (some ⟨w1.heap.size + 1, 0, none⟩) n n] 173)).alloc (.cells (madeCells #[.int .u32 0] n) 24)).drew = W2 at HK H2 ⊢
    generalize hVV : (w1.heap.size + 1) = V at HK HPL ⊢
    generalize hPP : (w1.heap.size) = P at HK HPL ⊢
    clear b0 b1 b2 b3 c0 c1 c2 c3 c4 c5 c6 c7 c8 c9 c10 c11 hmd hPP hVV
    have ub0 : W2.cell? ⟨w.heap.size, 0, none⟩ = some (.int .u32 pc) := row_cell H2.out.b3 0
    have ub1 : W2.cell? ⟨w.heap.size, 1, none⟩ = some (.int .i64 count) := row_cell H2.out.b3 1
    have ub2 : W2.cell? ⟨w.heap.size, 2, none⟩ = some (.int .i64 bytes) := row_cell H2.out.b3 2
    have ub3 : W2.cell? ⟨w.heap.size, 3, none⟩ = some (.slice bp n cap) := row_cell H2.out.b3 3
    have l2 := row_lt H2.out.b3
    have HO2 : Hid (OpsR W2 bp n f) := OpsR.chg HO.out (fun b off e => by simpa using HBX.out b off e) H2.out.chg
    have HBN : Hid (∀ b off, bp = some ⟨b, off, none⟩ → b ∉ [P, V, X]) := show ∀ b off, _ from fun b off e => by
      obtain ⟨b', off', e', hl, -⟩ := HO.out HN0.out
      rw [e'] at e
      cases e
      have := HBX.out b off e'
      have := HPL.out
      simp
      omega
    have HSS : Hid (∀ x ∈ [P, V, X], x ∈ [X] ∧ x < w.heap.size ∨ w.heap.size + 1 + 1 + 1 < x) := show ∀ x ∈ [P, V, X], _ from fun x hx => by
      have := HPL.out
      simp at hx
      rcases hx with rfl | rfl | rfl
      · exact Or.inr (by omega)
      · exact Or.inr (by omega)
      · exact Or.inl ⟨List.mem_cons_self, lX⟩
    go_upto_region 8 with (go_at_call 106; refine (leave_any P V X n bp cap f ⟨c, s, fun _ => 0⟩ _ HH.out HO2.out HBN.out HG.out HNL.out HQ.out HK.out).mono ?_; rintro e w3 ⟨rfl, h3, h4⟩; rw [HR.out] at *; have H3 : Hid _ := h3; have H4 : Hid _ := H2.out.next h4 HSS.out; clear h3 h4)
    obtain ⟨q, x, z⟩ := R
    have p0 : w3.cell? ⟨P, 0, none⟩ = some (.int .u32 (q.c 0)) := H3.out.k.cc 0 (by omega)
    have p1 : w3.cell? ⟨P, 1, none⟩ = some (.int .u32 (q.c 1)) := H3.out.k.cc 1 (by omega)
    have p2 : w3.cell? ⟨P, 2, none⟩ = some (.int .u32 (q.c 2)) := H3.out.k.cc 2 (by omega)
    have p3 : w3.cell? ⟨P, 3, none⟩ = some (.int .u32 (q.c 3)) := H3.out.k.cc 3 (by omega)
    have p4 : w3.cell? ⟨P, 4, none⟩ = some (.int .u32 (q.c 4)) := H3.out.k.cc 4 (by omega)
    have p5 : w3.cell? ⟨P, 5, none⟩ = some (.int .u32 (q.c 5)) := H3.out.k.cc 5 (by omega)
    have p6 : w3.cell? ⟨P, 6, none⟩ = some (.int .u32 (q.c 6)) := H3.out.k.cc 6 (by omega)
    have p7 : w3.cell? ⟨P, 7, none⟩ = some (.int .u32 (q.c 7)) := H3.out.k.cc 7 (by omega)
    have p8 : w3.cell? ⟨P, 8, none⟩ = some (.int .u32 (q.c 8)) := H3.out.k.cc 8 (by omega)
    have p9 : w3.cell? ⟨P, 9, none⟩ = some (.int .u32 (q.c 9)) := H3.out.k.cc 9 (by omega)
    have p10 : w3.cell? ⟨P, 10, none⟩ = some (.int .u32 (q.c 10)) := H3.out.k.cc 10 (by omega)
    have p11 : w3.cell? ⟨P, 11, none⟩ = some (.int .u32 (q.c 11)) := H3.out.k.cc 11 (by omega)
    have vy0 : w3.cell? ⟨w.heap.size + 1 + 1, 0, none⟩ = some (.int .u32 0) := row_cell H4.out.b6 0
    have vy1 : w3.cell? ⟨w.heap.size + 1 + 1, 1, none⟩ = some (.int .u32 0) := row_cell H4.out.b6 1
    have vy2 : w3.cell? ⟨w.heap.size + 1 + 1, 2, none⟩ = some (.int .u32 0) := row_cell H4.out.b6 2
    have vy3 : w3.cell? ⟨w.heap.size + 1 + 1, 3, none⟩ = some (.int .u32 0) := row_cell H4.out.b6 3
    have vy4 : w3.cell? ⟨w.heap.size + 1 + 1, 4, none⟩ = some (.int .u32 0) := row_cell H4.out.b6 4
    have vy5 : w3.cell? ⟨w.heap.size + 1 + 1, 5, none⟩ = some (.int .u32 0) := row_cell H4.out.b6 5
    have vy6 : w3.cell? ⟨w.heap.size + 1 + 1, 6, none⟩ = some (.int .u32 0) := row_cell H4.out.b6 6
    have vy7 : w3.cell? ⟨w.heap.size + 1 + 1, 7, none⟩ = some (.int .u32 0) := row_cell H4.out.b6 7
    have vy8 : w3.cell? ⟨w.heap.size + 1 + 1, 8, none⟩ = some (.int .u32 0) := row_cell H4.out.b6 8
    have vy9 : w3.cell? ⟨w.heap.size + 1 + 1, 9, none⟩ = some (.int .u32 0) := row_cell H4.out.b6 9
    have vy10 : w3.cell? ⟨w.heap.size + 1 + 1, 10, none⟩ = some (.int .u32 0) := row_cell H4.out.b6 10
    have vy11 : w3.cell? ⟨w.heap.size + 1 + 1, 11, none⟩ = some (.int .u32 0) := row_cell H4.out.b6 11
    have vyf := row_fr H4.out.b6
    have vz0 : w3.cell? ⟨w.heap.size + 1 + 1 + 1, 0, none⟩ = some (.int .i64 0) := row_cell H4.out.b7 0
    have vz1 : w3.cell? ⟨w.heap.size + 1 + 1 + 1, 1, none⟩ = some (.int .u32 0) := row_cell H4.out.b7 1
    have vz2 : w3.cell? ⟨w.heap.size + 1 + 1 + 1, 2, none⟩ = some (.int .u32 0) := row_cell H4.out.b7 2
    have vz3 : w3.cell? ⟨w.heap.size + 1 + 1 + 1, 3, none⟩ = some (.int .i64 0) := row_cell H4.out.b7 3
    have vzf := row_fr H4.out.b7
    have m6 := row_lt H4.out.b6
    have m7 := row_lt H4.out.b7
    have lP3 := H3.out.lP
    go_region
    all_goals go_wp2
    all_goals exact bodyPost_ret (v := .tuple #[cxV q.c, exR x, .int .i64 0]) (by simp [results, Try.results47, go_sem, vy0, vy1, vy2, vy3, vy4, vy5, vy6, vy7, vy8, vy9, vy10, vy11, vz0, vz1, vz2, vz3, vyf, vzf, m6, m7]) rfl ⟨rfl, by
      have hB := H3.out.m
      (repeat first | with_reducible exact hB | with_reducible refine PM.drew ?_ | with_reducible refine PM.alloc ?_ _ | with_reducible refine PM.setX ?_ (by omega) _), by
      have hC := H4.out.chg
      (repeat first | with_reducible exact hC | with_reducible refine Chg.drewC ?_ | with_reducible refine Chg.allocC ?_ _ | with_reducible refine Chg.setN ?_ (by omega))⟩
set_option maxHeartbeats 4000000 in
theorem peval_bad (pc : Nat) (count bytes : Int) (bp : Option Addr) (n cap X : Nat) (f : Nat → OpR) (c : Nat → Nat) (s : MS) (w : World) (hO : OpsR w bp n f) (hcap : n ≤ cap) (hn : n < 9223372036854775807) (h : PM w X s) (h0 : (checkF count bytes n f).1 ≠ 0) :
    Calls Try.prog 47 #[.agg #[.int .u32 pc, .int .i64 count, .int .i64 bytes, .slice bp n cap], cxV c, .pointer (some ⟨X, 0, none⟩)] w fun e w' => e = .returned (.tuple #[cxV c, exR ⟨0, 0, 0, 0⟩, .int .i64 (checkF count bytes n f).1]) ∧ PM w' X s ∧ Chg [X] w w' := by
  obtain ⟨⟨e1, e2⟩, HE⟩ : ∃ E, Hid (checkF count bytes n f = E) := ⟨_, rfl⟩
  rw [HE.out] at h0 ⊢
  have d0 : (e1 != 0) = true := by simpa using h0
  have HO : Hid (OpsR w bp n f) := hO
  have HCAP : Hid _ := hcap
  have HNN : Hid _ := hn
  have HP : Hid _ := h
  have lX : X < w.heap.size := h.lt
  have H0 : Hid _ := e4Start w [X] pc count bytes bp n cap c
  clear hO hcap hn h h0
  go_enter Try.func47, Try.ntmps47
  go_upto_region 3 with (go_at_call 41; refine (check_any pc count bytes bp n cap f _ (HO.out.below (((((Below.refl w.heap.size w).alloc (Nat.le_refl _) _).alloc (by simp) _).alloc (by simp; omega) _).alloc (by simp; omega) _) (Nat.le_refl _)) HCAP.out HNN.out).mono ?_; rintro e w1 ⟨rfl, h1⟩; rw [HE.out]; have H1 : Hid _ := H0.out.below h1; have HB1 : Hid (Below w.heap.size w w1) := ((((Below.refl w.heap.size w).alloc (Nat.le_refl _) _).alloc (by simp) _).alloc (by simp; omega) _ |>.alloc (by simp; omega) _).trans (h1.mono (by simp; omega)); clear h1)
  have c0 : w1.cell? ⟨w.heap.size + 1, 0, none⟩ = some (.int .u32 (c 0)) := row_cell H1.out.b4 0
  have c1 : w1.cell? ⟨w.heap.size + 1, 1, none⟩ = some (.int .u32 (c 1)) := row_cell H1.out.b4 1
  have c2 : w1.cell? ⟨w.heap.size + 1, 2, none⟩ = some (.int .u32 (c 2)) := row_cell H1.out.b4 2
  have c3 : w1.cell? ⟨w.heap.size + 1, 3, none⟩ = some (.int .u32 (c 3)) := row_cell H1.out.b4 3
  have c4 : w1.cell? ⟨w.heap.size + 1, 4, none⟩ = some (.int .u32 (c 4)) := row_cell H1.out.b4 4
  have c5 : w1.cell? ⟨w.heap.size + 1, 5, none⟩ = some (.int .u32 (c 5)) := row_cell H1.out.b4 5
  have c6 : w1.cell? ⟨w.heap.size + 1, 6, none⟩ = some (.int .u32 (c 6)) := row_cell H1.out.b4 6
  have c7 : w1.cell? ⟨w.heap.size + 1, 7, none⟩ = some (.int .u32 (c 7)) := row_cell H1.out.b4 7
  have c8 : w1.cell? ⟨w.heap.size + 1, 8, none⟩ = some (.int .u32 (c 8)) := row_cell H1.out.b4 8
  have c9 : w1.cell? ⟨w.heap.size + 1, 9, none⟩ = some (.int .u32 (c 9)) := row_cell H1.out.b4 9
  have c10 : w1.cell? ⟨w.heap.size + 1, 10, none⟩ = some (.int .u32 (c 10)) := row_cell H1.out.b4 10
  have c11 : w1.cell? ⟨w.heap.size + 1, 11, none⟩ = some (.int .u32 (c 11)) := row_cell H1.out.b4 11
  have vy0 : w1.cell? ⟨w.heap.size + 1 + 1, 0, none⟩ = some (.int .u32 0) := row_cell H1.out.b6 0
  have vy1 : w1.cell? ⟨w.heap.size + 1 + 1, 1, none⟩ = some (.int .u32 0) := row_cell H1.out.b6 1
  have vy2 : w1.cell? ⟨w.heap.size + 1 + 1, 2, none⟩ = some (.int .u32 0) := row_cell H1.out.b6 2
  have vy3 : w1.cell? ⟨w.heap.size + 1 + 1, 3, none⟩ = some (.int .u32 0) := row_cell H1.out.b6 3
  have vy4 : w1.cell? ⟨w.heap.size + 1 + 1, 4, none⟩ = some (.int .u32 0) := row_cell H1.out.b6 4
  have vy5 : w1.cell? ⟨w.heap.size + 1 + 1, 5, none⟩ = some (.int .u32 0) := row_cell H1.out.b6 5
  have vy6 : w1.cell? ⟨w.heap.size + 1 + 1, 6, none⟩ = some (.int .u32 0) := row_cell H1.out.b6 6
  have vy7 : w1.cell? ⟨w.heap.size + 1 + 1, 7, none⟩ = some (.int .u32 0) := row_cell H1.out.b6 7
  have vy8 : w1.cell? ⟨w.heap.size + 1 + 1, 8, none⟩ = some (.int .u32 0) := row_cell H1.out.b6 8
  have vy9 : w1.cell? ⟨w.heap.size + 1 + 1, 9, none⟩ = some (.int .u32 0) := row_cell H1.out.b6 9
  have vy10 : w1.cell? ⟨w.heap.size + 1 + 1, 10, none⟩ = some (.int .u32 0) := row_cell H1.out.b6 10
  have vy11 : w1.cell? ⟨w.heap.size + 1 + 1, 11, none⟩ = some (.int .u32 0) := row_cell H1.out.b6 11
  have vyf := row_fr H1.out.b6
  have vz0 : w1.cell? ⟨w.heap.size + 1 + 1 + 1, 0, none⟩ = some (.int .i64 0) := row_cell H1.out.b7 0
  have vz1 : w1.cell? ⟨w.heap.size + 1 + 1 + 1, 1, none⟩ = some (.int .u32 0) := row_cell H1.out.b7 1
  have vz2 : w1.cell? ⟨w.heap.size + 1 + 1 + 1, 2, none⟩ = some (.int .u32 0) := row_cell H1.out.b7 2
  have vz3 : w1.cell? ⟨w.heap.size + 1 + 1 + 1, 3, none⟩ = some (.int .i64 0) := row_cell H1.out.b7 3
  have vzf := row_fr H1.out.b7
  have m6 := row_lt H1.out.b6
  have m7 := row_lt H1.out.b7
  go_wp2
  exact bodyPost_ret (v := .tuple #[cxV c, exR ⟨0, 0, 0, 0⟩, .int .i64 e1]) (by simp [results, Try.results47, go_sem, vy0, vy1, vy2, vy3, vy4, vy5, vy6, vy7, vy8, vy9, vy10, vy11, vz0, vz1, vz2, vz3, vyf, vzf, m6, m7]) rfl ⟨rfl, by
      have hB := HP.out.below HB1.out HP.out.lt
      (repeat first | with_reducible exact hB | with_reducible refine PM.drew ?_ | with_reducible refine PM.alloc ?_ _ | with_reducible refine PM.setX ?_ (by omega) _), by
      have hC := H1.out.chg
      (repeat first | with_reducible exact hC | with_reducible refine Chg.drewC ?_ | with_reducible refine Chg.allocC ?_ _ | with_reducible refine Chg.setN ?_ (by omega))⟩
theorem peval_any (pc : Nat) (count bytes : Int) (bp : Option Addr) (n cap X : Nat) (f : Nat → OpR) (c : Nat → Nat) (s : MS) (w : World) (hH : HoldsOk) (hO : OpsR w bp n f) (hb : 0 < n → ∀ b off, bp = some ⟨b, off, none⟩ → b ≠ X) (hk : ∀ j, j < n → (f j).k < 4294967296) (hcap : n ≤ cap) (hn : n < 9223372036854775807) (hc : cxOk c) (hs : s.Ok) (h : PM w X s) :
    Calls Try.prog 47 #[.agg #[.int .u32 pc, .int .i64 count, .int .i64 bytes, .slice bp n cap], cxV c, .pointer (some ⟨X, 0, none⟩)] w fun e w' => e = .returned (.tuple #[cxV (evF count bytes n f c s).c, exR (evF count bytes n f c s).x, .int .i64 (evF count bytes n f c s).e]) ∧ PM w' X (evF count bytes n f c s).s ∧ Chg [X] w w' := by
  by_cases h0 : (checkF count bytes n f).1 = 0
  · rw [show evF count bytes n f c s = ⟨(runO f n 0 ⟨c, s, fun _ => 0⟩).1.c, (runO f n 0 ⟨c, s, fun _ => 0⟩).2.1, 0, (runO f n 0 ⟨c, s, fun _ => 0⟩).1.s⟩ from if_pos h0]
    exact peval_ok pc count bytes bp n cap X f c s w hH hO (hb (check_good count bytes n f h0).2.1) hk hcap hn hc hs h h0
  · rw [show evF count bytes n f c s = ⟨c, ⟨0, 0, 0, 0⟩, (checkF count bytes n f).1, s⟩ from if_neg h0]
    exact peval_bad pc count bytes bp n cap X f c s w hO hcap hn h h0
end Go.Proofs.Ytkgbjpdoigdjnaa
