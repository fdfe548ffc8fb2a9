import Derived.Test.YtkhaajbhgenicaaMT
namespace Go.Proofs.Ytkhaajbhgenicaa
open Go.RowKit
set_option maxRecDepth 100000
set_option linter.unusedVariables false

/-- A list of numbers lies there. -/
structure IR (w : World) (p : Option Addr) (l : List Int) : Prop where
  row : 0 < l.length → ∃ g, p = some ⟨g, 0, none⟩ ∧ ∀ i, i < l.length → w.cell? ⟨g, i, none⟩ = some (.int .i64 (l.getD i 0))
theorem OL.ir {w : World} {base : Nat} {v : Value} {l : List Int} (h : OL w base v l) : ∃ p c, v = .slice p l.length c ∧ IR w p l ∧ (0 < l.length → ∃ g, p = some ⟨g, 0, none⟩ ∧ base ≤ g ∧ g < w.heap.size) := by
  obtain ⟨p, c, hv, hr⟩ := h.slice
  refine ⟨p, c, hv, ⟨fun h0 => ?_⟩, fun h0 => ?_⟩
  · obtain ⟨g, hp, hb, hc⟩ := hr h0
    exact ⟨g, hp, fun i hi => hc i _ (by rw [List.getD_eq_getElem?_getD, List.getElem?_eq_getElem hi]; rfl)⟩
  · obtain ⟨g, hp, hb, hc⟩ := hr h0
    exact ⟨g, hp, hb, lt_of_cell (hc 0 _ (List.getElem?_eq_getElem h0))⟩
theorem IR.chg {S : List Nat} {w w' : World} {p : Option Addr} {l : List Int} (h : IR w p l) (hc : Chg S w w') (hS : ∀ g, p = some ⟨g, 0, none⟩ → 0 < l.length → g ∉ S) : IR w' p l := ⟨fun h0 => by
  obtain ⟨g, hp, hr⟩ := h.row h0
  exact ⟨g, hp, fun i hi => (hc.cell (lt_of_cell (hr 0 h0)) (hS g hp h0)).trans (hr i hi)⟩⟩

theorem ir_far {w w1 : World} {X : Nat} {k : RB} {s : MS} {o : Obj} {p : Option Addr} {l : List Int} (h : Both w X k s) (hg : 0 < l.length → ∃ g, p = some ⟨g, 0, none⟩ ∧ (w.alloc o).heap.size ≤ g ∧ g < w1.heap.size) :
    ∀ g, p = some ⟨g, 0, none⟩ → 0 < l.length → g ∉ k.all := fun g hp h0 hm => by
  obtain ⟨g', hp', hb, -⟩ := hg h0
  rw [hp] at hp'
  cases hp'
  have := h.ltK _ hm
  simp at hb
  omega

theorem Fin.drewN {w w' : World} {X : Nat} {k : RB} (h : Fin w X k w') (m : Nat) : Fin w X k (w'.drewN m) := by
  obtain ⟨⟨s, hB⟩, hC⟩ := h
  exact ⟨⟨s, ⟨hB.pm.of_block rfl, hB.rm.of_blocks (fun _ _ => rfl), hB.ok, hB.ne⟩⟩, ⟨hC.os, hC.tape, hC.output, hC.size, hC.block⟩⟩

set_option maxHeartbeats 2000000 in
theorem step7 (X : Nat) (k : RB) (A N V : Int) (bp : Option Addr) (n c : Nat) (on : Bool) (s : MS) (w : World) (h : Both w X k s) :
    Calls Try.prog 19 #[.pointer (some ⟨X, 0, none⟩), .pointer (some ⟨k.y, 0, none⟩), .agg (stepC 7 A N V bp n c on)] w fun e w' => e = .returned (.bool true) ∧ Fin w X k w' := by
  have HB : Hid (Both w X k s) := h
  clear h
  have HB0 : Hid (Both (w.alloc (.cells (stepC 7 A N V bp n c on) 46)) X k s) := HB.out.alloc _
  obtain ⟨l, hl⟩ : ∃ l, l = toldL s.T 256 := ⟨_, rfl⟩
  have hll : l.length ≤ 256 := by rw [hl, toldL_len]; exact cnt_le _ _
  have hli : (l.length : Int) ≤ 256 := by omega
  have HL : Hid (toldL s.T 256 = l) := hl.symm
  clear hl hll
  go_enter Try.func19, Try.ntmps19
  go_wp2_with first
    | (go_at_call 43; refine (changed_any X s _ HB0.out.pm).mono ?_; rintro e w1 ⟨v1, rfl, ho1, hP1, hC1⟩; rw [HL.out] at ho1; obtain ⟨p1, c1, rfl, hi1, hg1⟩ := ho1.ir; have HI1 : Hid (IR w1 p1 l ∧ (0 < l.length → ∃ g, p1 = some ⟨g, 0, none⟩ ∧ (w.alloc (.cells (stepC 7 A N V bp n c on) 46)).heap.size ≤ g ∧ g < w1.heap.size)) := ⟨hi1, hg1⟩; have HP1 : Hid (PM w1 X (chS s)) := hP1; have HC1 : Hid (Chg [X] (w.alloc (.cells (stepC 7 A N V bp n c on) 46)) w1) := hC1; clear ho1 hi1 hg1 hP1 hC1)
    | (go_at_call 44; refine (rchanged_any k s _ (HB0.out.rmX HC1.out)).mono ?_; rintro e w2 ⟨v2, rfl, ho2, hR2, hC2⟩; rw [HL.out] at ho2; obtain ⟨p2, c2, rfl, hi2, -⟩ := ho2.ir; have HI2 : Hid (IR w2 p2 l) := hi2; have HI1' : Hid (IR w2 p1 l) := HI1.out.1.chg hC2 (ir_far HB.out HI1.out.2); have HF : Hid (Fin w X k w2) := fin_A HB0.out (Chg.refl _ _).al HP1.out HC1.out hR2 hC2 (ok_chS HB.out.ok); clear ho2 hi2 hR2 hC2)
  go_loopw [250] (fun i wr => ∃ j m : Nat, j ≤ l.length ∧ i = .int .i64 j ∧ wr = w2.drewN m) (fun i _ => l.length - (intOf i).toNat)
  case atStart => exact ⟨0, 0, by omega, rfl, rfl⟩
  case round =>
    obtain ⟨j, m, hj, rfl, rfl⟩ := hrel
    by_cases hlt : j < l.length
    · obtain ⟨g1, rfl, r1⟩ := HI1'.out.row (by omega)
      obtain ⟨g2, rfl, r2⟩ := HI2.out.row (by omega)
      have c1' := r1 j hlt
      have c2' := r2 j hlt
      have hji : (j : Int) < l.length := by omega
      have hj0 : (0 : Int) ≤ j := by omega
      clear r1 r2
      go_wp2
      go_quiet (fail)
      go_wp2
      go_roundw
      case rel => exact ⟨j + 1, _, by omega, by go_num, rfl⟩
      case measure => simp [intOf]; omega
    · have hji : ¬ (j : Int) < l.length := by omega
      go_wp2
      go_ret
      exact ⟨rfl, HF.out.drewN _⟩

/-- Bytes that came in, apart from the memories. -/
structure AR (w : World) (X : Nat) (k : RB) (bp : Option Addr) (n : Nat) (z : Nat → Int) : Prop where
  row : 0 < n → ∃ b off, bp = some ⟨b, off, none⟩ ∧ b < w.heap.size ∧ b ∉ X :: k.all ∧ ∀ i, i < n → w.cell? ⟨b, off + i, none⟩ = some (.int .u8 (z i))
  le : n ≤ 140737488355328
  bd : ∀ i, i < n → 0 ≤ z i ∧ z i ≤ 255
theorem AR.sr {w : World} {X : Nat} {k : RB} {bp : Option Addr} {n : Nat} {z : Nat → Int} (h : AR w X k bp n z) : SR w bp n z := fun hn => by
  obtain ⟨b, off, hp, -, -, hr⟩ := h.row hn; exact ⟨b, off, hp, hr⟩
theorem AR.far {w : World} {X : Nat} {k : RB} {bp : Option Addr} {n : Nat} {z : Nat → Int} (h : AR w X k bp n z) : 0 < n → ∀ b off, bp = some ⟨b, off, none⟩ → b ∉ k.all := fun hn b off hp => by
  obtain ⟨b', off', hp', -, hf, -⟩ := h.row hn
  rw [hp] at hp'; cases hp'
  exact fun hm => hf (List.mem_cons_of_mem _ hm)
theorem AR.chg {w w' : World} {X : Nat} {k : RB} {bp : Option Addr} {n : Nat} {z : Nat → Int} (h : AR w X k bp n z) (hc : Chg (X :: k.all) w w') : AR w' X k bp n z :=
  ⟨fun hn => by
    obtain ⟨b, off, hp, hb, hf, hr⟩ := h.row hn
    exact ⟨b, off, hp, Nat.lt_of_lt_of_le hb hc.size, hf, fun i hi => (hc.cell hb hf).trans (hr i hi)⟩, h.le, h.bd⟩
theorem Below.chg {w w' : World} {n : Nat} (S : List Nat) (h : Below n w w') (hn : w.heap.size ≤ n) : Chg S w w' := ⟨h.os, h.tape, h.output, h.size, fun k hk _ => h.block k (by omega)⟩

/-- What is known in the middle of a step. -/
structure Mid (w : World) (X : Nat) (k : RB) (s1 s2 : MS) (A N V : Int) (bp : Option Addr) (n c : Nat) (on : Bool) (z : Nat → Int) (w1 : World) : Prop where
  pm : PM w1 X s1
  rm : RM w1 k s2
  own : Own w w1 A N V bp n c on
  ar : AR w1 X k bp n z
  chg : Chg (X :: k.all) w w1
  low : ∀ x ∈ X :: k.y :: k.all, x < w.heap.size
theorem Mid.chgX {w w1 w2 : World} {X : Nat} {k : RB} {s1 s1' s2 : MS} {A N V : Int} {bp : Option Addr} {n c : Nat} {on : Bool} {z : Nat → Int} (h : Mid w X k s1 s2 A N V bp n c on z w1) (hne : X ∉ k.y :: k.all) (hP : PM w2 X s1') (hC : Chg [X] w1 w2) : Mid w X k s1' s2 A N V bp n c on z w2 :=
  ⟨hP, h.rm.keep hC (fun x hx hm => hne (by simp at hm; subst hm; exact hx)), own_of2 h.own hC (fun x hx => h.low x (by simp at hx; subst hx; simp)) h.chg.size, h.ar.chg hC.toX, h.chg.trans hC.toX, h.low⟩
theorem Mid.chgK {w w1 w2 : World} {X : Nat} {k : RB} {s1 s2 s2' : MS} {A N V : Int} {bp : Option Addr} {n c : Nat} {on : Bool} {z : Nat → Int} (h : Mid w X k s1 s2 A N V bp n c on z w1) (hne : X ∉ k.y :: k.all) (hR : RM w2 k s2') (hC : Chg k.all w1 w2) : Mid w X k s1 s2' A N V bp n c on z w2 :=
  ⟨h.pm.keep hC (fun hm => hne (List.mem_cons_of_mem _ hm)), hR, own_of2 h.own hC (fun x hx => h.low x (List.mem_cons_of_mem _ (List.mem_cons_of_mem _ hx))) h.chg.size, h.ar.chg hC.toK, h.chg.trans hC.toK, h.low⟩
theorem Mid.bel {w w1 w2 : World} {X B : Nat} {k : RB} {s1 s2 : MS} {A N V : Int} {bp : Option Addr} {n c : Nat} {on : Bool} {z : Nat → Int} (h : Mid w X k s1 s2 A N V bp n c on z w1) (hb : Below B w1 w2) (hB : w.heap.size + 1 ≤ B) (hlow : ∀ b off, 0 < n → bp = some ⟨b, off, none⟩ → b < w.heap.size) : Mid w X k s1 s2 A N V bp n c on z w2 := by
  have hlt : ∀ x ∈ X :: k.y :: k.all, x < B := fun x hx => by have := h.low x hx; omega
  refine ⟨h.pm.below hb (hlt X (by simp)), h.rm.of_blocks (fun x hx => hb.block x (hlt x (List.mem_cons_of_mem _ hx))), ?_, ?_, ?_, h.low⟩
  · have hk : ∀ o, w2.cell? ⟨w.heap.size, o, none⟩ = w1.cell? ⟨w.heap.size, o, none⟩ := fun o => hb.cell (p := ⟨w.heap.size, o, none⟩) (by show w.heap.size < B; omega)
    exact ⟨(hk _).trans h.own.f1, (hk _).trans h.own.f2, (hk _).trans h.own.f3, (hk _).trans h.own.f4, (hk _).trans h.own.f5⟩
  · refine ⟨fun hn => ?_, h.ar.le, h.ar.bd⟩
    obtain ⟨b, off, hp, hbl, hf, hr⟩ := h.ar.row hn
    have hlb := hlow b off hn hp
    exact ⟨b, off, hp, Nat.lt_of_lt_of_le hbl hb.size, hf, fun i hi => (hb.cell (p := ⟨b, off + i, none⟩) (by show b < B; omega)).trans (hr i hi)⟩
  · exact ⟨hb.os.trans h.chg.os, hb.tape.trans h.chg.tape, hb.output.trans h.chg.output, Nat.le_trans h.chg.size hb.size, fun x hx hs => (hb.block x (by omega)).trans (h.chg.block x hx hs)⟩
end Go.Proofs.Ytkhaajbhgenicaa
