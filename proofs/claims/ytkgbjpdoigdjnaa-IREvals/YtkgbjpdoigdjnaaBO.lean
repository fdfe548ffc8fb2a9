import Derived.Test.YtkgbjpdoigdjnaaET
import Derived.Test.YtkgbjpdoigdjnaaJ03
import Derived.BigRegion
namespace Go.Proofs.Ytkgbjpdoigdjnaa
open Go.RowKit
set_option maxRecDepth 100000
set_option linter.unusedVariables false
set_option linter.unusedSimpArgs false
theorem PM.setWatch {w : World} {X : Nat} {s : MS} (h : PM w X s) (p : Nat) (hp : p < 256) (v : Bool) : PM (w.setCell ⟨X, 65792 + p, none⟩ (.bool v)) X { s with M := upd s.M p v } := by
  have hc := cell_setCell (.bool v) (h.wa p hp)
  refine ⟨fun j hj => ?_, fun j hj => ?_, fun j hj => ?_, fun j hj => ?_, ?_, fun o => ?_⟩
  · rw [hc, if_neg (by omega)]; exact h.by_ j hj
  · rw [hc, if_neg (by omega)]; exact h.ri j hj
  · rw [hc]; by_cases e : j = p
    · subst e; rw [if_pos rfl]; simp [upd]
    · rw [if_neg (by omega), h.wa j hj]; simp [upd, e]
  · rw [hc, if_neg (by omega)]; exact h.to j hj
  · rw [hc, if_neg (by omega)]; exact h.te
  · rw [World.frozen?_setCell]; exact h.fr o
theorem RM.setWatch {w : World} {k : RB} {s : MS} (h : RM w k s) (p : Nat) (hp : p < 256) (v : Bool) : RM (w.setCell ⟨k.m, p, none⟩ (.bool v)) k { s with M := upd s.M p v } := by
  obtain ⟨n1, n2, n3, n4, n5, n6, n7, n8, n9, n10⟩ := h.ne
  have hc := cell_setCell (.bool v) (h.wa p hp)
  have ho : ∀ Y, Y ≠ k.m → ∀ o', (w.setCell ⟨k.m, p, none⟩ (.bool v)).cell? ⟨Y, o', none⟩ = w.cell? ⟨Y, o', none⟩ := fun Y hY o' => cell_setOther _ hY o'
  refine ⟨?_, ?_, ?_, ?_, fun j hj => ?_, fun j hj => ?_, fun j hj => ?_, fun j hj => ?_, fun o => ?_, fun o => ?_, fun o => ?_, fun o => ?_, h.ne⟩
  · rw [ho _ (by omega)]; exact h.c0
  · rw [ho _ (by omega)]; exact h.c1
  · rw [ho _ (by omega)]; exact h.c2
  · rw [ho _ (by omega)]; exact h.c3
  · rw [ho _ (by omega)]; exact h.by_ j hj
  · rw [ho _ (by omega)]; exact h.ri j hj
  · rw [hc]; by_cases e : j = p
    · subst e; rw [if_pos rfl]; simp [upd]
    · rw [if_neg e, h.wa j hj]; simp [upd, e]
  · rw [ho _ (by omega)]; exact h.to j hj
  · rw [World.frozen?_setCell]; exact h.fb o
  · rw [World.frozen?_setCell]; exact h.fr o
  · rw [World.frozen?_setCell]; exact h.fm o
  · rw [World.frozen?_setCell]; exact h.ft o
def markS (s : MS) (p : Nat) (on : Bool) : MS := if on then { s with M := upd s.M p true } else { s with M := upd s.M p false, T := upd s.T p false }
theorem mark_no (X : Nat) (p : Int) (on : Bool) (w : World) (hp : p < 0 ∨ 256 ≤ p) :
    Calls Try.prog 79 #[.pointer (some ⟨X, 0, none⟩), .int .i64 p, .bool on] w fun e w' => e = .returned (.int .i64 4) ∧ w = w' := by
  go_enter Try.func79, Try.ntmps79
  go_wp2_with (go_at_call 118; refine (isPage_no _ _ hp).mono ?_; rintro e w' ⟨rfl, rfl⟩)
  go_ret
  exact ⟨rfl, rfl⟩
theorem rmark_no (k : RB) (p : Int) (on : Bool) (w : World) (hp : p < 0 ∨ 256 ≤ p) :
    Calls Try.prog 80 #[.pointer (some ⟨k.y, 0, none⟩), .int .i64 p, .bool on] w fun e w' => e = .returned (.int .i64 4) ∧ w = w' := by
  go_enter Try.func80, Try.ntmps80
  go_wp2_with (go_at_call 120; refine (page_no _ _ hp).mono ?_; rintro e w' ⟨rfl, rfl⟩)
  go_ret
  exact ⟨rfl, rfl⟩
theorem mark_yes (X p : Nat) (on : Bool) (s : MS) (w : World) (hp : p < 256) (h : PM w X s) :
    Calls Try.prog 79 #[.pointer (some ⟨X, 0, none⟩), .int .i64 p, .bool on] w fun e w' => e = .returned (.int .i64 0) ∧ PM w' X (markS s p on) ∧ Chg [X] w w' := by
  have h0 : (0 : Int) ≤ p := by omega
  have h1 : (p : Int) < 256 := by omega
  have c1 := h.wa p hp
  have c2 := h.to p hp
  have c3 := h.te
  have f0 := h.fr (65792 + p)
  have f1 := h.fr (66048 + p)
  have f2 := h.fr 66304
  have hn := cnt_le s.T 256
  cases on
  · cases hT : s.T p
    · rw [hT] at c2
      have e : markS s p false = { s with M := upd s.M p false } := by simp only [markS]; rw [upd_self _ _ _ hT]; rfl
      rw [e]
      clear hT e
      go_enter Try.func79, Try.ntmps79
      go_wp2_with (go_at_call 118; refine (isPage_yes _ _ hp).mono ?_; rintro e w' ⟨rfl, rfl⟩)
      go_ret
      exact ⟨rfl, h.setWatch p hp false, (Chg.refl _ _).set⟩
    · rw [hT] at c2
      have HU : Hid (cnt (upd s.T p false) 256 + 1 = cnt s.T 256) := cnt_down s.T 256 p hp hT
      have hpos : 0 < cnt s.T 256 := cnt_pos s.T 256 p hp hT
      clear hT
      go_enter Try.func79, Try.ntmps79
      go_wp2_with (go_at_call 118; refine (isPage_yes _ _ hp).mono ?_; rintro e w' ⟨rfl, rfl⟩)
      go_ret
      refine ⟨rfl, (h.setWatch p hp false).setTold p hp false _ ?_, (((Chg.refl _ _).set).set).set⟩
      have := HU.out
      show (cnt s.T 256 : Int) - 1 = (cnt (upd s.T p false) 256 : Int)
      omega
  · go_enter Try.func79, Try.ntmps79
    go_wp2_with (go_at_call 118; refine (isPage_yes _ _ hp).mono ?_; rintro e w' ⟨rfl, rfl⟩)
    go_ret
    exact ⟨rfl, h.setWatch p hp true, (Chg.refl _ _).set⟩
theorem rmark_yes (k : RB) (p : Nat) (on : Bool) (s : MS) (w : World) (hp : p < 256) (h : RM w k s) :
    Calls Try.prog 80 #[.pointer (some ⟨k.y, 0, none⟩), .int .i64 p, .bool on] w fun e w' => e = .returned (.int .i64 0) ∧ RM w' k (markS s p on) ∧ Chg k.all w w' := by
  have h0 : (0 : Int) ≤ p := by omega
  have h1 : (p : Int) < 256 := by omega
  have c1 := h.wa p hp
  have d2 := h.c2
  have f0 := h.fm p
  have hw := h.setWatch p hp on
  have d3' := hw.c3
  have c2' := hw.to p hp
  have f1' := hw.ft p
  cases on
  · go_enter Try.func80, Try.ntmps80
    go_wp2_with (go_at_call 120; refine (page_yes _ _ hp).mono ?_; rintro e w' ⟨rfl, rfl⟩)
    go_ret
    exact ⟨rfl, hw.setTold p hp false, ((Chg.refl _ _).setIn (by simp [RB.all])).setIn (by simp [RB.all])⟩
  · go_enter Try.func80, Try.ntmps80
    go_wp2_with (go_at_call 120; refine (page_yes _ _ hp).mono ?_; rintro e w' ⟨rfl, rfl⟩)
    go_ret
    exact ⟨rfl, hw, (Chg.refl _ _).setIn (by simp [RB.all])⟩
def pageOk (p : Int) : Prop := 0 ≤ p ∧ p < 256
instance (p : Int) : Decidable (pageOk p) := by unfold pageOk; infer_instance
def markE (p : Int) : Int := if pageOk p then 0 else 4
def markT (s : MS) (p : Int) (on : Bool) : MS := if pageOk p then markS s p.toNat on else s
theorem mark_tot (X : Nat) (p : Int) (on : Bool) (s : MS) (w : World) (h : PM w X s) :
    Calls Try.prog 79 #[.pointer (some ⟨X, 0, none⟩), .int .i64 p, .bool on] w fun e w' => e = .returned (.int .i64 (markE p)) ∧ PM w' X (markT s p on) ∧ Chg [X] w w' := by
  by_cases hv : pageOk p
  · obtain ⟨n, rfl⟩ : ∃ n : Nat, p = n := ⟨p.toNat, by unfold pageOk at hv; omega⟩
    have e1 : markE n = 0 := if_pos hv
    have e2 : markT s n on = markS s n on := if_pos hv
    rw [e1, e2]
    exact mark_yes X n on s w (by unfold pageOk at hv; omega) h
  · have e1 : markE p = 4 := if_neg hv
    have e2 : markT s p on = s := if_neg hv
    rw [e1, e2]
    refine (mark_no X p on w (by unfold pageOk at hv; omega)).mono fun e w' ⟨he, hw⟩ => ⟨he, ?_, Chg.same _ hw⟩
    subst hw; exact h
theorem rmark_tot (k : RB) (p : Int) (on : Bool) (s : MS) (w : World) (h : RM w k s) :
    Calls Try.prog 80 #[.pointer (some ⟨k.y, 0, none⟩), .int .i64 p, .bool on] w fun e w' => e = .returned (.int .i64 (markE p)) ∧ RM w' k (markT s p on) ∧ Chg k.all w w' := by
  by_cases hv : pageOk p
  · obtain ⟨n, rfl⟩ : ∃ n : Nat, p = n := ⟨p.toNat, by unfold pageOk at hv; omega⟩
    have e1 : markE n = 0 := if_pos hv
    have e2 : markT s n on = markS s n on := if_pos hv
    rw [e1, e2]
    exact rmark_yes k n on s w (by unfold pageOk at hv; omega) h
  · have e1 : markE p = 4 := if_neg hv
    have e2 : markT s p on = s := if_neg hv
    rw [e1, e2]
    refine (rmark_no k p on w (by unfold pageOk at hv; omega)).mono fun e w' ⟨he, hw⟩ => ⟨he, ?_, Chg.same _ hw⟩
    subst hw; exact h
theorem ok_markT {s : MS} (h : s.Ok) (p : Int) (on : Bool) : (markT s p on).Ok := by
  unfold markT; split
  · unfold markS; split <;> exact ⟨h.by_, h.ri⟩
  · exact h
end Go.Proofs.Ytkgbjpdoigdjnaa
namespace Go.Proofs.Ytkgbjpdoigdjnaa
open Go.RowKit
set_option maxRecDepth 100000
set_option linter.unusedVariables false
set_option linter.unusedSimpArgs false
/-- A part, as it lies there. -/
structure PartAt (w : World) (b o : Nat) (A : Int) (bp : Option Addr) (n c : Nat) (R : Int) (z : Nat → Int) : Prop where
  c0 : w.cell? ⟨b, o, none⟩ = some (.int .i64 A)
  c1 : w.cell? ⟨b, o + 1, none⟩ = some (.slice bp n c)
  c2 : w.cell? ⟨b, o + 2, none⟩ = some (.int .i64 R)
  hA : I64 A
  row : 0 < n → ∃ b' off', bp = some ⟨b', off', none⟩ ∧ ∀ i, i < n → w.cell? ⟨b', off' + i, none⟩ = some (.int .u8 (z i))
  le : n ≤ 140737488355328
  bd : ∀ i, i < n → 0 ≤ z i ∧ z i ≤ 255
structure Parts (w : World) (sp : Option Addr) (len : Nat) : Prop where
  row : 0 < len → ∃ b off, sp = some ⟨b, off, none⟩ ∧ ∀ i, i < len → ∃ A bp n c R z, PartAt w b (off + i * 3) A bp n c R z
  le : len ≤ 140737488355328

/-- Two memories, what lies elsewhere stays. -/
structure BS (W wr : World) (X : Nat) (k : RB) (m1 m2 : MS) : Prop where
  pm : PM wr X m1
  rm : RM wr k m2
  ok1 : m1.Ok
  ok2 : m2.Ok
  bel : Below W.heap.size W wr
  far : ∀ x ∈ X :: k.y :: k.all, W.heap.size ≤ x
  ne : X ∉ k.y :: k.all
theorem BS.x {W wr w' : World} {X : Nat} {k : RB} {m1 m2 m' : MS} (h : BS W wr X k m1 m2) (hP : PM w' X m') (hm : m'.Ok) (hc : Chg [X] wr w') : BS W w' X k m' m2 :=
  ⟨hP, h.rm.keep hc (fun x hx hm => h.ne (by simp at hm; subst hm; exact hx)), hm, h.ok2, h.bel.trans (hc.below h.bel.size (fun x hx => by simp at hx; subst hx; exact h.far _ (List.mem_cons_self ..))), h.far, h.ne⟩
theorem BS.k {W wr w' : World} {X : Nat} {k : RB} {m1 m2 m' : MS} (h : BS W wr X k m1 m2) (hR : RM w' k m') (hm : m'.Ok) (hc : Chg k.all wr w') : BS W w' X k m1 m' :=
  ⟨h.pm.keep hc (fun hm => h.ne (List.mem_cons_of_mem _ hm)), hR, h.ok1, hm, h.bel.trans (hc.below h.bel.size (fun x hx => h.far _ (List.mem_cons_of_mem _ (List.mem_cons_of_mem _ hx)))), h.far, h.ne⟩
theorem BS.alloc {W wr : World} {X : Nat} {k : RB} {m1 m2 : MS} (h : BS W wr X k m1 m2) (o : Obj) : BS W (wr.alloc o) X k m1 m2 :=
  ⟨h.pm.alloc o, h.rm.alloc o, h.ok1, h.ok2, h.bel.alloc h.bel.size o, h.far, h.ne⟩
theorem BS.drew {W wr : World} {X : Nat} {k : RB} {m1 m2 : MS} (h : BS W wr X k m1 m2) : BS W wr.drew X k m1 m2 :=
  ⟨h.pm.drew, h.rm.drew, h.ok1, h.ok2, h.bel.drew, h.far, h.ne⟩
theorem BS.below {W wr w' : World} {X : Nat} {k : RB} {m1 m2 : MS} (h : BS W wr X k m1 m2) (hb : Below wr.heap.size wr w') : BS W w' X k m1 m2 :=
  ⟨h.pm.below hb h.pm.lt, h.rm.below hb (Nat.le_refl _), h.ok1, h.ok2, h.bel.trans (hb.mono h.bel.size), h.far, h.ne⟩
/-- Blocks that are neither memory's. -/
theorem BS.nX {W wr : World} {X : Nat} {k : RB} {m1 m2 : MS} (h : BS W wr X k m1 m2) {P : Nat} (hP : wr.heap.size ≤ P) : P ∉ [X] := fun hm => by
  simp at hm; subst hm; have := h.pm.lt; omega
theorem BS.nK {W wr : World} {X : Nat} {k : RB} {m1 m2 : MS} (h : BS W wr X k m1 m2) {P : Nat} (hP : wr.heap.size ≤ P) : P ∉ k.all := fun hm => by
  have := h.rm.lt P (List.mem_cons_of_mem _ hm); omega
theorem both_new (W : World) {k : RB} {w3 : World} (h1 : NewR (W.alloc (.cells zeroC 123)) k w3) : BS W w3 W.heap.size k newS newS := by
  have hb1 := h1.bel
  simp only [World.size_alloc] at hb1
  have hl1 : ∀ x ∈ k.y :: k.all, W.heap.size + 1 ≤ x := fun x hx => by have := h1.le x hx; simp only [World.size_alloc] at this; omega
  refine ⟨(new_pm W).below hb1 (by omega), h1.rm, newS_ok, newS_ok, ?_, fun x hx => ?_, fun hm => by have := hl1 _ hm; omega⟩
  · exact ((Below.refl _ _).alloc (Nat.le_refl _) _).trans (hb1.mono (by omega))
  · rcases List.mem_cons.1 hx with rfl | hx
    · exact Nat.le_refl _
    · have := hl1 x hx; omega

def atF (A : Int) : Int := if A.tmod 65536 < 0 then A.tmod 65536 + 65536 else A.tmod 65536
theorem PartAt.sr {W w : World} {b o : Nat} {A : Int} {bp : Option Addr} {n c : Nat} {R : Int} {z : Nat → Int} (h : PartAt W b o A bp n c R z) (bel : Below W.heap.size W w) : SR w bp n z := fun h0 => by
  obtain ⟨b', off', hp, hr⟩ := h.row h0
  exact ⟨b', off', hp, fun i hi => (bel.cell (p := ⟨b', off' + i, none⟩) (lt_of_cell (hr i hi))).trans (hr i hi)⟩
theorem PartAt.off {W w : World} {b o : Nat} {A : Int} {bp : Option Addr} {n c : Nat} {R : Int} {z : Nat → Int} {X : Nat} {k : RB} {m1 m2 : MS} (h : PartAt W b o A bp n c R z) (hB : BS W w X k m1 m2) : 0 < n → ∀ b1 o1, bp = some ⟨b1, o1, none⟩ → b1 ∉ k.all := fun h0 b1 o1 e hm => by
  obtain ⟨b', off', hp, hr⟩ := h.row h0
  rw [hp] at e
  cases e
  have h1 := lt_of_cell (hr 0 h0)
  have h2 := hB.far b1 (List.mem_cons_of_mem _ (List.mem_cons_of_mem _ hm))
  simp only at h1
  omega
abbrev partB (A : Int) (bp : Option Addr) (n c : Nat) (R : Int) : Obj := .cells #[.int .i64 A, .slice bp n c, .int .i64 R] 170
theorem part_cells {w : World} {P : Nat} {A : Int} {bp : Option Addr} {n c : Nat} {R : Int} (h : w.heap[P]? = some (partB A bp n c R)) : w.cell? ⟨P, 0, none⟩ = some (.int .i64 A) ∧ w.cell? ⟨P, 1, none⟩ = some (.slice bp n c) ∧ w.cell? ⟨P, 2, none⟩ = some (.int .i64 R) :=
  ⟨cell_of_row _ _ 0 _ 170 (0, 0) h, cell_of_row _ _ 1 _ 170 (0, 0) h, cell_of_row _ _ 2 _ 170 (0, 0) h⟩

structure Marks (w : World) (sp : Option Addr) (len : Nat) : Prop where
  row : 0 < len → ∃ b off, sp = some ⟨b, off, none⟩ ∧ ∀ i, i < len → ∃ v : Int, w.cell? ⟨b, off + i, none⟩ = some (.int .i64 v)
  le : len ≤ 140737488355328
set_option maxHeartbeats 4000000 in
theorem both_any (sp mp : Option Addr) (len cap mlen mcap : Nat) (W : World) (hs : Parts W sp len) (hm : Marks W mp mlen) :
    Calls Try.prog 46 #[.slice sp len cap, .slice mp mlen mcap] W fun e w' => ∃ X k m, e = .returned (.tuple #[.pointer (some ⟨X, 0, none⟩), .pointer (some ⟨k.y, 0, none⟩), .bool true]) ∧ BS W w' X k m m := by
  have HS : Hid (Parts W sp len) := hs
  have HMK : Hid (Marks W mp mlen) := hm
  have ml1 : (mlen : Int) ≤ 140737488355328 := by have := hm.le; omega
  have hl1 : (len : Int) ≤ 140737488355328 := by have := hs.le; omega
  clear hs hm
  go_enter Try.func46, Try.ntmps46
  go_wp2_with first
    | (go_at_call 25; refine (new_any _).mono ?_; rintro e w' ⟨rfl, rfl⟩)
    | (go_at_call 26; refine (rnew_any _).mono ?_; rintro e w3 ⟨k, rfl, hn1⟩; have HN1 : Hid (NewR (W.alloc (.cells zeroC 123)) k w3) := hn1; clear hn1)
  have HP0 : Hid (BS W w3 W.heap.size k newS newS) := both_new W HN1.out
  clear HN1
  go_loopw [24] (fun i wr => ∃ (j : Nat) (m : MS), i = .int .i64 j ∧ j ≤ len ∧ BS W wr W.heap.size k m m) (fun i _ => len - (intOf i).toNat)
  case atStart => exact ⟨0, newS, rfl, Nat.zero_le _, HP0.out⟩
  case round =>
    obtain ⟨j, m, rfl, hj, hB⟩ := hrel
    have HB : Hid _ := hB
    clear hB
    by_cases hlt : j < len
    · obtain ⟨b, off, rfl, hr⟩ := HS.out.row (by omega)
      obtain ⟨A, bp, n, c, R, z, hp⟩ := hr j hlt
      have HPt : Hid _ := hp
      have hji : (j : Int) < len := by omega
      have hj0 : (0 : Int) ≤ j := by omega
      have hbW : b < W.heap.size := lt_of_cell hp.c0
      have e0 := (HB.out.bel.cell (p := ⟨b, off + j * 3, none⟩) hbW).trans hp.c0
      have e1 := (HB.out.bel.cell (p := ⟨b, off + j * 3 + 1, none⟩) hbW).trans hp.c1
      have e2 := (HB.out.bel.cell (p := ⟨b, off + j * 3 + 2, none⟩) hbW).trans hp.c2
      clear hr hp
      have HAI : Hid (I64 A) := HPt.out.hA
      have hlw := HB.out.bel.size
      have hbr : b < wr.heap.size := by omega
      obtain ⟨t, ht⟩ : ∃ t, A.tmod 65536 = t := ⟨_, rfl⟩
      have t1 : t < 65536 := ht ▸ Int.tmod_lt_of_pos A (show (0 : Int) < 65536 by omega)
      have t2 : -65536 < t := ht ▸ Int.lt_tmod_of_pos A (show (0 : Int) < 65536 by omega)
      by_cases hneg : t < 0
      · have dn : decide (t < 0) = true := decide_eq_true hneg
        obtain ⟨x, hx⟩ : ∃ x, t + 65536 = x := ⟨_, rfl⟩
        have x0 : 0 ≤ x := by omega
        have x1 : x < 65536 := by omega
        have HX : Hid (True ∧ I64 x) := ⟨trivial, by omega, by omega⟩
        clear hneg
        go_wp2_with first
          | (go_at_call 69; refine (poke_tot W.heap.size x bp n c z m _ HX.out.2 (HPt.out.sr (HB.out.alloc _).bel) (HB.out.alloc _).pm).mono ?_; rintro e w1 ⟨rfl, hP1, hC1⟩; have HB1 : Hid (BS W w1 W.heap.size k (pokeT m x n z) m) := (HB.out.alloc _).x hP1 (ok_pokeT HB.out.ok1 _ _ _ HPt.out.bd) hC1; have HQ1 : Hid (w1.heap[wr.heap.size]? = some (partB A bp n c R)) := (hC1.block _ (by simp) (HB.out.nX (Nat.le_refl _))).trans (heap_alloc_last wr _); obtain ⟨f0, f1, f2⟩ := part_cells HQ1.out; clear hP1 hC1)
          | (go_at_call 70; refine (rpoke_tot k x bp n c z m _ HX.out.2 (Nat.le_trans HPt.out.le (by decide)) (HPt.out.sr HB1.out.bel) (HPt.out.off HB1.out) HB1.out.rm).mono ?_; rintro e w2 ⟨rfl, hR2, hC2⟩; have HB2 : Hid (BS W w2 W.heap.size k (pokeT m x n z) (pokeT m x n z)) := HB1.out.k hR2 (ok_pokeT HB.out.ok1 _ _ _ HPt.out.bd) hC2; have HQ2 : Hid (w2.heap[wr.heap.size]? = some (partB A bp n c R)) := (hC2.block _ (lt_of_block HQ1.out) (HB.out.nK (Nat.le_refl _))).trans HQ1.out; obtain ⟨g0, g1, g2⟩ := part_cells HQ2.out; clear hR2 hC2)
          | (go_at_call 67; refine (prot_tot W.heap.size (x / 256) R _ _ HB2.out.pm).mono ?_; rintro e w3' ⟨rfl, hP3, hC3⟩; have HB3 : Hid (BS W w3' W.heap.size k (protT (pokeT m x n z) (x / 256) R) (pokeT m x n z)) := HB2.out.x hP3 (ok_protT (ok_pokeT HB.out.ok1 _ _ _ HPt.out.bd) _ _) hC3; have HQ3 : Hid (w3'.heap[wr.heap.size]? = some (partB A bp n c R)) := (hC3.block _ (lt_of_block HQ2.out) (HB.out.nX (Nat.le_refl _))).trans HQ2.out; obtain ⟨y0, y1, y2⟩ := part_cells HQ3.out; clear hP3 hC3)
          | (go_at_call 68; refine (rprot_tot k (x / 256) R _ _ HB3.out.rm).mono ?_; rintro e w4 ⟨rfl, hR4, hC4⟩; have HB4 : Hid (BS W w4 W.heap.size k (protT (pokeT m x n z) (x / 256) R) (protT (pokeT m x n z) (x / 256) R)) := HB3.out.k hR4 (ok_protT (ok_pokeT HB.out.ok1 _ _ _ HPt.out.bd) _ _) hC4; clear hR4 hC4)
        go_roundw
        case rel => exact ⟨j + 1, _, by go_num, by omega, HB4.out⟩
        case measure => simp [intOf]; omega
      · have dn : decide (t < 0) = false := decide_eq_false hneg
        obtain ⟨x, hx⟩ : ∃ x, t = x := ⟨_, rfl⟩
        subst hx
        obtain ⟨x, hx⟩ : ∃ x, x = t := ⟨_, rfl⟩
        subst hx
        have x0 : 0 ≤ x := by omega
        have HX : Hid (True ∧ I64 x) := ⟨trivial, by omega, by omega⟩
        clear hneg
        go_wp2_with first
          | (go_at_call 69; refine (poke_tot W.heap.size x bp n c z m _ HX.out.2 (HPt.out.sr (HB.out.alloc _).bel) (HB.out.alloc _).pm).mono ?_; rintro e w1 ⟨rfl, hP1, hC1⟩; have HB1 : Hid (BS W w1 W.heap.size k (pokeT m x n z) m) := (HB.out.alloc _).x hP1 (ok_pokeT HB.out.ok1 _ _ _ HPt.out.bd) hC1; have HQ1 : Hid (w1.heap[wr.heap.size]? = some (partB A bp n c R)) := (hC1.block _ (by simp) (HB.out.nX (Nat.le_refl _))).trans (heap_alloc_last wr _); obtain ⟨f0, f1, f2⟩ := part_cells HQ1.out; clear hP1 hC1)
          | (go_at_call 70; refine (rpoke_tot k x bp n c z m _ HX.out.2 (Nat.le_trans HPt.out.le (by decide)) (HPt.out.sr HB1.out.bel) (HPt.out.off HB1.out) HB1.out.rm).mono ?_; rintro e w2 ⟨rfl, hR2, hC2⟩; have HB2 : Hid (BS W w2 W.heap.size k (pokeT m x n z) (pokeT m x n z)) := HB1.out.k hR2 (ok_pokeT HB.out.ok1 _ _ _ HPt.out.bd) hC2; have HQ2 : Hid (w2.heap[wr.heap.size]? = some (partB A bp n c R)) := (hC2.block _ (lt_of_block HQ1.out) (HB.out.nK (Nat.le_refl _))).trans HQ1.out; obtain ⟨g0, g1, g2⟩ := part_cells HQ2.out; clear hR2 hC2)
          | (go_at_call 67; refine (prot_tot W.heap.size (x / 256) R _ _ HB2.out.pm).mono ?_; rintro e w3' ⟨rfl, hP3, hC3⟩; have HB3 : Hid (BS W w3' W.heap.size k (protT (pokeT m x n z) (x / 256) R) (pokeT m x n z)) := HB2.out.x hP3 (ok_protT (ok_pokeT HB.out.ok1 _ _ _ HPt.out.bd) _ _) hC3; have HQ3 : Hid (w3'.heap[wr.heap.size]? = some (partB A bp n c R)) := (hC3.block _ (lt_of_block HQ2.out) (HB.out.nX (Nat.le_refl _))).trans HQ2.out; obtain ⟨y0, y1, y2⟩ := part_cells HQ3.out; clear hP3 hC3)
          | (go_at_call 68; refine (rprot_tot k (x / 256) R _ _ HB3.out.rm).mono ?_; rintro e w4 ⟨rfl, hR4, hC4⟩; have HB4 : Hid (BS W w4 W.heap.size k (protT (pokeT m x n z) (x / 256) R) (protT (pokeT m x n z) (x / 256) R)) := HB3.out.k hR4 (ok_protT (ok_pokeT HB.out.ok1 _ _ _ HPt.out.bd) _ _) hC4; clear hR4 hC4)
        go_roundw
        case rel => exact ⟨j + 1, _, by go_num, by omega, HB4.out⟩
        case measure => simp [intOf]; omega
    · have hjl : j = len := by omega
      subst hjl
      have d0 : decide ((j : Int) < (j : Int)) = false := decide_eq_false (by omega)
      go_wp2
      go_loopw [68] (fun i wr => ∃ (j2 : Nat) (m : MS), i = .int .i64 j2 ∧ j2 ≤ mlen ∧ BS W wr W.heap.size k m m) (fun i _ => mlen - (intOf i).toNat)
      case atStart => exact ⟨0, m, rfl, Nat.zero_le _, HB.out⟩
      case round =>
        obtain ⟨j2, m2, rfl, hj2, hB2⟩ := hrel
        have HBB : Hid _ := hB2
        clear hB2
        by_cases hlt2 : j2 < mlen
        · obtain ⟨b, off, rfl, hr⟩ := HMK.out.row (by omega)
          obtain ⟨v, hv⟩ := hr j2 hlt2
          have hji : (j2 : Int) < mlen := by omega
          have hj0 : (0 : Int) ≤ j2 := by omega
          have e0 := (HBB.out.bel.cell (p := ⟨b, off + j2, none⟩) (lt_of_cell hv)).trans hv
          clear hr hv
          go_wp2_with first
            | (go_at_call 79; refine (mark_tot W.heap.size v true m2 _ HBB.out.pm).mono ?_; rintro e w1 ⟨rfl, hP1, hC1⟩; have HB1 : Hid (BS W w1 W.heap.size k (markT m2 v true) m2) := HBB.out.x hP1 (ok_markT HBB.out.ok1 _ _) hC1; clear hP1 hC1)
            | (go_at_call 80; refine (rmark_tot k v true m2 _ HB1.out.rm).mono ?_; rintro e w2 ⟨rfl, hR2, hC2⟩; have HB2 : Hid (BS W w2 W.heap.size k (markT m2 v true) (markT m2 v true)) := HB1.out.k hR2 (ok_markT HBB.out.ok1 _ _) hC2; clear hR2 hC2)
          go_roundw
          case rel => exact ⟨j2 + 1, _, by go_num, by omega, HB2.out⟩
          case measure => simp [intOf]; omega
        · have hjl : j2 = mlen := by omega
          subst hjl
          have d2 : decide ((j2 : Int) < (j2 : Int)) = false := decide_eq_false (by omega)
          go_wp2
          refine bodyPost_ret (v := .tuple #[.pointer (some ⟨W.heap.size, 0, none⟩), .pointer (some ⟨k.y, 0, none⟩), .bool true]) (by simp [results, Try.results46, go_sem]) rfl ⟨_, k, _, rfl, HBB.out⟩
end Go.Proofs.Ytkgbjpdoigdjnaa
namespace Go.Proofs.Ytkgbjpdoigdjnaa
open Go.RowKit
set_option maxRecDepth 100000
set_option linter.unusedVariables false
set_option linter.unusedSimpArgs false
set_option maxHeartbeats 2000000 in
theorem alike_any (X : Nat) (k : RB) (s : MS) (w : World) (h : PM w X s) (hr : RM w k s) :
    Calls Try.prog 49 #[.pointer (some ⟨X, 0, none⟩), .pointer (some ⟨k.y, 0, none⟩)] w fun e w' => e = .returned (.bool true) ∧ Below w.heap.size w w' := by
  have HP : Hid (PM w X s) := h
  have HR : Hid (RM w k s) := hr
  have HA : Hid (I64 0) := ⟨by omega, by omega⟩
  have HE : Hid (peekM 0 65536 = 65536 ∧ peekE 0 65536 = 0) := ⟨rfl, rfl⟩
  clear h hr
  go_enter Try.func49, Try.ntmps49
  go_wp2_with (go_at_call 71; refine (peek_tot X 0 65536 s _ HA.out HP.out).mono ?_; rintro e w1 ⟨p1, c1, rfl, hO⟩; rw [HE.out.1, HE.out.2] at *; have hr1 : RM w1 k s := HR.out.below hO.bel (Nat.le_refl _); have HR1 : Hid (RM w1 k s) := hr1; have HO : Hid (Out w w1 p1 65536 (fun i => s.B ((0 : Int).toNat + i))) := hO; clear hr1 hO)
  obtain ⟨b, off, rfl, hc⟩ := HO.out.sr (by omega)
  have HCC : Hid _ := hc
  clear hc
  go_loopw [22] (fun i wr => ∃ j : Nat, i = .int .i64 j ∧ j ≤ 65536 ∧ Below w1.heap.size w1 wr) (fun i _ => 65536 - (intOf i).toNat)
  case atStart => exact ⟨0, rfl, by omega, Below.refl _ _⟩
  case round =>
    obtain ⟨j, rfl, hj, hB⟩ := hrel
    have HB : Hid _ := hB
    by_cases hlt : j < 65536
    · have hji : (j : Int) < 65536 := by omega
      have dj : decide ((j : Int) < 65536) = true := decide_eq_true hji
      have j0 : (0 : Int) ≤ (j : Int) := by omega
      have HLT : Hid _ := hlt
      have hr2 := HR1.out.below hB (Nat.le_refl _)
      have e0 := hr2.c0
      have e1 := hr2.by_ j hlt
      have e2 : wr.cell? ⟨b, off + j, none⟩ = some (.int .u8 (s.B j)) := by
        have h3 := HCC.out j hlt
        simp only [Int.toNat_zero, Nat.zero_add] at h3
        exact (hB.cell (p := ⟨b, off + j, none⟩) (lt_of_cell h3)).trans h3
      clear hr2 hB hlt
      go_wp2
      go_region
      all_goals go_wp2
      all_goals go_roundw
      case rel => exact ⟨j + 1, by go_num, HLT.out, HB.out.drew⟩
      case measure => have := HLT.out; simp [intOf]; omega
    · obtain rfl : j = 65536 := by omega
      clear hB hlt
      go_wp2
      go_ret
      exact ⟨rfl, HO.out.bel.trans (HB.out.mono HO.out.bel.size)⟩
end Go.Proofs.Ytkgbjpdoigdjnaa
