import Derived.Test.YtkgbjpdoigdjnaaJ16
import Derived.ChangeKeysEq
import Derived.Test.YtkgbjpdoigdjnaaJ25
import Derived.Test.YtkgbjpdoigdjnaaJ26
import Derived.Test.YtkgbjpdoigdjnaaJ03
namespace Go.Proofs.Ytkgbjpdoigdjnaa
open Go.RowKit
set_option maxRecDepth 100000

theorem eq1 (d : Nat) (x : Int) (w : World) : (Op.equalIn (d + 1) 24 (.int .u32 x) (.int .u32 x)).run Try.prog w = .ok true w := by
  rw [run_equalIn_int w d 24 .u32 .u32 x x Try.underlying24]
  simp
theorem part8 (xs : Array Value) (i : Nat) (x : Int) (h : xs[i]? = some (.int .u32 x)) (w : World) : (part 24 xs i).run Try.prog w = .ok (.int .u32 x) w := by
  simp [part, h, go_sem]
theorem eq8 (a0 a1 a2 a3 a4 a5 a6 a7 : Int) (w : World) : (Op.equalIn 9999 62 (.agg #[.int .u32 a0, .int .u32 a1, .int .u32 a2, .int .u32 a3, .int .u32 a4, .int .u32 a5, .int .u32 a6, .int .u32 a7]) (.agg #[.int .u32 a0, .int .u32 a1, .int .u32 a2, .int .u32 a3, .int .u32 a4, .int .u32 a5, .int .u32 a6, .int .u32 a7])).run Try.prog w = .ok true w := by
  obtain ⟨i, hi⟩ : ∃ i, Try.prog.info? 24 = some i := ⟨_, rfl⟩
  have hc : Try.prog.cellsOf 24 = 1 := by kernel_rfl
  rw [show (9999 : Nat) = 9998 + 1 from rfl, run_equalIn_array w 9998 _ _ Try.underlying62 hi, hc]
  have e := fun x => eq1 9997 x w
  have p := fun xs i x h => part8 xs i x h w
  simp [List.range, List.range.loop, Op.eqItems, e, p]
end Go.Proofs.Ytkgbjpdoigdjnaa

namespace Go.Proofs.Ytkgbjpdoigdjnaa
open Go.RowKit
set_option maxRecDepth 100000
set_option linter.unusedVariables false
set_option linter.unusedSimpArgs false

/-- A part, as it lies there. -/
structure PartAt (w : World) (b o : Nat) (A : Int) (bp : Option Addr) (n c : Nat) (R : Int) (z : Nat → Int) : Prop where
  c0 : w.cell? ⟨b, o, none⟩ = some (.int .i64 A)
  c1 : w.cell? ⟨b, o + 1, none⟩ = some (.slice bp n c)
  c2 : w.cell? ⟨b, o + 2, none⟩ = some (.int .i64 R)
  hA : I64 A
  row : 0 < n → ∃ b' off', bp = some ⟨b', off', none⟩ ∧ ∀ i, i < n → w.cell? ⟨b', off' + i, none⟩ = some (.int .u8 (z i))
  le : n ≤ 140737488355328
  bd : ∀ i, i < n → 0 ≤ z i ∧ z i ≤ 255
structure Parts (w : World) (sp : Option Addr) (len : Nat) : Prop where
  row : 0 < len → ∃ b off, sp = some ⟨b, off, none⟩ ∧ ∀ i, i < len → ∃ A bp n c R z, PartAt w b (off + i * 3) A bp n c R z
  le : len ≤ 140737488355328

/-- Two memories, what lies elsewhere stays. -/
structure BS (W wr : World) (X : Nat) (k : RB) (m1 m2 : MS) : Prop where
  pm : PM wr X m1
  rm : RM wr k m2
  ok1 : m1.Ok
  ok2 : m2.Ok
  bel : Below W.heap.size W wr
  far : ∀ x ∈ X :: k.y :: k.all, W.heap.size ≤ x
  ne : X ∉ k.y :: k.all
theorem BS.x {W wr w' : World} {X : Nat} {k : RB} {m1 m2 m' : MS} (h : BS W wr X k m1 m2) (hP : PM w' X m') (hm : m'.Ok) (hc : Chg [X] wr w') : BS W w' X k m' m2 :=
  ⟨hP, h.rm.keep hc (fun x hx hm => h.ne (by simp at hm; subst hm; exact hx)), hm, h.ok2, h.bel.trans (hc.below h.bel.size (fun x hx => by simp at hx; subst hx; exact h.far _ (List.mem_cons_self ..))), h.far, h.ne⟩
theorem BS.k {W wr w' : World} {X : Nat} {k : RB} {m1 m2 m' : MS} (h : BS W wr X k m1 m2) (hR : RM w' k m') (hm : m'.Ok) (hc : Chg k.all wr w') : BS W w' X k m1 m' :=
  ⟨h.pm.keep hc (fun hm => h.ne (List.mem_cons_of_mem _ hm)), hR, h.ok1, hm, h.bel.trans (hc.below h.bel.size (fun x hx => h.far _ (List.mem_cons_of_mem _ (List.mem_cons_of_mem _ hx)))), h.far, h.ne⟩
theorem BS.alloc {W wr : World} {X : Nat} {k : RB} {m1 m2 : MS} (h : BS W wr X k m1 m2) (o : Obj) : BS W (wr.alloc o) X k m1 m2 :=
  ⟨h.pm.alloc o, h.rm.alloc o, h.ok1, h.ok2, h.bel.alloc h.bel.size o, h.far, h.ne⟩
theorem BS.drew {W wr : World} {X : Nat} {k : RB} {m1 m2 : MS} (h : BS W wr X k m1 m2) : BS W wr.drew X k m1 m2 :=
  ⟨h.pm.drew, h.rm.drew, h.ok1, h.ok2, h.bel.drew, h.far, h.ne⟩
theorem BS.below {W wr w' : World} {X : Nat} {k : RB} {m1 m2 : MS} (h : BS W wr X k m1 m2) (hb : Below wr.heap.size wr w') : BS W w' X k m1 m2 :=
  ⟨h.pm.below hb h.pm.lt, h.rm.below hb (Nat.le_refl _), h.ok1, h.ok2, h.bel.trans (hb.mono h.bel.size), h.far, h.ne⟩
/-- Blocks that are neither memory's. -/
theorem BS.nX {W wr : World} {X : Nat} {k : RB} {m1 m2 : MS} (h : BS W wr X k m1 m2) {P : Nat} (hP : wr.heap.size ≤ P) : P ∉ [X] := fun hm => by
  simp at hm; subst hm; have := h.pm.lt; omega
theorem BS.nK {W wr : World} {X : Nat} {k : RB} {m1 m2 : MS} (h : BS W wr X k m1 m2) {P : Nat} (hP : wr.heap.size ≤ P) : P ∉ k.all := fun hm => by
  have := h.rm.lt P (List.mem_cons_of_mem _ hm); omega
theorem both_new (W : World) {k : RB} {w3 : World} (h1 : NewR (W.alloc (.cells zeroC 123)) k w3) : BS W w3 W.heap.size k newS newS := by
  have hb1 := h1.bel
  simp only [World.size_alloc] at hb1
  have hl1 : ∀ x ∈ k.y :: k.all, W.heap.size + 1 ≤ x := fun x hx => by have := h1.le x hx; simp only [World.size_alloc] at this; omega
  refine ⟨(new_pm W).below hb1 (by omega), h1.rm, newS_ok, newS_ok, ?_, fun x hx => ?_, fun hm => by have := hl1 _ hm; omega⟩
  · exact ((Below.refl _ _).alloc (Nat.le_refl _) _).trans (hb1.mono (by omega))
  · rcases List.mem_cons.1 hx with rfl | hx
    · exact Nat.le_refl _
    · have := hl1 x hx; omega

def atF (A : Int) : Int := if A.tmod 65536 < 0 then A.tmod 65536 + 65536 else A.tmod 65536
theorem PartAt.sr {W w : World} {b o : Nat} {A : Int} {bp : Option Addr} {n c : Nat} {R : Int} {z : Nat → Int} (h : PartAt W b o A bp n c R z) (bel : Below W.heap.size W w) : SR w bp n z := fun h0 => by
  obtain ⟨b', off', hp, hr⟩ := h.row h0
  exact ⟨b', off', hp, fun i hi => (bel.cell (p := ⟨b', off' + i, none⟩) (lt_of_cell (hr i hi))).trans (hr i hi)⟩
theorem PartAt.off {W w : World} {b o : Nat} {A : Int} {bp : Option Addr} {n c : Nat} {R : Int} {z : Nat → Int} {X : Nat} {k : RB} {m1 m2 : MS} (h : PartAt W b o A bp n c R z) (hB : BS W w X k m1 m2) : 0 < n → ∀ b1 o1, bp = some ⟨b1, o1, none⟩ → b1 ∉ k.all := fun h0 b1 o1 e hm => by
  obtain ⟨b', off', hp, hr⟩ := h.row h0
  rw [hp] at e
  cases e
  have h1 := lt_of_cell (hr 0 h0)
  have h2 := hB.far b1 (List.mem_cons_of_mem _ (List.mem_cons_of_mem _ hm))
  simp only at h1
  omega
abbrev partB (A : Int) (bp : Option Addr) (n c : Nat) (R : Int) : Obj := .cells #[.int .i64 A, .slice bp n c, .int .i64 R] 75
theorem part_cells {w : World} {P : Nat} {A : Int} {bp : Option Addr} {n c : Nat} {R : Int} (h : w.heap[P]? = some (partB A bp n c R)) : w.cell? ⟨P, 0, none⟩ = some (.int .i64 A) ∧ w.cell? ⟨P, 1, none⟩ = some (.slice bp n c) ∧ w.cell? ⟨P, 2, none⟩ = some (.int .i64 R) :=
  ⟨cell_of_row _ _ 0 _ 75 (0, 0) h, cell_of_row _ _ 1 _ 75 (0, 0) h, cell_of_row _ _ 2 _ 75 (0, 0) h⟩

set_option maxHeartbeats 4000000 in
theorem both_any (sp : Option Addr) (len cap : Nat) (W : World) (hs : Parts W sp len) :
    Calls Try.prog 35 #[.slice sp len cap] W fun e w' => ∃ X k m, e = .returned (.tuple #[.pointer (some ⟨X, 0, none⟩), .pointer (some ⟨k.y, 0, none⟩), .bool true]) ∧ BS W w' X k m m := by
  have HS : Hid (Parts W sp len) := hs
  have hl1 : (len : Int) ≤ 140737488355328 := by have := hs.le; omega
  clear hs
  go_enter Try.func35, Try.ntmps35
  go_wp2_with first
    | (go_at_call 25; refine (new_any _).mono ?_; rintro e w' ⟨rfl, rfl⟩)
    | (go_at_call 26; refine (rnew_any _).mono ?_; rintro e w3 ⟨k, rfl, hn1⟩; have HN1 : Hid (NewR (W.alloc (.cells zeroC 123)) k w3) := hn1; clear hn1)
  have HP0 : Hid (BS W w3 W.heap.size k newS newS) := both_new W HN1.out
  clear HN1
  go_loopw [20] (fun i wr => ∃ (j : Nat) (m : MS), i = .int .i64 j ∧ j ≤ len ∧ BS W wr W.heap.size k m m) (fun i _ => len - (intOf i).toNat)
  case atStart => exact ⟨0, newS, rfl, Nat.zero_le _, HP0.out⟩
  case round =>
    obtain ⟨j, m, rfl, hj, hB⟩ := hrel
    have HB : Hid _ := hB
    clear hB
    by_cases hlt : j < len
    · obtain ⟨b, off, rfl, hr⟩ := HS.out.row (by omega)
      obtain ⟨A, bp, n, c, R, z, hp⟩ := hr j hlt
      have HPt : Hid _ := hp
      have hji : (j : Int) < len := by omega
      have hj0 : (0 : Int) ≤ j := by omega
      have hbW : b < W.heap.size := lt_of_cell hp.c0
      have e0 := (HB.out.bel.cell (p := ⟨b, off + j * 3, none⟩) hbW).trans hp.c0
      have e1 := (HB.out.bel.cell (p := ⟨b, off + j * 3 + 1, none⟩) hbW).trans hp.c1
      have e2 := (HB.out.bel.cell (p := ⟨b, off + j * 3 + 2, none⟩) hbW).trans hp.c2
      clear hr hp
      have HAI : Hid (I64 A) := HPt.out.hA
      have hlw := HB.out.bel.size
      have hbr : b < wr.heap.size := by omega
      obtain ⟨t, ht⟩ : ∃ t, A.tmod 65536 = t := ⟨_, rfl⟩
      have t1 : t < 65536 := ht ▸ Int.tmod_lt_of_pos A (show (0 : Int) < 65536 by omega)
      have t2 : -65536 < t := ht ▸ Int.lt_tmod_of_pos A (show (0 : Int) < 65536 by omega)
      by_cases hneg : t < 0
      · have dn : decide (t < 0) = true := decide_eq_true hneg
        obtain ⟨x, hx⟩ : ∃ x, t + 65536 = x := ⟨_, rfl⟩
        have x0 : 0 ≤ x := by omega
        have x1 : x < 65536 := by omega
        have HX : Hid (True ∧ I64 x) := ⟨trivial, by omega, by omega⟩
        clear hneg
        go_wp2_with first
          | (go_at_call 69; refine (poke_tot W.heap.size x bp n c z m _ HX.out.2 (HPt.out.sr (HB.out.alloc _).bel) (HB.out.alloc _).pm).mono ?_; rintro e w1 ⟨rfl, hP1, hC1⟩; have HB1 : Hid (BS W w1 W.heap.size k (pokeT m x n z) m) := (HB.out.alloc _).x hP1 (ok_pokeT HB.out.ok1 _ _ _ HPt.out.bd) hC1; have HQ1 : Hid (w1.heap[wr.heap.size]? = some (partB A bp n c R)) := (hC1.block _ (by simp) (HB.out.nX (Nat.le_refl _))).trans (heap_alloc_last wr _); obtain ⟨f0, f1, f2⟩ := part_cells HQ1.out; clear hP1 hC1)
          | (go_at_call 70; refine (rpoke_tot k x bp n c z m _ HX.out.2 (Nat.le_trans HPt.out.le (by decide)) (HPt.out.sr HB1.out.bel) (HPt.out.off HB1.out) HB1.out.rm).mono ?_; rintro e w2 ⟨rfl, hR2, hC2⟩; have HB2 : Hid (BS W w2 W.heap.size k (pokeT m x n z) (pokeT m x n z)) := HB1.out.k hR2 (ok_pokeT HB.out.ok1 _ _ _ HPt.out.bd) hC2; have HQ2 : Hid (w2.heap[wr.heap.size]? = some (partB A bp n c R)) := (hC2.block _ (lt_of_block HQ1.out) (HB.out.nK (Nat.le_refl _))).trans HQ1.out; obtain ⟨g0, g1, g2⟩ := part_cells HQ2.out; clear hR2 hC2)
          | (go_at_call 67; refine (prot_tot W.heap.size (x / 256) R _ _ HB2.out.pm).mono ?_; rintro e w3' ⟨rfl, hP3, hC3⟩; have HB3 : Hid (BS W w3' W.heap.size k (protT (pokeT m x n z) (x / 256) R) (pokeT m x n z)) := HB2.out.x hP3 (ok_protT (ok_pokeT HB.out.ok1 _ _ _ HPt.out.bd) _ _) hC3; have HQ3 : Hid (w3'.heap[wr.heap.size]? = some (partB A bp n c R)) := (hC3.block _ (lt_of_block HQ2.out) (HB.out.nX (Nat.le_refl _))).trans HQ2.out; obtain ⟨y0, y1, y2⟩ := part_cells HQ3.out; clear hP3 hC3)
          | (go_at_call 68; refine (rprot_tot k (x / 256) R _ _ HB3.out.rm).mono ?_; rintro e w4 ⟨rfl, hR4, hC4⟩; have HB4 : Hid (BS W w4 W.heap.size k (protT (pokeT m x n z) (x / 256) R) (protT (pokeT m x n z) (x / 256) R)) := HB3.out.k hR4 (ok_protT (ok_pokeT HB.out.ok1 _ _ _ HPt.out.bd) _ _) hC4; clear hR4 hC4)
        go_roundw
        case rel => exact ⟨j + 1, _, by go_num, by omega, HB4.out⟩
        case measure => simp [intOf]; omega
      · have dn : decide (t < 0) = false := decide_eq_false hneg
        obtain ⟨x, hx⟩ : ∃ x, t = x := ⟨_, rfl⟩
        subst hx
        obtain ⟨x, hx⟩ : ∃ x, x = t := ⟨_, rfl⟩
        subst hx
        have x0 : 0 ≤ x := by omega
        have HX : Hid (True ∧ I64 x) := ⟨trivial, by omega, by omega⟩
        clear hneg
        go_wp2_with first
          | (go_at_call 69; refine (poke_tot W.heap.size x bp n c z m _ HX.out.2 (HPt.out.sr (HB.out.alloc _).bel) (HB.out.alloc _).pm).mono ?_; rintro e w1 ⟨rfl, hP1, hC1⟩; have HB1 : Hid (BS W w1 W.heap.size k (pokeT m x n z) m) := (HB.out.alloc _).x hP1 (ok_pokeT HB.out.ok1 _ _ _ HPt.out.bd) hC1; have HQ1 : Hid (w1.heap[wr.heap.size]? = some (partB A bp n c R)) := (hC1.block _ (by simp) (HB.out.nX (Nat.le_refl _))).trans (heap_alloc_last wr _); obtain ⟨f0, f1, f2⟩ := part_cells HQ1.out; clear hP1 hC1)
          | (go_at_call 70; refine (rpoke_tot k x bp n c z m _ HX.out.2 (Nat.le_trans HPt.out.le (by decide)) (HPt.out.sr HB1.out.bel) (HPt.out.off HB1.out) HB1.out.rm).mono ?_; rintro e w2 ⟨rfl, hR2, hC2⟩; have HB2 : Hid (BS W w2 W.heap.size k (pokeT m x n z) (pokeT m x n z)) := HB1.out.k hR2 (ok_pokeT HB.out.ok1 _ _ _ HPt.out.bd) hC2; have HQ2 : Hid (w2.heap[wr.heap.size]? = some (partB A bp n c R)) := (hC2.block _ (lt_of_block HQ1.out) (HB.out.nK (Nat.le_refl _))).trans HQ1.out; obtain ⟨g0, g1, g2⟩ := part_cells HQ2.out; clear hR2 hC2)
          | (go_at_call 67; refine (prot_tot W.heap.size (x / 256) R _ _ HB2.out.pm).mono ?_; rintro e w3' ⟨rfl, hP3, hC3⟩; have HB3 : Hid (BS W w3' W.heap.size k (protT (pokeT m x n z) (x / 256) R) (pokeT m x n z)) := HB2.out.x hP3 (ok_protT (ok_pokeT HB.out.ok1 _ _ _ HPt.out.bd) _ _) hC3; have HQ3 : Hid (w3'.heap[wr.heap.size]? = some (partB A bp n c R)) := (hC3.block _ (lt_of_block HQ2.out) (HB.out.nX (Nat.le_refl _))).trans HQ2.out; obtain ⟨y0, y1, y2⟩ := part_cells HQ3.out; clear hP3 hC3)
          | (go_at_call 68; refine (rprot_tot k (x / 256) R _ _ HB3.out.rm).mono ?_; rintro e w4 ⟨rfl, hR4, hC4⟩; have HB4 : Hid (BS W w4 W.heap.size k (protT (pokeT m x n z) (x / 256) R) (protT (pokeT m x n z) (x / 256) R)) := HB3.out.k hR4 (ok_protT (ok_pokeT HB.out.ok1 _ _ _ HPt.out.bd) _ _) hC4; clear hR4 hC4)
        go_roundw
        case rel => exact ⟨j + 1, _, by go_num, by omega, HB4.out⟩
        case measure => simp [intOf]; omega
    · have hjl : j = len := by omega
      subst hjl
      have d0 : decide ((j : Int) < (j : Int)) = false := decide_eq_false (by omega)
      go_wp2
      refine bodyPost_ret (v := .tuple #[.pointer (some ⟨W.heap.size, 0, none⟩), .pointer (some ⟨k.y, 0, none⟩), .bool true]) (by simp [results, Try.results35, go_sem]) rfl ⟨_, k, _, rfl, HB.out⟩
end Go.Proofs.Ytkgbjpdoigdjnaa

namespace Go.Proofs.Ytkgbjpdoigdjnaa
open Go.RowKit
set_option maxRecDepth 100000
set_option linter.unusedVariables false
set_option linter.unusedSimpArgs false

/-- What the program's Step and Run must do: the meaning's. -/
def StepOk : Prop := ∀ (X : Nat) (m : MS) (s : GS) (w : World), PM w X m → m.Ok → s.Ok →
  Calls Try.prog 36 #[.pointer (some ⟨X, 0, none⟩), gsV s] w fun e w' => e = .returned (soV (stepF m s)) ∧ PM w' X (stepF m s).m ∧ Chg [X] w w'
def RunOk : Prop := ∀ (X : Nat) (m : MS) (s : GS) (n : Int) (w : World), PM w X m → m.Ok → s.Ok → n ≤ 9223372036854775807 →
  Calls Try.prog 38 #[.pointer (some ⟨X, 0, none⟩), gsV s, .int .i64 n] w fun e w' => e = .returned (runV (runF m (s.setF (s.f % 16)) n.toNat)) ∧ PM w' X (runF m (s.setF (s.f % 16)) n.toNat).1.m ∧ Chg [X] w w'

/-- A state, as it lies there. -/
structure StateAt (w : World) (b o : Nat) (s : GS) : Prop where
  c0 : w.cell? ⟨b, o, none⟩ = some (.int .u32 (s.R 0))
  c1 : w.cell? ⟨b, o + 1, none⟩ = some (.int .u32 (s.R 1))
  c2 : w.cell? ⟨b, o + 2, none⟩ = some (.int .u32 (s.R 2))
  c3 : w.cell? ⟨b, o + 3, none⟩ = some (.int .u32 (s.R 3))
  c4 : w.cell? ⟨b, o + 4, none⟩ = some (.int .u32 (s.R 4))
  c5 : w.cell? ⟨b, o + 5, none⟩ = some (.int .u32 (s.R 5))
  c6 : w.cell? ⟨b, o + 6, none⟩ = some (.int .u32 (s.R 6))
  c7 : w.cell? ⟨b, o + 7, none⟩ = some (.int .u32 (s.R 7))
  c8 : w.cell? ⟨b, o + 8, none⟩ = some (.int .u32 s.pc)
  c9 : w.cell? ⟨b, o + 9, none⟩ = some (.int .u32 s.f)
  ok : s.Ok
structure States (w : World) (sp : Option Addr) (len : Nat) : Prop where
  row : 0 < len → ∃ b off, sp = some ⟨b, off, none⟩ ∧ ∀ i, i < len → ∃ s, StateAt w b (off + i * 10) s
  le : len ≤ 140737488355328
theorem StateAt.below {W w : World} {b o : Nat} {s : GS} (h : StateAt W b o s) (bel : Below W.heap.size W w) : StateAt w b o s := by
  have hb : b < W.heap.size := lt_of_cell h.c0
  exact ⟨(bel.cell (p := ⟨b, o, none⟩) hb).trans h.c0, (bel.cell (p := ⟨b, o + 1, none⟩) hb).trans h.c1, (bel.cell (p := ⟨b, o + 2, none⟩) hb).trans h.c2, (bel.cell (p := ⟨b, o + 3, none⟩) hb).trans h.c3, (bel.cell (p := ⟨b, o + 4, none⟩) hb).trans h.c4, (bel.cell (p := ⟨b, o + 5, none⟩) hb).trans h.c5, (bel.cell (p := ⟨b, o + 6, none⟩) hb).trans h.c6, (bel.cell (p := ⟨b, o + 7, none⟩) hb).trans h.c7, (bel.cell (p := ⟨b, o + 8, none⟩) hb).trans h.c8, (bel.cell (p := ⟨b, o + 9, none⟩) hb).trans h.c9, h.ok⟩
theorem Chg.at {S : List Nat} {w w' : World} {P : Nat} {o : Obj} (h : Chg S w w') (hb : w.heap[P]? = some o) (hP : P ∉ S) : w'.heap[P]? = some o := (h.block P (lt_of_block hb) hP).trans hb
theorem alloc1 {w : World} {P : Nat} {o o1 : Obj} (hb : w.heap[P]? = some o) : (w.alloc o1).heap[P]? = some o := alloc_at (w' := w) hb
theorem last1 (w : World) (o1 o2 : Obj) : ((w.alloc o1).alloc o2).heap[w.heap.size]? = some o1 := alloc1 (heap_alloc_last w o1)
theorem last2 (w : World) (o1 o2 : Obj) : ((w.alloc o1).alloc o2).heap[w.heap.size + 1]? = some o2 := last_at _ _ _ (by simp)

theorem BS.put2 {W w : World} {X : Nat} {k : RB} {m1 m2 : MS} (h : BS W w X k m1 m2) {P : Nat} (hX : P ∉ [X]) (hy : P ∉ k.y :: k.all) (hW : W.heap.size ≤ P) (v0 v1 : Value) : BS W ((w.setCell ⟨P, 0, none⟩ v0).setCell ⟨P, 1, none⟩ v1) X k m1 m2 := by
  have hO : Only P w ((w.setCell ⟨P, 0, none⟩ v0).setCell ⟨P, 1, none⟩ v1) := ((Only.refl P w).setCell 0 v0).setCell 1 v1
  exact ⟨h.pm.of_block (hO.block X (fun e => hX (by rw [e]; exact List.mem_singleton_self _))), h.rm.off hy hO.block, h.ok1, h.ok2, (h.bel.setCell hW _).setCell hW _, h.far, h.ne⟩
theorem BS.nY {W wr : World} {X : Nat} {k : RB} {m1 m2 : MS} (h : BS W wr X k m1 m2) {P : Nat} (hP : wr.heap.size ≤ P) : P ∉ k.y :: k.all := fun hm => by
  have := h.rm.lt P hm; omega
theorem BS.nW {W wr : World} {X : Nat} {k : RB} {m1 m2 : MS} (h : BS W wr X k m1 m2) {P : Nat} (hP : wr.heap.size ≤ P) : W.heap.size ≤ P := Nat.le_trans h.bel.size hP
theorem put_size (w : World) (P : Nat) (v0 v1 : Value) : ((w.setCell ⟨P, 0, none⟩ v0).setCell ⟨P, 1, none⟩ v1).heap.size = w.heap.size := (((Only.refl P w).setCell 0 v0).setCell 1 v1).size
theorem put_other {w : World} {P Q : Nat} {o : Obj} (v0 v1 : Value) (hb : w.heap[Q]? = some o) (hne : Q ≠ P) : ((w.setCell ⟨P, 0, none⟩ v0).setCell ⟨P, 1, none⟩ v1).heap[Q]? = some o :=
  ((((Only.refl P w).setCell 0 v0).setCell 1 v1).block Q hne).trans hb

set_option maxHeartbeats 8000000 in
theorem means_walk (hStep : StepOk) (hRun : RunOk) (pp sp : Option Addr) (plen pcap slen scap : Nat) (n : Int) (W : World) (hp : Parts W pp plen) (hs : States W sp slen) (hn : I64 n) :
    Calls Try.prog 9 #[.slice pp plen pcap, .slice sp slen scap, .int .i64 n] W fun e w' => e = .returned (.bool true) ∧ Below W.heap.size W w' := by
  have HPs : Hid _ := hp
  have HSs : Hid _ := hs
  have HSt : Hid _ := hStep
  have HRn : Hid _ := hRun
  have hl1 : (slen : Int) ≤ 140737488355328 := by have := hs.le; omega
  have HN : Hid (I64 n) := hn
  clear hp hs hn hStep hRun
  go_enter Try.func9, Try.ntmps9
  go_wp2_with (go_at_call 35; refine (both_any pp plen pcap _ HPs.out).mono ?_; rintro e w0 ⟨X, k, m0, rfl, hB0⟩; have HB0 : Hid _ := hB0; clear hB0)
  go_loopw [31, 2, 10] (fun i nn lf wr => ∃ (j : Nat) (nv lv : Int) (m : MS), i = .int .i64 j ∧ nn = .int .i64 nv ∧ lf = .int .i64 lv ∧ j ≤ slen ∧ I64 nv ∧ (0 ≤ lv ∧ lv ≤ 20000) ∧ BS W wr X k m m) (fun i _ _ _ => slen - (intOf i).toNat)
  case atStart => exact ⟨0, n, 20000, m0, rfl, rfl, rfl, Nat.zero_le _, HN.out, by omega, HB0.out⟩
  case round =>
    obtain ⟨j, nv, lv, m, rfl, rfl, rfl, hj, hnv, hlv, hB⟩ := hrel
    have HB : Hid _ := hB
    have HNV : Hid (I64 nv) := hnv
    have hlv0 := hlv.1
    have hlv1 := hlv.2
    clear hB hnv hlv HB0 HN
    by_cases hlt : j < slen
    · obtain ⟨b, off, rfl, hr⟩ := HSs.out.row (by omega)
      obtain ⟨s, hst0⟩ := hr j hlt
      have hst := hst0.below HB.out.bel
      have HOK : Hid s.Ok := hst.ok
      have hji : (j : Int) < slen := by omega
      have hj0 : (0 : Int) ≤ j := by omega
      obtain ⟨s0, s1, s2, s3, s4, s5, s6, s7, s8, s9, -⟩ := hst
      have hbr : b < wr.heap.size := lt_of_cell s0
      clear hr hst0
      obtain ⟨o, HO⟩ : ∃ o, Hid (stepF m s = o) := ⟨_, rfl⟩
      have HOO : Hid o.Ok := HO.out ▸ stepF_ok HB.out.ok1 HOK.out
      have HA1 : Hid (∀ w, PM w X m → Calls Try.prog 36 #[.pointer (some ⟨X, 0, none⟩), gsV s] w fun e w' => e = .returned (soV o) ∧ PM w' X o.m ∧ Chg [X] w w') := fun w h => by
        have := HSt.out X m s w h HB.out.ok1 HOK.out
        rw [HO.out] at this
        exact this
      have HA2 : Hid (∀ w, RM w k m → Calls Try.prog 37 #[.pointer (some ⟨k.y, 0, none⟩), gsV s] w fun e w' => e = .returned (soV o) ∧ RM w' k o.m ∧ Chg k.all w w') := fun w h => by
        have := rstep_any k m s w h HB.out.ok1 HOK.out
        rw [HO.out] at this
        exact this
      obtain ⟨t, kk, aa, m'⟩ := o
      have E1 := fun w => eq8 (t.R 0) (t.R 1) (t.R 2) (t.R 3) (t.R 4) (t.R 5) (t.R 6) (t.R 7) w
      by_cases hgt : lv < nv
      · have d1 : decide (lv < nv) = true := decide_eq_true hgt
        obtain ⟨r, HR⟩ : ∃ r, Hid (runF m' (t.setF (t.f % 16)) lv.toNat = r) := ⟨_, rfl⟩
        have hro := runF_ok lv.toNat m' (t.setF (t.f % 16)) HOO.out.m (HOO.out.t.setF _ (by omega))
        rw [HR.out] at hro
        have HA3 : Hid (∀ w, PM w X m' → Calls Try.prog 38 #[.pointer (some ⟨X, 0, none⟩), gsV t, .int .i64 lv] w fun e w' => e = .returned (runV r) ∧ PM w' X r.1.m ∧ Chg [X] w w') := fun w h => by
          have := HRn.out X m' t lv w h HOO.out.m HOO.out.t (by omega)
          rw [HR.out] at this
          exact this
        have HA4 : Hid (∀ w, RM w k m' → Calls Try.prog 39 #[.pointer (some ⟨k.y, 0, none⟩), gsV t, .int .i64 lv] w fun e w' => e = .returned (runV r) ∧ RM w' k r.1.m ∧ Chg k.all w w') := fun w h => by
          have := rrun_any k m' t lv w h HOO.out.m HOO.out.t (by omega)
          rw [HR.out] at this
          exact this
        obtain ⟨⟨t2, k2, a2, m2⟩, c2⟩ := r
        have HRO : Hid (SO.mk t2 k2 a2 m2).Ok := hro.1
        have hc2 : (c2 : Int) ≤ lv := by have := hro.2; simp only at this; omega
        have hc20 : (0 : Int) ≤ c2 := by omega
        have E2 := fun w => eq8 (t2.R 0) (t2.R 1) (t2.R 2) (t2.R 3) (t2.R 4) (t2.R 5) (t2.R 6) (t2.R 7) w
        clear hro
        go_wp2_with (first
          | (go_at_call 36; refine (HA1.out _ (HB.out.alloc _).pm).mono ?_; rintro e w1 ⟨rfl, hP1, hC1⟩; have HB1 : Hid (BS W w1 X k m' m) := (HB.out.alloc _).x hP1 HOO.out.m hC1; have HL1 : Hid (w1.heap[wr.heap.size]? = some (gsB s)) := hC1.at (heap_alloc_last wr _) (HB.out.nX (Nat.le_refl _)); obtain ⟨x0, x1, x2, x3, x4, x5, x6, x7, x8, x9⟩ := gs_all HL1.out; have z1 : wr.heap.size < w1.heap.size := lt_of_block HL1.out; have z11 := Nat.lt_succ_of_lt z1; clear hP1 hC1)
          | (go_at_call 37; refine (HA2.out _ ((HB1.out.alloc _).alloc _).rm).mono ?_; rintro e w2 ⟨rfl, hR2, hC2⟩; have HB2 : Hid (BS W w2 X k m' m') := ((HB1.out.alloc _).alloc _).k hR2 HOO.out.m hC2; have HLa : Hid (w2.heap[w1.heap.size]? = some (gsB t)) := hC2.at (last1 w1 _ _) (HB1.out.nK (Nat.le_refl _)); have HLe : Hid (w2.heap[w1.heap.size + 1]? = some (stopB kk aa)) := hC2.at (last2 w1 _ _) (HB1.out.nK (Nat.le_succ _)); obtain ⟨a0, a1, a2, a3, a4, a5, a6, a7, a8, a9⟩ := gs_all HLa.out; obtain ⟨q0, q1, qf0, qf1⟩ := stop_cells HLe.out; have y1 : w1.heap.size < w2.heap.size := lt_of_block HLa.out; have y2 : w1.heap.size + 1 < w2.heap.size := lt_of_block HLe.out; have y3 := Nat.lt_succ_of_lt y1; have y4 := Nat.lt_succ_of_lt y2; clear hR2 hC2 x0 x1 x2 x3 x4 x5 x6 x7 x8 x9)
          | (go_at_call 38; refine (HA3.out _ ((HB2.out.alloc _).alloc _).pm).mono ?_; rintro e w3 ⟨rfl, hP3, hC3⟩; have HB3 : Hid (BS W w3 X k m2 m') := ((HB2.out.alloc _).alloc _).x hP3 HRO.out.m hC3; have HLb : Hid (w3.heap[w2.heap.size]? = some (gsB t)) := hC3.at (last1 w2 _ _) (HB2.out.nX (Nat.le_refl _)); have HLf : Hid (w3.heap[w2.heap.size + 1]? = some (stopB kk aa)) := hC3.at (last2 w2 _ _) (HB2.out.nX (Nat.le_succ _)); have HLe3 : Hid (w3.heap[w1.heap.size + 1]? = some (stopB kk aa)) := hC3.at (alloc1 (alloc1 HLe.out)) (HB1.out.nX (Nat.le_succ _)); clear a0 a1 a2 a3 a4 a5 a6 a7 a8 a9 q0 q1 qf0 qf1 hP3 hC3; obtain ⟨b0, b1, b2, b3, b4, b5, b6, b7, b8, b9⟩ := gs_all HLb.out; obtain ⟨q0, q1, qf0, qf1⟩ := stop_cells HLe3.out; have v1 : w1.heap.size + 1 < w3.heap.size := lt_of_block HLe3.out; have v2 : w2.heap.size < w3.heap.size := lt_of_block HLb.out; have v3 : w2.heap.size + 1 < w3.heap.size := lt_of_block HLf.out; have v4 : ¬ (w2.heap.size = w1.heap.size + 1) := by omega)
          | (go_at_call 39; refine (HA4.out _ ((HB3.out.put2 (P := w1.heap.size + 1) (HB1.out.nX (Nat.le_succ _)) (HB1.out.nY (Nat.le_succ _)) (HB1.out.nW (Nat.le_succ _)) (.int .i64 k2) (.int .u32 a2)).alloc _).rm).mono ?_; rintro e w4 ⟨rfl, hR4, hC4⟩; have HB4 : Hid (BS W w4 X k m2 m2) := ((HB3.out.put2 (P := w1.heap.size + 1) (HB1.out.nX (Nat.le_succ _)) (HB1.out.nY (Nat.le_succ _)) (HB1.out.nW (Nat.le_succ _)) (.int .i64 k2) (.int .u32 a2)).alloc _).k hR4 HRO.out.m hC4; have HLx : Hid (w4.heap[w3.heap.size]? = some (gsB t2)) := hC4.at (last_at _ _ _ (put_size _ _ _ _).symm) (HB3.out.nK (Nat.le_refl _)); have HLe4 : Hid (w4.heap[w1.heap.size + 1]? = some (stopB k2 a2)) := hC4.at (alloc1 (stop_set HLe3.out k2 a2)) (HB1.out.nK (Nat.le_succ _)); have HLf4 : Hid (w4.heap[w2.heap.size + 1]? = some (stopB kk aa)) := hC4.at (alloc1 (put_other _ _ HLf.out (by omega))) (HB2.out.nK (Nat.le_succ _)); clear b0 b1 b2 b3 b4 b5 b6 b7 b8 b9 q0 q1 qf0 qf1 hR4 hC4; obtain ⟨g0, g1, g2, g3, g4, g5, g6, g7, g8, g9⟩ := gs_all HLx.out; obtain ⟨q0, q1, qf0, qf1⟩ := stop_cells HLe4.out; obtain ⟨p0, p1, pf0, pf1⟩ := stop_cells HLf4.out; have r1 : w3.heap.size < w4.heap.size := lt_of_block HLx.out; have r2 : w1.heap.size + 1 < w4.heap.size := lt_of_block HLe4.out; have r3 : w2.heap.size + 1 < w4.heap.size := lt_of_block HLf4.out))
        go_roundw
        case rel => exact ⟨j + 1, _, _, m2, by go_num, rfl, rfl, by omega, ⟨by omega, by omega⟩, by omega, (HB4.out.put2 (HB2.out.nX (Nat.le_succ _)) (HB2.out.nY (Nat.le_succ _)) (HB2.out.nW (Nat.le_succ _)) _ _).alloc _⟩
        case measure => simp [intOf]; omega
      · have d1 : decide (lv < nv) = false := decide_eq_false hgt
        obtain ⟨r, HR⟩ : ∃ r, Hid (runF m' (t.setF (t.f % 16)) nv.toNat = r) := ⟨_, rfl⟩
        have hro := runF_ok nv.toNat m' (t.setF (t.f % 16)) HOO.out.m (HOO.out.t.setF _ (by omega))
        rw [HR.out] at hro
        have HA3 : Hid (∀ w, PM w X m' → Calls Try.prog 38 #[.pointer (some ⟨X, 0, none⟩), gsV t, .int .i64 nv] w fun e w' => e = .returned (runV r) ∧ PM w' X r.1.m ∧ Chg [X] w w') := fun w h => by
          have := HRn.out X m' t nv w h HOO.out.m HOO.out.t HNV.out.2
          rw [HR.out] at this
          exact this
        have HA4 : Hid (∀ w, RM w k m' → Calls Try.prog 39 #[.pointer (some ⟨k.y, 0, none⟩), gsV t, .int .i64 nv] w fun e w' => e = .returned (runV r) ∧ RM w' k r.1.m ∧ Chg k.all w w') := fun w h => by
          have := rrun_any k m' t nv w h HOO.out.m HOO.out.t HNV.out.2
          rw [HR.out] at this
          exact this
        obtain ⟨⟨t2, k2, a2, m2⟩, c2⟩ := r
        have HRO : Hid (SO.mk t2 k2 a2 m2).Ok := hro.1
        have hc2 : (c2 : Int) ≤ lv := by have := hro.2; simp only at this; omega
        have hc20 : (0 : Int) ≤ c2 := by omega
        have E2 := fun w => eq8 (t2.R 0) (t2.R 1) (t2.R 2) (t2.R 3) (t2.R 4) (t2.R 5) (t2.R 6) (t2.R 7) w
        clear hro
        go_wp2_with (first
          | (go_at_call 36; refine (HA1.out _ (HB.out.alloc _).pm).mono ?_; rintro e w1 ⟨rfl, hP1, hC1⟩; have HB1 : Hid (BS W w1 X k m' m) := (HB.out.alloc _).x hP1 HOO.out.m hC1; have HL1 : Hid (w1.heap[wr.heap.size]? = some (gsB s)) := hC1.at (heap_alloc_last wr _) (HB.out.nX (Nat.le_refl _)); obtain ⟨x0, x1, x2, x3, x4, x5, x6, x7, x8, x9⟩ := gs_all HL1.out; have z1 : wr.heap.size < w1.heap.size := lt_of_block HL1.out; have z11 := Nat.lt_succ_of_lt z1; clear hP1 hC1)
          | (go_at_call 37; refine (HA2.out _ ((HB1.out.alloc _).alloc _).rm).mono ?_; rintro e w2 ⟨rfl, hR2, hC2⟩; have HB2 : Hid (BS W w2 X k m' m') := ((HB1.out.alloc _).alloc _).k hR2 HOO.out.m hC2; have HLa : Hid (w2.heap[w1.heap.size]? = some (gsB t)) := hC2.at (last1 w1 _ _) (HB1.out.nK (Nat.le_refl _)); have HLe : Hid (w2.heap[w1.heap.size + 1]? = some (stopB kk aa)) := hC2.at (last2 w1 _ _) (HB1.out.nK (Nat.le_succ _)); obtain ⟨a0, a1, a2, a3, a4, a5, a6, a7, a8, a9⟩ := gs_all HLa.out; obtain ⟨q0, q1, qf0, qf1⟩ := stop_cells HLe.out; have y1 : w1.heap.size < w2.heap.size := lt_of_block HLa.out; have y2 : w1.heap.size + 1 < w2.heap.size := lt_of_block HLe.out; have y3 := Nat.lt_succ_of_lt y1; have y4 := Nat.lt_succ_of_lt y2; clear hR2 hC2 x0 x1 x2 x3 x4 x5 x6 x7 x8 x9)
          | (go_at_call 38; refine (HA3.out _ ((HB2.out.alloc _).alloc _).pm).mono ?_; rintro e w3 ⟨rfl, hP3, hC3⟩; have HB3 : Hid (BS W w3 X k m2 m') := ((HB2.out.alloc _).alloc _).x hP3 HRO.out.m hC3; have HLb : Hid (w3.heap[w2.heap.size]? = some (gsB t)) := hC3.at (last1 w2 _ _) (HB2.out.nX (Nat.le_refl _)); have HLf : Hid (w3.heap[w2.heap.size + 1]? = some (stopB kk aa)) := hC3.at (last2 w2 _ _) (HB2.out.nX (Nat.le_succ _)); have HLe3 : Hid (w3.heap[w1.heap.size + 1]? = some (stopB kk aa)) := hC3.at (alloc1 (alloc1 HLe.out)) (HB1.out.nX (Nat.le_succ _)); clear a0 a1 a2 a3 a4 a5 a6 a7 a8 a9 q0 q1 qf0 qf1 hP3 hC3; obtain ⟨b0, b1, b2, b3, b4, b5, b6, b7, b8, b9⟩ := gs_all HLb.out; obtain ⟨q0, q1, qf0, qf1⟩ := stop_cells HLe3.out; have v1 : w1.heap.size + 1 < w3.heap.size := lt_of_block HLe3.out; have v2 : w2.heap.size < w3.heap.size := lt_of_block HLb.out; have v3 : w2.heap.size + 1 < w3.heap.size := lt_of_block HLf.out; have v4 : ¬ (w2.heap.size = w1.heap.size + 1) := by omega)
          | (go_at_call 39; refine (HA4.out _ ((HB3.out.put2 (P := w1.heap.size + 1) (HB1.out.nX (Nat.le_succ _)) (HB1.out.nY (Nat.le_succ _)) (HB1.out.nW (Nat.le_succ _)) (.int .i64 k2) (.int .u32 a2)).alloc _).rm).mono ?_; rintro e w4 ⟨rfl, hR4, hC4⟩; have HB4 : Hid (BS W w4 X k m2 m2) := ((HB3.out.put2 (P := w1.heap.size + 1) (HB1.out.nX (Nat.le_succ _)) (HB1.out.nY (Nat.le_succ _)) (HB1.out.nW (Nat.le_succ _)) (.int .i64 k2) (.int .u32 a2)).alloc _).k hR4 HRO.out.m hC4; have HLx : Hid (w4.heap[w3.heap.size]? = some (gsB t2)) := hC4.at (last_at _ _ _ (put_size _ _ _ _).symm) (HB3.out.nK (Nat.le_refl _)); have HLe4 : Hid (w4.heap[w1.heap.size + 1]? = some (stopB k2 a2)) := hC4.at (alloc1 (stop_set HLe3.out k2 a2)) (HB1.out.nK (Nat.le_succ _)); have HLf4 : Hid (w4.heap[w2.heap.size + 1]? = some (stopB kk aa)) := hC4.at (alloc1 (put_other _ _ HLf.out (by omega))) (HB2.out.nK (Nat.le_succ _)); clear b0 b1 b2 b3 b4 b5 b6 b7 b8 b9 q0 q1 qf0 qf1 hR4 hC4; obtain ⟨g0, g1, g2, g3, g4, g5, g6, g7, g8, g9⟩ := gs_all HLx.out; obtain ⟨q0, q1, qf0, qf1⟩ := stop_cells HLe4.out; obtain ⟨p0, p1, pf0, pf1⟩ := stop_cells HLf4.out; have r1 : w3.heap.size < w4.heap.size := lt_of_block HLx.out; have r2 : w1.heap.size + 1 < w4.heap.size := lt_of_block HLe4.out; have r3 : w2.heap.size + 1 < w4.heap.size := lt_of_block HLf4.out))
        go_roundw
        case rel => exact ⟨j + 1, _, _, m2, by go_num, rfl, rfl, by omega, HNV.out, by omega, (HB4.out.put2 (HB2.out.nX (Nat.le_succ _)) (HB2.out.nY (Nat.le_succ _)) (HB2.out.nW (Nat.le_succ _)) _ _).alloc _⟩
        case measure => simp [intOf]; omega
    · have hjl : j = slen := by omega
      subst hjl
      have d0 : decide ((j : Int) < (j : Int)) = false := decide_eq_false (by omega)
      go_wp2_with (go_at_call 28; refine (whole_any X k m _ HB.out.pm HB.out.rm).mono ?_; rintro e w5 ⟨rfl, hb5⟩)
      go_ret
      exact ⟨rfl, HB.out.bel.trans (hb5.mono HB.out.bel.size)⟩
end Go.Proofs.Ytkgbjpdoigdjnaa
