import Derived.Test.YtkgbjpdoigdjnabWJ01
import Derived.Test.YtkgbjpdoigdjnabVJ29
import Derived.ChangeKeysEq
import Derived.Deep.RegionHeld3
import Derived.Deep.CutBlock
import Derived.Below
import Derived.Test.YtkgbjpdoigdjnabVJ32
import Derived.Test.YtkgbjpdoigdjnabVJ04
import Derived.Test.YtkgbjpdoigdjnabC1
import Derived.Test.YtkgbjpdoigdjnabVEC
import Derived.Test.YtkgbjpdoigdjnabVEA
import Derived.Test.YtkgbjpdoigdjnabWED
import Derived.Test.YtkgbjpdoigdjnabWJ03
import Derived.Deep.AppendLies
set_option linter.unusedVariables false
set_option linter.unusedSimpArgs false
set_option maxHeartbeats 8000000
namespace Go.Proofs.Ytkgbjpdoigdjnab.Va
open Go.RowKit
set_option maxRecDepth 100000
theorem cnt_down (T : Nat → Bool) (n p : Nat) (h : p < n) (hT : T p = true) : cnt (upd T p false) n + 1 = cnt T n := by
 induction n with
 | zero => omega
 | succ n ih =>
  simp only [cnt]
  by_cases e : n = p
  ·subst e; rw [cnt_upd_out _ _ _ _ (Nat.le_refl _), upd_same, hT]; simp
  ·have := ih (by omega); rw [upd_other _ _ _ _ e]; omega
theorem cnt_pos (T : Nat → Bool) (n p : Nat) (h : p < n) (hT : T p = true) : 0 < cnt T n := by
 have := cnt_down T n p h hT; omega
def touchB (s : MS) : Bool := decide (0 < cnt s.T 256)
theorem rtouched_any (k : RB) (s : MS) (w : World) (h : RM w k s) :
  Calls Try.prog 80 #[.pointer (some ⟨k.y, 0, none⟩)] w fun e w' => e = .returned (.bool (touchB s)) ∧ w = w' := by
 have d3 := h.c3
 go_enter Try.func80, Try.ntmps80
 go_wp2
 go_loop [10] (fun i => ∃ j : Nat, j ≤ 256 ∧ i = .int .i64 j ∧ ∀ p, p < j → s.T p = false) (fun i => 256 - (intOf i).toNat)
 case atStart => exact ⟨0, by omega, rfl, fun p hp => by omega⟩
 case round =>
  obtain ⟨j, hj, rfl, hf⟩ := hrel
  have HF : Hid (∀ p, p < j → s.T p = false) := hf
  clear hf
  by_cases hlt : j < 256
  ·have c := h.to j hlt
   have hji : (j : Int) < 256 := by omega
   have hj0 : (0 : Int) ≤ j := by omega
   cases hT : s.T j
   ·rw [hT] at c
    have HT : Hid (s.T j = false) := hT
    clear hT
    go_wp2
    go_round
    case rel => exact ⟨j + 1, by omega, by go_num, fun p hp => by
     by_cases e : p = j
     ·subst e; exact HT.out
     ·exact HF.out p (by omega)⟩
    case measure => simp [intOf]; omega
   ·rw [hT] at c
    have HE : Hid (touchB s = true) := decide_eq_true (cnt_pos s.T 256 j hlt hT)
    clear hT
    go_wp2
    go_ret
    exact ⟨(congrArg (fun b => Ending.returned (Value.bool b)) HE.out).symm, rfl⟩
  ·have HE : Hid (touchB s = false) := by
    have : j = 256 := by omega
    subst this
    show touchB s = false
    unfold touchB
    rw [cnt_none s.T 256 HF.out]; rfl
   go_wp2
   go_ret
   exact ⟨(congrArg (fun b => Ending.returned (Value.bool b)) HE.out).symm, rfl⟩
abbrev cxA (c : Nat → Nat) : Array Value := #[.int .u32 (c 0), .int .u32 (c 1), .int .u32 (c 2), .int .u32 (c 3), .int .u32 (c 4), .int .u32 (c 5), .int .u32 (c 6), .int .u32 (c 7), .int .u32 (c 8), .int .u32 (c 9), .int .u32 (c 10), .int .u32 (c 11)]
abbrev cxV (c : Nat → Nat) : Value := .agg (cxA c)
abbrev sxA (r : Nat → Nat) (pc : Nat) (f : Int) : Array Value := #[.int .u32 (r 0), .int .u32 (r 1), .int .u32 (r 2), .int .u32 (r 3), .int .u32 (r 4), .int .u32 (r 5), .int .u32 (r 6), .int .u32 (r 7), .int .u32 pc, .int .u32 f]
abbrev sxV (r : Nat → Nat) (pc : Nat) (f : Int) : Value := .agg (sxA r pc f)
def cxOk (c : Nat → Nat) : Prop := ∀ i, c i < 4294967296
abbrev cxF (c : Nat → Nat) : Int := Fl.flagsF (c 8) (c 9) (c 10) (c 11)
theorem rstate_any (c : Nat → Nat) (pc : Nat) (w : World) (hc : cxOk c) :
  Calls Try.prog 18 #[cxV c, .int .u32 pc] w fun e w' => e = .returned (sxV c pc (cxF c)) ∧ Below w.heap.size w w' := by
 have h8 : (c 8 : Int) < 4294967296 := by have := hc 8; omega
 have h80 : (0 : Int) ≤ (c 8 : Int) := by omega
 have HC : Hid (cxOk c) := hc
 obtain ⟨F, HF⟩ : ∃ F : Int, Hid (cxF c = F) := ⟨_, rfl⟩
 clear hc
 go_enter Try.func18, Try.ntmps18
 go_wp2_with (go_at_call 64; refine (Fl.flags_any (c 8) (c 9) (c 10) (c 11) _ (HC.out 9) (HC.out 10) (HC.out 11)).mono ?_; rintro e w1 ⟨rfl, rfl⟩; rw [show Fl.flagsF (c 8) (c 9) (c 10) (c 11) = F from HF.out])
 refine wp_loop_rounds 9 ?_
 iterate 9 (rw [rounds_succ]; go_wp2)
 exact bodyPost_ret (v := sxV c pc (cxF c)) (by rw [HF.out]; simp [results, Try.results18, go_sem]) rfl ⟨rfl, by (repeat first | with_reducible exact Below.refl _ _ | with_reducible exact hB | with_reducible refine Below.drew ?_ | with_reducible refine Below.alloc ?_ (by first | (simp; done) | (simp; omega) | omega) _ | with_reducible refine Below.setCell ?_ (by first | (simp; done) | (simp; omega) | omega) _)⟩
def valF (o : OpR) (a b c : Nat) : Int :=
 if o.kind = 1 then (o.k : Int) else if o.kind = 4 then binF o.w a b else if o.kind = 5 then (unF o.w a : Int) else if o.kind = 6 then (if a = 0 then (c : Int) else (b : Int))
 else if o.kind = 7 then Fl.flagsF o.w a b c else Fl.isF (Fl.holdsF o.w a) 1
structure OpWf (o : OpR) : Prop where
 w4 : o.kind = 4 → 0 ≤ o.w ∧ o.w ≤ 15
 w5 : o.kind = 5 → 0 ≤ o.w ∧ o.w ≤ 6
theorem rval1 (o : OpR) (a b c : Nat) (w : World) (ha : a < 4294967296) (hb : b < 4294967296) (hc : c < 4294967296) (hk : o.kind = 1) (hw : OpWf o) :
  Calls Try.prog 81 #[.agg #[.int .i64 o.kind, .int .i64 o.w, .int .i64 o.a, .int .i64 o.b, .int .i64 o.c, .int .u32 o.k, .int .i64 o.n], .int .u32 a, .int .u32 b, .int .u32 c] w fun e w' => e = .returned (.int .u32 (valF o a b c)) ∧ Below w.heap.size w w' := by
 have HF : Hid (valF o a b c = (o.k : Int)) := by show _ = _; simp [valF, hk]
 have HW : Hid _ := hw
 have HK : Hid (o.kind = 1) := hk
 clear hw
 go_enter Try.func81, Try.ntmps81
 go_wp2
 go_ret
 exact ⟨by rw [HF.out]; rfl, wk_bel1 w _⟩
theorem rval4 (o : OpR) (a b c : Nat) (w : World) (ha : a < 4294967296) (hb : b < 4294967296) (hc : c < 4294967296) (hk : o.kind = 4) (hw : OpWf o) :
  Calls Try.prog 81 #[.agg #[.int .i64 o.kind, .int .i64 o.w, .int .i64 o.a, .int .i64 o.b, .int .i64 o.c, .int .u32 o.k, .int .i64 o.n], .int .u32 a, .int .u32 b, .int .u32 c] w fun e w' => e = .returned (.int .u32 (valF o a b c)) ∧ Below w.heap.size w w' := by
 have HF : Hid (valF o a b c = binF o.w a b) := by show _ = _; simp [valF, hk]
 have HW : Hid _ := hw
 have HK : Hid (o.kind = 4) := hk
 clear hw
 go_enter Try.func81, Try.ntmps81
 go_wp2_with (go_at_call 146; refine (rbin_any o.w a b _ ha hb (HW.out.w4 HK.out)).mono ?_; rintro e w1 ⟨rfl, h1⟩)
 go_ret
 exact ⟨by rw [HF.out]; rfl, (wk_bel1 w _).trans (h1.mono (by simp))⟩
theorem rval5 (o : OpR) (a b c : Nat) (w : World) (ha : a < 4294967296) (hb : b < 4294967296) (hc : c < 4294967296) (hk : o.kind = 5) (hw : OpWf o) :
  Calls Try.prog 81 #[.agg #[.int .i64 o.kind, .int .i64 o.w, .int .i64 o.a, .int .i64 o.b, .int .i64 o.c, .int .u32 o.k, .int .i64 o.n], .int .u32 a, .int .u32 b, .int .u32 c] w fun e w' => e = .returned (.int .u32 (valF o a b c)) ∧ Below w.heap.size w w' := by
 have HF : Hid (valF o a b c = (unF o.w a : Int)) := by show _ = _; simp [valF, hk]
 have HW : Hid _ := hw
 have HK : Hid (o.kind = 5) := hk
 clear hw
 go_enter Try.func81, Try.ntmps81
 go_wp2_with (go_at_call 144; refine (run_any o.w a _ ha (HW.out.w5 HK.out)).mono ?_; rintro e w1 ⟨rfl, rfl⟩)
 go_ret
 exact ⟨by rw [HF.out]; rfl, wk_bel1 w _⟩
theorem rval6 (o : OpR) (a b c : Nat) (w : World) (ha : a < 4294967296) (hb : b < 4294967296) (hc : c < 4294967296) (hk : o.kind = 6) (hw : OpWf o) :
  Calls Try.prog 81 #[.agg #[.int .i64 o.kind, .int .i64 o.w, .int .i64 o.a, .int .i64 o.b, .int .i64 o.c, .int .u32 o.k, .int .i64 o.n], .int .u32 a, .int .u32 b, .int .u32 c] w fun e w' => e = .returned (.int .u32 (valF o a b c)) ∧ Below w.heap.size w w' := by
 have HF : Hid (valF o a b c = if a = 0 then (c : Int) else (b : Int)) := by show _ = _; simp [valF, hk]
 have HW : Hid _ := hw
 have HK : Hid (o.kind = 6) := hk
 clear hw
 go_enter Try.func81, Try.ntmps81
 by_cases h : a = 0
 ·have d : ((a : Int) != 0) = false := by simp; omega
  go_wp2
  go_ret
  exact ⟨by rw [HF.out, if_pos h]; rfl, wk_bel1 w _⟩
 ·have d : ((a : Int) != 0) = true := by simp; omega
  go_wp2
  go_ret
  exact ⟨by rw [HF.out, if_neg h]; rfl, wk_bel1 w _⟩
theorem rval7 (o : OpR) (a b c : Nat) (w : World) (ha : a < 4294967296) (hb : b < 4294967296) (hc : c < 4294967296) (hk : o.kind = 7) (hw : OpWf o) :
  Calls Try.prog 81 #[.agg #[.int .i64 o.kind, .int .i64 o.w, .int .i64 o.a, .int .i64 o.b, .int .i64 o.c, .int .u32 o.k, .int .i64 o.n], .int .u32 a, .int .u32 b, .int .u32 c] w fun e w' => e = .returned (.int .u32 (valF o a b c)) ∧ Below w.heap.size w w' := by
 have HF : Hid (valF o a b c = Fl.flagsF o.w a b c) := by show _ = _; simp [valF, hk]
 have HW : Hid _ := hw
 have HK : Hid (o.kind = 7) := hk
 clear hw
 go_enter Try.func81, Try.ntmps81
 go_wp2_with (go_at_call 64; refine (Fl.flags_any o.w a b c _ ha hb hc).mono ?_; rintro e w1 ⟨rfl, rfl⟩)
 go_ret
 exact ⟨by rw [HF.out]; rfl, wk_bel1 w _⟩
theorem rval8 (o : OpR) (a b c : Nat) (w : World) (ha : a < 4294967296) (hb : b < 4294967296) (hc : c < 4294967296) (hk : o.kind = 8) (hw : OpWf o) :
  Calls Try.prog 81 #[.agg #[.int .i64 o.kind, .int .i64 o.w, .int .i64 o.a, .int .i64 o.b, .int .i64 o.c, .int .u32 o.k, .int .i64 o.n], .int .u32 a, .int .u32 b, .int .u32 c] w fun e w' => e = .returned (.int .u32 (valF o a b c)) ∧ Below w.heap.size w w' := by
 have HF : Hid (valF o a b c = Fl.isF (Fl.holdsF o.w a) 1) := by show _ = _; simp [valF, hk]
 have HW : Hid _ := hw
 have HK : Hid (o.kind = 8) := hk
 clear hw
 go_enter Try.func81, Try.ntmps81
 go_wp2_with (first
  | (go_at_call 148; refine (Fl.holds_any o.w a _ ha).mono ?_; rintro e w1 ⟨rfl, h1⟩)
  | (go_at_call 147; refine (is3_any _ _).mono ?_; rintro e w2 ⟨rfl, rfl⟩))
 go_ret
 exact ⟨by rw [HF.out]; rfl, (wk_bel1 w _).trans (h1.mono (by simp))⟩
structure WkC (w : World) (P V X n : Nat) (c v : Nat → Nat) : Prop where
 cc : ∀ i, i < 12 → w.cell? ⟨P, i, none⟩ = some (.int .u32 (c i))
 cm : w.cell? ⟨P, 12, none⟩ = some (.pointer (some ⟨X, 0, none⟩))
 cs : w.cell? ⟨P, 13, none⟩ = some (.slice (some ⟨V, 0, none⟩) n n)
 cv : ∀ i, i < n → w.cell? ⟨V, i, none⟩ = some (.int .u32 (v i))
theorem belN {B : Nat} {a w : World} (h : Below B a w) : ∀ n, Below B a (w.drewN n)
 | 0 => h
 | n + 1 => (belN h n).drew
def pvalF (o : OpR) (c : Nat → Nat) (a b d : Nat) : Int := if o.kind = 2 then (c o.w.toNat : Int) else if o.kind = 17 then cxF c else valF o a b d
def updC (c : Nat → Nat) (i x : Nat) : Nat → Nat := fun j => if j = i then x else c j
theorem WkC.of {w w' : World} {P V X n : Nat} {c v : Nat → Nat} (h : WkC w P V X n c v) (hc : ∀ o, w'.cell? ⟨P, o, none⟩ = w.cell? ⟨P, o, none⟩) (hv : ∀ o, w'.cell? ⟨V, o, none⟩ = w.cell? ⟨V, o, none⟩) : WkC w' P V X n c v :=
 ⟨fun i hi => (hc i).trans (h.cc i hi), (hc 12).trans h.cm, (hc 13).trans h.cs, fun i hi => (hv i).trans (h.cv i hi)⟩
theorem WkC.drew {w : World} {P V X n : Nat} {c v : Nat → Nat} (h : WkC w P V X n c v) : WkC w.drew P V X n c v := h.of (fun _ => rfl) (fun _ => rfl)
theorem WkC.drewN {w : World} {P V X n : Nat} {c v : Nat → Nat} (h : WkC w P V X n c v) (q : Nat) : WkC (w.drewN q) P V X n c v := h.of (fun _ => rfl) (fun _ => rfl)
theorem WkC.set {w : World} {P V X n B o : Nat} {c v : Nat → Nat} (h : WkC w P V X n c v) (hP : P ≠ B) (hV : V ≠ B) (u : Value) (_ : True) : WkC (w.setCell ⟨B, o, none⟩ u) P V X n c v := h.of (fun _ => cell_setOther u hP _) (fun _ => cell_setOther u hV _)
theorem WkC.alloc {w : World} {P V X n : Nat} {c v : Nat → Nat} (h : WkC w P V X n c v) (x : Obj) (hn : 0 < n) : WkC (w.alloc x) P V X n c v := by
 have lP := lt_of_cell h.cs
 have lV := lt_of_cell (h.cv 0 hn)
 have hB := (Below.refl w.heap.size w).alloc (Nat.le_refl _) x
 exact h.of (fun o => hB.cell (p := ⟨P, o, none⟩) lP) (fun o => hB.cell (p := ⟨V, o, none⟩) lV)
theorem WkC.put {w : World} {P V X n i : Nat} {c v : Nat → Nat} (h : WkC w P V X n c v) (hi : i < 12) (hV : V ≠ P) (x : Nat) : WkC (w.setCell ⟨P, i, none⟩ (.int .u32 x)) P V X n (updC c i x) v := by
 have hu := h.cc i hi
 refine ⟨fun j hj => ?_, ?_, ?_, fun j hj => (cell_setOther _ hV _).trans (h.cv j hj)⟩
 ·rw [cell_setCell _ hu]
  unfold updC
  by_cases e : j = i
  ·simp [e]
  ·simp [e, h.cc j hj]
 ·rw [cell_setCell _ hu, if_neg (by omega)]; exact h.cm
 ·rw [cell_setCell _ hu, if_neg (by omega)]; exact h.cs
theorem Chg.drewC {S : List Nat} {w w' : World} (h : Chg S w w') : Chg S w w'.drew := h.trans (Chg.of_below S ((Below.refl _ w').drew))
theorem Chg.drewN {S : List Nat} {w w' : World} (h : Chg S w w') (n : Nat) : Chg S w (w'.drewN n) := h.trans (Chg.of_below S (belN (Below.refl _ w') n))
theorem Chg.allocC {S : List Nat} {w w' : World} (h : Chg S w w') (x : Obj) : Chg S w (w'.alloc x) := h.trans (Chg.of_below S ((Below.refl _ w').alloc (Nat.le_refl _) x))
theorem Chg.setN {S : List Nat} {w w' : World} {B o : Nat} {u : Value} (h : Chg S w w') (hB : w.heap.size ≤ B) : Chg S w (w'.setCell ⟨B, o, none⟩ u) := h.new hB ((Only.refl B w').setCell o u)
theorem rowV {W : World} {b n : Nat} {V : Nat → Value} (h : ∀ i, i < n → W.cell? ⟨b, i, none⟩ = some (V i)) : ∀ j u, ((List.range n).map V)[j]? = some u → W.cell? ((⟨b, 0, none⟩ : Addr).add j) = some u := fun j u hu => by
 rw [Addr.add_mid, Nat.zero_add]
 rcases Nat.lt_or_ge j n with g | g
 ·rw [List.getElem?_map, List.getElem?_range g] at hu
  rw [h j g]
  exact hu
 ·rw [List.getElem?_eq_none (by simpa using g)] at hu; cases hu
structure NV (w : World) (g n cap : Nat) (T : TypeId) (V : Nat → Value) : Prop where
 ex : ∃ cur, w.heap[g]? = some (.cells cur T) ∧ ∀ i, i < n → cur[i]? = some (V i)
 cp : n ≤ cap
theorem NV.of_owns {w : World} {base g n cap : Nat} {T : TypeId} {V : Nat → Value} (h : w.ownsRow base T 1 (.slice (some ⟨g, 0, none⟩) (0 + n) cap) (0 + n) ([] ++ (List.range n).map V)) (hn : 0 < n) : NV w g n cap T V := by
 rw [Nat.zero_add, List.nil_append] at h
 rcases h.2 with ⟨-, h0⟩ | ⟨g', c', cur, hv, hb, hh, h1, h2, h3, h4⟩
 ·omega
 ·cases hv
  refine ⟨⟨cur, hh, fun i hi => ?_⟩, h1⟩
  have h5 : (cur.toList.take (n * 1))[i]? = some (V i) := by rw [h4, List.getElem?_map, List.getElem?_range hi]; rfl
  rw [List.getElem?_take_of_lt (by omega), Array.getElem?_toList] at h5
  exact h5
theorem NV.keep {w w' : World} {g n cap : Nat} {T : TypeId} {V : Nat → Value} (h : NV w g n cap T V) (b : Below w.heap.size w w') : NV w' g n cap T V := by
 obtain ⟨cur, h1, h2⟩ := h.ex
 exact ⟨⟨cur, (b.block _ (row_lt h1)).trans h1, h2⟩, h.cp⟩
theorem NV.cell {w : World} {g n cap : Nat} {T : TypeId} {V : Nat → Value} (h : NV w g n cap T V) (i : Nat) (hi : i < n) : w.cell? ⟨g, i, none⟩ = some (V i) := by
 obtain ⟨cur, h1, h2⟩ := h.ex
 exact (row_cell h1 i).trans (h2 i hi)
theorem NV.fr {w : World} {g n cap : Nat} {T : TypeId} {V : Nat → Value} (h : NV w g n cap T V) (o : Nat) : w.frozen? ⟨g, o, none⟩ = false := by
 obtain ⟨cur, h1, h2⟩ := h.ex
 exact row_fr h1 o
theorem NV.lt {w : World} {g n cap : Nat} {T : TypeId} {V : Nat → Value} (h : NV w g n cap T V) : g < w.heap.size := by
 obtain ⟨cur, h1, h2⟩ := h.ex
 exact row_lt h1
theorem grown_below {w w' : World} (h : w.grownBy w' none) : Below w.heap.size w w' := Below.grown (Below.refl _ _) h (Nat.le_refl _) (fun k hk => by cases hk)
theorem one_int {n : Nat} {V : Nat → Value} (h : ∀ i, (V i).oneCell' = true) : ∀ u ∈ (List.range n).map V, u.oneCell' = true := fun u hu => by
 obtain ⟨i, -, rfl⟩ := List.mem_map.1 hu
 exact h i
theorem rcopy_any (k : RB) (s : MS) (w : World) (h : RM w k s) :
  Calls Try.prog 16 #[.pointer (some ⟨k.y, 0, none⟩)] w fun e w' => ∃ k' : RB, e = .returned (.pointer (some ⟨k'.y, 0, none⟩)) ∧ RM w' k' s ∧ Below w.heap.size w w' ∧ ∀ x ∈ k'.y :: k'.all, w.heap.size ≤ x := by
 obtain ⟨i5, i5a, i5b, i5c, i5d⟩ := info_parts info5
 obtain ⟨i3, i3a, i3b, i3c, i3d⟩ := info_parts info3
 obtain ⟨i4, i4a, i4b, i4c, i4d⟩ := info_parts info4
 have ly := h.lty
 have c0 := h.c0
 have c1 := h.c1
 have c2 := h.c2
 have c3 := h.c3
 have HR0 : Hid (RM w.drew k s) := h.drew
 have HB0 : Hid (Below w.heap.size w w.drew) := (Below.refl _ _).drew
 have HML : Hid (0 + 65536 ≤ maxLen) := show 0 + 65536 ≤ maxLen by unfold maxLen; omega
 have HMS : Hid (0 + 256 ≤ maxLen) := show 0 + 256 ≤ maxLen by unfold maxLen; omega
 clear h
 go_enter Try.func16, Try.ntmps16
 go_wp2
 go_region_held3 (fun W' => W'.cell? ⟨k.y, 0, none⟩ = some (.slice (some ⟨k.b, 0, none⟩) 65536 k.cb) ∧ W'.cell? ⟨k.y, 1, none⟩ = some (.slice (some ⟨k.r, 0, none⟩) 256 k.cr) ∧ W'.cell? ⟨k.y, 2, none⟩ = some (.slice (some ⟨k.m, 0, none⟩) 256 k.cm) ∧ W'.cell? ⟨k.y, 3, none⟩ = some (.slice (some ⟨k.t, 0, none⟩) 256 k.ct)) (first | (simp [go_sem, c0, c1, c2, c3, ly]; done))
  (first
  | (refine step_append_lies _ rfl (.const (.slice none 0 0)) (.tmp 6) 100 rfl w.heap.size 5 i5 _ 1 1 Try.underlying100 i5a i5b i5c i5d rfl (by decide) (.slice none 0 0) 0 [] rfl (World.ownsRow_nil _ _ _ _) ⟨k.b, 0, none⟩ 65536 k.cb ((List.range 65536).map (fun i => .int .u8 (s.B i))) rfl (by simp) (rowV HR0.out.by_) (one_int fun _ => rfl) (by decide) HML.out (by decide) HB0.out.size _ rfl ?_; intro g1 cap1 w1 ho1 hg1 hgg1 hlt1; have hb1 := grown_below hg1; have HR1 : Hid (RM w1 k s) := HR0.out.below hb1 (Nat.le_refl _); have c0 := HR1.out.c0; have c1 := HR1.out.c1; have c2 := HR1.out.c2; have c3 := HR1.out.c3; have ly := HR1.out.lty; have HB1 : Hid (Below w.heap.size w w1) := HB0.out.trans (hb1.mono HB0.out.size); have HG1 : Hid (g1 = w.drew.heap.size) := (show g1 = w.drew.heap.size from hgg1.resolve_left (by intro e; cases e)); have HNB1 : Hid (NV w1 g1 65536 cap1 5 (fun i => .int .u8 (s.B i))) := NV.of_owns ho1 (by decide); clear ho1 hg1 hgg1 hlt1 hb1)
  | (refine step_append_lies _ rfl (.const (.slice none 0 0)) (.tmp 11) 29 rfl w.heap.size 3 i3 _ 1 8 Try.underlying29 i3a i3b i3c i3d rfl (by decide) (.slice none 0 0) 0 [] rfl (World.ownsRow_nil _ _ _ _) ⟨k.r, 0, none⟩ 256 k.cr ((List.range 256).map (fun i => .int .i64 (s.R i))) rfl (by simp) (rowV HR1.out.ri) (one_int fun _ => rfl) (by decide) HMS.out (by decide) HB1.out.size _ rfl ?_; intro g2 cap2 w2 ho2 hg2 hgg2 hlt2; have hb2 := grown_below hg2; have HR2 : Hid (RM w2 k s) := HR1.out.below hb2 (Nat.le_refl _); have c0 := HR2.out.c0; have c1 := HR2.out.c1; have c2 := HR2.out.c2; have c3 := HR2.out.c3; have ly := HR2.out.lty; have HB2 : Hid (Below w.heap.size w w2) := HB1.out.trans (hb2.mono HB1.out.size); have HG2 : Hid (g2 = w1.heap.size) := (show g2 = w1.heap.size from hgg2.resolve_left (by intro e; cases e)); have HNR2 : Hid (NV w2 g2 256 cap2 3 (fun i => .int .i64 (s.R i))) := NV.of_owns ho2 (by decide); have HNB2 : Hid (NV w2 g1 65536 cap1 5 (fun i => .int .u8 (s.B i))) := HNB1.out.keep hb2; clear ho2 hg2 hgg2 hlt2 hb2)
  | (refine step_append_lies _ rfl (.const (.slice none 0 0)) (.tmp 16) 114 rfl w.heap.size 4 i4 _ 1 1 Try.underlying114 i4a i4b i4c i4d rfl (by decide) (.slice none 0 0) 0 [] rfl (World.ownsRow_nil _ _ _ _) ⟨k.m, 0, none⟩ 256 k.cm ((List.range 256).map (fun i => .bool (s.M i))) rfl (by simp) (rowV HR2.out.wa) (one_int fun _ => rfl) (by decide) HMS.out (by decide) HB2.out.size _ rfl ?_; intro g3 cap3 w3 ho3 hg3 hgg3 hlt3; have hb3 := grown_below hg3; have HR3 : Hid (RM w3 k s) := HR2.out.below hb3 (Nat.le_refl _); have c0 := HR3.out.c0; have c1 := HR3.out.c1; have c2 := HR3.out.c2; have c3 := HR3.out.c3; have ly := HR3.out.lty; have HB3 : Hid (Below w.heap.size w w3) := HB2.out.trans (hb3.mono HB2.out.size); have HG3 : Hid (g3 = w2.heap.size) := (show g3 = w2.heap.size from hgg3.resolve_left (by intro e; cases e)); have HNM3 : Hid (NV w3 g3 256 cap3 4 (fun i => .bool (s.M i))) := NV.of_owns ho3 (by decide); have HNB3 : Hid (NV w3 g1 65536 cap1 5 (fun i => .int .u8 (s.B i))) := HNB2.out.keep hb3; have HNR3 : Hid (NV w3 g2 256 cap2 3 (fun i => .int .i64 (s.R i))) := HNR2.out.keep hb3; clear ho3 hg3 hgg3 hlt3 hb3)
  | (refine step_append_lies _ rfl (.const (.slice none 0 0)) (.tmp 21) 114 rfl w.heap.size 4 i4 _ 1 1 Try.underlying114 i4a i4b i4c i4d rfl (by decide) (.slice none 0 0) 0 [] rfl (World.ownsRow_nil _ _ _ _) ⟨k.t, 0, none⟩ 256 k.ct ((List.range 256).map (fun i => .bool (s.T i))) rfl (by simp) (rowV HR3.out.to) (one_int fun _ => rfl) (by decide) HMS.out (by decide) HB3.out.size _ rfl ?_; intro g4 cap4 w4 ho4 hg4 hgg4 hlt4; have hb4 := grown_below hg4; have HR4 : Hid (RM w4 k s) := HR3.out.below hb4 (Nat.le_refl _); have c0 := HR4.out.c0; have c1 := HR4.out.c1; have c2 := HR4.out.c2; have c3 := HR4.out.c3; have ly := HR4.out.lty; have HB4 : Hid (Below w.heap.size w w4) := HB3.out.trans (hb4.mono HB3.out.size); have HG4 : Hid (g4 = w3.heap.size) := (show g4 = w3.heap.size from hgg4.resolve_left (by intro e; cases e)); have HNT4 : Hid (NV w4 g4 256 cap4 4 (fun i => .bool (s.T i))) := NV.of_owns ho4 (by decide); have HNB4 : Hid (NV w4 g1 65536 cap1 5 (fun i => .int .u8 (s.B i))) := HNB3.out.keep hb4; have HNR4 : Hid (NV w4 g2 256 cap2 3 (fun i => .int .i64 (s.R i))) := HNR3.out.keep hb4; have HNM4 : Hid (NV w4 g3 256 cap3 4 (fun i => .bool (s.M i))) := HNM3.out.keep hb4; clear ho4 hg4 hgg4 hlt4 hb4))
 all_goals
  go_wp2
  go_ret
  have lB := HNB4.out.lt
  have lR := HNR4.out.lt
  have lM := HNM4.out.lt
  have lT := HNT4.out.lt
  have q1 := HG1.out
  have q2 := HG2.out
  have q3 := HG3.out
  have q4 := HG4.out
  have r1 := HNB1.out.lt
  have r2 := HNR2.out.lt
  have r3 := HNM3.out.lt
  have z0 : w.heap.size ≤ w.drew.heap.size := Nat.le_refl _
  have hA : ∀ o, Below w4.heap.size w4 (w4.alloc o) := fun o => (Below.refl _ _).alloc (Nat.le_refl _) _
  refine ⟨⟨w4.heap.size, g1, g2, g3, g4, cap1, cap2, cap3, cap4, HNB4.out.cp⟩, rfl, ⟨(row_cell (heap_alloc_last w4 _) 0), (row_cell (heap_alloc_last w4 _) 1), (row_cell (heap_alloc_last w4 _) 2), (row_cell (heap_alloc_last w4 _) 3), (HNB4.out.keep (hA _)).cell, (HNR4.out.keep (hA _)).cell, (HNM4.out.keep (hA _)).cell, (HNT4.out.keep (hA _)).cell, (HNB4.out.keep (hA _)).fr, (HNR4.out.keep (hA _)).fr, (HNM4.out.keep (hA _)).fr, (HNT4.out.keep (hA _)).fr, ?_⟩, HB4.out.trans ((hA _).mono HB4.out.size), ?_⟩
  ·show w4.heap.size ≠ g1 ∧ w4.heap.size ≠ g2 ∧ w4.heap.size ≠ g3 ∧ w4.heap.size ≠ g4 ∧ g1 ≠ g2 ∧ g1 ≠ g3 ∧ g1 ≠ g4 ∧ g2 ≠ g3 ∧ g2 ≠ g4 ∧ g3 ≠ g4
   omega
  ·simp only [RB.all, List.mem_cons, List.not_mem_nil, or_false]
   rintro x (e | e | e | e | e) <;> rw [e]
   ·exact HB4.out.size
   ·show w.heap.size ≤ g1; omega
   ·show w.heap.size ≤ g2; omega
   ·show w.heap.size ≤ g3; omega
   ·show w.heap.size ≤ g4; omega
end Go.Proofs.Ytkgbjpdoigdjnab.Va
