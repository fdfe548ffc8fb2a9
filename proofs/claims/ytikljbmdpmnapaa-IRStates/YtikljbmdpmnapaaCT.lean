import Derived.Test.YtikljbmdpmnapaaCS
import Derived.Deep.MidRow
import Derived.Deep.RegionHeld
namespace Go.Proofs.Ytikljbmdpmnapaa
open Go.RowKit
set_option maxRecDepth 100000
set_option linter.unusedVariables false
set_option linter.unusedSimpArgs false

abbrev enV (r : Nat → Nat) (g : Nat) : Value := .agg #[.int .u32 (r 0), .int .u32 (r 1), .int .u32 (r 2), .int .u32 (r 3), .int .u32 (r 4), .int .u32 (r 5), .int .u32 (r 6), .int .u32 (r 7), .int .u32 0, .int .u32 0, .int .u32 0, .int .u32 g]
theorem enC_en (r : Nat → Nat) (f : Nat) : cxV (enC r f) = enV r (f % 16) := by simp [enC]
theorem enC_st (r : Nat → Nat) (pc f : Nat) : stV (enC r f) pc (cxF (enC r f)) = stV r pc ((f % 16 : Nat) : Int) := by
  have e : cxF (enC r f) = ((f % 16 : Nat) : Int) := by simp [cxF, enC, Fl.flagsF]
  rw [e]; simp [enC]
theorem enC_ok (r : Nat → Nat) (f : Nat) (hr : cxOk r) : cxOk (enC r f) := by
  intro i; unfold enC; have := hr i; split
  · omega
  · split <;> omega
theorem enter_me (r : Nat → Nat) (pc f g : Nat) (w : World) (hg : f % 16 = g) (hf : f < 4294967296) :
    Calls Try.prog 51 #[stV r pc f] w fun e w' => e = .returned (enV r g) ∧ Below w.heap.size w w' := by
  have := enter_any r pc f w hf
  rwa [enC_en, hg] at this
theorem renter_me (r : Nat → Nat) (pc f g : Nat) (w : World) (hg : f % 16 = g) (hf : f < 4294967296) :
    Calls Try.prog 52 #[stV r pc f] w fun e w' => e = .returned (enV r g) ∧ Below w.heap.size w w' := by
  have := renter_any r pc f w hf
  rwa [enC_en, hg] at this
theorem pstate_me (r : Nat → Nat) (pc f g : Nat) (w : World) (hg : f % 16 = g) (hr : cxOk r) :
    Calls Try.prog 53 #[enV r g, .int .u32 pc] w fun e w' => e = .returned (stV r pc g) ∧ Below w.heap.size w w' := by
  have := pstate_any (enC r f) pc w (enC_ok r f hr)
  rwa [enC_en, enC_st, hg] at this

theorem eq1 (d : Nat) (x : Int) (w : World) : (Op.equalIn (d + 1) 24 (.int .u32 x) (.int .u32 x)).run Try.prog w = .ok true w := by
  rw [run_equalIn_int w d 24 .u32 .u32 x x Try.underlying24]
  simp
theorem part1 (xs : Array Value) (i : Nat) (x : Int) (h : xs[i]? = some (.int .u32 x)) (w : World) : (part 24 xs i).run Try.prog w = .ok (.int .u32 x) w := by
  simp [part, h, go_sem]
theorem eq8 (r : Nat → Nat) (w : World) : (Op.equalIn 9999 62 (.agg #[.int .u32 (r 0), .int .u32 (r 1), .int .u32 (r 2), .int .u32 (r 3), .int .u32 (r 4), .int .u32 (r 5), .int .u32 (r 6), .int .u32 (r 7)]) (.agg #[.int .u32 (r 0), .int .u32 (r 1), .int .u32 (r 2), .int .u32 (r 3), .int .u32 (r 4), .int .u32 (r 5), .int .u32 (r 6), .int .u32 (r 7)])).run Try.prog w = .ok true w := by
  obtain ⟨i, hi⟩ : ∃ i, Try.prog.info? 24 = some i := ⟨_, rfl⟩
  have hc : Try.prog.cellsOf 24 = 1 := by kernel_rfl
  rw [show (9999 : Nat) = 9998 + 1 from rfl, run_equalIn_array w 9998 _ _ Try.underlying62 hi, hc]
  have e := fun x => eq1 9997 x w
  have p := fun xs i x h => part1 xs i x h w
  simp [List.range, List.range.loop, Op.eqItems, e, p]
theorem eq12 (a0 a1 a2 a3 a4 a5 a6 a7 a8 a9 a10 a11 : Int) (w : World) : (Op.equalIn 10000 89 (.agg #[.int .u32 a0, .int .u32 a1, .int .u32 a2, .int .u32 a3, .int .u32 a4, .int .u32 a5, .int .u32 a6, .int .u32 a7, .int .u32 a8, .int .u32 a9, .int .u32 a10, .int .u32 a11]) (.agg #[.int .u32 a0, .int .u32 a1, .int .u32 a2, .int .u32 a3, .int .u32 a4, .int .u32 a5, .int .u32 a6, .int .u32 a7, .int .u32 a8, .int .u32 a9, .int .u32 a10, .int .u32 a11])).run Try.prog w = .ok true w := by
  obtain ⟨i, hi⟩ : ∃ i, Try.prog.info? 24 = some i := ⟨_, rfl⟩
  have hc : Try.prog.cellsOf 24 = 1 := by kernel_rfl
  rw [show (10000 : Nat) = 9999 + 1 from rfl, run_equalIn_array w 9999 _ _ Try.underlying89 hi, hc]
  have e := fun x => eq1 9998 x w
  have p := fun xs i x h => part1 xs i x h w
  simp [List.range, List.range.loop, Op.eqItems, e, p]

theorem row_range {w : World} {X : Nat} {L : List Value} {T : TypeId} (h : w.heap[X]? = some (.cells L.toArray T)) : w.rangeAt X 0 L := fun j v hv => by
  rw [Nat.zero_add, row_cell h]; simpa using hv
theorem size89 : (Try.prog.info? 89).map (·.size) = some 12 := by kernel_rfl

/-- The four rows that the statement keeps. -/
structure BB (w w1 v : World) (r c : Nat → Nat) (sp sf g : Nat) : Prop where
  s : v.heap[w.heap.size]? = some (.cells #[.int .u32 (r 0), .int .u32 (r 1), .int .u32 (r 2), .int .u32 (r 3), .int .u32 (r 4), .int .u32 (r 5), .int .u32 (r 6), .int .u32 (r 7), .int .u32 sp, .int .u32 sf] 64)
  c : v.heap[w.heap.size + 1]? = some (.cells #[.int .u32 (c 0), .int .u32 (c 1), .int .u32 (c 2), .int .u32 (c 3), .int .u32 (c 4), .int .u32 (c 5), .int .u32 (c 6), .int .u32 (c 7), .int .u32 (c 8), .int .u32 (c 9), .int .u32 (c 10), .int .u32 (c 11)] 89)
  d : v.heap[w1.heap.size]? = some (.cells #[.int .u32 (r 0), .int .u32 (r 1), .int .u32 (r 2), .int .u32 (r 3), .int .u32 (r 4), .int .u32 (r 5), .int .u32 (r 6), .int .u32 (r 7), .int .u32 0, .int .u32 0, .int .u32 0, .int .u32 g] 89)
  t : v.heap[w1.heap.size + 1]? = some (.cells #[.int .u32 (r 0), .int .u32 (r 1), .int .u32 (r 2), .int .u32 (r 3), .int .u32 (r 4), .int .u32 (r 5), .int .u32 (r 6), .int .u32 (r 7), .int .u32 sp, .int .u32 g] 64)
  b : Below w.heap.size w v
  lt : w.heap.size + 1 < w1.heap.size
  l1 : w1.heap.size + 1 < v.heap.size
theorem BB.next {w w1 v v' : World} {r c : Nat → Nat} {sp sf g : Nat} (h : BB w w1 v r c sp sf g) (k : Below v.heap.size v v') : BB w w1 v' r c sp sf g := by
  have := h.lt; have := h.l1; have := k.size
  exact ⟨(k.block _ (by omega)).trans h.s, (k.block _ (by omega)).trans h.c, (k.block _ (by omega)).trans h.d, (k.block _ (by omega)).trans h.t, h.b.trans (k.mono (by omega)), h.lt, by omega⟩
theorem BB.drew {w w1 v : World} {r c : Nat → Nat} {sp sf g : Nat} (h : BB w w1 v r c sp sf g) : BB w w1 v.drew r c sp sf g := ⟨h.s, h.c, h.d, h.t, h.b.drew, h.lt, h.l1⟩

set_option maxHeartbeats 40000000 in
theorem states_walk (r c : Nat → Nat) (sp sf pc : Nat) (w : World) (hr : cxOk r) (hc : cxOk c) (hsf : sf < 4294967296) :
    Calls Try.prog 13 #[stV r sp sf, cxV c, .int .u32 pc] w fun e w' => e = .returned (.bool true) ∧ Below w.heap.size w w' := by
  have HR : Hid (cxOk r) := hr
  have HC : Hid (cxOk c) := hc
  obtain ⟨g, HG⟩ : ∃ g : Nat, Hid (sf % 16 = g) := ⟨_, rfl⟩
  obtain ⟨F, HF⟩ : ∃ F : Int, Hid (cxF c = F) := ⟨_, rfl⟩
  have hg : (sf : Int) % 16 = (g : Int) := by have := HG.out; omega
  have HS : Hid (sf < 4294967296) := hsf
  clear hr hc hsf
  go_enter Try.func13, Try.ntmps13
  go_upto_region 4 with (go_at_call 51; refine (enter_me r sp sf g _ HG.out HS.out).mono ?_; rintro e w1 ⟨rfl, h1⟩; obtain ⟨b0, b1, B⟩ := keep2 h1; have HB : Hid _ := B; have Hb0 : Hid _ := b0; have Hb1 : Hid _ := b1; have l1 := row_lt b1; have l0 := row_lt b0; have s1 := h1.size; simp only [al_size] at s1; have x0 : w1.cell? ⟨w.heap.size, 0, none⟩ = some (.int .u32 (r 0)) := row_cell Hb0.out 0; have x1 : w1.cell? ⟨w.heap.size, 1, none⟩ = some (.int .u32 (r 1)) := row_cell Hb0.out 1; have x2 : w1.cell? ⟨w.heap.size, 2, none⟩ = some (.int .u32 (r 2)) := row_cell Hb0.out 2; have x3 : w1.cell? ⟨w.heap.size, 3, none⟩ = some (.int .u32 (r 3)) := row_cell Hb0.out 3; have x4 : w1.cell? ⟨w.heap.size, 4, none⟩ = some (.int .u32 (r 4)) := row_cell Hb0.out 4; have x5 : w1.cell? ⟨w.heap.size, 5, none⟩ = some (.int .u32 (r 5)) := row_cell Hb0.out 5; have x6 : w1.cell? ⟨w.heap.size, 6, none⟩ = some (.int .u32 (r 6)) := row_cell Hb0.out 6; have x7 : w1.cell? ⟨w.heap.size, 7, none⟩ = some (.int .u32 (r 7)) := row_cell Hb0.out 7; have x8 : w1.cell? ⟨w.heap.size, 8, none⟩ = some (.int .u32 sp) := row_cell Hb0.out 8; have x9 : w1.cell? ⟨w.heap.size, 9, none⟩ = some (.int .u32 sf) := row_cell Hb0.out 9; clear h1 b0 b1 B)
  have H1 : Hid (BB w w1 ((w1.alloc (.cells #[.int .u32 (r 0), .int .u32 (r 1), .int .u32 (r 2), .int .u32 (r 3), .int .u32 (r 4), .int .u32 (r 5), .int .u32 (r 6), .int .u32 (r 7), .int .u32 0, .int .u32 0, .int .u32 0, .int .u32 g] 89)).alloc (.cells #[.int .u32 (r 0), .int .u32 (r 1), .int .u32 (r 2), .int .u32 (r 3), .int .u32 (r 4), .int .u32 (r 5), .int .u32 (r 6), .int .u32 (r 7), .int .u32 sp, .int .u32 g] 64)) r c sp sf g) := ⟨(al_old _ _ _ (by simp; omega)).trans ((al_old _ _ _ l0).trans Hb0.out), (al_old _ _ _ (by simp; omega)).trans ((al_old _ _ _ l1).trans Hb1.out), (al2 w1 _ _).1, (al2 w1 _ _).2, (HB.out.alloc (by omega) _).alloc (by simp; omega) _, l1, by simp⟩
  clear x0 x1 x2 x3 x4 x5 x6 x7 x8 x9
  generalize (w1.alloc (.cells #[.int .u32 (r 0), .int .u32 (r 1), .int .u32 (r 2), .int .u32 (r 3), .int .u32 (r 4), .int .u32 (r 5), .int .u32 (r 6), .int .u32 (r 7), .int .u32 0, .int .u32 0, .int .u32 0, .int .u32 g] 89)).alloc (.cells #[.int .u32 (r 0), .int .u32 (r 1), .int .u32 (r 2), .int .u32 (r 3), .int .u32 (r 4), .int .u32 (r 5), .int .u32 (r 6), .int .u32 (r 7), .int .u32 sp, .int .u32 g] 64) = W at H1 ⊢
  have E1 := eq12 (r 0) (r 1) (r 2) (r 3) (r 4) (r 5) (r 6) (r 7) 0 0 0 g
  have E2 := eq8 r
  have E3 := eq8 c
  have u89 := Try.underlying89
  have s89 := size89
  have kas0 : W.cell? ⟨w.heap.size, 0, none⟩ = some (.int .u32 (r 0)) := row_cell H1.out.s 0
  have kas1 : W.cell? ⟨w.heap.size, 1, none⟩ = some (.int .u32 (r 1)) := row_cell H1.out.s 1
  have kas2 : W.cell? ⟨w.heap.size, 2, none⟩ = some (.int .u32 (r 2)) := row_cell H1.out.s 2
  have kas3 : W.cell? ⟨w.heap.size, 3, none⟩ = some (.int .u32 (r 3)) := row_cell H1.out.s 3
  have kas4 : W.cell? ⟨w.heap.size, 4, none⟩ = some (.int .u32 (r 4)) := row_cell H1.out.s 4
  have kas5 : W.cell? ⟨w.heap.size, 5, none⟩ = some (.int .u32 (r 5)) := row_cell H1.out.s 5
  have kas6 : W.cell? ⟨w.heap.size, 6, none⟩ = some (.int .u32 (r 6)) := row_cell H1.out.s 6
  have kas7 : W.cell? ⟨w.heap.size, 7, none⟩ = some (.int .u32 (r 7)) := row_cell H1.out.s 7
  have kas8 : W.cell? ⟨w.heap.size, 8, none⟩ = some (.int .u32 sp) := row_cell H1.out.s 8
  have kas9 : W.cell? ⟨w.heap.size, 9, none⟩ = some (.int .u32 sf) := row_cell H1.out.s 9
  have kad0 : W.cell? ⟨w1.heap.size, 0, none⟩ = some (.int .u32 (r 0)) := row_cell H1.out.d 0
  have kad1 : W.cell? ⟨w1.heap.size, 1, none⟩ = some (.int .u32 (r 1)) := row_cell H1.out.d 1
  have kad2 : W.cell? ⟨w1.heap.size, 2, none⟩ = some (.int .u32 (r 2)) := row_cell H1.out.d 2
  have kad3 : W.cell? ⟨w1.heap.size, 3, none⟩ = some (.int .u32 (r 3)) := row_cell H1.out.d 3
  have kad4 : W.cell? ⟨w1.heap.size, 4, none⟩ = some (.int .u32 (r 4)) := row_cell H1.out.d 4
  have kad5 : W.cell? ⟨w1.heap.size, 5, none⟩ = some (.int .u32 (r 5)) := row_cell H1.out.d 5
  have kad6 : W.cell? ⟨w1.heap.size, 6, none⟩ = some (.int .u32 (r 6)) := row_cell H1.out.d 6
  have kad7 : W.cell? ⟨w1.heap.size, 7, none⟩ = some (.int .u32 (r 7)) := row_cell H1.out.d 7
  have kad8 : W.cell? ⟨w1.heap.size, 8, none⟩ = some (.int .u32 0) := row_cell H1.out.d 8
  have kad9 : W.cell? ⟨w1.heap.size, 9, none⟩ = some (.int .u32 0) := row_cell H1.out.d 9
  have kad10 : W.cell? ⟨w1.heap.size, 10, none⟩ = some (.int .u32 0) := row_cell H1.out.d 10
  have kad11 : W.cell? ⟨w1.heap.size, 11, none⟩ = some (.int .u32 g) := row_cell H1.out.d 11
  go_region_with
    (first
    | (go_at_call 52; refine (renter_me r sp sf g _ HG.out HS.out).mono ?_; rintro e w2 ⟨rfl, h2⟩; have H2 : Hid _ := H1.out.drew.next h2; clear h2; clear kas0 kas1 kas2 kas3 kas4 kas5 kas6 kas7 kas8 kas9 kad0 kad1 kad2 kad3 kad4 kad5 kad6 kad7 kad8 kad9 kad10 kad11; have kbd0 : w2.cell? ⟨w1.heap.size, 0, none⟩ = some (.int .u32 (r 0)) := row_cell H2.out.d 0; have kbd1 : w2.cell? ⟨w1.heap.size, 1, none⟩ = some (.int .u32 (r 1)) := row_cell H2.out.d 1; have kbd2 : w2.cell? ⟨w1.heap.size, 2, none⟩ = some (.int .u32 (r 2)) := row_cell H2.out.d 2; have kbd3 : w2.cell? ⟨w1.heap.size, 3, none⟩ = some (.int .u32 (r 3)) := row_cell H2.out.d 3; have kbd4 : w2.cell? ⟨w1.heap.size, 4, none⟩ = some (.int .u32 (r 4)) := row_cell H2.out.d 4; have kbd5 : w2.cell? ⟨w1.heap.size, 5, none⟩ = some (.int .u32 (r 5)) := row_cell H2.out.d 5; have kbd6 : w2.cell? ⟨w1.heap.size, 6, none⟩ = some (.int .u32 (r 6)) := row_cell H2.out.d 6; have kbd7 : w2.cell? ⟨w1.heap.size, 7, none⟩ = some (.int .u32 (r 7)) := row_cell H2.out.d 7; have kbd8 : w2.cell? ⟨w1.heap.size, 8, none⟩ = some (.int .u32 0) := row_cell H2.out.d 8; have kbd9 : w2.cell? ⟨w1.heap.size, 9, none⟩ = some (.int .u32 0) := row_cell H2.out.d 9; have kbd10 : w2.cell? ⟨w1.heap.size, 10, none⟩ = some (.int .u32 0) := row_cell H2.out.d 10; have kbd11 : w2.cell? ⟨w1.heap.size, 11, none⟩ = some (.int .u32 g) := row_cell H2.out.d 11; have kbc0 : w2.cell? ⟨w.heap.size + 1, 0, none⟩ = some (.int .u32 (c 0)) := row_cell H2.out.c 0; have kbc1 : w2.cell? ⟨w.heap.size + 1, 1, none⟩ = some (.int .u32 (c 1)) := row_cell H2.out.c 1; have kbc2 : w2.cell? ⟨w.heap.size + 1, 2, none⟩ = some (.int .u32 (c 2)) := row_cell H2.out.c 2; have kbc3 : w2.cell? ⟨w.heap.size + 1, 3, none⟩ = some (.int .u32 (c 3)) := row_cell H2.out.c 3; have kbc4 : w2.cell? ⟨w.heap.size + 1, 4, none⟩ = some (.int .u32 (c 4)) := row_cell H2.out.c 4; have kbc5 : w2.cell? ⟨w.heap.size + 1, 5, none⟩ = some (.int .u32 (c 5)) := row_cell H2.out.c 5; have kbc6 : w2.cell? ⟨w.heap.size + 1, 6, none⟩ = some (.int .u32 (c 6)) := row_cell H2.out.c 6; have kbc7 : w2.cell? ⟨w.heap.size + 1, 7, none⟩ = some (.int .u32 (c 7)) := row_cell H2.out.c 7; have kbc8 : w2.cell? ⟨w.heap.size + 1, 8, none⟩ = some (.int .u32 (c 8)) := row_cell H2.out.c 8; have kbc9 : w2.cell? ⟨w.heap.size + 1, 9, none⟩ = some (.int .u32 (c 9)) := row_cell H2.out.c 9; have kbc10 : w2.cell? ⟨w.heap.size + 1, 10, none⟩ = some (.int .u32 (c 10)) := row_cell H2.out.c 10; have kbc11 : w2.cell? ⟨w.heap.size + 1, 11, none⟩ = some (.int .u32 (c 11)) := row_cell H2.out.c 11)
    | (go_at_call 53; have HQ := H4; refine (pstate_me r sp sf g _ HG.out HR.out).mono ?_; rintro e w5 ⟨rfl, h5⟩; have H5 : Hid _ := H4.out.next h5; clear h5; clear kdd0 kdd1 kdd2 kdd3 kdd4 kdd5 kdd6 kdd7 kdd8 kdd9 kdd10 kdd11 kds8 kdt0 kdt1 kdt2 kdt3 kdt4 kdt5 kdt6 kdt7 kdt8 kdt9; have ket0 : w5.cell? ⟨w1.heap.size + 1, 0, none⟩ = some (.int .u32 (r 0)) := row_cell H5.out.t 0; have ket1 : w5.cell? ⟨w1.heap.size + 1, 1, none⟩ = some (.int .u32 (r 1)) := row_cell H5.out.t 1; have ket2 : w5.cell? ⟨w1.heap.size + 1, 2, none⟩ = some (.int .u32 (r 2)) := row_cell H5.out.t 2; have ket3 : w5.cell? ⟨w1.heap.size + 1, 3, none⟩ = some (.int .u32 (r 3)) := row_cell H5.out.t 3; have ket4 : w5.cell? ⟨w1.heap.size + 1, 4, none⟩ = some (.int .u32 (r 4)) := row_cell H5.out.t 4; have ket5 : w5.cell? ⟨w1.heap.size + 1, 5, none⟩ = some (.int .u32 (r 5)) := row_cell H5.out.t 5; have ket6 : w5.cell? ⟨w1.heap.size + 1, 6, none⟩ = some (.int .u32 (r 6)) := row_cell H5.out.t 6; have ket7 : w5.cell? ⟨w1.heap.size + 1, 7, none⟩ = some (.int .u32 (r 7)) := row_cell H5.out.t 7; have ket8 : w5.cell? ⟨w1.heap.size + 1, 8, none⟩ = some (.int .u32 sp) := row_cell H5.out.t 8; have ket9 : w5.cell? ⟨w1.heap.size + 1, 9, none⟩ = some (.int .u32 g) := row_cell H5.out.t 9)
    | (go_at_call 53; refine (pstate_any c pc _ HC.out).mono ?_; rintro e w3 ⟨rfl, h3⟩; rw [HF.out]; have H3 : Hid _ := H2.out.next h3; clear h3; clear kbd0 kbd1 kbd2 kbd3 kbd4 kbd5 kbd6 kbd7 kbd8 kbd9 kbd10 kbd11 kbc0 kbc1 kbc2 kbc3 kbc4 kbc5 kbc6 kbc7 kbc8 kbc9 kbc10 kbc11; have kcc0 : w3.cell? ⟨w.heap.size + 1, 0, none⟩ = some (.int .u32 (c 0)) := row_cell H3.out.c 0; have kcc1 : w3.cell? ⟨w.heap.size + 1, 1, none⟩ = some (.int .u32 (c 1)) := row_cell H3.out.c 1; have kcc2 : w3.cell? ⟨w.heap.size + 1, 2, none⟩ = some (.int .u32 (c 2)) := row_cell H3.out.c 2; have kcc3 : w3.cell? ⟨w.heap.size + 1, 3, none⟩ = some (.int .u32 (c 3)) := row_cell H3.out.c 3; have kcc4 : w3.cell? ⟨w.heap.size + 1, 4, none⟩ = some (.int .u32 (c 4)) := row_cell H3.out.c 4; have kcc5 : w3.cell? ⟨w.heap.size + 1, 5, none⟩ = some (.int .u32 (c 5)) := row_cell H3.out.c 5; have kcc6 : w3.cell? ⟨w.heap.size + 1, 6, none⟩ = some (.int .u32 (c 6)) := row_cell H3.out.c 6; have kcc7 : w3.cell? ⟨w.heap.size + 1, 7, none⟩ = some (.int .u32 (c 7)) := row_cell H3.out.c 7; have kcc8 : w3.cell? ⟨w.heap.size + 1, 8, none⟩ = some (.int .u32 (c 8)) := row_cell H3.out.c 8; have kcc9 : w3.cell? ⟨w.heap.size + 1, 9, none⟩ = some (.int .u32 (c 9)) := row_cell H3.out.c 9; have kcc10 : w3.cell? ⟨w.heap.size + 1, 10, none⟩ = some (.int .u32 (c 10)) := row_cell H3.out.c 10; have kcc11 : w3.cell? ⟨w.heap.size + 1, 11, none⟩ = some (.int .u32 (c 11)) := row_cell H3.out.c 11)
    | (go_at_call 54; refine (rstate_any c pc _ HC.out).mono ?_; rintro e w4 ⟨rfl, h4⟩; rw [HF.out]; have H4 : Hid _ := H3.out.next h4; clear h4; clear kcc0 kcc1 kcc2 kcc3 kcc4 kcc5 kcc6 kcc7 kcc8 kcc9 kcc10 kcc11; have kdd0 : w4.cell? ⟨w1.heap.size, 0, none⟩ = some (.int .u32 (r 0)) := row_cell H4.out.d 0; have kdd1 : w4.cell? ⟨w1.heap.size, 1, none⟩ = some (.int .u32 (r 1)) := row_cell H4.out.d 1; have kdd2 : w4.cell? ⟨w1.heap.size, 2, none⟩ = some (.int .u32 (r 2)) := row_cell H4.out.d 2; have kdd3 : w4.cell? ⟨w1.heap.size, 3, none⟩ = some (.int .u32 (r 3)) := row_cell H4.out.d 3; have kdd4 : w4.cell? ⟨w1.heap.size, 4, none⟩ = some (.int .u32 (r 4)) := row_cell H4.out.d 4; have kdd5 : w4.cell? ⟨w1.heap.size, 5, none⟩ = some (.int .u32 (r 5)) := row_cell H4.out.d 5; have kdd6 : w4.cell? ⟨w1.heap.size, 6, none⟩ = some (.int .u32 (r 6)) := row_cell H4.out.d 6; have kdd7 : w4.cell? ⟨w1.heap.size, 7, none⟩ = some (.int .u32 (r 7)) := row_cell H4.out.d 7; have kdd8 : w4.cell? ⟨w1.heap.size, 8, none⟩ = some (.int .u32 0) := row_cell H4.out.d 8; have kdd9 : w4.cell? ⟨w1.heap.size, 9, none⟩ = some (.int .u32 0) := row_cell H4.out.d 9; have kdd10 : w4.cell? ⟨w1.heap.size, 10, none⟩ = some (.int .u32 0) := row_cell H4.out.d 10; have kdd11 : w4.cell? ⟨w1.heap.size, 11, none⟩ = some (.int .u32 g) := row_cell H4.out.d 11; have kds8 : w4.cell? ⟨w.heap.size, 8, none⟩ = some (.int .u32 sp) := row_cell H4.out.s 8; have kdt0 : w4.cell? ⟨w1.heap.size + 1, 0, none⟩ = some (.int .u32 (r 0)) := row_cell H4.out.t 0; have kdt1 : w4.cell? ⟨w1.heap.size + 1, 1, none⟩ = some (.int .u32 (r 1)) := row_cell H4.out.t 1; have kdt2 : w4.cell? ⟨w1.heap.size + 1, 2, none⟩ = some (.int .u32 (r 2)) := row_cell H4.out.t 2; have kdt3 : w4.cell? ⟨w1.heap.size + 1, 3, none⟩ = some (.int .u32 (r 3)) := row_cell H4.out.t 3; have kdt4 : w4.cell? ⟨w1.heap.size + 1, 4, none⟩ = some (.int .u32 (r 4)) := row_cell H4.out.t 4; have kdt5 : w4.cell? ⟨w1.heap.size + 1, 5, none⟩ = some (.int .u32 (r 5)) := row_cell H4.out.t 5; have kdt6 : w4.cell? ⟨w1.heap.size + 1, 6, none⟩ = some (.int .u32 (r 6)) := row_cell H4.out.t 6; have kdt7 : w4.cell? ⟨w1.heap.size + 1, 7, none⟩ = some (.int .u32 (r 7)) := row_cell H4.out.t 7; have kdt8 : w4.cell? ⟨w1.heap.size + 1, 8, none⟩ = some (.int .u32 sp) := row_cell H4.out.t 8; have kdt9 : w4.cell? ⟨w1.heap.size + 1, 9, none⟩ = some (.int .u32 g) := row_cell H4.out.t 9))
  all_goals go_wp2
  all_goals go_ret
  all_goals exact ⟨rfl, H5.out.b⟩
end Go.Proofs.Ytikljbmdpmnapaa
