import Derived.Test.YtnnnmhpbdkalaaaG
import Derived.Test.YtnnnmhpbdkalaaaM
import Derived.Deep.CutRange
import Derived.Deep.DeepCutAuto
import Derived.Deep.RegionHeld3
namespace Go.Proofs.Ytnnnmhpbdkalaaa
open Go.RowKit

/-! ## guest.lay$1: one byte more -/
structure Put (p g : Nat) (w w' : World) : Prop where
  os : w'.os = w.os
  tape : w'.tape = w.tape
  output : w'.output = w.output
  size : w.heap.size ≤ w'.heap.size
  block : ∀ k, k < w.heap.size → k ≠ p → k ≠ g → w'.heap[k]? = w.heap[k]?
theorem Put.cell {p g : Nat} {w w' : World} (h : Put p g w w') {b o : Nat} (hb : b < w.heap.size) (hp : b ≠ p) (hg : b ≠ g) : w'.cell? ⟨b, o, none⟩ = w.cell? ⟨b, o, none⟩ := World.cell?_of_block (w := w) (h.block b hb hp hg)
theorem Put.below {p g B : Nat} {w w' : World} (h : Put p g w w') (hs : B ≤ w.heap.size) (hp : B ≤ p) (hg : B ≤ g) : Below B w w' := ⟨h.os, h.tape, h.output, h.size, fun k hk => h.block k (by omega) (by omega) (by omega)⟩

abbrev bytesV (l : List Int) : List Value := l.map (Value.int .u8)
/-- The bytes l lie in block g, their slice in block p. -/
structure Laid (p g cap : Nat) (l : List Int) (w : World) : Prop where
  ptr : w.heap[p]? = some (.cells #[.slice (some ⟨g, 0, none⟩) l.length cap] 22)
  own : w.ownsRow g 5 1 (.slice (some ⟨g, 0, none⟩) l.length cap) l.length (bytesV l)

theorem Laid.lt {p g cap : Nat} {l : List Int} {w : World} (h : Laid p g cap l w) : p < w.heap.size ∧ g < w.heap.size := by
  constructor
  · exact (Array.getElem?_eq_some_iff.1 h.ptr).1
  · rcases h.own.2 with ⟨h, -⟩ | ⟨g', c, cur, hv, -, hh, -⟩
    · cases h
    · simp only [Value.slice.injEq, Option.some.injEq, Addr.mk.injEq] at hv
      obtain ⟨⟨rfl, -⟩, -⟩ := hv
      exact (Array.getElem?_eq_some_iff.1 hh).1

set_option maxHeartbeats 800000 in
theorem put_any (p g cap : Nat) (l : List Int) (v : Int) (w : World) (h : Laid p g cap l w) (hk : l.length < cap) (hne : p ≠ g) :
    Calls Try.prog 29 #[.int .i64 v, .pointer (some ⟨p, 0, none⟩)] w fun e w' => e = .returned (.tuple #[]) ∧ Put p g w w' ∧ Laid p g cap (l ++ [v % 256]) w' := by
  obtain ⟨i0, hi, hz0, hz1, hz2⟩ := info_parts info5
  have hlt := h.lt
  have c0 : w.cell? ⟨p, 0, none⟩ = some (.slice (some ⟨g, 0, none⟩) l.length cap) := cell_of_row _ _ 0 _ _ _ h.ptr
  have hown := h.own
  have hptr : Hid (w.heap[p]? = some (.cells #[.slice (some ⟨g, 0, none⟩) l.length cap] 22)) := h.ptr
  have z0 : w.frozen? ⟨p, 0, none⟩ = false := frozen_of_row _ _ 0 _ _ h.ptr
  clear h
  go_enter Try.func29, Try.ntmps29
  go_wp2_with (at_builtin; refine wpList_append_fits _ rfl _ _ 22 rfl g 5 i0 1 Try.underlying22 hi hz1 g l.length cap (bytesV l) (by rfl) (hown.alloc _) ⟨w.heap.size, 0, none⟩ 1 1 [.int .u8 (v % 256)] (by rfl) rfl (cell_one_new _ _ _) (by simp [Value.oneCell']) (by omega) ?_; intro w1 hown1 hgrow1; have hp1 := (hgrow1.block p (by simp only [World.size_alloc]; omega) (by simpa using hne)).trans ((Below.heap_alloc w _ p hlt.1).trans hptr.out); have c1 := cell_of_row _ _ 0 _ _ _ hp1; have z1 := frozen_of_row _ _ 0 _ _ hp1; simp at c1; have HO : Hid (w1.ownsRow g 5 1 (.slice (some ⟨g, 0, none⟩) (l.length + 1) cap) (l.length + 1) (bytesV l ++ [.int .u8 (v % 256)])) := hown1; clear hown1)
  go_end0
  refine ⟨rfl, ⟨hgrow1.os, hgrow1.tape, hgrow1.output, ?_, ?_⟩, ?_, ?_⟩
  · have := hgrow1.size; simp at this; simp; omega
  · intro k hk hkp hkg
    rw [Below.heap_setCell _ _ _ _ hkp]
    exact (hgrow1.block k (by simp only [World.size_alloc]; omega) (by simpa using hkg)).trans (Below.heap_alloc w _ k hk)
  · have := heap_setCell_same w1 p 0 _ 22 (.slice (some ⟨g, 0, none⟩) (l.length + 1) cap) hp1
    rw [this]
    simp
  · have hl : (l ++ [v % 256]).length = l.length + 1 := by simp
    rw [hl, show bytesV (l ++ [v % 256]) = bytesV l ++ [.int .u8 (v % 256)] from by simp [bytesV]]
    obtain ⟨h1, h2⟩ := HO.out
    refine ⟨h1, ?_⟩
    rcases h2 with ⟨h, -⟩ | ⟨g', c, cur, hv, hb, hh, r⟩
    · cases h
    · refine .inr ⟨g', c, cur, hv, hb, ?_, r⟩
      simp only [Value.slice.injEq, Option.some.injEq, Addr.mk.injEq] at hv
      obtain ⟨⟨rfl, -⟩, -⟩ := hv
      rw [Below.heap_setCell _ _ _ _ (Ne.symm hne)]
      exact hh

end Go.Proofs.Ytnnnmhpbdkalaaa
