import Derived.Test.YtnnnmhpbdkalaaaC
namespace Go.Proofs.Ytnnnmhpbdkalaaa
open Go.RowKit

def hitB (x : Int) : Option Nat := hit (fun k => decide ((x - tg k 1) % 256 < tg k 2))
def hitO (x : Int) : Option Nat := hit (fun k => tg k 0 == x)

theorem tab_bd : ∀ k : Fin 32, 0 ≤ tg k.val 0 ∧ tg k.val 0 ≤ 255 := by decide +kernel

theorem cell_second {w w' : World} {o1 o2 : Obj} (hb : Below ((w.alloc o1).alloc o2).heap.size ((w.alloc o1).alloc o2) w') (i : Nat) : w'.cell? ⟨w.heap.size, i, none⟩ = (w.alloc o1).cell? ⟨w.heap.size, i, none⟩ := by
  rw [hb.cell (p := ⟨w.heap.size, i, none⟩) (by simp only [World.size_alloc]; omega), World.cell?_alloc_past _ _ _ (by simp)]

set_option maxHeartbeats 400000 in
theorem rowOfByte_any (x : Int) (w : World) :
    Calls Try.prog 16 #[.int .u8 x] w fun e w' => e = .returned (.tuple #[rowV (hitB x), .bool (hitB x).isSome]) ∧ Below w.heap.size w w' := by
  go_enter Try.func16, Try.ntmps16
  go_wp2_with fail
  go_at_call 24
  refine (find_byte _ (fun k => decide ((x - tg k 1) % 256 < tg k 2)) _ (fun k w' hk hb => fits_byte _ x _ _ _ _ _ _ w' ?_ ?_)).mono ?_
  · rw [cell_second hb]; exact cell_of_row _ _ 0 _ 5 (0, 0) (heap_alloc_last w _)
  · have := hb.size; simp at this; omega
  rintro e w1 ⟨rfl, hb1⟩
  obtain ⟨hc, hf⟩ := bcell hb1
  have hz : w.heap.size + 2 ≤ w1.heap.size := by have := hb1.size; simp at this; omega
  have hz1 : w.heap.size + 1 < w.heap.size + 1 + 1 := by omega
  have hbw : Below w.heap.size w w1 := (((Below.refl _ _).alloc (Nat.le_refl _) _).alloc (by simp) _).trans (hb1.mono (by simp; omega))
  simp only [World.size_alloc] at hc hf
  go_wp2
  refine bodyPost_ret (v := .tuple #[rowV (hitB x), .bool (hitB x).isSome]) (by simp [results, Try.results16, go_sem, hc, hz1, hitB]) rfl ⟨rfl, ?_⟩
  exact (((((hbw.setCell (by simp) _).setCell (by simp) _).setCell (by simp) _).setCell (by simp) _).setCell (by simp) _).setCell (by simp) _

set_option maxHeartbeats 400000 in
theorem rowOfOp_any (x : Int) (w : World) :
    Calls Try.prog 22 #[.int .i64 x] w fun e w' => e = .returned (.tuple #[rowV (hitO x), .bool (hitO x).isSome]) ∧ Below w.heap.size w w' := by
  go_enter Try.func22, Try.ntmps22
  go_wp2_with fail
  go_at_call 24
  refine (find_op _ (fun k => tg k 0 == x) _ (fun k w' hk hb => fits_op _ x _ _ _ _ _ _ w' ?_ ?_ (tab_bd ⟨k, hk⟩).1 (tab_bd ⟨k, hk⟩).2)).mono ?_
  · rw [cell_second hb]; exact cell_of_row _ _ 0 _ 3 (0, 0) (heap_alloc_last w _)
  · have := hb.size; simp at this; omega
  rintro e w1 ⟨rfl, hb1⟩
  obtain ⟨hc, hf⟩ := bcell hb1
  have hz : w.heap.size + 2 ≤ w1.heap.size := by have := hb1.size; simp at this; omega
  have hz1 : w.heap.size + 1 < w.heap.size + 1 + 1 := by omega
  have hbw : Below w.heap.size w w1 := (((Below.refl _ _).alloc (Nat.le_refl _) _).alloc (by simp) _).trans (hb1.mono (by simp; omega))
  simp only [World.size_alloc] at hc hf
  go_wp2
  refine bodyPost_ret (v := .tuple #[rowV (hitO x), .bool (hitO x).isSome]) (by simp [results, Try.results22, go_sem, hc, hz1, hitO]) rfl ⟨rfl, ?_⟩
  exact (((((hbw.setCell (by simp) _).setCell (by simp) _).setCell (by simp) _).setCell (by simp) _).setCell (by simp) _).setCell (by simp) _

theorem rg5_bd (x : Int) : 0 ≤ rg (hitB x) 5 ∧ rg (hitB x) 5 ≤ 3 := by
  unfold hitB hit rg
  split
  · rename_i k h
    have hk := List.mem_of_find?_eq_some h
    exact (by decide +kernel : ∀ k : Fin 32, 0 ≤ tg k.val 5 ∧ tg k.val 5 ≤ 3) ⟨k, by simpa using hk⟩
  · omega

/-- guest.Size -/
def sizeB (x : Int) : Int := if (hitB x).isSome then sizeN (rg (hitB x) 4) (rg (hitB x) 5) else 0

set_option maxHeartbeats 400000 in
theorem size10 (x : Int) (w : World) :
    Calls Try.prog 10 #[.int .u8 x] w fun e w' => e = .returned (.int .i64 (sizeB x)) ∧ Below w.heap.size w w' := by
  have hbd := rg5_bd x
  cases hh : (hitB x).isSome
  · have e : sizeB x = 0 := by simp [sizeB, hh]
    rw [e]
    clear e
    go_enter Try.func10, Try.ntmps10
    go_wp2_with (go_at_call 16; refine (rowOfByte_any x _).mono ?_; rintro e w1 ⟨rfl, hb1⟩; rw [hh])
    go_ret
    exact ⟨rfl, hb1.alloc hb1.size _⟩
  · have e : sizeB x = sizeN (rg (hitB x) 4) (rg (hitB x) 5) := by simp [sizeB, hh]
    rw [e]
    clear e
    go_enter Try.func10, Try.ntmps10
    go_wp2_with (first | (go_at_call 16; refine (rowOfByte_any x _).mono ?_; rintro e w1 ⟨rfl, hb1⟩; rw [hh]) | (go_at_call 17; refine (size_any _ _ _ _ _ _ _ hbd.1 hbd.2).mono ?_; rintro e w2 ⟨rfl, hb2⟩))
    go_ret
    exact ⟨rfl, (hb1.alloc hb1.size _).trans (hb2.mono (by have := hb1.size; simp; omega))⟩

end Go.Proofs.Ytnnnmhpbdkalaaa
