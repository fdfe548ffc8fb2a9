import Derived.Test.YtnnnmhpbdkalaaaH
import Derived.Test.YtnnnmhpbdkalaaaK
import Derived.Test.YtnnnmhpbdkalaaaM
namespace Go.Proofs.Ytnnnmhpbdkalaaa
open Go.RowKit

set_option maxRecDepth 100000 in
set_option maxHeartbeats 2000000 in
theorem reads_row (b off len cap : Nat) (zs : List Int) (w : World) (hr : Row w b off len cap zs) (hl : 0 < len) (hm : len ≤ 140737488355328) (x op : Int) (x0 : 0 ≤ x) (x1 : x ≤ 255) :
    Calls Try.prog 3 #[.slice (some ⟨b, off, none⟩) len cap, .int .u8 x, .int .i64 op] w fun e w' => e = .returned (.bool true) ∧ Below w.heap.size w w' := by
  have hde := dec_eq zs len (hr.bd 0)
  have hse := size_eq x x0 x1
  have HD1 : Hid (∀ w', Below w.heap.size w w' → Calls Try.prog 7 #[.slice (some ⟨b, off, none⟩) len cap] w' fun e w'' => e = .returned (decV (refDec zs len)) ∧ Below w'.heap.size w' w'') :=
    fun w' hb => by rw [← hde]; exact dec_any b off len cap zs w' (hr.later hb len (Nat.le_refl _)) hl
  have HD2 : Hid (∀ g c w', len ≤ c → c ≤ maxLen → g < w'.heap.size → (∀ i, i < len → w'.cell? ⟨g, i, none⟩ = some (.int .u8 (zs.getD i 0))) → Calls Try.prog 8 #[.slice (some ⟨g, 0, none⟩) len c] w' fun e w'' => e = .returned (decV (refDec zs len)) ∧ Below w'.heap.size w' w'') :=
    fun g c w' h1 h2 h3 h4 => redec_any g 0 len c zs w' ⟨h1, h2, fun i hi => by rw [Nat.zero_add]; exact h4 i hi, hr.bd, h3⟩ hl
  have HS : Hid (∀ g c w', Below w.heap.size w w' → (∀ i, i < len → w'.cell? ⟨g, i, none⟩ = some (.int .u8 (zs.getD i 0))) → Calls Try.prog 9 #[.slice (some ⟨b, off, none⟩) len cap, .slice (some ⟨g, 0, none⟩) len c] w' fun e w'' => e = .returned (.bool true) ∧ Below w'.heap.size w' w'') :=
    fun g c w' h1 h2 => same_yes b off cap g 0 c len (fun i => zs.getD i 0) w' (by have := hr.le; have := hr.max; unfold maxLen at *; omega) (fun i hi => (h1.cell (p := ⟨b, off + i, none⟩) hr.lt).trans (hr.cell i hi)) (fun i hi => by rw [Nat.zero_add]; exact h2 i hi)
  have HT := twin_any b off len cap (fun i => zs.getD i 0) w hl hm hr.cell
  generalize refDec zs len = r at HD1 HD2
  obtain ⟨rop, D, S, O, im, n, er⟩ := r
  clear hde
  go_enter Try.func3, Try.ntmps3
  go_wp2_with (first
    | (go_at_call 6; refine HT.mono ?_; rintro e w1 ⟨c, rfl, hc1, hc2, hb1, hz1, hcell⟩; have HC1 : Hid (∀ i, i < len → w1.cell? ⟨w.heap.size, i, none⟩ = some (.int .u8 (zs.getD i 0))) := hcell; clear hcell)
    | (go_at_call 7; refine (HD1.out _ hb1).mono ?_; rintro e w2 ⟨rfl, hb2⟩)
    | (go_at_call 8; refine (HD2.out w.heap.size c _ hc1 hc2 (by have := hb2.size; simp only [World.size_alloc]; omega) (fun i hi => (World.cell?_alloc_past _ _ _ (by have := hb2.size; show w.heap.size < w2.heap.size; omega)).trans ((hb2.cell (p := ⟨w.heap.size, i, none⟩) hz1).trans (HC1.out i hi)))).mono ?_; rintro e w3 ⟨rfl, hb3⟩; have hX3 : w3.heap[w2.heap.size]? = some (insB rop D S O im) := (hb3.block w2.heap.size (by simp)).trans (heap_alloc_last w2 _); obtain ⟨v0, v1, v2, v3, v4⟩ := ins_cells hX3; have hz3 : w2.heap.size < w3.heap.size := (by have := hb3.size; simp only [World.size_alloc] at this; omega); have hB3 : Below w.heap.size w w3 := (hb1.trans (hb2.mono (by omega))).trans (((Below.refl _ _).alloc (by have := hb2.size; omega) _).trans (hb3.mono (by have := hb2.size; simp only [World.size_alloc]; omega))); have HC3 : Hid (∀ o, ∀ i, i < len → (w3.alloc o).cell? ⟨w.heap.size, i, none⟩ = some (.int .u8 (zs.getD i 0))) := (fun o i hi => (World.cell?_alloc_past _ _ _ (by have := hb2.size; show w.heap.size < w3.heap.size; omega)).trans ((hb3.cell (p := ⟨w.heap.size, i, none⟩) (by have := hb2.size; simp only [World.size_alloc]; omega)).trans ((World.cell?_alloc_past _ _ _ (by have := hb2.size; show w.heap.size < w2.heap.size; omega)).trans ((hb2.cell (p := ⟨w.heap.size, i, none⟩) hz1).trans (HC1.out i hi))))); clear hX3 hb3)
    | (go_at_call 9; refine (HS.out w.heap.size c _ (hB3.alloc (by have := hB3.size; omega) _) (HC3.out _)).mono ?_; rintro e w4 ⟨rfl, hb4⟩)
    | (go_at_call 10; refine (size10 x _).mono ?_; rintro e w5 ⟨rfl, hb5⟩; rw [hse])
    | (go_at_call 11; refine (resize_any x _ x0 x1).mono ?_; rintro e w6 ⟨rfl, hb6⟩)
    | (go_at_call 12; refine (ends12 op _).mono ?_; rintro e w7 ⟨rfl, rfl⟩)
    | (go_at_call 13; refine (ends13 op _).mono ?_; rintro e w8 ⟨rfl, rfl⟩))
  go_ret
  refine ⟨rfl, ?_⟩
  have s3 := hB3.size
  have s4 := hb4.size
  have s5 := hb5.size
  simp only [World.size_alloc] at s4
  exact ((((hB3.alloc s3 _).trans (hb4.mono (by simp only [World.size_alloc]; omega))).trans (hb5.mono (by omega))).trans (hb6.mono (by omega)))

set_option maxRecDepth 100000 in
set_option maxHeartbeats 2000000 in
theorem reads_zero (a : Option Addr) (cap : Nat) (w : World) (x op : Int) (x0 : 0 ≤ x) (x1 : x ≤ 255) :
    Calls Try.prog 3 #[.slice a 0 cap, .int .u8 x, .int .i64 op] w fun e w' => e = .returned (.bool true) ∧ Below w.heap.size w w' := by
  have hse := size_eq x x0 x1
  have hde : guestDec [] 0 = decErr 1 := rfl
  have hre : refDec [] 0 = decErr 1 := rfl
  have HD1 : Hid (∀ w', Calls Try.prog 7 #[.slice a 0 cap] w' fun e w'' => e = .returned (decV (decErr 1)) ∧ Below w'.heap.size w' w'') := fun w' => by rw [← hde]; exact dec_nil a cap [] w'
  have HD2 : Hid (∀ w', Calls Try.prog 8 #[.slice none 0 0] w' fun e w'' => e = .returned (decV (decErr 1)) ∧ Below w'.heap.size w' w'') := fun w' => by rw [← hre]; exact redec_nil none 0 [] w'
  clear hde hre
  unfold decErr at HD1 HD2
  go_enter Try.func3, Try.ntmps3
  go_wp2_with (first
    | (go_at_call 6; refine (twin_nil a cap _).mono ?_; rintro e w1 ⟨rfl, hb1⟩)
    | (go_at_call 7; refine (HD1.out _).mono ?_; rintro e w2 ⟨rfl, hb2⟩)
    | (go_at_call 8; refine (HD2.out _).mono ?_; rintro e w3 ⟨rfl, hb3⟩; have hX3 : w3.heap[w2.heap.size]? = some (insB 0 0 0 0 0) := (hb3.block w2.heap.size (by simp)).trans (heap_alloc_last w2 _); obtain ⟨v0, v1, v2, v3, v4⟩ := ins_cells hX3; have hz3 : w2.heap.size < w3.heap.size := (by have := hb3.size; simp only [World.size_alloc] at this; omega); have hB3 : Below w.heap.size w w3 := (hb1.trans (hb2.mono hb1.size)).trans (((Below.refl _ _).alloc (by have := hb1.size; have := hb2.size; omega) _).trans (hb3.mono (by have := hb1.size; have := hb2.size; simp only [World.size_alloc]; omega))); clear hX3 hb3)
    | (go_at_call 9; refine (same_zero _ _ _ _ _).mono ?_; rintro e w4 ⟨rfl, hb4⟩)
    | (go_at_call 10; refine (size10 x _).mono ?_; rintro e w5 ⟨rfl, hb5⟩; rw [hse])
    | (go_at_call 11; refine (resize_any x _ x0 x1).mono ?_; rintro e w6 ⟨rfl, hb6⟩)
    | (go_at_call 12; refine (ends12 op _).mono ?_; rintro e w7 ⟨rfl, rfl⟩)
    | (go_at_call 13; refine (ends13 op _).mono ?_; rintro e w8 ⟨rfl, rfl⟩))
  go_ret
  refine ⟨rfl, ?_⟩
  have s3 := hB3.size
  have s4 := hb4.size
  have s5 := hb5.size
  simp only [World.size_alloc] at s4
  exact ((((hB3.alloc s3 _).trans (hb4.mono (by simp only [World.size_alloc]; omega))).trans (hb5.mono (by omega))).trans (hb6.mono (by omega)))

end Go.Proofs.Ytnnnmhpbdkalaaa
