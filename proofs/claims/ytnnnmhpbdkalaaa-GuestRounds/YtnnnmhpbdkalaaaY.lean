import Derived.Test.YtnnnmhpbdkalaaaM
import Derived.Test.YtnnnmhpbdkalaaaG
import Derived.LoopN
namespace Go.Proofs.Ytnnnmhpbdkalaaa
open Go.RowKit
set_option linter.unusedVariables false
set_option linter.unusedSimpArgs false

abbrev insV (op D S O im : Int) : Value := .agg #[.int .i64 op, .int .i64 D, .int .i64 S, .int .i64 O, .int .u32 im]

set_option maxRecDepth 100000 in
set_option maxHeartbeats 1000000 in
theorem writes_err (op D S O im er : Int) (w : World)
    (hG : ∀ w', Calls Try.prog 14 #[insV op D S O im] w' fun e w'' => e = .returned (.tuple #[.slice none 0 0, .int .i64 er]) ∧ Below w'.heap.size w' w'')
    (hR : ∀ w', Calls Try.prog 15 #[insV op D S O im] w' fun e w'' => e = .returned (.tuple #[.slice none 0 0, .int .i64 er]) ∧ Below w'.heap.size w' w'') :
    Calls Try.prog 4 #[insV op D S O im] w fun e w' => e = .returned (.bool true) ∧ Below w.heap.size w w' := by
  have HG : Hid (∀ w', Calls Try.prog 14 #[insV op D S O im] w' fun e w'' => e = .returned (.tuple #[.slice none 0 0, .int .i64 er]) ∧ Below w'.heap.size w' w'') := hG
  have HR : Hid (∀ w', Calls Try.prog 15 #[insV op D S O im] w' fun e w'' => e = .returned (.tuple #[.slice none 0 0, .int .i64 er]) ∧ Below w'.heap.size w' w'') := hR
  clear hG hR
  go_enter Try.func4, Try.ntmps4
  go_wp2_with (first
    | (go_at_call 14; refine (HG.out _).mono ?_; rintro e w1 ⟨rfl, hb1⟩; have s1 := hb1.size; simp only [World.size_alloc] at s1; have hX1 : w1.heap[w.heap.size]? = some (insB op D S O im) := (hb1.block w.heap.size (by simp)).trans (heap_alloc_last w _); obtain ⟨x0, x1, x2, x3, x4⟩ := ins_cells hX1)
    | (go_at_call 15; refine (HR.out _).mono ?_; rintro e w2 ⟨rfl, hb2⟩; have s2 := hb2.size; have hX2 := (hb2.block w.heap.size (by omega)).trans hX1)
    | (go_at_call 9; refine (same_zero _ _ _ _ _).mono ?_; rintro e w3 ⟨rfl, hb3⟩; have s3 := hb3.size; have hX3 := (hb3.block w.heap.size (by omega)).trans hX2; obtain ⟨v0, v1, v2, v3, v4⟩ := ins_cells hX3))
  have hB1 : Below w.heap.size w w1 := ((Below.refl _ _).alloc (Nat.le_refl _) _).trans (hb1.mono (by simp))
  have hB3 : Below w.heap.size w w3 := (hB1.trans (hb2.mono (by omega))).trans (hb3.mono (by omega))
  clear hb1 hb2 hb3 hX1 hX2
  refine wp_loop_rounds 1 ?_
  rw [rounds_succ]
  go_wp2_with (first
    | (go_at_call 14; refine (HG.out _).mono ?_; rintro e w4 ⟨rfl, hb4⟩; have s4 := hb4.size)
    | (go_at_call 9; refine (same_zero _ _ _ _ _).mono ?_; rintro e w5 ⟨rfl, hb5⟩))
  go_ret
  exact ⟨rfl, (hB3.trans (hb4.mono (by omega))).trans (hb5.mono (by omega))⟩

set_option maxRecDepth 100000 in
set_option maxHeartbeats 1000000 in
theorem writes_yes (op D S O im : Int) (l : List Int) (w : World) (hl : 0 < l.length) (hl2 : l.length ≤ 100)
    (hG : ∀ w', Calls Try.prog 14 #[insV op D S O im] w' fun e w'' => ∃ g, e = .returned (.tuple #[.slice (some ⟨g, 0, none⟩) l.length l.length, .int .i64 0]) ∧ Below w'.heap.size w' w'' ∧ w'.heap.size ≤ g ∧ g < w''.heap.size ∧ (∀ i, w''.frozen? ⟨g, i, none⟩ = false) ∧ ∀ i, i < l.length → w''.cell? ⟨g, i, none⟩ = some (.int .u8 (l.getD i 0)))
    (hR : ∀ w', Calls Try.prog 15 #[insV op D S O im] w' fun e w'' => ∃ g c, e = .returned (.tuple #[.slice (some ⟨g, 0, none⟩) l.length c, .int .i64 0]) ∧ Below w'.heap.size w' w'' ∧ w'.heap.size ≤ g ∧ g < w''.heap.size ∧ ∀ i, i < l.length → w''.cell? ⟨g, i, none⟩ = some (.int .u8 (l.getD i 0))) :
    Calls Try.prog 4 #[insV op D S O im] w fun e w' => e = .returned (.bool true) ∧ Below w.heap.size w w' := by
  have HG : Hid (∀ w', Calls Try.prog 14 #[insV op D S O im] w' fun e w'' => ∃ g, e = .returned (.tuple #[.slice (some ⟨g, 0, none⟩) l.length l.length, .int .i64 0]) ∧ Below w'.heap.size w' w'' ∧ w'.heap.size ≤ g ∧ g < w''.heap.size ∧ (∀ i, w''.frozen? ⟨g, i, none⟩ = false) ∧ ∀ i, i < l.length → w''.cell? ⟨g, i, none⟩ = some (.int .u8 (l.getD i 0))) := hG
  have HR : Hid (∀ w', Calls Try.prog 15 #[insV op D S O im] w' fun e w'' => ∃ g c, e = .returned (.tuple #[.slice (some ⟨g, 0, none⟩) l.length c, .int .i64 0]) ∧ Below w'.heap.size w' w'' ∧ w'.heap.size ≤ g ∧ g < w''.heap.size ∧ ∀ i, i < l.length → w''.cell? ⟨g, i, none⟩ = some (.int .u8 (l.getD i 0))) := hR
  have HS : Hid (∀ g1 c1 g2 c2 w', (∀ i, i < l.length → w'.cell? ⟨g1, i, none⟩ = some (.int .u8 (l.getD i 0))) → (∀ i, i < l.length → w'.cell? ⟨g2, i, none⟩ = some (.int .u8 (l.getD i 0))) → Calls Try.prog 9 #[.slice (some ⟨g1, 0, none⟩) l.length c1, .slice (some ⟨g2, 0, none⟩) l.length c2] w' fun e w'' => e = .returned (.bool true) ∧ Below w'.heap.size w' w'') :=
    fun g1 c1 g2 c2 w' h1 h2 => same_yes g1 0 c1 g2 0 c2 l.length (fun i => l.getD i 0) w' (by omega) (fun i hi => by rw [Nat.zero_add]; exact h1 i hi) (fun i hi => by rw [Nat.zero_add]; exact h2 i hi)
  clear hG hR
  go_enter Try.func4, Try.ntmps4
  go_wp2_with (first
    | (go_at_call 14; refine (HG.out _).mono ?_; rintro e w1 ⟨g, rfl, hb1, hg0, hg1, hfz, hcl⟩; have s1 := hb1.size; simp only [World.size_alloc] at s1 hg0; have hX1 : w1.heap[w.heap.size]? = some (insB op D S O im) := (hb1.block w.heap.size (by simp)).trans (heap_alloc_last w _); obtain ⟨x0, x1, x2, x3, x4⟩ := ins_cells hX1; have HC1 : Hid (∀ i, i < l.length → w1.cell? ⟨g, i, none⟩ = some (.int .u8 (l.getD i 0))) := hcl; have HF1 : Hid (∀ i, w1.frozen? ⟨g, i, none⟩ = false) := hfz; clear hcl hfz)
    | (go_at_call 15; refine (HR.out _).mono ?_; rintro e w2 ⟨g2, c2, rfl, hb2, hg2, hg3, hcl⟩; have s2 := hb2.size; have hX2 := (hb2.block w.heap.size (by omega)).trans hX1; have HC2 : Hid (∀ i, i < l.length → w2.cell? ⟨g2, i, none⟩ = some (.int .u8 (l.getD i 0))) := hcl; clear hcl)
    | (go_at_call 9; refine (HS.out g l.length g2 c2 _ (fun i hi => (hb2.cell (p := ⟨g, i, none⟩) hg1).trans (HC1.out i hi)) HC2.out).mono ?_; rintro e w3 ⟨rfl, hb3⟩; have s3 := hb3.size; have hX3 := (hb3.block w.heap.size (by omega)).trans hX2; obtain ⟨v0, v1, v2, v3, v4⟩ := ins_cells hX3))
  have hB1 : Below w.heap.size w w1 := ((Below.refl _ _).alloc (Nat.le_refl _) _).trans (hb1.mono (by simp))
  have hB3 : Below w.heap.size w w3 := (hB1.trans (hb2.mono (by omega))).trans (hb3.mono (by omega))
  have HC3 : Hid (∀ i, i < l.length → w3.cell? ⟨g, i, none⟩ = some (.int .u8 (l.getD i 0))) := fun i hi => (hb3.cell (p := ⟨g, i, none⟩) (by show g < _; omega)).trans ((hb2.cell (p := ⟨g, i, none⟩) hg1).trans (HC1.out i hi))
  have HF3 : Hid (∀ i, w3.frozen? ⟨g, i, none⟩ = false) := fun i => (hb3.frozen (p := ⟨g, i, none⟩) (by show g < _; omega)).trans ((hb2.frozen (p := ⟨g, i, none⟩) hg1).trans (HF1.out i))
  have HC4 : Hid (∀ i, i < l.length → w3.cell? ⟨g2, i, none⟩ = some (.int .u8 (l.getD i 0))) := fun i hi => (hb3.cell (p := ⟨g2, i, none⟩) (by show g2 < _; omega)).trans (HC2.out i hi)
  clear hb1 hb2 hb3 hX1 hX2 HC1 HF1 HC2
  go_loopw [31] (fun i wr => ∃ k : Nat, k ≤ l.length ∧ i = .int .i64 k ∧ Only g w3 wr ∧ (∀ i, wr.frozen? ⟨g, i, none⟩ = false) ∧ ∀ j, k ≤ j → j < l.length → wr.cell? ⟨g, j, none⟩ = some (.int .u8 (l.getD j 0))) (fun i _ => l.length - (intOf i).toNat)
  case atStart => exact ⟨0, by omega, rfl, Only.refl _ _, HF3.out, fun j _ hj => HC3.out j hj⟩
  case round =>
    obtain ⟨k, hk, rfl, hon, hfz, hcl⟩ := hrel
    by_cases hlt : k < l.length
    · have c := hcl k (Nat.le_refl _) hlt
      have z := hfz k
      have HFk : Hid (∀ i, wr.frozen? ⟨g, i, none⟩ = false) := hfz
      have HCk : Hid (∀ j, k ≤ j → j < l.length → wr.cell? ⟨g, j, none⟩ = some (.int .u8 (l.getD j 0))) := hcl
      clear hfz hcl
      have hki : (k : Int) < l.length := by omega
      have hk0 : (0 : Int) ≤ k := by omega
      go_wp2_with fail
      go_roundw
      case rel => exact ⟨k + 1, by omega, by go_num, hon.setCell _ _, fun i => by have := HFk.out i; simpa using this, fun j h1 h2 => by rw [World.cell?_setCell_other _ _ _ _ (by intro h; simp only [Addr.mk.injEq] at h; omega)]; exact HCk.out j (by omega) h2⟩
      case measure => simp [intOf]; omega
    · have v0' := (hon.cell (b := w.heap.size) (o := 0) (by omega)).trans v0
      have v1' := (hon.cell (b := w.heap.size) (o := 1) (by omega)).trans v1
      have v2' := (hon.cell (b := w.heap.size) (o := 2) (by omega)).trans v2
      have v3' := (hon.cell (b := w.heap.size) (o := 3) (by omega)).trans v3
      have v4' := (hon.cell (b := w.heap.size) (o := 4) (by omega)).trans v4
      have hBr : Below w.heap.size w wr := hB3.trans (hon.below (by omega))
      have hsr := hon.size
      have HC5 : Hid (∀ i, i < l.length → wr.cell? ⟨g2, i, none⟩ = some (.int .u8 (l.getD i 0))) := fun i hi => (hon.cell (by omega)).trans (HC4.out i hi)
      clear v0 v1 v2 v3 v4 hfz hcl
      go_wp2_with (first
        | (go_at_call 14; refine (HG.out _).mono ?_; rintro e w4 ⟨g4, rfl, hb4, hg4, hg5, -, hcl4⟩; have s4 := hb4.size; have HC6 : Hid (∀ i, i < l.length → w4.cell? ⟨g4, i, none⟩ = some (.int .u8 (l.getD i 0))) := hcl4; clear hcl4)
        | (go_at_call 9; refine (HS.out g4 l.length g2 c2 _ HC6.out (fun i hi => (hb4.cell (p := ⟨g2, i, none⟩) (by show g2 < _; omega)).trans (HC5.out i hi))).mono ?_; rintro e w5 ⟨rfl, hb5⟩))
      go_ret
      exact ⟨rfl, (hBr.trans (hb4.mono (by omega))).trans (hb5.mono (by omega))⟩

end Go.Proofs.Ytnnnmhpbdkalaaa
