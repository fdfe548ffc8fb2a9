import Derived.Test.YtnnnmhpbdkalaaaK
import Derived.Test.YtnnnmhpbdkalaaaQ
namespace Go.Proofs.Ytnnnmhpbdkalaaa
open Go.RowKit
set_option linter.unusedVariables false
set_option linter.unusedSimpArgs false

/-! ## guest.Encode -/
def layK (k : Nat) (D S O im : Int) : List Int := layL (tg k 1) (tg k 3) (tg k 4) (tg k 5) D S O im
/-- Is it just this instruction? -/
def isB (r : DecR) (op D S O im : Int) : Bool := decide (r.e = 0 ∧ r.op = op ∧ r.D = D ∧ r.S = S ∧ r.O = O ∧ r.imm = im)
theorem row_bd2 : ∀ k : Fin 32, 0 ≤ tg k.val 3 ∧ tg k.val 3 ≤ 3 ∧ 0 ≤ tg k.val 4 ∧ tg k.val 4 ≤ 4 := by decide +kernel
theorem hitO_lt {x : Int} {k : Nat} (h : hitO x = some k) : k < 32 := by
  have := List.mem_of_find?_eq_some h
  simpa using this
theorem chunkR_mem (regs D S O v : Int) (hv : v ∈ chunkR regs D S O) : 0 ≤ v ∧ v ≤ 255 := by
  unfold chunkR at hv
  by_cases h1 : regs = 1
  · rw [if_pos h1] at hv; simp only [List.mem_singleton] at hv; subst hv; omega
  rw [if_neg h1] at hv
  by_cases h2 : regs = 2
  · rw [if_pos h2] at hv; simp only [List.mem_singleton] at hv; subst hv; omega
  rw [if_neg h2] at hv
  by_cases h3 : regs = 3
  · rw [if_pos h3] at hv; simp only [List.mem_singleton] at hv; subst hv; omega
  rw [if_neg h3] at hv
  by_cases h4 : regs = 4
  · rw [if_pos h4] at hv; simp only [List.mem_singleton] at hv; subst hv; omega
  rw [if_neg h4] at hv
  simp at hv
theorem chunkI_mem (imm im v : Int) (hv : v ∈ chunkI imm im) : 0 ≤ v ∧ v ≤ 255 := by
  unfold chunkI at hv
  by_cases h1 : imm = 1 ∨ imm = 2
  · rw [if_pos h1] at hv; simp only [List.mem_singleton] at hv; subst hv; omega
  rw [if_neg h1] at hv
  by_cases h3 : imm = 3
  · rw [if_pos h3] at hv; simp only [List.mem_cons, List.not_mem_nil, or_false] at hv; rcases hv with rfl | rfl | rfl | rfl <;> omega
  rw [if_neg h3] at hv
  simp at hv
theorem layL_bd (first field regs imm D S O im : Int) (i : Nat) : 0 ≤ (layL first field regs imm D S O im).getD i 0 ∧ (layL first field regs imm D S O im).getD i 0 ≤ 255 := by
  have h : ∀ v ∈ layL first field regs imm D S O im, 0 ≤ v ∧ v ≤ 255 := by
    intro v hv
    unfold layL at hv
    simp only [List.mem_append, List.mem_singleton] at hv
    rcases hv with (rfl | hv) | hv
    · omega
    · exact chunkR_mem _ _ _ _ _ hv
    · exact chunkI_mem _ _ _ hv
  by_cases hi : i < (layL first field regs imm D S O im).length
  · have := h _ (List.getElem_mem hi)
    simpa [List.getD_eq_getElem?_getD, hi] using this
  · rw [List.getD_eq_getElem?_getD, List.getElem?_eq_none (by omega)]; simp

set_option maxRecDepth 100000 in
set_option maxHeartbeats 2000000 in
theorem enc_yes (op D S O im : Int) (w : World) (k : Nat) (hk : hitO op = some k) (m0 : 0 ≤ im) (m1 : im ≤ 4294967295) (hyes : isB (guestDec (layK k D S O im) (layK k D S O im).length) op D S O im = true) :
    Calls Try.prog 14 #[.agg #[.int .i64 op, .int .i64 D, .int .i64 S, .int .i64 O, .int .u32 im]] w fun e w' =>
      ∃ g, e = .returned (.tuple #[.slice (some ⟨g, 0, none⟩) (layK k D S O im).length (layK k D S O im).length, .int .i64 0]) ∧ Below w.heap.size w w' ∧ w.heap.size ≤ g ∧ g < w'.heap.size ∧ (∀ i, w'.frozen? ⟨g, i, none⟩ = false) ∧ ∀ i, i < (layK k D S O im).length → w'.cell? ⟨g, i, none⟩ = some (.int .u8 ((layK k D S O im).getD i 0)) := by
  have hlt := hitO_lt hk
  obtain ⟨q0, q1, q2, q3, q4, q5, q6, q7⟩ := row_bd ⟨k, hlt⟩
  obtain ⟨u0, u1, u2, u3⟩ := row_bd2 ⟨k, hlt⟩
  simp only at q0 q1 q2 q3 q4 q5 q6 q7 u0 u1 u2 u3
  obtain ⟨n, hn⟩ := Int.eq_ofNat_of_zero_le (show (0 : Int) ≤ sizeN (tg k 4) (tg k 5) by omega)
  have e0 : rg (hitO op) 0 = tg k 0 := by rw [hk]; rfl
  have e1 : rg (hitO op) 1 = tg k 1 := by rw [hk]; rfl
  have e2 : rg (hitO op) 2 = tg k 2 := by rw [hk]; rfl
  have e3 : rg (hitO op) 3 = tg k 3 := by rw [hk]; rfl
  have e4 : rg (hitO op) 4 = tg k 4 := by rw [hk]; rfl
  have e5 : rg (hitO op) 5 = tg k 5 := by rw [hk]; rfl
  have es : (hitO op).isSome = true := by rw [hk]; rfl
  have HL : Hid (∀ w', Calls Try.prog 23 #[.agg #[.int .u8 (tg k 0), .int .u8 (tg k 1), .int .u8 (tg k 2), .int .u8 (tg k 3), .int .u8 (tg k 4), .int .u8 (tg k 5)], .agg #[.int .i64 op, .int .i64 D, .int .i64 S, .int .i64 O, .int .u32 im]] w'
      fun e w'' => ∃ g, e = .returned (.slice (some ⟨g, 0, none⟩) n n) ∧ w'.heap.size ≤ g ∧ g < w''.heap.size ∧ Below w'.heap.size w' w'' ∧ (∀ i, w''.frozen? ⟨g, i, none⟩ = false) ∧ (layK k D S O im).length = n ∧ ∀ i, i < n → w''.cell? ⟨g, i, none⟩ = some (.int .u8 ((layK k D S O im).getD i 0))) :=
    fun w' => lay_any (tg k 0) (tg k 1) (tg k 2) (tg k 3) (tg k 4) (tg k 5) op D S O im w' q4 q5 u0 u1 u2 u3 m0 m1 n hn (by omega) (by omega)
  have hnpos : 0 < n := by omega
  have hbd := layL_bd (tg k 1) (tg k 3) (tg k 4) (tg k 5) D S O im
  have HD : Hid (∀ g w', g < w'.heap.size → (layK k D S O im).length = n → (∀ i, i < n → w'.cell? ⟨g, i, none⟩ = some (.int .u8 ((layK k D S O im).getD i 0))) → Calls Try.prog 7 #[.slice (some ⟨g, 0, none⟩) n n] w' fun e w'' => e = .returned (decV (guestDec (layK k D S O im) (layK k D S O im).length)) ∧ Below w'.heap.size w' w'') :=
    fun g w' h1 h2 h3 => by
      rw [h2]
      exact dec_any g 0 n n (layK k D S O im) w' ⟨Nat.le_refl _, by unfold maxLen; omega, fun i hi => by rw [Nat.zero_add]; exact h3 i hi, hbd, h1⟩ hnpos
  generalize guestDec (layK k D S O im) (layK k D S O im).length = r at HD hyes
  obtain ⟨rop, rD, rS, rO, rim, rn, rer⟩ := r
  simp only [isB, decide_eq_true_eq] at hyes
  obtain ⟨rfl, rfl, rfl, rfl, rfl, rfl⟩ := hyes
  have HPOST : Hid (∀ (e : Ending) (w' : World) (g : Nat), e = .returned (.tuple #[.slice (some ⟨g, 0, none⟩) n n, .int .i64 0]) → (layK k rD rS rO rim).length = n → (Below w.heap.size w w' ∧ w.heap.size ≤ g ∧ g < w'.heap.size ∧ (∀ i, w'.frozen? ⟨g, i, none⟩ = false) ∧ ∀ i, i < n → w'.cell? ⟨g, i, none⟩ = some (.int .u8 ((layK k rD rS rO rim).getD i 0))) →
      ∃ g, e = .returned (.tuple #[.slice (some ⟨g, 0, none⟩) (layK k rD rS rO rim).length (layK k rD rS rO rim).length, .int .i64 0]) ∧ Below w.heap.size w w' ∧ w.heap.size ≤ g ∧ g < w'.heap.size ∧ (∀ i, w'.frozen? ⟨g, i, none⟩ = false) ∧ ∀ i, i < (layK k rD rS rO rim).length → w'.cell? ⟨g, i, none⟩ = some (.int .u8 ((layK k rD rS rO rim).getD i 0))) :=
    fun e w' g h1 h2 h3 => ⟨g, by rw [h2]; exact h1, h3.1, h3.2.1, h3.2.2.1, h3.2.2.2.1, by rw [h2]; exact h3.2.2.2.2⟩
  generalize layK k rD rS rO rim = l at HL HD HPOST ⊢
  clear hk hn hbd
  go_enter Try.func14, Try.ntmps14
  go_wp2_with (first
    | (go_at_call 22; refine (rowOfOp_any _ _).mono ?_; rintro e w1 ⟨rfl, hb1⟩; rw [es]; unfold rowV; rw [e0, e1, e2, e3, e4, e5]; have hz1 := hb1.size; simp only [World.size_alloc] at hz1; have hX1 : w1.heap[w.heap.size]? = some (insB rop rD rS rO rim) := (hb1.block w.heap.size (by simp)).trans (heap_alloc_last w _); obtain ⟨x0, x1, x2, x3, x4⟩ := ins_cells hX1; have hzw : w.heap.size < w1.heap.size := (by omega))
    | (go_at_call 23; refine (HL.out _).mono ?_; rintro e w2 ⟨g, rfl, hg1, hg2, hb2, hfz, hln, hcl⟩; have HF : Hid (∀ i, w2.frozen? ⟨g, i, none⟩ = false) := hfz; clear hfz; have HC : Hid (∀ i, i < n → w2.cell? ⟨g, i, none⟩ = some (.int .u8 (l.getD i 0))) := hcl; clear hcl)
    | (go_at_call 7; refine (HD.out g _ hg2 hln HC.out).mono ?_; rintro e w3 ⟨rfl, hb3⟩; have hz2 := hb2.size; simp only [World.size_alloc] at hz2 hg1; have hX3 : w3.heap[w.heap.size]? = some (insB rop rD rS rO rim) := (hb3.block w.heap.size (by omega)).trans ((hb2.block w.heap.size (by simp only [World.size_alloc]; omega)).trans ((Below.heap_alloc w1 _ w.heap.size (by omega)).trans hX1)); obtain ⟨v0, v1, v2, v3, v4⟩ := ins_cells hX3; have hz3 := hb3.size; have hzw3 : w.heap.size < w3.heap.size := (by omega)))
  go_ret2
  refine HPOST.out _ _ g rfl hln ⟨?_, by omega, ?_, fun i => ?_, fun i hi => ?_⟩
  · have hB1 : Below w.heap.size w w1 := ((Below.refl _ _).alloc (Nat.le_refl _) _).trans (hb1.mono (by simp))
    exact ((((hB1.alloc (by omega) _).trans (hb2.mono (by simp only [World.size_alloc]; omega))).trans (hb3.mono (by omega))).alloc (by omega) _)
  · simp only [World.size_alloc]; omega
  · rw [World.frozen?_of_block (w := w3) (Below.heap_alloc _ _ _ (by show g < w3.heap.size; omega)), hb3.frozen (p := ⟨g, i, none⟩) hg2]
    exact HF.out i
  · rw [World.cell?_alloc_past _ _ _ (by show g < w3.heap.size; omega), hb3.cell (p := ⟨g, i, none⟩) hg2]
    exact HC.out i hi

set_option maxRecDepth 100000 in
set_option maxHeartbeats 2000000 in
theorem enc_no (op D S O im : Int) (w : World) (k : Nat) (hk : hitO op = some k) (m0 : 0 ≤ im) (m1 : im ≤ 4294967295) (hno : isB (guestDec (layK k D S O im) (layK k D S O im).length) op D S O im = false) :
    Calls Try.prog 14 #[.agg #[.int .i64 op, .int .i64 D, .int .i64 S, .int .i64 O, .int .u32 im]] w fun e w' =>
      e = .returned (.tuple #[.slice none 0 0, .int .i64 3]) ∧ Below w.heap.size w w' := by
  have hlt := hitO_lt hk
  obtain ⟨q0, q1, q2, q3, q4, q5, q6, q7⟩ := row_bd ⟨k, hlt⟩
  obtain ⟨u0, u1, u2, u3⟩ := row_bd2 ⟨k, hlt⟩
  simp only at q0 q1 q2 q3 q4 q5 q6 q7 u0 u1 u2 u3
  obtain ⟨n, hn⟩ := Int.eq_ofNat_of_zero_le (show (0 : Int) ≤ sizeN (tg k 4) (tg k 5) by omega)
  have e0 : rg (hitO op) 0 = tg k 0 := by rw [hk]; rfl
  have e1 : rg (hitO op) 1 = tg k 1 := by rw [hk]; rfl
  have e2 : rg (hitO op) 2 = tg k 2 := by rw [hk]; rfl
  have e3 : rg (hitO op) 3 = tg k 3 := by rw [hk]; rfl
  have e4 : rg (hitO op) 4 = tg k 4 := by rw [hk]; rfl
  have e5 : rg (hitO op) 5 = tg k 5 := by rw [hk]; rfl
  have es : (hitO op).isSome = true := by rw [hk]; rfl
  have HL : Hid (∀ w', Calls Try.prog 23 #[.agg #[.int .u8 (tg k 0), .int .u8 (tg k 1), .int .u8 (tg k 2), .int .u8 (tg k 3), .int .u8 (tg k 4), .int .u8 (tg k 5)], .agg #[.int .i64 op, .int .i64 D, .int .i64 S, .int .i64 O, .int .u32 im]] w'
      fun e w'' => ∃ g, e = .returned (.slice (some ⟨g, 0, none⟩) n n) ∧ w'.heap.size ≤ g ∧ g < w''.heap.size ∧ Below w'.heap.size w' w'' ∧ (∀ i, w''.frozen? ⟨g, i, none⟩ = false) ∧ (layK k D S O im).length = n ∧ ∀ i, i < n → w''.cell? ⟨g, i, none⟩ = some (.int .u8 ((layK k D S O im).getD i 0))) :=
    fun w' => lay_any (tg k 0) (tg k 1) (tg k 2) (tg k 3) (tg k 4) (tg k 5) op D S O im w' q4 q5 u0 u1 u2 u3 m0 m1 n hn (by omega) (by omega)
  have hnpos : 0 < n := by omega
  have hbd := layL_bd (tg k 1) (tg k 3) (tg k 4) (tg k 5) D S O im
  have HD : Hid (∀ g w', g < w'.heap.size → (layK k D S O im).length = n → (∀ i, i < n → w'.cell? ⟨g, i, none⟩ = some (.int .u8 ((layK k D S O im).getD i 0))) → Calls Try.prog 7 #[.slice (some ⟨g, 0, none⟩) n n] w' fun e w'' => e = .returned (decV (guestDec (layK k D S O im) (layK k D S O im).length)) ∧ Below w'.heap.size w' w'') :=
    fun g w' h1 h2 h3 => by
      rw [h2]
      exact dec_any g 0 n n (layK k D S O im) w' ⟨Nat.le_refl _, by unfold maxLen; omega, fun i hi => by rw [Nat.zero_add]; exact h3 i hi, hbd, h1⟩ hnpos
  generalize guestDec (layK k D S O im) (layK k D S O im).length = r at HD hno
  obtain ⟨rop, rD, rS, rO, rim, rn, rer⟩ := r
  simp only [isB, decide_eq_false_iff_not] at hno
  generalize layK k D S O im = l at HL HD
  clear hk hn hbd
  have hcase : ¬ rer = 0 ∨ (rer = 0 ∧ ¬ rop = op) ∨ (rer = 0 ∧ rop = op ∧ ¬ rD = D) ∨ (rer = 0 ∧ rop = op ∧ rD = D ∧ ¬ rS = S) ∨ (rer = 0 ∧ rop = op ∧ rD = D ∧ rS = S ∧ ¬ rO = O) ∨ (rer = 0 ∧ rop = op ∧ rD = D ∧ rS = S ∧ rO = O ∧ ¬ rim = im) := by
    by_cases h0 : rer = 0
    · by_cases h1 : rop = op
      · by_cases h2 : rD = D
        · by_cases h3 : rS = S
          · by_cases h4 : rO = O
            · exact .inr (.inr (.inr (.inr (.inr ⟨h0, h1, h2, h3, h4, fun h5 => hno ⟨h0, h1, h2, h3, h4, h5⟩⟩))))
            · exact .inr (.inr (.inr (.inr (.inl ⟨h0, h1, h2, h3, h4⟩))))
          · exact .inr (.inr (.inr (.inl ⟨h0, h1, h2, h3⟩)))
        · exact .inr (.inr (.inl ⟨h0, h1, h2⟩))
      · exact .inr (.inl ⟨h0, h1⟩)
    · exact .inl h0
  clear hno
  have HB : Hid (∀ o1 (w1 w2 w3 : World) o2 o3, Below (w.alloc o1).heap.size (w.alloc o1) w1 → Below (w1.alloc o2).heap.size (w1.alloc o2) w2 → Below w2.heap.size w2 w3 → Below w.heap.size w (w3.alloc o3)) :=
    fun o1 w1 w2 w3 o2 o3 hb1 hb2 hb3 => by
      have s1 := hb1.size
      have s2 := hb2.size
      have s3 := hb3.size
      simp only [World.size_alloc] at s1 s2
      exact (((((((Below.refl _ _).alloc (Nat.le_refl _) _).trans (hb1.mono (by simp))).alloc (by omega) _).trans (hb2.mono (by simp only [World.size_alloc]; omega))).trans (hb3.mono (by omega))).alloc (by omega) _)
  rcases hcase with h | ⟨rfl, h⟩ | ⟨rfl, rfl, h⟩ | ⟨rfl, rfl, rfl, h⟩ | ⟨rfl, rfl, rfl, rfl, h⟩ | ⟨rfl, rfl, rfl, rfl, rfl, h⟩
  all_goals
    go_enter Try.func14, Try.ntmps14
    go_wp2_with (first
      | (go_at_call 22; refine (rowOfOp_any _ _).mono ?_; rintro e w1 ⟨rfl, hb1⟩; rw [es]; unfold rowV; rw [e0, e1, e2, e3, e4, e5]; have hz1 := hb1.size; simp only [World.size_alloc] at hz1; have hX1 := (hb1.block w.heap.size (by simp)).trans (heap_alloc_last w _); obtain ⟨x0, x1, x2, x3, x4⟩ := ins_cells hX1; have hzw : w.heap.size < w1.heap.size := (by omega))
      | (go_at_call 23; refine (HL.out _).mono ?_; rintro e w2 ⟨g, rfl, hg1, hg2, hb2, hfz, hln, hcl⟩; have HF : Hid (∀ i, w2.frozen? ⟨g, i, none⟩ = false) := hfz; clear hfz; have HC : Hid (∀ i, i < n → w2.cell? ⟨g, i, none⟩ = some (.int .u8 (l.getD i 0))) := hcl; clear hcl)
      | (go_at_call 7; refine (HD.out g _ hg2 hln HC.out).mono ?_; rintro e w3 ⟨rfl, hb3⟩; have hz2 := hb2.size; simp only [World.size_alloc] at hz2 hg1; have hX3 := (hb3.block w.heap.size (by omega)).trans ((hb2.block w.heap.size (by simp only [World.size_alloc]; omega)).trans ((Below.heap_alloc w1 _ w.heap.size (by omega)).trans hX1)); obtain ⟨v0, v1, v2, v3, v4⟩ := ins_cells hX3; have hz3 := hb3.size; have hzw3 : w.heap.size < w3.heap.size := (by omega)))
    go_ret2
    exact ⟨rfl, HB.out _ _ _ _ _ _ hb1 hb2 hb3⟩

set_option maxRecDepth 100000 in
theorem enc_none (op D S O im : Int) (w : World) (hk : hitO op = none) :
    Calls Try.prog 14 #[.agg #[.int .i64 op, .int .i64 D, .int .i64 S, .int .i64 O, .int .u32 im]] w fun e w' =>
      e = .returned (.tuple #[.slice none 0 0, .int .i64 2]) ∧ Below w.heap.size w w' := by
  have es : (hitO op).isSome = false := by rw [hk]; rfl
  clear hk
  go_enter Try.func14, Try.ntmps14
  go_wp2_with (go_at_call 22; refine (rowOfOp_any _ _).mono ?_; rintro e w1 ⟨rfl, hb1⟩; rw [es]; have s1 := hb1.size; simp only [World.size_alloc] at s1)
  go_ret2
  exact ⟨rfl, ((((Below.refl _ _).alloc (Nat.le_refl _) _).trans (hb1.mono (by simp))).alloc (by omega) _)⟩

end Go.Proofs.Ytnnnmhpbdkalaaa
