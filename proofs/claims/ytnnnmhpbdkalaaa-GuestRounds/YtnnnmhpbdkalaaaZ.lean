import Derived.Test.YtnnnmhpbdkalaaaV
import Derived.Test.YtnnnmhpbdkalaaaX
import Derived.Test.YtnnnmhpbdkalaaaY
namespace Go.Proofs.Ytnnnmhpbdkalaaa
open Go.RowKit
set_option linter.unusedVariables false
set_option linter.unusedSimpArgs false

set_option maxRecDepth 100000 in
set_option maxHeartbeats 1000000 in
theorem reenc_none (op D S O im : Int) (w : World) (hop : ¬ (0 ≤ op ∧ op < 32)) :
    Calls Try.prog 15 #[insV op D S O im] w fun e w' => e = .returned (.tuple #[.slice none 0 0, .int .i64 2]) ∧ Below w.heap.size w w' := by
  by_cases h : op < 0
  · clear hop
    go_enter Try.func15, Try.ntmps15
    go_wp2_with (go_at_call 20; refine (forms_any _).mono ?_; rintro e w3 ⟨rfl, rfl⟩)
    go_ret2
    exact ⟨rfl, ((Below.refl _ _).alloc (Nat.le_refl _) _).alloc (by simp) _⟩
  · have h1 : 0 ≤ op := by omega
    have h2 : 32 ≤ op := by omega
    clear hop h
    go_enter Try.func15, Try.ntmps15
    go_wp2_with (go_at_call 20; refine (forms_any _).mono ?_; rintro e w3 ⟨rfl, rfl⟩)
    go_ret2
    exact ⟨rfl, ((Below.refl _ _).alloc (Nat.le_refl _) _).alloc (by simp) _⟩

theorem encF_len (k : Nat) (hk : k < 32) (D S O im : Int) : 1 ≤ (encF k D S O im).length ∧ (encF k D S O im).length ≤ 9 := by
  have h := encJ_len k D S O im 2 hk
  rw [encJ_all k D S O im 2 (formB_len ⟨k, hk⟩)] at h
  exact h

/-- What Encode answers of any instruction: by its Op, and by whether what is laid is read as just this. -/
theorem enc_any (op D S O im : Int) (m0 : 0 ≤ im) (m1 : im ≤ 4294967295) :
    (∃ er, er ≠ 0 ∧ (∀ w, Calls Try.prog 14 #[insV op D S O im] w fun e w' => e = .returned (.tuple #[.slice none 0 0, .int .i64 er]) ∧ Below w.heap.size w w') ∧
      (∀ w, Calls Try.prog 15 #[insV op D S O im] w fun e w' => e = .returned (.tuple #[.slice none 0 0, .int .i64 er]) ∧ Below w.heap.size w w')) ∨
    (∃ l : List Int, 0 < l.length ∧ l.length ≤ 9 ∧ (∀ j, 0 ≤ l.getD j 0 ∧ l.getD j 0 ≤ 255) ∧ isB (refDec l l.length) op D S O im = true ∧
      (∀ w, Calls Try.prog 14 #[insV op D S O im] w fun e w' => ∃ g, e = .returned (.tuple #[.slice (some ⟨g, 0, none⟩) l.length l.length, .int .i64 0]) ∧ Below w.heap.size w w' ∧ w.heap.size ≤ g ∧ g < w'.heap.size ∧ (∀ i, w'.frozen? ⟨g, i, none⟩ = false) ∧ ∀ i, i < l.length → w'.cell? ⟨g, i, none⟩ = some (.int .u8 (l.getD i 0))) ∧
      (∀ w, Calls Try.prog 15 #[insV op D S O im] w fun e w' => ∃ g c, e = .returned (.tuple #[.slice (some ⟨g, 0, none⟩) l.length c, .int .i64 0]) ∧ Below w.heap.size w w' ∧ w.heap.size ≤ g ∧ g < w'.heap.size ∧ ∀ i, i < l.length → w'.cell? ⟨g, i, none⟩ = some (.int .u8 (l.getD i 0)))) := by
  have ho := hitO_eq op
  by_cases hop : 0 ≤ op ∧ op < 32
  · rw [if_pos hop] at ho
    obtain ⟨k, rfl⟩ := Int.eq_ofNat_of_zero_le hop.1
    rw [Int.toNat_natCast] at ho
    have hk : k < 32 := by omega
    have hll := encF_len k hk D S O im
    have hle := lay_eq k hk D S O im
    have hbd := encF_bd k D S O im
    have hde := dec_eq (encF k D S O im) (encF k D S O im).length (hbd 0)
    cases hq : isB (refDec (encF k D S O im) (encF k D S O im).length) k D S O im with
    | true =>
      refine .inr ⟨encF k D S O im, by omega, hll.2, hbd, hq, fun w => ?_, fun w => ?_⟩
      · have := enc_yes k D S O im w k ho m0 m1 (by rw [hle, hde]; exact hq)
        rw [hle] at this
        exact this
      · refine (reenc_walk D S O im w k hk (dec_room _ _ hbd k hk D S O im hq) m0 m1).mono fun e w' h => ?_
        rw [hq] at h
        obtain ⟨h1, h2⟩ := h
        rw [if_pos rfl] at h2
        obtain ⟨g, c, a1, a2, a3, -, -, a4⟩ := h2
        exact ⟨g, c, a1, h1, a2, a3, a4⟩
    | false =>
      refine .inl ⟨3, by decide, fun w => ?_, fun w => ?_⟩
      · exact enc_no k D S O im w k ho m0 m1 (by rw [hle, hde]; exact hq)
      · cases hok : okF k D S O with
        | true =>
          refine (reenc_walk D S O im w k hk hok m0 m1).mono fun e w' h => ?_
          rw [hq] at h
          obtain ⟨h1, h2⟩ := h
          rw [if_neg (by decide)] at h2
          exact ⟨h2, h1⟩
        | false => exact (reenc_bad D S O im w k hk hok).mono fun e w' h => ⟨h.2, h.1⟩
  · rw [if_neg hop] at ho
    exact .inl ⟨2, by decide, fun w => enc_none op D S O im w ho, fun w => reenc_none op D S O im w hop⟩

theorem writes_walk (op D S O im : Int) (w : World) (m0 : 0 ≤ im) (m1 : im ≤ 4294967295) :
    Calls Try.prog 4 #[insV op D S O im] w fun e w' => e = .returned (.bool true) ∧ Below w.heap.size w w' := by
  rcases enc_any op D S O im m0 m1 with ⟨er, -, hG, hR⟩ | ⟨l, h1, h2, -, -, hG, hR⟩
  · exact writes_err op D S O im er w hG hR
  · exact writes_yes op D S O im l w h1 (by omega) hG hR

end Go.Proofs.Ytnnnmhpbdkalaaa
