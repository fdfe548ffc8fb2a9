import Derived.Test.YtnnnmhpbdkalaaaR
import Derived.Test.YtnnnmhpbdkalaaaS
import Derived.Deep.AppendLies
namespace Go.Proofs.Ytnnnmhpbdkalaaa
open Go.RowKit
set_option linter.unusedVariables false
set_option linter.unusedSimpArgs false

def chB (D S O im : Int) (c : Int) : List Int :=
  if c = 98 then [im % 256] else if c = 115 then [im % 256] else if c = 119 then [im % 256, im / 256 % 256, im / 65536 % 256, im / 16777216 % 256]
  else if c = 100 then [D % 256] else if c = 101 then [S % 256] else if c = 112 then [(16 * D + S) % 256] else if c = 99 then [(16 * O + D) % 256] else []
def encJ (k : Nat) (D S O im : Int) (j : Nat) : List Int := [(formI k 0 + lowF k D S O) % 256] ++ ((formB k).take j).flatMap (chB D S O im)
theorem encJ_next (k : Nat) (D S O im : Int) (j : Nat) (h : j < (formB k).length) : encJ k D S O im (j + 1) = encJ k D S O im j ++ chB D S O im ((formB k).getD j 0) := by
  unfold encJ; rw [take_next _ _ h]; simp
def encF (k : Nat) (D S O im : Int) : List Int := [(formI k 0 + lowF k D S O) % 256] ++ (formB k).flatMap (chB D S O im)
theorem encJ_all (k : Nat) (D S O im : Int) (j : Nat) (h : (formB k).length ≤ j) : encJ k D S O im j = encF k D S O im := by
  unfold encJ encF; rw [List.take_of_length_le h]
theorem chB_len (D S O im c : Int) : (chB D S O im c).length ≤ 4 := by
  unfold chB
  by_cases h1 : c = 98
  · rw [if_pos h1]; simp
  rw [if_neg h1]
  by_cases h2 : c = 115
  · rw [if_pos h2]; simp
  rw [if_neg h2]
  by_cases h3 : c = 119
  · rw [if_pos h3]; simp
  rw [if_neg h3]
  by_cases h4 : c = 100
  · rw [if_pos h4]; simp
  rw [if_neg h4]
  by_cases h5 : c = 101
  · rw [if_pos h5]; simp
  rw [if_neg h5]
  by_cases h6 : c = 112
  · rw [if_pos h6]; simp
  rw [if_neg h6]
  by_cases h7 : c = 99
  · rw [if_pos h7]; simp
  rw [if_neg h7]; simp
theorem encJ_len (k : Nat) (D S O im : Int) (j : Nat) (hk : k < 32) : 1 ≤ (encJ k D S O im j).length ∧ (encJ k D S O im j).length ≤ 9 := by
  have h2 := formB_len ⟨k, hk⟩
  simp only at h2
  unfold encJ
  match h : (formB k).take j with
  | [] => simp
  | [c] => have := chB_len D S O im c; simp; omega
  | [c, d] => have := chB_len D S O im c; have := chB_len D S O im d; simp; omega
  | c :: d :: e :: r => have : ((formB k).take j).length ≤ 2 := by rw [List.length_take]; omega
                        rw [h] at this; simp at this

theorem cell_four_new (w : World) (a b c d : Value) (t : TypeId) : ∀ j u, [a, b, c, d][j]? = some u → (w.alloc (.cells #[a, b, c, d] t)).cell? ((⟨w.heap.size, 0, none⟩ : Addr).add j) = some u := by
  intro j u hj
  rw [Addr.add_mid, Nat.zero_add, cell_of_row _ _ _ _ _ _ (heap_alloc_last w _)]
  simpa using hj

/-- What an append leaves of the rest. -/
theorem enc_grown {W w4 wr w1 : World} {o : Obj} {g g' M l c : Nat} (hsW : W.heap.size = M + 3) (hB : Below (M + 3) W wr) (hC : wr.heap[M + 4]? = w4.heap[M + 4]?) (hs : M + 4 < wr.heap.size) (hg : M + 3 ≤ g) (hg1 : g ≠ M + 4)
    (hgrow : (wr.alloc o).grownBy w1 (Value.slice (some ⟨g, 0, none⟩) l c).ownBlock) (hat : (Value.slice (some ⟨g, 0, none⟩) l c).ownBlock = some g' ∨ g' = wr.heap.size + 1) :
    M + 3 ≤ g' ∧ g' ≠ M + 4 ∧ Below (M + 3) W w1 ∧ w1.heap[M + 4]? = w4.heap[M + 4]? ∧ M + 4 < w1.heap.size := by
  have hsz := hgrow.size
  simp only [World.size_alloc] at hsz
  have hg' : g' = g ∨ g' = wr.heap.size + 1 := by
    rcases hat with h | h
    · left; simp [Value.ownBlock] at h; exact h.symm
    · exact .inr h
  refine ⟨by omega, by omega, ?_, ?_, by omega⟩
  · exact (hB.alloc (by omega) o).grown hgrow (by simp; omega) (fun k hk => by simp [Value.ownBlock] at hk; omega)
  · rw [hgrow.block (M + 4) (by simp only [World.size_alloc]; omega) (by simp [Value.ownBlock]; omega), Below.heap_alloc _ _ _ hs]; exact hC

/-- What Encode answers. -/
def encPost (bq : Bool) (l : List Int) (w : World) (e : Ending) (w' : World) : Prop :=
  Below w.heap.size w w' ∧ if bq = true then ∃ g c, e = .returned (.tuple #[.slice (some ⟨g, 0, none⟩) l.length c, .int .i64 0]) ∧ w.heap.size ≤ g ∧ g < w'.heap.size ∧ l.length ≤ c ∧ c ≤ maxLen ∧ ∀ i, i < l.length → w'.cell? ⟨g, i, none⟩ = some (.int .u8 (l.getD i 0))
    else e = .returned (.tuple #[.slice none 0 0, .int .i64 3])

theorem encF_bd (k : Nat) (D S O im : Int) (i : Nat) : 0 ≤ (encF k D S O im).getD i 0 ∧ (encF k D S O im).getD i 0 ≤ 255 := by
  have hc : ∀ c, ∀ v ∈ chB D S O im c, 0 ≤ v ∧ v ≤ 255 := by
    intro c v hv
    unfold chB at hv
    by_cases h1 : c = 98
    · rw [if_pos h1] at hv; simp only [List.mem_singleton] at hv; subst hv; omega
    rw [if_neg h1] at hv
    by_cases h2 : c = 115
    · rw [if_pos h2] at hv; simp only [List.mem_singleton] at hv; subst hv; omega
    rw [if_neg h2] at hv
    by_cases h3 : c = 119
    · rw [if_pos h3] at hv; simp only [List.mem_cons, List.not_mem_nil, or_false] at hv; rcases hv with rfl | rfl | rfl | rfl <;> omega
    rw [if_neg h3] at hv
    by_cases h4 : c = 100
    · rw [if_pos h4] at hv; simp only [List.mem_singleton] at hv; subst hv; omega
    rw [if_neg h4] at hv
    by_cases h5 : c = 101
    · rw [if_pos h5] at hv; simp only [List.mem_singleton] at hv; subst hv; omega
    rw [if_neg h5] at hv
    by_cases h6 : c = 112
    · rw [if_pos h6] at hv; simp only [List.mem_singleton] at hv; subst hv; omega
    rw [if_neg h6] at hv
    by_cases h7 : c = 99
    · rw [if_pos h7] at hv; simp only [List.mem_singleton] at hv; subst hv; omega
    rw [if_neg h7] at hv
    simp at hv
  have h : ∀ v ∈ encF k D S O im, 0 ≤ v ∧ v ≤ 255 := by
    intro v hv
    unfold encF at hv
    simp only [List.mem_append, List.mem_singleton, List.mem_flatMap] at hv
    rcases hv with rfl | ⟨c, -, hv⟩
    · omega
    · exact hc c v hv
  by_cases hi : i < (encF k D S O im).length
  · have := h _ (List.getElem_mem hi)
    simpa [List.getD_eq_getElem?_getD, hi] using this
  · rw [List.getD_eq_getElem?_getD, List.getElem?_eq_none (by omega)]; simp

end Go.Proofs.Ytnnnmhpbdkalaaa
