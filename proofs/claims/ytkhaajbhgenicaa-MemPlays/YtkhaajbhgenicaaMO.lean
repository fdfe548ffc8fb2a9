import Derived.Test.YtkhaajbhgenicaaMN
namespace Go.Proofs.Ytkhaajbhgenicaa
open Go.RowKit
set_option maxRecDepth 100000
set_option linter.unusedVariables false

def zB : Array Value := madeCells #[.int .u8 0] 65536
def zR : Array Value := madeCells #[.int .i64 0] 256
def zM : Array Value := madeCells #[.bool false] 256
theorem info4 : (Try.prog.info? 4).map (fun i => (i.zero, i.size, i.bytes)) = some (some (.bool false), 1, 1) := by kernel_rfl
theorem made_run {t e : TypeId} {z : Value} {b : Nat} (n : Nat) (hu : Try.prog.underlying t = some (.slice e)) (hi : (Try.prog.info? e).map (fun i => (i.zero, i.size, i.bytes)) = some (some z, 1, b)) (hb : b ≤ 8) (hn : n ≤ 65536) (hz : z.cells = #[z]) (w : World) :
    (Instr.makeSlice t (.int .i64 n) (.int .i64 n)).run Try.prog w = .ok (.slice (some ⟨w.heap.size, 0, none⟩) n n) (w.alloc (.cells (madeCells #[z] n) e)) := by
  obtain ⟨i, h2, h3, h4, h5⟩ := info_parts hi
  have hbb : (i.bytes : Int) * (n : Int) ≤ 281474976710656 := by
    have : (i.bytes : Int) * (n : Int) ≤ 8 * 65536 := Int.mul_le_mul (by omega) (by omega) (by omega) (by omega)
    omega
  have hrun := run_make (P := Try.prog) w t e i z hu h2 h3 .i64 .i64 n n (by omega) (Int.le_refl _) hbb (by omega)
  simp only [Int.toNat_natCast, h4, Nat.mul_one, hz] at hrun
  exact hrun
theorem made22 (w : World) : (Instr.makeSlice 22 (.int .i64 65536) (.int .i64 65536)).run Try.prog w = .ok (.slice (some ⟨w.heap.size, 0, none⟩) 65536 65536) (w.alloc (.cells zB 5)) := made_run 65536 Try.underlying22 info5 (by decide) (by decide) rfl w
theorem made68 (w : World) : (Instr.makeSlice 68 (.int .i64 256) (.int .i64 256)).run Try.prog w = .ok (.slice (some ⟨w.heap.size, 0, none⟩) 256 256) (w.alloc (.cells zR 3)) := made_run 256 Try.underlying68 info3 (by decide) (by decide) rfl w
theorem made40 (w : World) : (Instr.makeSlice 40 (.int .i64 256) (.int .i64 256)).run Try.prog w = .ok (.slice (some ⟨w.heap.size, 0, none⟩) 256 256) (w.alloc (.cells zM 4)) := made_run 256 Try.underlying40 info4 (by decide) (by decide) rfl w

theorem new_rm {w : World} {y b r m t : Nat} (hy : w.heap[y]? = some (.cells #[.slice (some ⟨b, 0, none⟩) 65536 65536, .slice (some ⟨r, 0, none⟩) 256 256, .slice (some ⟨m, 0, none⟩) 256 256, .slice (some ⟨t, 0, none⟩) 256 256] 70))
    (hb : w.heap[b]? = some (.cells zB 5)) (hr : w.heap[r]? = some (.cells zR 3)) (hm : w.heap[m]? = some (.cells zM 4)) (ht : w.heap[t]? = some (.cells zM 4))
    (ne : y ≠ b ∧ y ≠ r ∧ y ≠ m ∧ y ≠ t ∧ b ≠ r ∧ b ≠ m ∧ b ≠ t ∧ r ≠ m ∧ r ≠ t ∧ m ≠ t) : RM w ⟨y, b, r, m, t⟩ newS :=
  ⟨(cell_of_row _ _ 0 _ 70 (0, 0) hy).trans rfl, (cell_of_row _ _ 1 _ 70 (0, 0) hy).trans rfl, (cell_of_row _ _ 2 _ 70 (0, 0) hy).trans rfl, (cell_of_row _ _ 3 _ 70 (0, 0) hy).trans rfl,
    fun i hi => (cell_of_row _ _ i _ 5 (0, 0) hb).trans (made_at _ _ _ hi), fun i hi => (cell_of_row _ _ i _ 3 (0, 0) hr).trans (made_at _ _ _ hi), fun i hi => (cell_of_row _ _ i _ 4 (0, 0) hm).trans (made_at _ _ _ hi), fun i hi => (cell_of_row _ _ i _ 4 (0, 0) ht).trans (made_at _ _ _ hi),
    fun o => by simp only [World.frozen?, hb]; simp, fun o => by simp only [World.frozen?, hr]; simp, fun o => by simp only [World.frozen?, hm]; simp, fun o => by simp only [World.frozen?, ht]; simp, ne⟩

theorem five (w : World) (o0 o1 o2 o3 o4 : Obj) :
    (((((w.alloc o0).alloc o1).alloc o2).alloc o3).alloc o4).heap[w.heap.size]? = some o0 ∧ (((((w.alloc o0).alloc o1).alloc o2).alloc o3).alloc o4).heap[w.heap.size + 1]? = some o1 ∧
    (((((w.alloc o0).alloc o1).alloc o2).alloc o3).alloc o4).heap[w.heap.size + 1 + 1]? = some o2 ∧ (((((w.alloc o0).alloc o1).alloc o2).alloc o3).alloc o4).heap[w.heap.size + 1 + 1 + 1]? = some o3 ∧
    (((((w.alloc o0).alloc o1).alloc o2).alloc o3).alloc o4).heap[w.heap.size + 1 + 1 + 1 + 1]? = some o4 ∧ Below w.heap.size w (((((w.alloc o0).alloc o1).alloc o2).alloc o3).alloc o4) := by
  have e0 := heap_alloc_last w o0
  have e1 := heap_alloc_last (w.alloc o0) o1
  have e2 := heap_alloc_last ((w.alloc o0).alloc o1) o2
  have e3 := heap_alloc_last (((w.alloc o0).alloc o1).alloc o2) o3
  have e4 := heap_alloc_last ((((w.alloc o0).alloc o1).alloc o2).alloc o3) o4
  simp only [World.size_alloc] at e1 e2 e3 e4
  refine ⟨?_, ?_, ?_, ?_, e4, ?_⟩
  · rw [Below.heap_alloc _ _ _ (by simp only [World.size_alloc]; omega), Below.heap_alloc _ _ _ (by simp only [World.size_alloc]; omega), Below.heap_alloc _ _ _ (by simp only [World.size_alloc]; omega), Below.heap_alloc _ _ _ (by simp only [World.size_alloc]; omega)]; exact e0
  · rw [Below.heap_alloc _ _ _ (by simp only [World.size_alloc]; omega), Below.heap_alloc _ _ _ (by simp only [World.size_alloc]; omega), Below.heap_alloc _ _ _ (by simp only [World.size_alloc]; omega)]; exact e1
  · rw [Below.heap_alloc _ _ _ (by simp only [World.size_alloc]; omega), Below.heap_alloc _ _ _ (by simp only [World.size_alloc]; omega)]; exact e2
  · rw [Below.heap_alloc _ _ _ (by simp only [World.size_alloc]; omega)]; exact e3
  · exact (((((Below.refl _ _).alloc (Nat.le_refl _) _).alloc (by simp only [World.size_alloc]; omega) _).alloc (by simp only [World.size_alloc]; omega) _).alloc (by simp only [World.size_alloc]; omega) _).alloc (by simp only [World.size_alloc]; omega) _

/-- The five new blocks, in whatever order. -/
structure NewR (w : World) (k : RB) (w' : World) : Prop where
  rm : RM w' k newS
  bel : Below w.heap.size w w'
  le : ∀ x ∈ k.y :: k.all, w.heap.size ≤ x
  size : w'.heap.size = w.heap.size + 5

set_option maxHeartbeats 8000000 in
theorem rnew_any (w : World) :
    Calls Try.prog 18 #[] w fun e w' => ∃ k : RB, e = .returned (.pointer (some ⟨k.y, 0, none⟩)) ∧ NewR w k w' := by
  have m1 := made22
  have m2 := made68
  have m3 := made40
  go_enter Try.func18, Try.ntmps18
  go_wp2
  go_region
  all_goals
    clear m1 m2 m3
    go_wp2
    go_ret
    obtain ⟨f0, f1, f2, f3, f4, f5⟩ := five w _ _ _ _ _
    refine ⟨⟨_, _, _, _, _⟩, rfl, ⟨(new_rm f4 (by assumption) (by assumption) (by assumption) (by assumption) (by omega)).drew, f5.drew, ?_, ?_⟩⟩
    · simp [RB.all]; omega
    · show (World.alloc _ _).heap.size = _
      simp only [World.size_alloc]
end Go.Proofs.Ytkhaajbhgenicaa
