import Derived.Test.YtkgbjpdoigdjnaaC1
import Derived.Test.YtkgbjpdoigdjnaaJ01
import Derived.Test.YtkgbjpdoigdjnaaJ29
import Derived.ChangeKeysEq
import Derived.Deep.RegionHeld3
import Derived.Deep.CutBlock
import Derived.Below
namespace Go.Proofs.Ytkgbjpdoigdjnaa
open Go.RowKit
set_option maxRecDepth 100000
set_option linter.unusedVariables false
set_option linter.unusedSimpArgs false

/-! ## Contexts and states -/
abbrev cxA (c : Nat → Nat) : Array Value := #[.int .u32 (c 0), .int .u32 (c 1), .int .u32 (c 2), .int .u32 (c 3), .int .u32 (c 4), .int .u32 (c 5), .int .u32 (c 6), .int .u32 (c 7), .int .u32 (c 8), .int .u32 (c 9), .int .u32 (c 10), .int .u32 (c 11)]
abbrev cxV (c : Nat → Nat) : Value := .agg (cxA c)
abbrev r8L (r : Nat → Nat) : List Value := [.int .u32 (r 0), .int .u32 (r 1), .int .u32 (r 2), .int .u32 (r 3), .int .u32 (r 4), .int .u32 (r 5), .int .u32 (r 6), .int .u32 (r 7)]
abbrev sxA (r : Nat → Nat) (pc : Nat) (f : Int) : Array Value := #[.int .u32 (r 0), .int .u32 (r 1), .int .u32 (r 2), .int .u32 (r 3), .int .u32 (r 4), .int .u32 (r 5), .int .u32 (r 6), .int .u32 (r 7), .int .u32 pc, .int .u32 f]
abbrev sxV (r : Nat → Nat) (pc : Nat) (f : Int) : Value := .agg (sxA r pc f)

theorem size24 : (Try.prog.info? 24).map (·.size) = some 1 := by kernel_rfl
theorem r8_at (r : Nat → Nat) (j : Nat) (v : Value) (h : (r8L r)[j]? = some v) : j < 8 ∧ v = .int .u32 (r j) := by
  have hj : j < 8 := by
    rcases Nat.lt_or_ge j 8 with h8 | h8
    · exact h8
    · rw [List.getElem?_eq_none (by simpa using h8)] at h; cases h
  refine ⟨hj, ?_⟩
  match j, hj with
  | 0, _ | 1, _ | 2, _ | 3, _ | 4, _ | 5, _ | 6, _ | 7, _ => simpa using h.symm
theorem st_at (r : Nat → Nat) (pc : Nat) (f : Int) (j : Nat) (hj : j < 8) : (sxA r pc f)[j]? = some (.int .u32 (r j)) := by
  match j, hj with
  | 0, _ | 1, _ | 2, _ | 3, _ | 4, _ | 5, _ | 6, _ | 7, _ => rfl
theorem cx_at (c : Nat → Nat) (j : Nat) (hj : j < 12) : (cxA c)[j]? = some (.int .u32 (c j)) := by
  match j, hj with
  | 0, _ | 1, _ | 2, _ | 3, _ | 4, _ | 5, _ | 6, _ | 7, _ | 8, _ | 9, _ | 10, _ | 11, _ => rfl
/-- Eight registers from one row to another. -/
theorem copy8 {W : World} {b d : Nat} {A D : Array Value} {tA tD : TypeId} {r : Nat → Nat} (hb : W.heap[b]? = some (.cells A tA)) (hd : W.heap[d]? = some (.cells D tD)) (hA : ∀ j, j < 8 → A[j]? = some (.int .u32 (r j))) (hD : 8 ≤ D.size) :
    CopyPre W (some ⟨d, 0, none⟩) (some ⟨b, 0, none⟩) 8 8 d 0 (r8L r) := by
  refine ⟨rfl, fun _ => ⟨rfl, _, rfl, fun j v hv => ?_⟩, fun j hj => ?_, fun j _ => frozen_of_row _ _ _ _ _ hd, fun v hv => ?_⟩
  · obtain ⟨hj, rfl⟩ := r8_at r j v hv
    rw [Addr.add_mid, Nat.zero_add, cell_of_row _ _ j _ _ (0, 0) hb]
    exact hA j hj
  · have hj8 : j < 8 := by simpa using hj
    rw [cell_of_row _ _ _ _ _ (0, 0) hd, Nat.zero_add, Array.getElem?_eq_getElem (by omega)]; rfl
  · simp only [List.mem_cons, List.not_mem_nil, or_false] at hv
    rcases hv with rfl | rfl | rfl | rfl | rfl | rfl | rfl | rfl <;> rfl

theorem copy8_run {W : World} {b d dCap sCap : Nat} {A D : Array Value} {tA tD : TypeId} {r : Nat → Nat} (hb : W.heap[b]? = some (.cells A tA)) (hd : W.heap[d]? = some (.cells D tD)) (hA : ∀ j, j < 8 → A[j]? = some (.int .u32 (r j))) (hD : 8 ≤ D.size) :
    (Builtin.copy_ #[171, 171] 3 #[.slice (some ⟨d, 0, none⟩) 8 dCap, .slice (some ⟨b, 0, none⟩) 8 sCap]).run Try.prog W = .ok (.int .i64 8) (W.setCells d 0 (r8L r)) := by
  have h := copy8 hb hd hA hD
  obtain ⟨_, ad, e, hs⟩ := h.hpos (by simp)
  cases e
  exact run_copy_cells (P := Try.prog) W 171 171 3 24 d 0 8 dCap ⟨b, 0, none⟩ 8 sCap (r8L r) Try.underlying171 size24 h.hn hs h.hc h.hf h.h1

set_option maxHeartbeats 1000000 in
theorem ix8 (r : Nat → Nat) (j : Nat) (hj : j < 8) (w : World) : (Instr.index 62 (.agg #[.int .u32 (r 0), .int .u32 (r 1), .int .u32 (r 2), .int .u32 (r 3), .int .u32 (r 4), .int .u32 (r 5), .int .u32 (r 6), .int .u32 (r 7)]) (.int .i64 j)).run Try.prog w = .ok (.int .u32 (r j)) w := by
  obtain ⟨i, hi⟩ : ∃ i, Try.prog.info? 24 = some i := ⟨_, rfl⟩
  have hc : Try.prog.cellsOf 24 = 1 := by kernel_rfl
  match j, hj with
  | 0, _ | 1, _ | 2, _ | 3, _ | 4, _ | 5, _ | 6, _ | 7, _ => simp [Instr.index, Try.underlying62, go_sem]
set_option maxHeartbeats 1000000 in
abbrev opV (o : OpR) : Value := .agg (opA o)
theorem ret22 {a b c d : Int} (h1 : a = c) (h2 : b = d) : Ending.returned (.tuple #[.int .i64 a, .int .i64 b]) = .returned (.tuple #[.int .i64 c, .int .i64 d]) := by rw [h1, h2]

theorem app0 (cap : Nat) (w : World) : (Builtin.append_ #[80, 80] 80 #[.slice none 0 0, .slice none 0 cap]).run Try.prog w = .ok (.slice none 0 0) w := by
  simp [Builtin.append_, go_sem]
theorem app1 (ad : Addr) (cap : Nat) (w : World) : (Builtin.append_ #[80, 80] 80 #[.slice none 0 0, .slice (some ad) 0 cap]).run Try.prog w = .ok (.slice none 0 0) w := by
  simp [Builtin.append_, go_sem]
theorem OpsR.setA {w : World} {g off n : Nat} {a : Addr} {f : Nat → OpR} (h : OpsR w (some ⟨g, off, none⟩) n f) : True := trivial
end Go.Proofs.Ytkgbjpdoigdjnaa
