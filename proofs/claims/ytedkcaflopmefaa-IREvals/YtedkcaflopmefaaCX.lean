import Derived.Test.YtedkcaflopmefaaJ01
import Derived.Test.YtedkcaflopmefaaJ29
import Derived.ChangeKeysEq
import Derived.Deep.RegionHeld3
import Derived.Deep.CutBlock
import Derived.Below
namespace Go.Proofs.Ytedkcaflopmefaa
open Go.RowKit
set_option maxRecDepth 100000
set_option linter.unusedVariables false
set_option linter.unusedSimpArgs false

/-! ## Contexts and states -/
abbrev cxA (c : Nat → Nat) : Array Value := #[.int .u32 (c 0), .int .u32 (c 1), .int .u32 (c 2), .int .u32 (c 3), .int .u32 (c 4), .int .u32 (c 5), .int .u32 (c 6), .int .u32 (c 7), .int .u32 (c 8), .int .u32 (c 9), .int .u32 (c 10), .int .u32 (c 11)]
abbrev cxV (c : Nat → Nat) : Value := .agg (cxA c)
abbrev r8L (r : Nat → Nat) : List Value := [.int .u32 (r 0), .int .u32 (r 1), .int .u32 (r 2), .int .u32 (r 3), .int .u32 (r 4), .int .u32 (r 5), .int .u32 (r 6), .int .u32 (r 7)]
abbrev sxA (r : Nat → Nat) (pc : Nat) (f : Int) : Array Value := #[.int .u32 (r 0), .int .u32 (r 1), .int .u32 (r 2), .int .u32 (r 3), .int .u32 (r 4), .int .u32 (r 5), .int .u32 (r 6), .int .u32 (r 7), .int .u32 pc, .int .u32 f]
abbrev sxV (r : Nat → Nat) (pc : Nat) (f : Int) : Value := .agg (sxA r pc f)

theorem size24 : (Try.prog.info? 24).map (·.size) = some 1 := by kernel_rfl
theorem al_old (w : World) (o : Obj) (b : Nat) (h : b < w.heap.size) : (w.alloc o).heap[b]? = w.heap[b]? := ((Below.refl w.heap.size w).alloc (Nat.le_refl _) o).block b h
theorem al_size (w : World) (o : Obj) : (w.alloc o).heap.size = w.heap.size + 1 := by simp
theorem al2 (w : World) (o1 o2 : Obj) : ((w.alloc o1).alloc o2).heap[w.heap.size]? = some o1 ∧ ((w.alloc o1).alloc o2).heap[w.heap.size + 1]? = some o2 := by
  refine ⟨(al_old _ o2 _ (by simp)).trans (heap_alloc_last w o1), ?_⟩
  have := heap_alloc_last (w.alloc o1) o2
  rwa [al_size] at this
theorem al3 (w : World) (o1 o2 o3 : Obj) : (((w.alloc o1).alloc o2).alloc o3).heap[w.heap.size]? = some o1 ∧ (((w.alloc o1).alloc o2).alloc o3).heap[w.heap.size + 1]? = some o2 ∧ (((w.alloc o1).alloc o2).alloc o3).heap[w.heap.size + 1 + 1]? = some o3 := by
  have h := al2 w o1 o2
  refine ⟨(al_old _ o3 _ (by simp; omega)).trans h.1, (al_old _ o3 _ (by simp)).trans h.2, ?_⟩
  have := heap_alloc_last ((w.alloc o1).alloc o2) o3
  rwa [al_size, al_size] at this
theorem r8_at (r : Nat → Nat) (j : Nat) (v : Value) (h : (r8L r)[j]? = some v) : j < 8 ∧ v = .int .u32 (r j) := by
  have hj : j < 8 := by
    rcases Nat.lt_or_ge j 8 with h8 | h8
    · exact h8
    · rw [List.getElem?_eq_none (by simpa using h8)] at h; cases h
  refine ⟨hj, ?_⟩
  match j, hj with
  | 0, _ | 1, _ | 2, _ | 3, _ | 4, _ | 5, _ | 6, _ | 7, _ => simpa using h.symm
theorem st_at (r : Nat → Nat) (pc : Nat) (f : Int) (j : Nat) (hj : j < 8) : (sxA r pc f)[j]? = some (.int .u32 (r j)) := by
  match j, hj with
  | 0, _ | 1, _ | 2, _ | 3, _ | 4, _ | 5, _ | 6, _ | 7, _ => rfl
theorem cx_at (c : Nat → Nat) (j : Nat) (hj : j < 12) : (cxA c)[j]? = some (.int .u32 (c j)) := by
  match j, hj with
  | 0, _ | 1, _ | 2, _ | 3, _ | 4, _ | 5, _ | 6, _ | 7, _ | 8, _ | 9, _ | 10, _ | 11, _ => rfl
/-- Eight registers from one row to another. -/
theorem copy8 {W : World} {b d : Nat} {A D : Array Value} {tA tD : TypeId} {r : Nat → Nat} (hb : W.heap[b]? = some (.cells A tA)) (hd : W.heap[d]? = some (.cells D tD)) (hA : ∀ j, j < 8 → A[j]? = some (.int .u32 (r j))) (hD : 8 ≤ D.size) :
    CopyPre W (some ⟨d, 0, none⟩) (some ⟨b, 0, none⟩) 8 8 d 0 (r8L r) := by
  refine ⟨rfl, fun _ => ⟨rfl, _, rfl, fun j v hv => ?_⟩, fun j hj => ?_, fun j _ => frozen_of_row _ _ _ _ _ hd, fun v hv => ?_⟩
  · obtain ⟨hj, rfl⟩ := r8_at r j v hv
    rw [Addr.add_mid, Nat.zero_add, cell_of_row _ _ j _ _ (0, 0) hb]
    exact hA j hj
  · have hj8 : j < 8 := by simpa using hj
    rw [cell_of_row _ _ _ _ _ (0, 0) hd, Nat.zero_add, Array.getElem?_eq_getElem (by omega)]; rfl
  · simp only [List.mem_cons, List.not_mem_nil, or_false] at hv
    rcases hv with rfl | rfl | rfl | rfl | rfl | rfl | rfl | rfl <;> rfl

theorem copy8_run {W : World} {b d dCap sCap : Nat} {A D : Array Value} {tA tD : TypeId} {r : Nat → Nat} (hb : W.heap[b]? = some (.cells A tA)) (hd : W.heap[d]? = some (.cells D tD)) (hA : ∀ j, j < 8 → A[j]? = some (.int .u32 (r j))) (hD : 8 ≤ D.size) :
    (Builtin.copy_ #[171, 171] 3 #[.slice (some ⟨d, 0, none⟩) 8 dCap, .slice (some ⟨b, 0, none⟩) 8 sCap]).run Try.prog W = .ok (.int .i64 8) (W.setCells d 0 (r8L r)) := by
  have h := copy8 hb hd hA hD
  obtain ⟨_, ad, e, hs⟩ := h.hpos (by simp)
  cases e
  exact run_copy_cells (P := Try.prog) W 171 171 3 24 d 0 8 dCap ⟨b, 0, none⟩ 8 sCap (r8L r) Try.underlying171 size24 h.hn hs h.hc h.hf h.h1

def enC (r : Nat → Nat) (f : Nat) : Nat → Nat := fun i => if i < 8 then r i else if i = 11 then f % 16 else 0
set_option maxHeartbeats 1000000 in
theorem enter_any (r : Nat → Nat) (pc f : Nat) (w : World) (hf : f < 4294967296) :
    Calls Try.prog 52 #[sxV r pc f] w fun e w' => e = .returned (cxV (enC r f)) ∧ Below w.heap.size w w' := by
  have h15 : bits .and .u32 (f : Int) 15 = ((f % 16 : Nat) : Int) := and15 f hf
  go_enter Try.func52, Try.ntmps52
  go_upto_region 2 with fail
  have HC := (copy8_run (W := (((w.alloc (.cells (sxA r pc f) 64)).alloc (.cells #[.int .u32 0, .int .u32 0, .int .u32 0, .int .u32 0, .int .u32 0, .int .u32 0, .int .u32 0, .int .u32 0, .int .u32 0, .int .u32 0, .int .u32 0, .int .u32 0] 89)).alloc (.cells #[.int .u32 0, .int .u32 0, .int .u32 0, .int .u32 0, .int .u32 0, .int .u32 0, .int .u32 0, .int .u32 0, .int .u32 0, .int .u32 0, .int .u32 0, .int .u32 0] 89)).drew) (dCap := 12) (sCap := 8) (r := r) (al3 w _ _ _).1 (al3 w _ _ _).2.2 (st_at r pc f) (by decide))
  simp only [r8L, World.setCells] at HC
  go_region
  all_goals (clear HC; go_wp2)
  exact bodyPost_ret (v := cxV (enC r f)) (by simp [results, Try.results52, go_sem, enC]) rfl ⟨rfl, by (repeat first | with_reducible exact Below.refl _ _ | with_reducible refine Below.drew ?_ | with_reducible refine Below.alloc ?_ (by simp <;> omega) _ | with_reducible refine Below.setCell ?_ (by simp <;> omega) _ _)⟩

theorem ix8 (r : Nat → Nat) (j : Nat) (hj : j < 8) (w : World) : (Instr.index 62 (.agg #[.int .u32 (r 0), .int .u32 (r 1), .int .u32 (r 2), .int .u32 (r 3), .int .u32 (r 4), .int .u32 (r 5), .int .u32 (r 6), .int .u32 (r 7)]) (.int .i64 j)).run Try.prog w = .ok (.int .u32 (r j)) w := by
  obtain ⟨i, hi⟩ : ∃ i, Try.prog.info? 24 = some i := ⟨_, rfl⟩
  have hc : Try.prog.cellsOf 24 = 1 := by kernel_rfl
  match j, hj with
  | 0, _ | 1, _ | 2, _ | 3, _ | 4, _ | 5, _ | 6, _ | 7, _ => simp [Instr.index, Try.underlying62, go_sem]
theorem wpList_ix {P : Program} {w : World} {ops : Array Oper} {rest : List Oper} {o : Oper} {a : Act} {Q : Exit → Act → World → Prop} (hg : o.guard = none) (t : TypeId) (x i : Operand) (ho : o.op = .index t x i)
    (xv iv v : Value) (hx : a.eval x = xv) (hi : a.eval i = iv) (hr : ∀ w, (Instr.index t xv iv).run P w = .ok v w) (h : wpList P ops Q rest (a.put o.dst v) w) : wpList P ops Q (o :: rest) a w := by
  refine wpList_plain hg fun K hK => ?_
  unfold Oper.wp
  simp only [execOp, ho, hx, hi, Sem.run_bind, hr, Result.andThen_ok, Sem.run_pure]
  exact hK _ _ h
set_option maxHeartbeats 1000000 in
theorem renter_any (r : Nat → Nat) (pc f : Nat) (w : World) (hf : f < 4294967296) :
    Calls Try.prog 53 #[sxV r pc f] w fun e w' => e = .returned (cxV (enC r f)) ∧ Below w.heap.size w w' := by
  go_enter Try.func53, Try.ntmps53
  go_wp2
  refine wp_loop_rounds 9 ?_
  rw [rounds_succ]
  go_wp2_with (refine wpList_ix rfl 62 (.tmp 7) (.tmp 8) rfl _ _ (.int .u32 (r 0)) rfl rfl (ix8 r 0 (by decide)) ?_)
  rw [rounds_succ]
  go_wp2_with (refine wpList_ix rfl 62 (.tmp 7) (.tmp 8) rfl _ _ (.int .u32 (r 1)) rfl rfl (ix8 r 1 (by decide)) ?_)
  rw [rounds_succ]
  go_wp2_with (refine wpList_ix rfl 62 (.tmp 7) (.tmp 8) rfl _ _ (.int .u32 (r 2)) rfl rfl (ix8 r 2 (by decide)) ?_)
  rw [rounds_succ]
  go_wp2_with (refine wpList_ix rfl 62 (.tmp 7) (.tmp 8) rfl _ _ (.int .u32 (r 3)) rfl rfl (ix8 r 3 (by decide)) ?_)
  rw [rounds_succ]
  go_wp2_with (refine wpList_ix rfl 62 (.tmp 7) (.tmp 8) rfl _ _ (.int .u32 (r 4)) rfl rfl (ix8 r 4 (by decide)) ?_)
  rw [rounds_succ]
  go_wp2_with (refine wpList_ix rfl 62 (.tmp 7) (.tmp 8) rfl _ _ (.int .u32 (r 5)) rfl rfl (ix8 r 5 (by decide)) ?_)
  rw [rounds_succ]
  go_wp2_with (refine wpList_ix rfl 62 (.tmp 7) (.tmp 8) rfl _ _ (.int .u32 (r 6)) rfl rfl (ix8 r 6 (by decide)) ?_)
  rw [rounds_succ]
  go_wp2_with (refine wpList_ix rfl 62 (.tmp 7) (.tmp 8) rfl _ _ (.int .u32 (r 7)) rfl rfl (ix8 r 7 (by decide)) ?_)
  rw [rounds_succ]
  go_wp2
  exact bodyPost_ret (v := cxV (enC r f)) (by simp [results, Try.results53, go_sem, enC]) rfl ⟨rfl, by (repeat first | with_reducible exact Below.refl _ _ | with_reducible refine Below.drew ?_ | with_reducible refine Below.alloc ?_ (by simp <;> omega) _ | with_reducible refine Below.setCell ?_ (by simp <;> omega) _ _)⟩

end Go.Proofs.Ytedkcaflopmefaa
