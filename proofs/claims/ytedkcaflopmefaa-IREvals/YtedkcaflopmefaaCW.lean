import Derived.Test.YtedkcaflopmefaaCK
import Derived.Deep.AppendLies
namespace Go.Proofs.Ytedkcaflopmefaa
open Go.RowKit
set_option maxRecDepth 100000
set_option linter.unusedVariables false
set_option linter.unusedSimpArgs false

/-! ## A block's operations once more -/
def opCell (o : OpR) : Nat → Value
  | 0 => .int .i64 o.kind
  | 1 => .int .i64 o.w
  | 2 => .int .i64 o.a
  | 3 => .int .i64 o.b
  | 4 => .int .i64 o.c
  | 5 => .int .u32 o.k
  | _ => .int .i64 o.n
def opsL (f : Nat → OpR) (n : Nat) : List Value := (List.range (n * 7)).map fun j => opCell (f (j / 7)) (j % 7)
theorem opsL_len (f : Nat → OpR) (n : Nat) : (opsL f n).length = n * 7 := by simp [opsL]
theorem opsL_at (f : Nat → OpR) (n j : Nat) (v : Value) (h : (opsL f n)[j]? = some v) : j < n * 7 ∧ v = opCell (f (j / 7)) (j % 7) := by
  have hj : j < n * 7 := by
    have := (List.getElem?_eq_some_iff.1 h).1
    rwa [opsL_len] at this
  refine ⟨hj, ?_⟩
  unfold opsL at h
  rw [List.getElem?_map, List.getElem?_range hj] at h
  simpa using h.symm
theorem opsL_one (f : Nat → OpR) (n : Nat) : ∀ v ∈ opsL f n, v.oneCell' = true := by
  intro v hv
  unfold opsL at hv
  obtain ⟨j, _, rfl⟩ := List.mem_map.1 hv
  unfold opCell
  split <;> rfl
theorem OpAt.cells {w : World} {b off : Nat} {o : OpR} (h : OpAt w b off o) (r : Nat) (hr : r < 7) : w.cell? ⟨b, off + r, none⟩ = some (opCell o r) := by
  match r, hr with
  | 0, _ => exact h.c0
  | 1, _ => exact h.c1
  | 2, _ => exact h.c2
  | 3, _ => exact h.c3
  | 4, _ => exact h.c4
  | 5, _ => exact h.c5
  | 6, _ => exact h.c6
theorem opAt_of {w : World} {b off : Nat} {o : OpR} (h : ∀ r, r < 7 → w.cell? ⟨b, off + r, none⟩ = some (opCell o r)) : OpAt w b off o :=
  ⟨h 0 (by omega), h 1 (by omega), h 2 (by omega), h 3 (by omega), h 4 (by omega), h 5 (by omega), h 6 (by omega)⟩
theorem info160 : (Try.prog.info? 163).map (fun i => (i.zero, i.size, i.bytes)) = some (some (.agg #[.int .i64 0, .int .i64 0, .int .i64 0, .int .i64 0, .int .i64 0, .int .u32 0, .int .i64 0]), 7, 56) := by kernel_rfl
theorem owns_ops {w : World} {base g n cap : Nat} {f : Nat → OpR} (h : w.ownsRow base 163 7 (.slice (some ⟨g, 0, none⟩) n cap) n (opsL f n)) (hn : 0 < n) : OpsR w (some ⟨g, 0, none⟩) n f ∧ n ≤ cap := by
  rcases h.2 with ⟨hv, h0⟩ | ⟨g', c', cur, hv, hb, hh, h1, h2, h3, h4⟩
  · omega
  · cases hv
    refine ⟨fun _ => ⟨g, 0, rfl, row_lt hh, fun i hi => opAt_of fun r hr => ?_⟩, by omega⟩
    rw [Nat.zero_add, cell_of_row _ _ _ _ _ _ hh]
    have hj : i * 7 + r < n * 7 := by omega
    have h5 : (cur.toList.take (n * 7))[i * 7 + r]? = some (opCell (f i) r) := by
      rw [h4]
      unfold opsL
      rw [List.getElem?_map, List.getElem?_range hj]
      have e1 : (i * 7 + r) / 7 = i := by omega
      have e2 : (i * 7 + r) % 7 = r := by omega
      simp [e1, e2]
    rw [List.getElem?_take, if_pos hj] at h5
    simpa using h5

theorem app0 (cap : Nat) (w : World) : (Builtin.append_ #[80, 80] 80 #[.slice none 0 0, .slice none 0 cap]).run Try.prog w = .ok (.slice none 0 0) w := by
  simp [Builtin.append_, go_sem]
theorem app1 (ad : Addr) (cap : Nat) (w : World) : (Builtin.append_ #[80, 80] 80 #[.slice none 0 0, .slice (some ad) 0 cap]).run Try.prog w = .ok (.slice none 0 0) w := by
  simp [Builtin.append_, go_sem]
theorem wpList_app {P : Program} {w : World} {ops : Array Oper} {rest : List Oper} {o : Oper} {a : Act} {Q : Exit → Act → World → Prop} (hgd : o.guard = none) (s x : Operand) (t : TypeId)
    (ho : o.op = .call { callee := .builtin .append, args := #[s, x], argTypes := #[t, t] }) (sv xv v : Value) (hs : a.eval s = sv) (hx : a.eval x = xv) (hr : (Builtin.append_ #[t, t] o.type #[sv, xv]).run P w = .ok v w)
    (h : wpList P ops Q rest (a.put o.dst v) w) : wpList P ops Q (o :: rest) a w := by
  refine wpList_plain hgd fun K hK => ?_
  unfold Oper.wp execOp
  simp only [ho, resolve, invoke, builtin, Sem.run_bind, Sem.run_pure, Result.andThen_ok, List.map_toArray, List.map_cons, List.map_nil, hs, hx, hr]
  exact hK _ _ h

theorem OpsR.set {w : World} {g off n X : Nat} {f : Nat → OpR} (h : OpsR w (some ⟨g, off, none⟩) n f) (hne : g ≠ X) (o : Nat) (v : Value) : OpsR (w.setCell ⟨X, o, none⟩ v) (some ⟨g, off, none⟩) n f := fun h0 => by
  obtain ⟨b, off', e, hb, hc⟩ := h h0
  cases e
  exact ⟨g, off, rfl, by simpa using hb, fun i hi => opAt_of fun r hr => (cell_setOther v hne _).trans ((hc i hi).cells r hr)⟩
theorem OpsR.setA {w : World} {g off n : Nat} {a : Addr} {f : Nat → OpR} (h : OpsR w (some ⟨g, off, none⟩) n f) : True := trivial
set_option maxHeartbeats 1000000 in
theorem twin_any (pc : Nat) (count bytes : Int) (bp : Option Addr) (n cap : Nat) (f : Nat → OpR) (w : World) (hO : OpsR w bp n f) (hby : n * 56 ≤ 140737488355328) :
    Calls Try.prog 40 #[.agg #[.int .u32 pc, .int .i64 count, .int .i64 bytes, .slice bp n cap]] w fun e w' => ∃ bp' cap', e = .returned (.agg #[.int .u32 pc, .int .i64 count, .int .i64 bytes, .slice bp' n cap']) ∧ OpsR w' bp' n f ∧ n ≤ cap' ∧ Below w.heap.size w w' := by
  by_cases hn : n = 0
  · subst hn
    cases bp with
    | none =>
      go_enter Try.func40, Try.ntmps40
      go_wp2_with (at_builtin; refine wpList_app rfl _ _ 80 rfl _ _ (.slice none 0 0) rfl rfl (app0 cap _) ?_)
      exact bodyPost_ret (v := .agg #[.int .u32 pc, .int .i64 count, .int .i64 bytes, .slice none 0 0]) (by simp [results, Try.results40, go_sem]) rfl ⟨none, 0, rfl, fun h => by omega, Nat.le_refl _, by (repeat first | with_reducible exact Below.refl _ _ | with_reducible exact hB | with_reducible refine Below.drew ?_ | with_reducible refine Below.alloc ?_ (by first | (simp; done) | (simp; omega) | omega) _ | with_reducible refine Below.setCell ?_ (by first | (simp; done) | (simp; omega) | omega) _)⟩
    | some ad =>
      go_enter Try.func40, Try.ntmps40
      go_wp2_with (at_builtin; refine wpList_app rfl _ _ 80 rfl _ _ (.slice none 0 0) rfl rfl (app1 ad cap _) ?_)
      exact bodyPost_ret (v := .agg #[.int .u32 pc, .int .i64 count, .int .i64 bytes, .slice none 0 0]) (by simp [results, Try.results40, go_sem]) rfl ⟨none, 0, rfl, fun h => by omega, Nat.le_refl _, by (repeat first | with_reducible exact Below.refl _ _ | with_reducible exact hB | with_reducible refine Below.drew ?_ | with_reducible refine Below.alloc ?_ (by first | (simp; done) | (simp; omega) | omega) _ | with_reducible refine Below.setCell ?_ (by first | (simp; done) | (simp; omega) | omega) _)⟩
  · obtain ⟨b, off, rfl, hb, hc⟩ := hO (by omega)
    obtain ⟨i0, hi, hz0, hz1, hz2⟩ := info_parts info160
    have HNW : Hid (∀ j v, (opsL f n)[j]? = some v → ((w.alloc (.cells #[.int .u32 pc, .int .i64 count, .int .i64 bytes, .slice (some ⟨b, off, none⟩) n cap] 82)).alloc (.cells #[.int .u32 0, .int .i64 0, .int .i64 0, .slice none 0 0] 82)).cell? ((⟨b, off, none⟩ : Addr).add j) = some v) := show ∀ j v, _ from fun j v hv => by
      obtain ⟨hj, rfl⟩ := opsL_at f n j v hv
      rw [Addr.add_mid, show off + j = (off + j / 7 * 7) + j % 7 by omega]
      exact (((hc (j / 7) (by omega)).below (wk_bel w _ _) hb).cells (j % 7) (by omega))
    have HPOS : Hid (0 < n) := show 0 < n by omega
    have C3 : Hid (0 + n ≤ maxLen) := show 0 + n ≤ maxLen by unfold maxLen; omega
    have C4 : Hid ((0 + n) * 56 ≤ 140737488355328) := show (0 + n) * 56 ≤ 140737488355328 by omega
    have C5 : Hid (w.heap.size ≤ ((w.alloc (.cells #[.int .u32 pc, .int .i64 count, .int .i64 bytes, .slice (some ⟨b, off, none⟩) n cap] 82)).alloc (.cells #[.int .u32 0, .int .i64 0, .int .i64 0, .slice none 0 0] 82)).heap.size) := show w.heap.size ≤ _ by simp; omega
    have HBY : Hid _ := hby
    have HB : Hid _ := hb
    clear hO hc
    go_enter Try.func40, Try.ntmps40
    go_wp2_with (at_builtin; refine wpList_append_lies _ rfl _ _ _ rfl w.heap.size 163 i0 _ 7 56 Try.underlying80 hi hz0 hz1 hz2 rfl (by decide) (.slice none 0 0) 0 [] (by rfl) (World.ownsRow_nil _ _ _ _) ⟨b, off, none⟩ n cap (opsL f n) (by rfl) (opsL_len f n) HNW.out (opsL_one f n) HPOS.out C3.out C4.out C5.out (w.heap.size + 1 + 1) (by simp) ?_; intro g cap2 w2 hown hgr hgg hlt; rw [Nat.zero_add] at *; have HOW : Hid _ := hown; have HGR : Hid _ := Below.grown (Below.refl _ _) hgr (Nat.le_refl _) (fun k hk => by cases hk); have HG : Hid (g = w.heap.size + 1 + 1) := (hgg.elim (fun h => by cases h) id); clear hown hgr hgg; obtain ⟨B2, B5, BB1⟩ := keep2 HGR.out; have HB2 : Hid _ := B2; have HB5 : Hid _ := B5; have HBB : Hid _ := BB1; clear B2 B5 BB1; have e0 : w2.cell? ⟨w.heap.size, 0, none⟩ = some (.int .u32 pc) := row_cell HB2.out 0; have e1 : w2.cell? ⟨w.heap.size, 1, none⟩ = some (.int .i64 count) := row_cell HB2.out 1; have e2 : w2.cell? ⟨w.heap.size, 2, none⟩ = some (.int .i64 bytes) := row_cell HB2.out 2; have e3 : w2.cell? ⟨w.heap.size, 3, none⟩ = some (.slice (some ⟨b, off, none⟩) n cap) := row_cell HB2.out 3; have q0 : w2.cell? ⟨w.heap.size + 1, 0, none⟩ = some (.int .u32 0) := row_cell HB5.out 0; have q1 : w2.cell? ⟨w.heap.size + 1, 1, none⟩ = some (.int .i64 0) := row_cell HB5.out 1; have q2 : w2.cell? ⟨w.heap.size + 1, 2, none⟩ = some (.int .i64 0) := row_cell HB5.out 2; have q3 : w2.cell? ⟨w.heap.size + 1, 3, none⟩ = some (.slice none 0 0) := row_cell HB5.out 3; have fr0 := row_fr HB2.out; have fr1 := row_fr HB5.out; have l2 := row_lt HB2.out; have l5 := row_lt HB5.out)
    have hO2 := owns_ops (f := f) (base := w.heap.size) (w := w2) (g := g) (n := n) (cap := cap2) HOW.out HPOS.out
    have hgn := HG.out
    exact bodyPost_ret (v := .agg #[.int .u32 pc, .int .i64 count, .int .i64 bytes, .slice (some ⟨g, 0, none⟩) n cap2]) (by simp [results, Try.results40, go_sem, l2, l5, fr0, fr1, e0, e1, e2, e3, q0, q1, q2, q3]) rfl ⟨_, cap2, rfl, by
      have hB := hO2.1
      repeat (first | with_reducible exact hB | with_reducible refine OpsR.set ?_ (by omega) _ _), hO2.2, by
      have hB := HBB.out
      (repeat first | with_reducible exact Below.refl _ _ | with_reducible exact hB | with_reducible refine Below.drew ?_ | with_reducible refine Below.alloc ?_ (by first | (simp; done) | (simp; omega) | omega) _ | with_reducible refine Below.setCell ?_ (by first | (simp; done) | (simp; omega) | omega) _)⟩
end Go.Proofs.Ytedkcaflopmefaa
