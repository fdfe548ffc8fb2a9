import Derived.Test.YtkhaajbhgenicaaMF
import Derived.Deep.WholeRow
namespace Go.Proofs.Ytkhaajbhgenicaa
open Go.RowKit
set_option maxRecDepth 100000
set_option linter.unusedVariables false

theorem info_parts {P : Program} {t : TypeId} {z : Value} {n b : Nat} (h : (P.info? t).map (fun i => (i.zero, i.size, i.bytes)) = some (some z, n, b)) : ∃ i, P.info? t = some i ∧ i.zero = some z ∧ i.size = n ∧ i.bytes = b := by
  cases hq : P.info? t with
  | none => simp [hq] at h
  | some i => simp [hq] at h; exact ⟨i, rfl, h.1, h.2.1, h.2.2⟩

/-! ## make, as it lies -/
theorem wpList_make_as {P : Program} {w : World} {ops : Array Oper} {rest : List Oper} {o : Oper} {a : Act} {Q : Exit → Act → World → Prop} (hg : o.guard = none) (l c : Operand) (t : TypeId) (hop : o.op = Op.makeSlice t l c)
    (e : TypeId) (i : TypeInfo) (z : Value) (h1 : P.underlying t = some (.slice e)) (h2 : P.info? e = some i) (h3 : i.zero = some z) (h4 : i.size = 1) (h5 : i.bytes ≤ 8)
    (n : Nat) (hl : a.eval l = .int .i64 n) (hc : a.eval c = .int .i64 n) (b2 : n ≤ 65536) (H : Nat) (hH : w.heap.size = H)
    (hK : wpList P ops Q rest (a.put o.dst (.slice (some ⟨H, 0, none⟩) n n)) (w.alloc (.cells (madeCells z.cells n) e))) :
    wpList P ops Q (o :: rest) a w := by
  subst hH
  refine wpList_plain hg fun K hK' => ?_
  have hb : (i.bytes : Int) * (n : Int) ≤ 281474976710656 := by
    have : (i.bytes : Int) * (n : Int) ≤ 8 * 65536 := Int.mul_le_mul (by omega) (by omega) (by omega) (by omega)
    omega
  have hrun := run_make (P := P) w t e i z h1 h2 h3 .i64 .i64 n n (by omega) (Int.le_refl _) hb (by omega)
  simp only [Int.toNat_natCast, h4, Nat.mul_one] at hrun
  unfold Oper.wp
  simp only [execOp, hop, hl, hc, Sem.run_bind, hrun, Result.andThen_ok, Sem.run_pure]
  exact hK' _ _ hK
theorem made_at (z : Value) (n i : Nat) (h : i < n) : (madeCells #[z] n)[i]? = some z := by
  simp [madeCells, h, Nat.mod_one]

/-- A new row of bytes. -/
structure NR (w : World) (H n : Nat) (z : Nat → Int) : Prop where
  cell : ∀ i, i < n → w.cell? ⟨H, i, none⟩ = some (.int .u8 (z i))
  fr : ∀ i, w.frozen? ⟨H, i, none⟩ = false
theorem NR.sr {w : World} {H n : Nat} {z : Nat → Int} (h : NR w H n z) : SR w (some ⟨H, 0, none⟩) n z := fun _ => ⟨H, 0, rfl, fun i hi => by rw [Nat.zero_add]; exact h.cell i hi⟩
theorem NR.of_block {w w' : World} {H n : Nat} {z : Nat → Int} (h : NR w H n z) (hb : w'.heap[H]? = w.heap[H]?) : NR w' H n z :=
  ⟨fun i hi => (World.cell?_of_block (w := w) hb).trans (h.cell i hi), fun i => (World.frozen?_of_block (w := w) hb).trans (h.fr i)⟩

theorem made_row (w : World) (n : Nat) (i : Nat) (h : i < n) : (w.alloc (.cells (madeCells #[.int .u8 0] n) 5)).cell? ⟨w.heap.size, i, none⟩ = some (.int .u8 0) := by
  rw [cell_of_row _ _ i _ 5 (0, 0) (heap_alloc_last w _)]; exact made_at _ _ _ h
theorem made_fr (w : World) (n : Nat) (i : Nat) : (w.alloc (.cells (madeCells #[.int .u8 0] n) 5)).frozen? ⟨w.heap.size, i, none⟩ = false := by
  have := heap_alloc_last w (.cells (madeCells #[.int .u8 0] n) 5)
  simp only [World.frozen?, this]; simp

theorem cut_any (X at' n : Nat) (s : MS) (w : World) (hl : at' + n ≤ 65536) (h : PM w X s) :
    Calls Try.prog 60 #[.pointer (some ⟨X, 0, none⟩), .int .i64 at', .int .i64 n] w fun e w' => e = .returned (.slice (some ⟨w.heap.size, 0, none⟩) n n) ∧ NR w' w.heap.size n (fun i => s.B (at' + i)) ∧ Below w.heap.size w w' ∧ w.heap.size < w'.heap.size := by
  obtain ⟨i0, hi, hz0, hz1, hz2⟩ := info_parts info5
  have hb8 : i0.bytes ≤ 8 := by omega
  have HI : Hid (Try.prog.info? 5 = some i0 ∧ i0.zero = some (.int .u8 0) ∧ i0.size = 1 ∧ i0.bytes ≤ 8) := ⟨hi, hz0, hz1, hb8⟩
  have hn0 : (0 : Int) ≤ n := by omega
  have hn1 : (n : Int) ≤ 65536 := by omega
  have ha0 : (0 : Int) ≤ at' := by omega
  have ha1 : (at' : Int) ≤ 65536 := by omega
  have HP : Hid (PM w X s) := h
  have HL : Hid (at' + n ≤ 65536) := hl
  have HF : Hid (Below w.heap.size w (w.alloc (.cells (madeCells #[.int .u8 0] n) 5)) ∧ w.heap.size < (w.alloc (.cells (madeCells #[.int .u8 0] n) 5)).heap.size) := ⟨(Below.refl _ _).alloc (Nat.le_refl _) _, by simp⟩
  clear hi hz0 hz1 hz2 hb8
  by_cases hn : n = 0
  · have HN : Hid (NR (w.alloc (.cells (madeCells #[.int .u8 0] n) 5)) w.heap.size n (fun i => s.B (at' + i))) := ⟨fun i hi => by omega, fun i => made_fr w n i⟩
    subst hn
    clear h hl
    go_enter Try.func60, Try.ntmps60
    go_wp2_with first
      | (refine wpList_make_as rfl (.tmp 8) (.tmp 8) 22 rfl 5 i0 (.int .u8 0) Try.underlying22 HI.out.1 HI.out.2.1 HI.out.2.2.1 HI.out.2.2.2 0 rfl rfl (by decide) w.heap.size rfl ?_)
      | (refine wpList_copy_nothing rfl (.tmp 10) (.tmp 15) 22 22 rfl 5 Try.underlying22 size5 _ _ _ _ _ _ rfl rfl (Nat.min_zero _) ?_)
    all_goals
      go_ret
      exact ⟨rfl, HN.out, HF.out⟩
  · have hne : ¬ 65536 = at' := by omega
    have HC : CopyPre (w.alloc (.cells (madeCells #[.int .u8 0] n) 5)) (some ⟨w.heap.size, 0, none⟩) (some ⟨X, at', none⟩) (65536 - at') n w.heap.size 0 (byteCs (fun i => s.B (at' + i)) n) :=
      ⟨by rw [byteCs_length]; exact (Nat.min_eq_right (by omega)).symm,
      fun _ => ⟨rfl, _, rfl, fun j v hv => by
        obtain ⟨hj, rfl⟩ := byteCs_at _ _ _ _ hv; rw [Addr.add_mid]
        rw [HF.out.1.cell (p := ⟨X, at' + j, none⟩) h.lt]; exact h.by_ _ (by omega)⟩,
      fun j hj => by rw [byteCs_length] at hj; rw [Nat.zero_add, made_row w n j hj]; rfl, fun j _ => by rw [Nat.zero_add]; exact made_fr w n j, byteCs_one _ _⟩
    have HN : Hid (NR ((w.alloc (.cells (madeCells #[.int .u8 0] n) 5)).setCells w.heap.size 0 (byteCs (fun i => s.B (at' + i)) n)) w.heap.size n (fun i => s.B (at' + i))) :=
      ⟨fun i hi => by
        have := World.cell?_setCells_in w.heap.size (byteCs (fun i => s.B (at' + i)) n) 0 (w.alloc (.cells (madeCells #[.int .u8 0] n) 5)) (fun q hq => by rw [byteCs_length] at hq; rw [Nat.zero_add, made_row w n q hq]; rfl) i (by rw [byteCs_length]; exact hi)
        rw [Nat.zero_add, byteCs_get] at this
        exact this,
      fun i => by rw [World.frozen?_setCells]; exact made_fr w n i⟩
    have HG : Hid (Below w.heap.size w ((w.alloc (.cells (madeCells #[.int .u8 0] n) 5)).setCells w.heap.size 0 (byteCs (fun i => s.B (at' + i)) n)) ∧ w.heap.size < ((w.alloc (.cells (madeCells #[.int .u8 0] n) 5)).setCells w.heap.size 0 (byteCs (fun i => s.B (at' + i)) n)).heap.size) := by
      have ho : Only w.heap.size (w.alloc (.cells (madeCells #[.int .u8 0] n) 5)) _ := Only.setCells (X := w.heap.size) (byteCs (fun i => s.B (at' + i)) n) 0 (w.alloc (.cells (madeCells #[.int .u8 0] n) 5)) (Only.refl _ _)
      refine ⟨?_, by rw [ho.size]; exact HF.out.2⟩
      exact HF.out.1.trans ⟨ho.os, ho.tape, ho.output, by rw [ho.size]; exact Nat.le_refl _, fun k hk => ho.block k (by omega)⟩
    have HNM : Hid (n ≤ 65536) := show n ≤ 65536 by omega
    clear h hl
    go_enter Try.func60, Try.ntmps60
    go_wp2_with first
      | (refine wpList_make_as rfl (.tmp 8) (.tmp 8) 22 rfl 5 i0 (.int .u8 0) Try.underlying22 HI.out.1 HI.out.2.1 HI.out.2.2.1 HI.out.2.2.2 n rfl rfl HNM.out w.heap.size rfl ?_)
      | (refine wpList_copy_pre rfl (.tmp 10) (.tmp 15) 22 22 rfl 5 Try.underlying22 size5 _ _ _ _ _ _ rfl rfl w.heap.size 0 (byteCs (fun i => s.B (at' + i)) n) HC ?_)
    go_ret
    exact ⟨rfl, HN.out, HG.out⟩
end Go.Proofs.Ytkhaajbhgenicaa
