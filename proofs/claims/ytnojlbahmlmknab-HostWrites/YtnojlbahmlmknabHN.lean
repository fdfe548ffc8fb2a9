import Derived.Test.YtnojlbahmlmknabHM
import Derived.Test.YtnojlbahmlmknabHG
import Derived.Deep.OwnRows
import Derived.Laws.CopyRow
import Derived.Laws.IdiomCopy
namespace Go.Proofs.Ytnojlbahmlmknab
open Go.RowKit
set_option maxRecDepth 100000
set_option linter.unusedVariables false
set_option linter.unusedSimpArgs false
theorem info24 : (Try.prog.info? 22).map (fun i => (i.zero, i.size, i.bytes)) = some (some (.int .u32 0), 1, 4) := by kernel_rfl
theorem mk1_run (w : World) : (Instr.makeSlice 54 (.int .i64 1) (.int .i64 1)).run Try.prog w = .ok (.slice (some ⟨w.heap.size, 0, none⟩) 1 1) (w.alloc (.cells #[.int .u32 0] 22)) := by
  have h := run_make_row' (P := Try.prog) 54 22 (.int .u32 0) 4 Try.underlying54 info24 rfl .i64 .i64 1 (by decide) (by decide) w
  rw [show madeCells #[.int .u32 0] 1 = #[.int .u32 0] from by kernel_rfl] at h
  exact h
theorem mk2_run (w : World) : (Instr.makeSlice 54 (.int .i64 2) (.int .i64 2)).run Try.prog w = .ok (.slice (some ⟨w.heap.size, 0, none⟩) 2 2) (w.alloc (.cells #[.int .u32 0, .int .u32 0] 22)) := by
  have h := run_make_row' (P := Try.prog) 54 22 (.int .u32 0) 4 Try.underlying54 info24 rfl .i64 .i64 2 (by decide) (by decide) w
  rw [show madeCells #[.int .u32 0] 2 = #[.int .u32 0, .int .u32 0] from by kernel_rfl] at h
  exact h
theorem mk3_run (w : World) : (Instr.makeSlice 54 (.int .i64 3) (.int .i64 3)).run Try.prog w = .ok (.slice (some ⟨w.heap.size, 0, none⟩) 3 3) (w.alloc (.cells #[.int .u32 0, .int .u32 0, .int .u32 0] 22)) := by
  have h := run_make_row' (P := Try.prog) 54 22 (.int .u32 0) 4 Try.underlying54 info24 rfl .i64 .i64 3 (by decide) (by decide) w
  rw [show madeCells #[.int .u32 0] 3 = #[.int .u32 0, .int .u32 0, .int .u32 0] from by kernel_rfl] at h
  exact h
theorem size24 : (Try.prog.info? 22).map (·.size) = some 1 := by kernel_rfl
theorem cp1_run (W : World) (S k y : Nat) : (Builtin.copy_ #[54, 54] 3 #[.slice (some ⟨S, 0, none⟩) 0 0, .slice (some ⟨W.heap.size, 0, none⟩) 2 2]).run Try.prog (W.alloc (.cells #[.int .u32 k, .int .u32 y] 22)).drew = .ok (.int .i64 0) (W.alloc (.cells #[.int .u32 k, .int .u32 y] 22)).drew :=
  run_copy_none (P := Try.prog) _ 54 54 3 22 _ _ 0 0 2 2 Try.underlying54 size24 rfl
theorem cp2_run (W : World) (S k y u : Nat) (hs : W.heap[S]? = some (.cells #[.int .u32 u, .int .u32 0] 22)) : (Builtin.copy_ #[54, 54] 3 #[.slice (some ⟨S, 1, none⟩) 1 1, .slice (some ⟨W.heap.size, 0, none⟩) 2 2]).run Try.prog (W.alloc (.cells #[.int .u32 k, .int .u32 y] 22)).drew = .ok (.int .i64 1) ((W.alloc (.cells #[.int .u32 k, .int .u32 y] 22)).drew.setRow S #[.int .u32 u, .int .u32 k]) := by
  have e := run_copy_row (P := Try.prog) (W.alloc (.cells #[.int .u32 k, .int .u32 y] 22)).drew 54 54 3 22 S 1 1 1 ⟨W.heap.size, 0, none⟩ 2 2 #[.int .u32 u, .int .u32 0] 22 [.int .u32 k] Try.underlying54 size24
    ((Below.heap_alloc _ _ _ (row_lt hs)).trans hs) rfl (fun j v hv => by
      rw [Addr.add_mid, Nat.zero_add]
      refine (row_cell (heap_alloc_last W _) j).trans ?_
      rcases j with _ | j
      · simpa using hv
      · rcases j with _ | j
        · simp at hv
        · simp at hv) (by simp) (by simp; rfl)
  exact e
theorem cp3_run (W : World) (S k y u : Nat) (hs : W.heap[S]? = some (.cells #[.int .u32 u, .int .u32 0, .int .u32 0] 22)) : (Builtin.copy_ #[54, 54] 3 #[.slice (some ⟨S, 1, none⟩) 2 2, .slice (some ⟨W.heap.size, 0, none⟩) 2 2]).run Try.prog (W.alloc (.cells #[.int .u32 k, .int .u32 y] 22)).drew = .ok (.int .i64 2) ((W.alloc (.cells #[.int .u32 k, .int .u32 y] 22)).drew.setRow S #[.int .u32 u, .int .u32 k, .int .u32 y]) := by
  have e := run_copy_row (P := Try.prog) (W.alloc (.cells #[.int .u32 k, .int .u32 y] 22)).drew 54 54 3 22 S 1 2 2 ⟨W.heap.size, 0, none⟩ 2 2 #[.int .u32 u, .int .u32 0, .int .u32 0] 22 [.int .u32 k, .int .u32 y] Try.underlying54 size24
    ((Below.heap_alloc _ _ _ (row_lt hs)).trans hs) rfl (fun j v hv => by
      rw [Addr.add_mid, Nat.zero_add]
      refine (row_cell (heap_alloc_last W _) j).trans ?_
      rcases j with _ | j
      · simpa using hv
      · rcases j with _ | j
        · simpa using hv
        · simp at hv) (by simp) (by simp; exact ⟨rfl, rfl⟩)
  exact e
def ly0 (x : Cd) : Nat := lo32 x.op
def ly1 (h : Int) (x : Cd) : Nat := orW (hb h 448) 256 16 (ly0 x) x.d
def ly2 (h : Int) (x : Cd) : Nat := orW (hb h 1) 4096 16 (ly1 h x) x.a
def ly3 (h : Int) (x : Cd) : Nat := orW (hb h 2) 65536 16 (ly2 h x) x.b
def ly4 (h : Int) (x : Cd) : Nat := orW (hb h 4) 1048576 16 (ly3 h x) x.c
def ly5 (h : Int) (x : Cd) : Nat := orW (hb h 8) 65536 65536 (ly4 h x) x.n
theorem ly0_lt (x : Cd) : ly0 x < 4294967296 := lo32_lt _
theorem ly1_lt (h : Int) (x : Cd) : ly1 h x < 4294967296 := orW_lt _ _ _ _ _ (ly0_lt x) (by have := Nat.mod_lt (lo32 x.d) (show 16 > 0 by decide); omega)
theorem ly2_lt (h : Int) (x : Cd) : ly2 h x < 4294967296 := orW_lt _ _ _ _ _ (ly1_lt h x) (by have := Nat.mod_lt (lo32 x.a) (show 16 > 0 by decide); omega)
theorem ly3_lt (h : Int) (x : Cd) : ly3 h x < 4294967296 := orW_lt _ _ _ _ _ (ly2_lt h x) (by have := Nat.mod_lt (lo32 x.b) (show 16 > 0 by decide); omega)
theorem ly4_lt (h : Int) (x : Cd) : ly4 h x < 4294967296 := orW_lt _ _ _ _ _ (ly3_lt h x) (by have := Nat.mod_lt (lo32 x.c) (show 16 > 0 by decide); omega)
theorem ly5_lt (h : Int) (x : Cd) : ly5 h x < 4294967296 := orW_lt _ _ _ _ _ (ly4_lt h x) (by have := Nat.mod_lt (lo32 x.n) (show 65536 > 0 by decide); omega)
/-- lay, under way. -/
structure LY (w W : World) (f : Fo) (x : Cd) (n : Nat) (A : Array Value) (u : Nat) : Prop where
  bf : W.heap[w.heap.size]? = some (.cells (foA f) 101)
  bx : W.heap[w.heap.size + 1]? = some (.cells (cdA x) 57)
  s : W.heap[w.heap.size + 1 + 1]? = some (.cells A 22)
  bw : W.heap[w.heap.size + 1 + 1 + 1]? = some (.cells #[.slice (some ⟨w.heap.size + 1 + 1, 0, none⟩) n n] 54)
  a : A[0]? = some (.int .u32 u)
  bel : Below w.heap.size w W
structure LE (w W : World) (n : Nat) (A : Array Value) : Prop where
  s : W.heap[w.heap.size + 1 + 1]? = some (.cells A 22)
  bw : W.heap[w.heap.size + 1 + 1 + 1]? = some (.cells #[.slice (some ⟨w.heap.size + 1 + 1, 0, none⟩) n n] 54)
  bel : Below w.heap.size w W
theorem LE.drw {w W : World} {n : Nat} {A : Array Value} (h : LE w W n A) : LE w W.drew n A := ⟨h.s, h.bw, h.bel.drew⟩
theorem LY.fin1 {w W : World} {f : Fo} {x : Cd} {n : Nat} {A : Array Value} {u : Nat} (h : LY w W f x n A u) (O : Obj) : LE w (W.alloc O).drew n A :=
  ⟨(Below.heap_alloc _ _ _ (row_lt h.s)).trans h.s, (Below.heap_alloc _ _ _ (row_lt h.bw)).trans h.bw, (h.bel.alloc h.bel.size _).drew⟩
theorem LY.fin {w W : World} {f : Fo} {x : Cd} {n : Nat} {A : Array Value} {u : Nat} (h : LY w W f x n A u) (O : Obj) (A' : Array Value) : LE w ((W.alloc O).drew.setRow (w.heap.size + 1 + 1) A') n A' :=
  ⟨setRow_heap _ _ _ _ _ _ (h.fin1 O).s, (setRow_other _ _ _ _ (by omega)).trans (h.fin1 O).bw, (h.fin1 O).bel.trans ⟨rfl, rfl, rfl, by simp, fun k hk => setRow_other _ _ _ _ (by omega)⟩⟩
theorem LY.pw {w W : World} {f : Fo} {x : Cd} {n : Nat} {A : Array Value} {u : Nat} (h : LY w W f x n A u) (n0 : 0 < n) (n3 : n ≤ 3) : PW W w.heap.size (w.heap.size + 1 + 1 + 1) (w.heap.size + 1 + 1) n A u f.has :=
  ⟨row_cell h.bf 3, h.bw, h.s, h.a, row_lt h.bf, n0, n3⟩
theorem LY.put {w W w1 : World} {f : Fo} {x : Cd} {n : Nat} {A : Array Value} {u u' : Nat} (h : LY w W f x n A u) (c : Chg [w.heap.size + 1 + 1] W w1) (b : w1.heap[w.heap.size + 1 + 1]? = some (.cells (A.setIfInBounds 0 (.int .u32 u')) 22)) : LY w w1 f x n (A.setIfInBounds 0 (.int .u32 u')) u' := by
  have hs : w.heap.size ≤ W.heap.size := h.bel.size
  refine ⟨c.keep h.bf (by simp; omega), c.keep h.bx (by simp), b, c.keep h.bw (by simp), ?_, h.bel.trans (c.below hs (by simp; omega))⟩
  have := h.a
  rw [Array.getElem?_setIfInBounds]
  rcases hsz : A.size with _ | k
  · rw [Array.getElem?_eq_none (by omega)] at this; cases this
  · simp
theorem ly_start (w : World) (f : Fo) (x : Cd) (n u : Nat) (A : Array Value) (ha : A[0]? = some (.int .u32 u)) :
    LY w ((((w.alloc (.cells (foA f) 101)).alloc (.cells (cdA x) 57)).alloc (.cells A 22)).alloc (.cells #[.slice (some ⟨w.heap.size + 1 + 1, 0, none⟩) n n] 54)) f x n A u := by
  have e1 := heap_alloc_last w (.cells (foA f) 101)
  have e2 := heap_alloc_last (w.alloc (.cells (foA f) 101)) (.cells (cdA x) 57)
  have e3 := heap_alloc_last ((w.alloc (.cells (foA f) 101)).alloc (.cells (cdA x) 57)) (.cells A 22)
  have e4 := heap_alloc_last (((w.alloc (.cells (foA f) 101)).alloc (.cells (cdA x) 57)).alloc (.cells A 22)) (.cells #[.slice (some ⟨w.heap.size + 1 + 1, 0, none⟩) n n] 54)
  simp only [World.size_alloc] at e2 e3 e4
  refine ⟨?_, ?_, ?_, e4, ha, ((((Below.refl _ _).alloc (Nat.le_refl _) _).alloc (by simp) _).alloc (by simp; omega) _).alloc (by simp; omega) _⟩
  · rw [Below.heap_alloc _ _ _ (by simp; omega), Below.heap_alloc _ _ _ (by simp; omega), Below.heap_alloc _ _ _ (by simp)]; exact e1
  · rw [Below.heap_alloc _ _ _ (by simp), Below.heap_alloc _ _ _ (by simp)]; exact e2
  · rw [Below.heap_alloc _ _ _ (by simp)]; exact e3
end Go.Proofs.Ytnojlbahmlmknab
