import Derived.Test.YtgkkghphlbgcoaaHE
import Derived.Test.YtgkkghphlbgcoaaHC
import Derived.Test.YtgkkghphlbgcoaaHF
namespace Go.Proofs.Ytgkkghphlbgcoaa.Ho
open Go.RowKit
set_option maxRecDepth 100000
set_option linter.unusedVariables false
set_option linter.unusedSimpArgs false
theorem has_any (s : Array UInt8) (c : Int) (hs : goodS s) (hc : c = 100 ∨ c = 97 ∨ c = 98 ∨ c = 99 ∨ c = 110) (w : World) : Calls Try.prog 53 #[.string ⟨s⟩, .int .u8 c] w fun e w' => e = .returned (.bool (hasB s c.toNat)) ∧ w = w' := by
  rcases hc with rfl | rfl | rfl | rfl | rfl
  · exact hasA_d s hs w
  · exact hasA_a s hs w
  · exact hasA_b s hs w
  · exact hasA_c s hs w
  · exact hasA_n s hs w
def zCr : Cd := ⟨0, 0, 0, 0, 0, 0, 0, 0⟩
/-- Is it an instruction? -/
def okR (f : Fm) (v : Nat) (x : Cd) : Bool := decide (fst x = v) && !(hasB f.s 110 && decide (f.most ≤ x.n)) && !((decide (x.op = 12) || decide (x.op = 13)) && (decide (x.d < 1) || decide (7 < x.d)))
def rdV (b : Bool) (x : Cd) (n : Nat) : Value :=
  match b with
  | true => .tuple #[cdV x, .int .i64 n, .int .i64 0]
  | false => .tuple #[cdV zCr, .int .i64 0, .int .i64 3]
structure RX (w W : World) (x : Cd) : Prop where
  b : W.heap[w.heap.size + 1]? = some (.cells (cdA x) 41)
  r : W.heap[w.heap.size]? = some (.cells (cdA ⟨0, 0, 0, 0, 0, 0, 0, 0⟩) 41)
  bel : Below w.heap.size w W
theorem rx_start (w : World) (x : Cd) : RX w ((w.alloc (.cells (cdA ⟨0, 0, 0, 0, 0, 0, 0, 0⟩) 41)).alloc (.cells (cdA x) 41)) x := by
  have e1 := heap_alloc_last w (.cells (cdA ⟨0, 0, 0, 0, 0, 0, 0, 0⟩) 41)
  have e2 := heap_alloc_last (w.alloc (.cells (cdA ⟨0, 0, 0, 0, 0, 0, 0, 0⟩) 41)) (.cells (cdA x) 41)
  simp only [World.size_alloc] at e2
  refine ⟨e2, ?_, ((Below.refl _ _).alloc (Nat.le_refl _) _).alloc (by simp) _⟩
  rw [Below.heap_alloc _ _ _ (by simp)]; exact e1
theorem RX.al {w W : World} {x : Cd} (h : RX w W x) (o : Obj) : RX w (W.alloc o) x :=
  ⟨(Below.heap_alloc _ _ _ (row_lt h.b)).trans h.b, (Below.heap_alloc _ _ _ (row_lt h.r)).trans h.r, h.bel.alloc h.bel.size _⟩
end Go.Proofs.Ytgkkghphlbgcoaa.Ho
namespace Go.Proofs.Ytgkkghphlbgcoaa.Ho
open Go.RowKit
set_option maxRecDepth 100000
set_option linter.unusedVariables false
set_option linter.unusedSimpArgs false
theorem rdec_neg (a : Option Addr) (len cap : Nat) (at' : Int) (w : World) (hl : len ≤ 140737488355328) (h : at' < 0) :
    Calls Try.prog 37 #[.slice a len cap, .int .i64 at'] w fun e w' => e = .returned (.tuple #[cdV zCr, .int .i64 0, .int .i64 4]) ∧ Below w.heap.size w w' := by
  go_enter Try.func37, Try.ntmps37
  go_wp2
  refine bodyPost_ret (v := .tuple #[cdV zCr, .int .i64 0, .int .i64 4]) (by simp [results, Try.results37, go_sem, zCr]) rfl ⟨rfl, ?_⟩
  exact (by have hB := Below.refl w.heap.size w; repeat first | with_reducible exact hB | with_reducible refine Below.setCell ?_ (by first | exact Nat.le_refl _ | (simp; done)) _ | with_reducible refine Below.alloc ?_ (by first | exact Nat.le_refl _ | (simp; done)) _)
theorem rdec_far (a : Option Addr) (len cap : Nat) (at' : Int) (w : World) (hl : len ≤ 140737488355328) (h0 : ¬ at' < 0) (h : (len : Int) < at') :
    Calls Try.prog 37 #[.slice a len cap, .int .i64 at'] w fun e w' => e = .returned (.tuple #[cdV zCr, .int .i64 0, .int .i64 4]) ∧ Below w.heap.size w w' := by
  go_enter Try.func37, Try.ntmps37
  go_wp2
  refine bodyPost_ret (v := .tuple #[cdV zCr, .int .i64 0, .int .i64 4]) (by simp [results, Try.results37, go_sem, zCr]) rfl ⟨rfl, ?_⟩
  exact (by have hB := Below.refl w.heap.size w; repeat first | with_reducible exact hB | with_reducible refine Below.setCell ?_ (by first | exact Nat.le_refl _ | (simp; done)) _ | with_reducible refine Below.alloc ?_ (by first | exact Nat.le_refl _ | (simp; done)) _)
theorem rdec_end (a : Option Addr) (len cap : Nat) (w : World) (hl : len ≤ 140737488355328) :
    Calls Try.prog 37 #[.slice a len cap, .int .i64 len] w fun e w' => e = .returned (.tuple #[cdV zCr, .int .i64 0, .int .i64 1]) ∧ Below w.heap.size w w' := by
  have q1 : decide ((len : Int) < 0) = false := decide_eq_false (by omega)
  have q2 : decide ((len : Int) < len) = false := decide_eq_false (by omega)
  go_enter Try.func37, Try.ntmps37
  go_wp2
  refine bodyPost_ret (v := .tuple #[cdV zCr, .int .i64 0, .int .i64 1]) (by simp [results, Try.results37, go_sem, zCr]) rfl ⟨rfl, ?_⟩
  exact (by have hB := Below.refl w.heap.size w; repeat first | with_reducible exact hB | with_reducible refine Below.setCell ?_ (by first | exact Nat.le_refl _ | (simp; done)) _ | with_reducible refine Below.alloc ?_ (by first | exact Nat.le_refl _ | (simp; done)) _)
theorem rdec_none (b off len cap a v op : Nat) (w : World) (hv : v < 4294967296) (c0 : w.cell? ⟨b, off + a, none⟩ = some (.int .u32 v)) (lb : b < w.heap.size) (hcap : len ≤ cap) (hl : len ≤ 140737488355328) (hop : v % 256 = op) (ha : a < len) (s : Array UInt8) (most : Int) (hF : fmR (op : Int) = ⟨s, most, 0⟩) :
    Calls Try.prog 37 #[.slice (some ⟨b, off, none⟩) len cap, .int .i64 a] w fun e w' => e = .returned (.tuple #[cdV zCr, .int .i64 0, .int .i64 2]) ∧ Below w.heap.size w w' := by
  have a0 : (0 : Int) ≤ a := by omega
  have a1 : (a : Int) < len := by omega
  have a2 : (a : Int) ≤ len := by omega
  have hw3 : IntKind.i64.wrap ((len : Int) - a) = (len : Int) - a := IntWalk.i64_in _ (by omega)
  have nb0 : ¬ b = w.heap.size := by omega
  have lb1 : b < w.heap.size + 1 := by omega
  have ho : (v : Int) % 256 = op := by omega
  have o0 : (0 : Int) ≤ op := by omega
  have o1 : (op : Int) < 256 := by omega
  have HF : Hid _ := hF
  have HW : Hid (IntKind.i64.wrap (op : Int) = op) := IntWalk.i64_in _ (by omega)
  clear hF hop ha
  go_enter Try.func37, Try.ntmps37
  go_wp2_with ((go_at_call 35; refine (form_any _ _).mono ?_; rintro e w9 ⟨rfl, rfl⟩; (try rw [HW.out]); rw [HF.out]))
  refine bodyPost_ret (v := .tuple #[cdV zCr, .int .i64 0, .int .i64 2]) (by simp [results, Try.results37, go_sem, zCr]) rfl ⟨rfl, ?_⟩
  exact (by have hB := Below.refl w.heap.size w; repeat first | with_reducible exact hB | with_reducible refine Below.setCell ?_ (by first | exact Nat.le_refl _ | (simp; done)) _ | with_reducible refine Below.alloc ?_ (by first | exact Nat.le_refl _ | (simp; done)) _)
theorem rdec_short2 (b off len cap a v op : Nat) (w : World) (hv : v < 4294967296) (c0 : w.cell? ⟨b, off + a, none⟩ = some (.int .u32 v)) (lb : b < w.heap.size) (hcap : len ≤ cap) (hl : len ≤ 140737488355328) (hop : v % 256 = op) (ha : a < len ∧ len < a + 2) (s : Array UInt8) (most : Int) (hF : fmR (op : Int) = ⟨s, most, 2⟩) :
    Calls Try.prog 37 #[.slice (some ⟨b, off, none⟩) len cap, .int .i64 a] w fun e w' => e = .returned (.tuple #[cdV zCr, .int .i64 0, .int .i64 1]) ∧ Below w.heap.size w w' := by
  have a3 : (len : Int) - a < 2 := by omega
  have a0 : (0 : Int) ≤ a := by omega
  have a1 : (a : Int) < len := by omega
  have a2 : (a : Int) ≤ len := by omega
  have hw3 : IntKind.i64.wrap ((len : Int) - a) = (len : Int) - a := IntWalk.i64_in _ (by omega)
  have nb0 : ¬ b = w.heap.size := by omega
  have lb1 : b < w.heap.size + 1 := by omega
  have ho : (v : Int) % 256 = op := by omega
  have o0 : (0 : Int) ≤ op := by omega
  have o1 : (op : Int) < 256 := by omega
  have HF : Hid _ := hF
  have HW : Hid (IntKind.i64.wrap (op : Int) = op) := IntWalk.i64_in _ (by omega)
  clear hF hop ha
  go_enter Try.func37, Try.ntmps37
  go_wp2_with ((go_at_call 35; refine (form_any _ _).mono ?_; rintro e w9 ⟨rfl, rfl⟩; (try rw [HW.out]); rw [HF.out]))
  refine bodyPost_ret (v := .tuple #[cdV zCr, .int .i64 0, .int .i64 1]) (by simp [results, Try.results37, go_sem, zCr]) rfl ⟨rfl, ?_⟩
  exact (by have hB := Below.refl w.heap.size w; repeat first | with_reducible exact hB | with_reducible refine Below.setCell ?_ (by first | exact Nat.le_refl _ | (simp; done)) _ | with_reducible refine Below.alloc ?_ (by first | exact Nat.le_refl _ | (simp; done)) _)
theorem rdec_short3 (b off len cap a v op : Nat) (w : World) (hv : v < 4294967296) (c0 : w.cell? ⟨b, off + a, none⟩ = some (.int .u32 v)) (lb : b < w.heap.size) (hcap : len ≤ cap) (hl : len ≤ 140737488355328) (hop : v % 256 = op) (ha : a < len ∧ len < a + 3) (s : Array UInt8) (most : Int) (hF : fmR (op : Int) = ⟨s, most, 3⟩) :
    Calls Try.prog 37 #[.slice (some ⟨b, off, none⟩) len cap, .int .i64 a] w fun e w' => e = .returned (.tuple #[cdV zCr, .int .i64 0, .int .i64 1]) ∧ Below w.heap.size w w' := by
  have a3 : (len : Int) - a < 3 := by omega
  have a0 : (0 : Int) ≤ a := by omega
  have a1 : (a : Int) < len := by omega
  have a2 : (a : Int) ≤ len := by omega
  have hw3 : IntKind.i64.wrap ((len : Int) - a) = (len : Int) - a := IntWalk.i64_in _ (by omega)
  have nb0 : ¬ b = w.heap.size := by omega
  have lb1 : b < w.heap.size + 1 := by omega
  have ho : (v : Int) % 256 = op := by omega
  have o0 : (0 : Int) ≤ op := by omega
  have o1 : (op : Int) < 256 := by omega
  have HF : Hid _ := hF
  have HW : Hid (IntKind.i64.wrap (op : Int) = op) := IntWalk.i64_in _ (by omega)
  clear hF hop ha
  go_enter Try.func37, Try.ntmps37
  go_wp2_with ((go_at_call 35; refine (form_any _ _).mono ?_; rintro e w9 ⟨rfl, rfl⟩; (try rw [HW.out]); rw [HF.out]))
  refine bodyPost_ret (v := .tuple #[cdV zCr, .int .i64 0, .int .i64 1]) (by simp [results, Try.results37, go_sem, zCr]) rfl ⟨rfl, ?_⟩
  exact (by have hB := Below.refl w.heap.size w; repeat first | with_reducible exact hB | with_reducible refine Below.setCell ?_ (by first | exact Nat.le_refl _ | (simp; done)) _ | with_reducible refine Below.alloc ?_ (by first | exact Nat.le_refl _ | (simp; done)) _)
end Go.Proofs.Ytgkkghphlbgcoaa.Ho
