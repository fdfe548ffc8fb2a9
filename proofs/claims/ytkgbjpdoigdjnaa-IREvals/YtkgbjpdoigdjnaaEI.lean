import Derived.Test.YtkgbjpdoigdjnaaEH
import Derived.Test.YtkgbjpdoigdjnaaET
import Derived.Test.YtkgbjpdoigdjnaaED
namespace Go.Proofs.Ytkgbjpdoigdjnaa
open Go.RowKit
set_option maxRecDepth 100000
set_option linter.unusedVariables false
set_option linter.unusedSimpArgs false
set_option maxHeartbeats 2000000 in
theorem pdo11 (P V X n i : Nat) (c v : Nat → Nat) (m : MS) (o : OpR) (w : World) (hP : WkC w P V X n c v) (hM : PM w X m) (hv : cxOk v) (hn : n ≤ 2048) (hk : o.kind = 11) (ha : 0 ≤ o.a ∧ o.a < n) :
    Calls Try.prog 142 #[.pointer (some ⟨P, 0, none⟩), .int .i64 i, .agg #[.int .i64 o.kind, .int .i64 o.w, .int .i64 o.a, .int .i64 o.b, .int .i64 o.c, .int .u32 o.k, .int .i64 o.n]] w fun e w' => e = .returned (.tuple #[exV 0 0 o.k o.n, .bool (touchB m)]) ∧ Below w.heap.size w w' := by
  have HV : Hid (cxOk v) := hv
  obtain ⟨a0, a1⟩ := ha
  have xs := hP.cs
  have xm := hP.cm
  have xa := hP.cv o.a.toNat (by omega)
  have lP := lt_of_cell xs
  have lV := lt_of_cell xa
  simp only at lP lV
  have lP1 : P < w.heap.size + 1 := Nat.lt_succ_of_lt lP
  have lP2 : P < w.heap.size + 1 + 1 := Nat.lt_succ_of_lt lP1
  have lV1 : V < w.heap.size + 1 := Nat.lt_succ_of_lt lV
  have lV2 : V < w.heap.size + 1 + 1 := Nat.lt_succ_of_lt lV1
  have n1 : (n : Int) ≤ 2048 := by omega
  have HC : Hid (∀ W, Below w.heap.size w W → Calls Try.prog 50 #[.pointer (some ⟨X, 0, none⟩)] W fun e w' => e = .returned (.bool (touchB m)) ∧ W = w') := show ∀ W, _ from fun W hW => touched_any X m W (hM.below hW hM.lt)
  clear hv hP hM
  go_enter Try.func142, Try.ntmps142
  go_wp2
  go_quiet (fail)
  go_wp2
  go_region_with (go_at_call 50; refine (HC.out _ ?_).mono ?_; (focus (have hB := Below.refl w.heap.size w; (repeat first | with_reducible exact Below.refl _ _ | with_reducible exact hB | with_reducible refine belN ?_ _ | with_reducible refine Below.drew ?_ | with_reducible refine Below.alloc ?_ (by first | (simp; done) | (simp; omega) | omega) _ | with_reducible refine Below.setCell ?_ (by first | (simp; done) | (simp; omega) | omega) _))); rintro e w1 ⟨rfl, rfl⟩)
  all_goals go_wp2
  all_goals exact bodyPost_ret (v := .tuple #[exV 0 0 o.k o.n, .bool (touchB m)]) (by simp [results, Try.results142, go_sem]) rfl ⟨rfl, by have hB := Below.refl w.heap.size w; (repeat first | with_reducible exact Below.refl _ _ | with_reducible exact hB | with_reducible refine belN ?_ _ | with_reducible refine Below.drew ?_ | with_reducible refine Below.alloc ?_ (by first | (simp; done) | (simp; omega) | omega) _ | with_reducible refine Below.setCell ?_ (by first | (simp; done) | (simp; omega) | omega) _)⟩
end Go.Proofs.Ytkgbjpdoigdjnaa
