import Derived.Test.YtkgbjpdoigdjnaaEJ
namespace Go.Proofs.Ytkgbjpdoigdjnaa
open Go.RowKit
set_option maxRecDepth 100000
set_option linter.unusedVariables false
set_option linter.unusedSimpArgs false
theorem Chg.drewC {S : List Nat} {w w' : World} (h : Chg S w w') : Chg S w w'.drew := h.trans (Chg.of_below S ((Below.refl _ w').drew))
theorem Chg.drewN {S : List Nat} {w w' : World} (h : Chg S w w') (n : Nat) : Chg S w (w'.drewN n) := h.trans (Chg.of_below S (belN (Below.refl _ w') n))
theorem Chg.allocC {S : List Nat} {w w' : World} (h : Chg S w w') (x : Obj) : Chg S w (w'.alloc x) := h.trans (Chg.of_below S ((Below.refl _ w').alloc (Nat.le_refl _) x))
theorem Chg.setN {S : List Nat} {w w' : World} {B o : Nat} {u : Value} (h : Chg S w w') (hB : w.heap.size ≤ B) : Chg S w (w'.setCell ⟨B, o, none⟩ u) := h.new hB ((Only.refl B w').setCell o u)
set_option maxHeartbeats 2000000 in
theorem pdo3 (P V X n i : Nat) (c v : Nat → Nat) (o : OpR) (w : World) (hP : WkC w P V X n c v) (hfr : ∀ j, w.frozen? ⟨P, j, none⟩ = false) (hv : cxOk v) (hn : n ≤ 2048) (hk : o.kind = 3) (ha : 0 ≤ o.a ∧ o.a < n) (hw : 0 ≤ o.w ∧ o.w ≤ 11) (hPV : V ≠ P) :
    Calls Try.prog 142 #[.pointer (some ⟨P, 0, none⟩), .int .i64 i, .agg #[.int .i64 o.kind, .int .i64 o.w, .int .i64 o.a, .int .i64 o.b, .int .i64 o.c, .int .u32 o.k, .int .i64 o.n]] w fun e w' => e = .returned (.tuple #[exV 0 0 o.k o.n, .bool false]) ∧ WkC w' P V X n (updC c o.w.toNat (v o.a.toNat)) v ∧ Chg [P] w w' := by
  have HV : Hid (cxOk v) := hv
  obtain ⟨a0, a1⟩ := ha
  have xs := hP.cs
  have xm := hP.cm
  have xa := hP.cv o.a.toNat (by omega)
  have lP := lt_of_cell xs
  have lV := lt_of_cell xa
  simp only at lP lV
  have lP1 : P < w.heap.size + 1 := Nat.lt_succ_of_lt lP
  have lP2 : P < w.heap.size + 1 + 1 := Nat.lt_succ_of_lt lP1
  have lV1 : V < w.heap.size + 1 := Nat.lt_succ_of_lt lV
  have lV2 : V < w.heap.size + 1 + 1 := Nat.lt_succ_of_lt lV1
  have n1 : (n : Int) ≤ 2048 := by omega
  obtain ⟨w0, w1⟩ := hw
  have w12 : o.w < 12 := by omega
  have xc := hP.cc o.w.toNat (by omega)
  have HP : Hid _ := hP
  have xf := hfr o.w.toNat
  clear hv hP hfr
  go_enter Try.func142, Try.ntmps142
  go_wp2
  go_quiet (fail)
  go_wp2
  go_region
  all_goals go_wp2
  all_goals exact bodyPost_ret (v := .tuple #[exV 0 0 o.k o.n, .bool false]) (by simp [results, Try.results142, go_sem, lP, lP1, lP2]) rfl ⟨rfl, by
    have hB := HP.out
    (repeat first | with_reducible exact hB | with_reducible refine WkC.drewN ?_ _ | with_reducible refine WkC.drew ?_ | with_reducible refine WkC.alloc ?_ _ (by omega) | with_reducible refine WkC.set ?_ (by omega) (by omega) _ trivial | with_reducible refine WkC.put ?_ (by omega) (by omega) _), by
    have hC := Chg.refl [P] w
    (repeat first | with_reducible exact hC | with_reducible refine Chg.drewN ?_ _ | with_reducible refine Chg.drewC ?_ | with_reducible refine Chg.allocC ?_ _ | with_reducible refine Chg.setIn ?_ List.mem_cons_self | with_reducible refine Chg.setN ?_ (by omega))⟩
end Go.Proofs.Ytkgbjpdoigdjnaa
