import Derived.Test.YtkgbjpdoigdjnaaEG
namespace Go.Proofs.Ytkgbjpdoigdjnaa
open Go.RowKit
set_option maxRecDepth 100000
set_option linter.unusedVariables false
set_option linter.unusedSimpArgs false

abbrev exV (k a pc n : Int) : Value := .agg #[.int .i64 k, .int .u32 a, .int .u32 pc, .int .i64 n]
set_option maxHeartbeats 2000000 in
theorem pdo12 (P V X n i : Nat) (c v : Nat → Nat) (o : OpR) (w : World) (hP : WkC w P V X n c v) (hv : cxOk v) (hn : n ≤ 2048) (hk : o.kind = 12) (ha : 0 ≤ o.a ∧ o.a < n) :
    Calls Try.prog 142 #[.pointer (some ⟨P, 0, none⟩), .int .i64 i, .agg #[.int .i64 o.kind, .int .i64 o.w, .int .i64 o.a, .int .i64 o.b, .int .i64 o.c, .int .u32 o.k, .int .i64 o.n]] w fun e w' => e = .returned (.tuple #[exV 0 0 o.k o.n, .bool ((v o.a.toNat : Int) != 0)]) ∧ Below w.heap.size w w' := by
  have HV : Hid (cxOk v) := hv
  obtain ⟨a0, a1⟩ := ha
  have xs := hP.cs
  have xa := hP.cv o.a.toNat (by omega)
  have lP := lt_of_cell xs
  have lV := lt_of_cell xa
  simp only at lP lV
  have lP1 : P < w.heap.size + 1 := Nat.lt_succ_of_lt lP
  have lP2 : P < w.heap.size + 1 + 1 := Nat.lt_succ_of_lt lP1
  have lV1 : V < w.heap.size + 1 := Nat.lt_succ_of_lt lV
  have lV2 : V < w.heap.size + 1 + 1 := Nat.lt_succ_of_lt lV1
  have n1 : (n : Int) ≤ 2048 := by omega
  clear hv hP
  go_enter Try.func142, Try.ntmps142
  go_wp2
  go_quiet (fail)
  go_wp2
  exact bodyPost_ret (v := .tuple #[exV 0 0 o.k o.n, .bool ((v o.a.toNat : Int) != 0)]) (by simp [results, Try.results142, go_sem]) rfl ⟨rfl, by have hB := Below.refl w.heap.size w; (repeat first | with_reducible exact Below.refl _ _ | with_reducible exact hB | with_reducible refine belN ?_ _ | with_reducible refine Below.drew ?_ | with_reducible refine Below.alloc ?_ (by first | (simp; done) | (simp; omega) | omega) _ | with_reducible refine Below.setCell ?_ (by first | (simp; done) | (simp; omega) | omega) _)⟩
set_option maxHeartbeats 2000000 in
theorem pdo15 (P V X n i : Nat) (c v : Nat → Nat) (o : OpR) (w : World) (hP : WkC w P V X n c v) (hv : cxOk v) (hn : n ≤ 2048) (hk : o.kind = 15) (ha : 0 ≤ o.a ∧ o.a < n) :
    Calls Try.prog 142 #[.pointer (some ⟨P, 0, none⟩), .int .i64 i, .agg #[.int .i64 o.kind, .int .i64 o.w, .int .i64 o.a, .int .i64 o.b, .int .i64 o.c, .int .u32 o.k, .int .i64 o.n]] w fun e w' => e = .returned (.tuple #[exV 0 0 o.k o.n, .bool true]) ∧ Below w.heap.size w w' := by
  have HV : Hid (cxOk v) := hv
  obtain ⟨a0, a1⟩ := ha
  have xs := hP.cs
  have xa := hP.cv o.a.toNat (by omega)
  have lP := lt_of_cell xs
  have lV := lt_of_cell xa
  simp only at lP lV
  have lP1 : P < w.heap.size + 1 := Nat.lt_succ_of_lt lP
  have lP2 : P < w.heap.size + 1 + 1 := Nat.lt_succ_of_lt lP1
  have lV1 : V < w.heap.size + 1 := Nat.lt_succ_of_lt lV
  have lV2 : V < w.heap.size + 1 + 1 := Nat.lt_succ_of_lt lV1
  have n1 : (n : Int) ≤ 2048 := by omega
  clear hv hP
  go_enter Try.func142, Try.ntmps142
  go_wp2
  go_quiet (fail)
  go_wp2
  exact bodyPost_ret (v := .tuple #[exV 0 0 o.k o.n, .bool true]) (by simp [results, Try.results142, go_sem]) rfl ⟨rfl, by have hB := Below.refl w.heap.size w; (repeat first | with_reducible exact Below.refl _ _ | with_reducible exact hB | with_reducible refine belN ?_ _ | with_reducible refine Below.drew ?_ | with_reducible refine Below.alloc ?_ (by first | (simp; done) | (simp; omega) | omega) _ | with_reducible refine Below.setCell ?_ (by first | (simp; done) | (simp; omega) | omega) _)⟩
set_option maxHeartbeats 2000000 in
theorem pdo16 (P V X n i : Nat) (c v : Nat → Nat) (o : OpR) (w : World) (hP : WkC w P V X n c v) (hv : cxOk v) (hn : n ≤ 2048) (hk : o.kind = 16) (ha : 0 ≤ o.a ∧ o.a < n) :
    Calls Try.prog 142 #[.pointer (some ⟨P, 0, none⟩), .int .i64 i, .agg #[.int .i64 o.kind, .int .i64 o.w, .int .i64 o.a, .int .i64 o.b, .int .i64 o.c, .int .u32 o.k, .int .i64 o.n]] w fun e w' => e = .returned (.tuple #[exV 0 0 (v o.a.toNat) o.n, .bool true]) ∧ Below w.heap.size w w' := by
  have HV : Hid (cxOk v) := hv
  obtain ⟨a0, a1⟩ := ha
  have xs := hP.cs
  have xa := hP.cv o.a.toNat (by omega)
  have lP := lt_of_cell xs
  have lV := lt_of_cell xa
  simp only at lP lV
  have lP1 : P < w.heap.size + 1 := Nat.lt_succ_of_lt lP
  have lP2 : P < w.heap.size + 1 + 1 := Nat.lt_succ_of_lt lP1
  have lV1 : V < w.heap.size + 1 := Nat.lt_succ_of_lt lV
  have lV2 : V < w.heap.size + 1 + 1 := Nat.lt_succ_of_lt lV1
  have n1 : (n : Int) ≤ 2048 := by omega
  clear hv hP
  go_enter Try.func142, Try.ntmps142
  go_wp2
  go_quiet (fail)
  go_wp2
  exact bodyPost_ret (v := .tuple #[exV 0 0 (v o.a.toNat) o.n, .bool true]) (by simp [results, Try.results142, go_sem]) rfl ⟨rfl, by have hB := Below.refl w.heap.size w; (repeat first | with_reducible exact Below.refl _ _ | with_reducible exact hB | with_reducible refine belN ?_ _ | with_reducible refine Below.drew ?_ | with_reducible refine Below.alloc ?_ (by first | (simp; done) | (simp; omega) | omega) _ | with_reducible refine Below.setCell ?_ (by first | (simp; done) | (simp; omega) | omega) _)⟩
set_option maxHeartbeats 2000000 in
theorem pdo13 (P V X n i : Nat) (c v : Nat → Nat) (o : OpR) (w : World) (hP : WkC w P V X n c v) (hv : cxOk v) (hn : n ≤ 2048) (hk : o.kind = 13) (ha : 0 ≤ o.a ∧ o.a < n) :
    Calls Try.prog 142 #[.pointer (some ⟨P, 0, none⟩), .int .i64 i, .agg #[.int .i64 o.kind, .int .i64 o.w, .int .i64 o.a, .int .i64 o.b, .int .i64 o.c, .int .u32 o.k, .int .i64 o.n]] w fun e w' => e = .returned (.tuple #[exV o.w 0 o.k o.n, .bool ((v o.a.toNat : Int) != 0)]) ∧ Below w.heap.size w w' := by
  have HV : Hid (cxOk v) := hv
  obtain ⟨a0, a1⟩ := ha
  have xs := hP.cs
  have xa := hP.cv o.a.toNat (by omega)
  have lP := lt_of_cell xs
  have lV := lt_of_cell xa
  simp only at lP lV
  have lP1 : P < w.heap.size + 1 := Nat.lt_succ_of_lt lP
  have lP2 : P < w.heap.size + 1 + 1 := Nat.lt_succ_of_lt lP1
  have lV1 : V < w.heap.size + 1 := Nat.lt_succ_of_lt lV
  have lV2 : V < w.heap.size + 1 + 1 := Nat.lt_succ_of_lt lV1
  have n1 : (n : Int) ≤ 2048 := by omega
  clear hv hP
  go_enter Try.func142, Try.ntmps142
  go_wp2
  go_quiet (fail)
  go_wp2
  exact bodyPost_ret (v := .tuple #[exV o.w 0 o.k o.n, .bool ((v o.a.toNat : Int) != 0)]) (by simp [results, Try.results142, go_sem]) rfl ⟨rfl, by have hB := Below.refl w.heap.size w; (repeat first | with_reducible exact Below.refl _ _ | with_reducible exact hB | with_reducible refine belN ?_ _ | with_reducible refine Below.drew ?_ | with_reducible refine Below.alloc ?_ (by first | (simp; done) | (simp; omega) | omega) _ | with_reducible refine Below.setCell ?_ (by first | (simp; done) | (simp; omega) | omega) _)⟩
set_option maxHeartbeats 2000000 in
theorem pdo14 (P V X n i : Nat) (c v : Nat → Nat) (o : OpR) (w : World) (hP : WkC w P V X n c v) (hv : cxOk v) (hn : n ≤ 2048) (hk : o.kind = 14) (ha : 0 ≤ o.a ∧ o.a < n) (hb : 0 ≤ o.b ∧ o.b ≤ 4294967295) :
    Calls Try.prog 142 #[.pointer (some ⟨P, 0, none⟩), .int .i64 i, .agg #[.int .i64 o.kind, .int .i64 o.w, .int .i64 o.a, .int .i64 o.b, .int .i64 o.c, .int .u32 o.k, .int .i64 o.n]] w fun e w' => e = .returned (.tuple #[exV o.w o.b o.k o.n, .bool true]) ∧ Below w.heap.size w w' := by
  have HV : Hid (cxOk v) := hv
  obtain ⟨a0, a1⟩ := ha
  have xs := hP.cs
  have xa := hP.cv o.a.toNat (by omega)
  have lP := lt_of_cell xs
  have lV := lt_of_cell xa
  simp only at lP lV
  have lP1 : P < w.heap.size + 1 := Nat.lt_succ_of_lt lP
  have lP2 : P < w.heap.size + 1 + 1 := Nat.lt_succ_of_lt lP1
  have lV1 : V < w.heap.size + 1 := Nat.lt_succ_of_lt lV
  have lV2 : V < w.heap.size + 1 + 1 := Nat.lt_succ_of_lt lV1
  have n1 : (n : Int) ≤ 2048 := by omega
  obtain ⟨b0, b1⟩ := hb
  have b2 : o.b < 4294967296 := by omega
  clear hv hP
  go_enter Try.func142, Try.ntmps142
  go_wp2
  go_quiet (fail)
  go_wp2
  exact bodyPost_ret (v := .tuple #[exV o.w o.b o.k o.n, .bool true]) (by simp [results, Try.results142, go_sem]) rfl ⟨rfl, by have hB := Below.refl w.heap.size w; (repeat first | with_reducible exact Below.refl _ _ | with_reducible exact hB | with_reducible refine belN ?_ _ | with_reducible refine Below.drew ?_ | with_reducible refine Below.alloc ?_ (by first | (simp; done) | (simp; omega) | omega) _ | with_reducible refine Below.setCell ?_ (by first | (simp; done) | (simp; omega) | omega) _)⟩
end Go.Proofs.Ytkgbjpdoigdjnaa
