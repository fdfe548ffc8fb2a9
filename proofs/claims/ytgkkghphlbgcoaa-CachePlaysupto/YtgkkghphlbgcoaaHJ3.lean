import Derived.Test.YtgkkghphlbgcoaaHJ4
namespace Go.Proofs.Ytgkkghphlbgcoaa.Ho
open Go.RowKit
set_option maxRecDepth 100000
set_option linter.unusedVariables false
set_option linter.unusedSimpArgs false
set_option maxHeartbeats 4000000 in
theorem rdec_an2o (b off len cap a p1 p2 v op u1 u2 : Nat) (most : Int) (aa : Int) (nn : Int) (hfa : (v : Int) / 4096 % 16 = aa) (hfn : (v : Int) / 65536 = nn) (w : World) (hv : v < 4294967296) (c0 : w.cell? ⟨b, off + a, none⟩ = some (.int .u32 v)) (c1 : w.cell? ⟨b, off + p1, none⟩ = some (.int .u32 u1)) (lb : b < w.heap.size) (hcap : len ≤ cap) (hl : len ≤ 140737488355328) (ha : a + 2 ≤ len) (hp1 : p1 = a + 1) (hp2 : p2 = a + 2) (hop : v % 256 = op) (hq : (op : Int) ≠ 12) (hq2 : (op : Int) ≠ 13) (hF : fmR (op : Int) = ⟨#[97, 110], most, 2⟩) :
    Calls Try.prog 37 #[.slice (some ⟨b, off, none⟩) len cap, .int .i64 a] w fun e w' => e = .returned (rdV (okR ⟨#[97, 110], most, 2⟩ v ⟨op, 0, aa, 0, 0, nn, u1, 0⟩) ⟨op, 0, aa, 0, 0, nn, u1, 0⟩ 2) ∧ Below w.heap.size w w' := by
  have a0 : (0 : Int) ≤ a := by omega
  have a1 : (a : Int) < len := by omega
  have a2 : (a : Int) ≤ len := by omega
  have a3 : (a : Int) + 2 ≤ len := by omega
  have w1 : IntKind.i64.wrap ((a : Int) + 1) = (p1 : Int) := by rw [IntWalk.i64_in _ (by omega)]; omega
  have x1 : (p1 : Int) < len := by omega
  have y1 : (0 : Int) ≤ p1 := by omega
  have hw3 : IntKind.i64.wrap ((len : Int) - a) = (len : Int) - a := IntWalk.i64_in _ (by omega)
  have v0 : (0 : Int) ≤ v := by omega
  have v1 : (v : Int) < 4294967296 := by omega
  have nb0 : ¬ b = w.heap.size := by omega
  have nb1 : ¬ b = w.heap.size + 1 := by omega
  have lb1 : b < w.heap.size + 1 := by omega
  have HF : Hid _ := hF
  have ho : (v : Int) % 256 = op := by omega
  have o0 : (0 : Int) ≤ op := by omega
  have o1 : (op : Int) < 256 := by omega
  have HW : Hid (IntKind.i64.wrap (op : Int) = op) := IntWalk.i64_in _ (by omega)
  have o12 : ((op : Int) == 12) = false := by simp; omega
  have o13 : ((op : Int) == 13) = false := by simp; omega
  
  clear hF hop hp1 hp2 ha v0 v1
  go_enter Try.func37, Try.ntmps37
  go_upto_region 26 with (first | (go_at_call 35; refine (form_any _ _).mono ?_; rintro e w9 ⟨rfl, rfl⟩; (try rw [HW.out]); rw [HF.out]) | (go_at_call 53; refine (has_any #[97, 110] _ (.inr (.inr (.inr (.inr (.inl rfl))))) (by first | exact .inl rfl | exact .inr (.inl rfl) | exact .inr (.inr (.inl rfl)) | exact .inr (.inr (.inr (.inl rfl))) | exact .inr (.inr (.inr (.inr rfl)))) _).mono ?_; rintro e w9 ⟨rfl, rfl⟩; first | rw [show hasB #[97, 110] (Int.toNat 100) = false from rfl] | rw [show hasB #[97, 110] (Int.toNat 97) = true from rfl] | rw [show hasB #[97, 110] (Int.toNat 98) = false from rfl] | rw [show hasB #[97, 110] (Int.toNat 99) = false from rfl] | rw [show hasB #[97, 110] (Int.toNat 110) = true from rfl]))
  refine wp_gen (fun W' => RX w W' ⟨op, 0, aa, 0, 0, nn, u1, 0⟩) (rx_start w ⟨op, 0, aa, 0, 0, nn, u1, 0⟩) ?_
  intro W hX
  have k0 : W.cell? ⟨w.heap.size + 1, 0, none⟩ = some (.int .i64 op) := row_cell hX.b 0
  have r0 : W.cell? ⟨w.heap.size, 0, none⟩ = some (.int .i64 0) := row_cell hX.r 0
  have z0 := row_fr hX.r 0
  have k1 : W.cell? ⟨w.heap.size + 1, 1, none⟩ = some (.int .i64 0) := row_cell hX.b 1
  have r1 : W.cell? ⟨w.heap.size, 1, none⟩ = some (.int .i64 0) := row_cell hX.r 1
  have z1 := row_fr hX.r 1
  have k2 : W.cell? ⟨w.heap.size + 1, 2, none⟩ = some (.int .i64 aa) := row_cell hX.b 2
  have r2 : W.cell? ⟨w.heap.size, 2, none⟩ = some (.int .i64 0) := row_cell hX.r 2
  have z2 := row_fr hX.r 2
  have k3 : W.cell? ⟨w.heap.size + 1, 3, none⟩ = some (.int .i64 0) := row_cell hX.b 3
  have r3 : W.cell? ⟨w.heap.size, 3, none⟩ = some (.int .i64 0) := row_cell hX.r 3
  have z3 := row_fr hX.r 3
  have k4 : W.cell? ⟨w.heap.size + 1, 4, none⟩ = some (.int .i64 0) := row_cell hX.b 4
  have r4 : W.cell? ⟨w.heap.size, 4, none⟩ = some (.int .i64 0) := row_cell hX.r 4
  have z4 := row_fr hX.r 4
  have k5 : W.cell? ⟨w.heap.size + 1, 5, none⟩ = some (.int .i64 nn) := row_cell hX.b 5
  have r5 : W.cell? ⟨w.heap.size, 5, none⟩ = some (.int .i64 0) := row_cell hX.r 5
  have z5 := row_fr hX.r 5
  have k6 : W.cell? ⟨w.heap.size + 1, 6, none⟩ = some (.int .u32 u1) := row_cell hX.b 6
  have r6 : W.cell? ⟨w.heap.size, 6, none⟩ = some (.int .u32 0) := row_cell hX.r 6
  have z6 := row_fr hX.r 6
  have k7 : W.cell? ⟨w.heap.size + 1, 7, none⟩ = some (.int .u32 0) := row_cell hX.b 7
  have r7 : W.cell? ⟨w.heap.size, 7, none⟩ = some (.int .u32 0) := row_cell hX.r 7
  have z7 := row_fr hX.r 7
  have lx := row_lt hX.b
  have lr := row_lt hX.r
  have HX : Hid _ := hX
  clear hX
  by_cases e1 : fst ⟨op, 0, aa, 0, 0, nn, u1, 0⟩ = v
  · have HE : Hid _ := e1
    have E1 : Hid _ := e1
    clear e1
    by_cases e2 : most ≤ nn
    · have g2 : decide (most ≤ nn) = true := decide_eq_true e2
      go_wp2_with (first | (go_at_call 36; refine (first_any ⟨op, 0, aa, 0, 0, nn, u1, 0⟩ W).mono ?_; rintro e w9 ⟨rfl, rfl⟩; (try rw [HE.out])) | (go_at_call 53; refine (has_any #[97, 110] _ (.inr (.inr (.inr (.inr (.inl rfl))))) (by first | exact .inl rfl | exact .inr (.inl rfl) | exact .inr (.inr (.inl rfl)) | exact .inr (.inr (.inr (.inl rfl))) | exact .inr (.inr (.inr (.inr rfl)))) _).mono ?_; rintro e w9 ⟨rfl, rfl⟩; first | rw [show hasB #[97, 110] (Int.toNat 100) = false from rfl] | rw [show hasB #[97, 110] (Int.toNat 97) = true from rfl] | rw [show hasB #[97, 110] (Int.toNat 98) = false from rfl] | rw [show hasB #[97, 110] (Int.toNat 99) = false from rfl] | rw [show hasB #[97, 110] (Int.toNat 110) = true from rfl]))
      refine bodyPost_ret (v := .tuple #[cdV zCr, .int .i64 0, .int .i64 3]) (by simp [results, Try.results37, go_sem, zCr, r0, r1, r2, r3, r4, r5, r6, r7, lr]) rfl ⟨by rw [show okR ⟨#[97, 110], most, 2⟩ v ⟨op, 0, aa, 0, 0, nn, u1, 0⟩ = false from by simp [okR, hasB, E1.out, hq, hq2, e2]]; rfl, ?_⟩
      exact (by have hB := HX.out.bel; repeat first | with_reducible exact hB | with_reducible refine Below.setCell ?_ (by first | exact Nat.le_refl _ | (simp; done)) _ | with_reducible refine Below.alloc ?_ (by have := hB.size; first | omega | (simp; omega)) _)
    · have g2 : decide (most ≤ nn) = false := decide_eq_false e2
      go_wp2_with (first | (go_at_call 36; refine (first_any ⟨op, 0, aa, 0, 0, nn, u1, 0⟩ W).mono ?_; rintro e w9 ⟨rfl, rfl⟩; (try rw [HE.out])) | (go_at_call 53; refine (has_any #[97, 110] _ (.inr (.inr (.inr (.inr (.inl rfl))))) (by first | exact .inl rfl | exact .inr (.inl rfl) | exact .inr (.inr (.inl rfl)) | exact .inr (.inr (.inr (.inl rfl))) | exact .inr (.inr (.inr (.inr rfl)))) _).mono ?_; rintro e w9 ⟨rfl, rfl⟩; first | rw [show hasB #[97, 110] (Int.toNat 100) = false from rfl] | rw [show hasB #[97, 110] (Int.toNat 97) = true from rfl] | rw [show hasB #[97, 110] (Int.toNat 98) = false from rfl] | rw [show hasB #[97, 110] (Int.toNat 99) = false from rfl] | rw [show hasB #[97, 110] (Int.toNat 110) = true from rfl]))
      refine bodyPost_ret (v := .tuple #[cdV ⟨op, 0, aa, 0, 0, nn, u1, 0⟩, .int .i64 2, .int .i64 0]) (by simp [results, Try.results37, go_sem, zCr, r0, r1, r2, r3, r4, r5, r6, r7, lr]) rfl ⟨by rw [show okR ⟨#[97, 110], most, 2⟩ v ⟨op, 0, aa, 0, 0, nn, u1, 0⟩ = true from by simp [okR, hasB, E1.out, hq, hq2, e2]]; rfl, ?_⟩
      exact (by have hB := HX.out.bel; repeat first | with_reducible exact hB | with_reducible refine Below.setCell ?_ (by first | exact Nat.le_refl _ | (simp; done)) _ | with_reducible refine Below.alloc ?_ (by have := hB.size; first | omega | (simp; omega)) _)
  · have HE : Hid True := trivial
    have g1 : (fst ⟨op, 0, aa, 0, 0, nn, u1, 0⟩ != (v : Int)) = true := by simpa using e1
    go_wp2_with (first | (go_at_call 36; refine (first_any ⟨op, 0, aa, 0, 0, nn, u1, 0⟩ W).mono ?_; rintro e w9 ⟨rfl, rfl⟩; (try rw [HE.out])) | (go_at_call 53; refine (has_any #[97, 110] _ (.inr (.inr (.inr (.inr (.inl rfl))))) (by first | exact .inl rfl | exact .inr (.inl rfl) | exact .inr (.inr (.inl rfl)) | exact .inr (.inr (.inr (.inl rfl))) | exact .inr (.inr (.inr (.inr rfl)))) _).mono ?_; rintro e w9 ⟨rfl, rfl⟩; first | rw [show hasB #[97, 110] (Int.toNat 100) = false from rfl] | rw [show hasB #[97, 110] (Int.toNat 97) = true from rfl] | rw [show hasB #[97, 110] (Int.toNat 98) = false from rfl] | rw [show hasB #[97, 110] (Int.toNat 99) = false from rfl] | rw [show hasB #[97, 110] (Int.toNat 110) = true from rfl]))
    refine bodyPost_ret (v := .tuple #[cdV zCr, .int .i64 0, .int .i64 3]) (by simp [results, Try.results37, go_sem, zCr, r0, r1, r2, r3, r4, r5, r6, r7, lr]) rfl ⟨by rw [show okR ⟨#[97, 110], most, 2⟩ v ⟨op, 0, aa, 0, 0, nn, u1, 0⟩ = false from by simp [okR, hasB, e1]]; rfl, ?_⟩
    exact (by have hB := HX.out.bel; repeat first | with_reducible exact hB | with_reducible refine Below.setCell ?_ (by first | exact Nat.le_refl _ | (simp; done)) _ | with_reducible refine Below.alloc ?_ (by have := hB.size; first | omega | (simp; omega)) _)
set_option maxHeartbeats 4000000 in
theorem rdec_dn3t (b off len cap a p1 p2 v op u1 u2 : Nat) (most : Int) (d : Int) (nn : Int) (hfd : (v : Int) / 256 % 16 = d) (hfn : (v : Int) / 65536 = nn) (w : World) (hv : v < 4294967296) (c0 : w.cell? ⟨b, off + a, none⟩ = some (.int .u32 v)) (c1 : w.cell? ⟨b, off + p1, none⟩ = some (.int .u32 u1)) (c2 : w.cell? ⟨b, off + p2, none⟩ = some (.int .u32 u2)) (lb : b < w.heap.size) (hcap : len ≤ cap) (hl : len ≤ 140737488355328) (ha : a + 3 ≤ len) (hp1 : p1 = a + 1) (hp2 : p2 = a + 2) (hop : v % 256 = op) (hq : (op : Int) = 12) (hF : fmR (op : Int) = ⟨#[100, 110], most, 3⟩) :
    Calls Try.prog 37 #[.slice (some ⟨b, off, none⟩) len cap, .int .i64 a] w fun e w' => e = .returned (rdV (okR ⟨#[100, 110], most, 3⟩ v ⟨op, d, 0, 0, 0, nn, u1, u2⟩) ⟨op, d, 0, 0, 0, nn, u1, u2⟩ 3) ∧ Below w.heap.size w w' := by
  have a0 : (0 : Int) ≤ a := by omega
  have a1 : (a : Int) < len := by omega
  have a2 : (a : Int) ≤ len := by omega
  have a3 : (a : Int) + 3 ≤ len := by omega
  have w1 : IntKind.i64.wrap ((a : Int) + 1) = (p1 : Int) := by rw [IntWalk.i64_in _ (by omega)]; omega
  have x1 : (p1 : Int) < len := by omega
  have y1 : (0 : Int) ≤ p1 := by omega
  have w2 : IntKind.i64.wrap ((a : Int) + 2) = (p2 : Int) := by rw [IntWalk.i64_in _ (by omega)]; omega
  have x2 : (p2 : Int) < len := by omega
  have y2 : (0 : Int) ≤ p2 := by omega
  have hw3 : IntKind.i64.wrap ((len : Int) - a) = (len : Int) - a := IntWalk.i64_in _ (by omega)
  have v0 : (0 : Int) ≤ v := by omega
  have v1 : (v : Int) < 4294967296 := by omega
  have nb0 : ¬ b = w.heap.size := by omega
  have nb1 : ¬ b = w.heap.size + 1 := by omega
  have lb1 : b < w.heap.size + 1 := by omega
  have HF : Hid _ := hF
  have ho : (v : Int) % 256 = op := by omega
  have o0 : (0 : Int) ≤ op := by omega
  have o1 : (op : Int) < 256 := by omega
  have HW : Hid (IntKind.i64.wrap (op : Int) = op) := IntWalk.i64_in _ (by omega)
  have o12 : ((op : Int) == 12) = true := by simp; omega
  have o13 : ((op : Int) == 13) = false := by simp; omega
  have HQ : Hid _ := hq; clear hq
  clear hF hop hp1 hp2 ha v0 v1
  go_enter Try.func37, Try.ntmps37
  go_upto_region 26 with (first | (go_at_call 35; refine (form_any _ _).mono ?_; rintro e w9 ⟨rfl, rfl⟩; (try rw [HW.out]); rw [HF.out]) | (go_at_call 53; refine (has_any #[100, 110] _ (.inr (.inr (.inr (.inr (.inr (.inr (.inl rfl))))))) (by first | exact .inl rfl | exact .inr (.inl rfl) | exact .inr (.inr (.inl rfl)) | exact .inr (.inr (.inr (.inl rfl))) | exact .inr (.inr (.inr (.inr rfl)))) _).mono ?_; rintro e w9 ⟨rfl, rfl⟩; first | rw [show hasB #[100, 110] (Int.toNat 100) = true from rfl] | rw [show hasB #[100, 110] (Int.toNat 97) = false from rfl] | rw [show hasB #[100, 110] (Int.toNat 98) = false from rfl] | rw [show hasB #[100, 110] (Int.toNat 99) = false from rfl] | rw [show hasB #[100, 110] (Int.toNat 110) = true from rfl]))
  refine wp_gen (fun W' => RX w W' ⟨op, d, 0, 0, 0, nn, u1, u2⟩) (rx_start w ⟨op, d, 0, 0, 0, nn, u1, u2⟩) ?_
  intro W hX
  have k0 : W.cell? ⟨w.heap.size + 1, 0, none⟩ = some (.int .i64 op) := row_cell hX.b 0
  have r0 : W.cell? ⟨w.heap.size, 0, none⟩ = some (.int .i64 0) := row_cell hX.r 0
  have z0 := row_fr hX.r 0
  have k1 : W.cell? ⟨w.heap.size + 1, 1, none⟩ = some (.int .i64 d) := row_cell hX.b 1
  have r1 : W.cell? ⟨w.heap.size, 1, none⟩ = some (.int .i64 0) := row_cell hX.r 1
  have z1 := row_fr hX.r 1
  have k2 : W.cell? ⟨w.heap.size + 1, 2, none⟩ = some (.int .i64 0) := row_cell hX.b 2
  have r2 : W.cell? ⟨w.heap.size, 2, none⟩ = some (.int .i64 0) := row_cell hX.r 2
  have z2 := row_fr hX.r 2
  have k3 : W.cell? ⟨w.heap.size + 1, 3, none⟩ = some (.int .i64 0) := row_cell hX.b 3
  have r3 : W.cell? ⟨w.heap.size, 3, none⟩ = some (.int .i64 0) := row_cell hX.r 3
  have z3 := row_fr hX.r 3
  have k4 : W.cell? ⟨w.heap.size + 1, 4, none⟩ = some (.int .i64 0) := row_cell hX.b 4
  have r4 : W.cell? ⟨w.heap.size, 4, none⟩ = some (.int .i64 0) := row_cell hX.r 4
  have z4 := row_fr hX.r 4
  have k5 : W.cell? ⟨w.heap.size + 1, 5, none⟩ = some (.int .i64 nn) := row_cell hX.b 5
  have r5 : W.cell? ⟨w.heap.size, 5, none⟩ = some (.int .i64 0) := row_cell hX.r 5
  have z5 := row_fr hX.r 5
  have k6 : W.cell? ⟨w.heap.size + 1, 6, none⟩ = some (.int .u32 u1) := row_cell hX.b 6
  have r6 : W.cell? ⟨w.heap.size, 6, none⟩ = some (.int .u32 0) := row_cell hX.r 6
  have z6 := row_fr hX.r 6
  have k7 : W.cell? ⟨w.heap.size + 1, 7, none⟩ = some (.int .u32 u2) := row_cell hX.b 7
  have r7 : W.cell? ⟨w.heap.size, 7, none⟩ = some (.int .u32 0) := row_cell hX.r 7
  have z7 := row_fr hX.r 7
  have lx := row_lt hX.b
  have lr := row_lt hX.r
  have HX : Hid _ := hX
  clear hX
  by_cases e1 : fst ⟨op, d, 0, 0, 0, nn, u1, u2⟩ = v
  · have HE : Hid _ := e1
    have E1 : Hid _ := e1
    clear e1
    by_cases e2 : most ≤ nn
    · have g2 : decide (most ≤ nn) = true := decide_eq_true e2
      go_wp2_with (first | (go_at_call 36; refine (first_any ⟨op, d, 0, 0, 0, nn, u1, u2⟩ W).mono ?_; rintro e w9 ⟨rfl, rfl⟩; (try rw [HE.out])) | (go_at_call 53; refine (has_any #[100, 110] _ (.inr (.inr (.inr (.inr (.inr (.inr (.inl rfl))))))) (by first | exact .inl rfl | exact .inr (.inl rfl) | exact .inr (.inr (.inl rfl)) | exact .inr (.inr (.inr (.inl rfl))) | exact .inr (.inr (.inr (.inr rfl)))) _).mono ?_; rintro e w9 ⟨rfl, rfl⟩; first | rw [show hasB #[100, 110] (Int.toNat 100) = true from rfl] | rw [show hasB #[100, 110] (Int.toNat 97) = false from rfl] | rw [show hasB #[100, 110] (Int.toNat 98) = false from rfl] | rw [show hasB #[100, 110] (Int.toNat 99) = false from rfl] | rw [show hasB #[100, 110] (Int.toNat 110) = true from rfl]))
      refine bodyPost_ret (v := .tuple #[cdV zCr, .int .i64 0, .int .i64 3]) (by simp [results, Try.results37, go_sem, zCr, r0, r1, r2, r3, r4, r5, r6, r7, lr]) rfl ⟨by rw [show okR ⟨#[100, 110], most, 3⟩ v ⟨op, d, 0, 0, 0, nn, u1, u2⟩ = false from by unfold okR; rw [decide_eq_true E1.out]; simp [hasB, HQ.out, e2]]; rfl, ?_⟩
      exact (by have hB := HX.out.bel; repeat first | with_reducible exact hB | with_reducible refine Below.setCell ?_ (by first | exact Nat.le_refl _ | (simp; done)) _ | with_reducible refine Below.alloc ?_ (by have := hB.size; first | omega | (simp; omega)) _)
    · have g2 : decide (most ≤ nn) = false := decide_eq_false e2
      by_cases e3 : d < 1
      · have g3 : decide (d < 1) = true := decide_eq_true e3
        go_wp2_with (first | (go_at_call 36; refine (first_any ⟨op, d, 0, 0, 0, nn, u1, u2⟩ W).mono ?_; rintro e w9 ⟨rfl, rfl⟩; (try rw [HE.out])) | (go_at_call 53; refine (has_any #[100, 110] _ (.inr (.inr (.inr (.inr (.inr (.inr (.inl rfl))))))) (by first | exact .inl rfl | exact .inr (.inl rfl) | exact .inr (.inr (.inl rfl)) | exact .inr (.inr (.inr (.inl rfl))) | exact .inr (.inr (.inr (.inr rfl)))) _).mono ?_; rintro e w9 ⟨rfl, rfl⟩; first | rw [show hasB #[100, 110] (Int.toNat 100) = true from rfl] | rw [show hasB #[100, 110] (Int.toNat 97) = false from rfl] | rw [show hasB #[100, 110] (Int.toNat 98) = false from rfl] | rw [show hasB #[100, 110] (Int.toNat 99) = false from rfl] | rw [show hasB #[100, 110] (Int.toNat 110) = true from rfl]))
        refine bodyPost_ret (v := .tuple #[cdV zCr, .int .i64 0, .int .i64 3]) (by simp [results, Try.results37, go_sem, zCr, r0, r1, r2, r3, r4, r5, r6, r7, lr]) rfl ⟨by rw [show okR ⟨#[100, 110], most, 3⟩ v ⟨op, d, 0, 0, 0, nn, u1, u2⟩ = false from by unfold okR; rw [decide_eq_true E1.out]; simp [hasB, HQ.out, e2, e3]]; rfl, ?_⟩
        exact (by have hB := HX.out.bel; repeat first | with_reducible exact hB | with_reducible refine Below.setCell ?_ (by first | exact Nat.le_refl _ | (simp; done)) _ | with_reducible refine Below.alloc ?_ (by have := hB.size; first | omega | (simp; omega)) _)
      · have g3 : decide (d < 1) = false := decide_eq_false e3
        by_cases e4 : 7 < d
        · have g4 : decide (7 < d) = true := decide_eq_true e4
          go_wp2_with (first | (go_at_call 36; refine (first_any ⟨op, d, 0, 0, 0, nn, u1, u2⟩ W).mono ?_; rintro e w9 ⟨rfl, rfl⟩; (try rw [HE.out])) | (go_at_call 53; refine (has_any #[100, 110] _ (.inr (.inr (.inr (.inr (.inr (.inr (.inl rfl))))))) (by first | exact .inl rfl | exact .inr (.inl rfl) | exact .inr (.inr (.inl rfl)) | exact .inr (.inr (.inr (.inl rfl))) | exact .inr (.inr (.inr (.inr rfl)))) _).mono ?_; rintro e w9 ⟨rfl, rfl⟩; first | rw [show hasB #[100, 110] (Int.toNat 100) = true from rfl] | rw [show hasB #[100, 110] (Int.toNat 97) = false from rfl] | rw [show hasB #[100, 110] (Int.toNat 98) = false from rfl] | rw [show hasB #[100, 110] (Int.toNat 99) = false from rfl] | rw [show hasB #[100, 110] (Int.toNat 110) = true from rfl]))
          refine bodyPost_ret (v := .tuple #[cdV zCr, .int .i64 0, .int .i64 3]) (by simp [results, Try.results37, go_sem, zCr, r0, r1, r2, r3, r4, r5, r6, r7, lr]) rfl ⟨by rw [show okR ⟨#[100, 110], most, 3⟩ v ⟨op, d, 0, 0, 0, nn, u1, u2⟩ = false from by unfold okR; rw [decide_eq_true E1.out]; simp [hasB, HQ.out, e2, e4]]; rfl, ?_⟩
          exact (by have hB := HX.out.bel; repeat first | with_reducible exact hB | with_reducible refine Below.setCell ?_ (by first | exact Nat.le_refl _ | (simp; done)) _ | with_reducible refine Below.alloc ?_ (by have := hB.size; first | omega | (simp; omega)) _)
        · have g4 : decide (7 < d) = false := decide_eq_false e4
          go_wp2_with (first | (go_at_call 36; refine (first_any ⟨op, d, 0, 0, 0, nn, u1, u2⟩ W).mono ?_; rintro e w9 ⟨rfl, rfl⟩; (try rw [HE.out])) | (go_at_call 53; refine (has_any #[100, 110] _ (.inr (.inr (.inr (.inr (.inr (.inr (.inl rfl))))))) (by first | exact .inl rfl | exact .inr (.inl rfl) | exact .inr (.inr (.inl rfl)) | exact .inr (.inr (.inr (.inl rfl))) | exact .inr (.inr (.inr (.inr rfl)))) _).mono ?_; rintro e w9 ⟨rfl, rfl⟩; first | rw [show hasB #[100, 110] (Int.toNat 100) = true from rfl] | rw [show hasB #[100, 110] (Int.toNat 97) = false from rfl] | rw [show hasB #[100, 110] (Int.toNat 98) = false from rfl] | rw [show hasB #[100, 110] (Int.toNat 99) = false from rfl] | rw [show hasB #[100, 110] (Int.toNat 110) = true from rfl]))
          refine bodyPost_ret (v := .tuple #[cdV ⟨op, d, 0, 0, 0, nn, u1, u2⟩, .int .i64 3, .int .i64 0]) (by simp [results, Try.results37, go_sem, zCr, r0, r1, r2, r3, r4, r5, r6, r7, lr]) rfl ⟨by rw [show okR ⟨#[100, 110], most, 3⟩ v ⟨op, d, 0, 0, 0, nn, u1, u2⟩ = true from by unfold okR; rw [decide_eq_true E1.out]; simp [hasB, HQ.out, e2, e3, e4]]; rfl, ?_⟩
          exact (by have hB := HX.out.bel; repeat first | with_reducible exact hB | with_reducible refine Below.setCell ?_ (by first | exact Nat.le_refl _ | (simp; done)) _ | with_reducible refine Below.alloc ?_ (by have := hB.size; first | omega | (simp; omega)) _)
  · have HE : Hid True := trivial
    have g1 : (fst ⟨op, d, 0, 0, 0, nn, u1, u2⟩ != (v : Int)) = true := by simpa using e1
    go_wp2_with (first | (go_at_call 36; refine (first_any ⟨op, d, 0, 0, 0, nn, u1, u2⟩ W).mono ?_; rintro e w9 ⟨rfl, rfl⟩; (try rw [HE.out])) | (go_at_call 53; refine (has_any #[100, 110] _ (.inr (.inr (.inr (.inr (.inr (.inr (.inl rfl))))))) (by first | exact .inl rfl | exact .inr (.inl rfl) | exact .inr (.inr (.inl rfl)) | exact .inr (.inr (.inr (.inl rfl))) | exact .inr (.inr (.inr (.inr rfl)))) _).mono ?_; rintro e w9 ⟨rfl, rfl⟩; first | rw [show hasB #[100, 110] (Int.toNat 100) = true from rfl] | rw [show hasB #[100, 110] (Int.toNat 97) = false from rfl] | rw [show hasB #[100, 110] (Int.toNat 98) = false from rfl] | rw [show hasB #[100, 110] (Int.toNat 99) = false from rfl] | rw [show hasB #[100, 110] (Int.toNat 110) = true from rfl]))
    refine bodyPost_ret (v := .tuple #[cdV zCr, .int .i64 0, .int .i64 3]) (by simp [results, Try.results37, go_sem, zCr, r0, r1, r2, r3, r4, r5, r6, r7, lr]) rfl ⟨by rw [show okR ⟨#[100, 110], most, 3⟩ v ⟨op, d, 0, 0, 0, nn, u1, u2⟩ = false from by simp [okR, hasB, e1]]; rfl, ?_⟩
    exact (by have hB := HX.out.bel; repeat first | with_reducible exact hB | with_reducible refine Below.setCell ?_ (by first | exact Nat.le_refl _ | (simp; done)) _ | with_reducible refine Below.alloc ?_ (by have := hB.size; first | omega | (simp; omega)) _)
set_option maxHeartbeats 4000000 in
theorem rdec_dan2o (b off len cap a p1 p2 v op u1 u2 : Nat) (most : Int) (d : Int) (aa : Int) (nn : Int) (hfd : (v : Int) / 256 % 16 = d) (hfa : (v : Int) / 4096 % 16 = aa) (hfn : (v : Int) / 65536 = nn) (w : World) (hv : v < 4294967296) (c0 : w.cell? ⟨b, off + a, none⟩ = some (.int .u32 v)) (c1 : w.cell? ⟨b, off + p1, none⟩ = some (.int .u32 u1)) (lb : b < w.heap.size) (hcap : len ≤ cap) (hl : len ≤ 140737488355328) (ha : a + 2 ≤ len) (hp1 : p1 = a + 1) (hp2 : p2 = a + 2) (hop : v % 256 = op) (hq : (op : Int) ≠ 12) (hq2 : (op : Int) ≠ 13) (hF : fmR (op : Int) = ⟨#[100, 97, 110], most, 2⟩) :
    Calls Try.prog 37 #[.slice (some ⟨b, off, none⟩) len cap, .int .i64 a] w fun e w' => e = .returned (rdV (okR ⟨#[100, 97, 110], most, 2⟩ v ⟨op, d, aa, 0, 0, nn, u1, 0⟩) ⟨op, d, aa, 0, 0, nn, u1, 0⟩ 2) ∧ Below w.heap.size w w' := by
  have a0 : (0 : Int) ≤ a := by omega
  have a1 : (a : Int) < len := by omega
  have a2 : (a : Int) ≤ len := by omega
  have a3 : (a : Int) + 2 ≤ len := by omega
  have w1 : IntKind.i64.wrap ((a : Int) + 1) = (p1 : Int) := by rw [IntWalk.i64_in _ (by omega)]; omega
  have x1 : (p1 : Int) < len := by omega
  have y1 : (0 : Int) ≤ p1 := by omega
  have hw3 : IntKind.i64.wrap ((len : Int) - a) = (len : Int) - a := IntWalk.i64_in _ (by omega)
  have v0 : (0 : Int) ≤ v := by omega
  have v1 : (v : Int) < 4294967296 := by omega
  have nb0 : ¬ b = w.heap.size := by omega
  have nb1 : ¬ b = w.heap.size + 1 := by omega
  have lb1 : b < w.heap.size + 1 := by omega
  have HF : Hid _ := hF
  have ho : (v : Int) % 256 = op := by omega
  have o0 : (0 : Int) ≤ op := by omega
  have o1 : (op : Int) < 256 := by omega
  have HW : Hid (IntKind.i64.wrap (op : Int) = op) := IntWalk.i64_in _ (by omega)
  have o12 : ((op : Int) == 12) = false := by simp; omega
  have o13 : ((op : Int) == 13) = false := by simp; omega
  
  clear hF hop hp1 hp2 ha v0 v1
  go_enter Try.func37, Try.ntmps37
  go_upto_region 26 with (first | (go_at_call 35; refine (form_any _ _).mono ?_; rintro e w9 ⟨rfl, rfl⟩; (try rw [HW.out]); rw [HF.out]) | (go_at_call 53; refine (has_any #[100, 97, 110] _ (.inr (.inr (.inr (.inr (.inr (.inr (.inr (.inl rfl)))))))) (by first | exact .inl rfl | exact .inr (.inl rfl) | exact .inr (.inr (.inl rfl)) | exact .inr (.inr (.inr (.inl rfl))) | exact .inr (.inr (.inr (.inr rfl)))) _).mono ?_; rintro e w9 ⟨rfl, rfl⟩; first | rw [show hasB #[100, 97, 110] (Int.toNat 100) = true from rfl] | rw [show hasB #[100, 97, 110] (Int.toNat 97) = true from rfl] | rw [show hasB #[100, 97, 110] (Int.toNat 98) = false from rfl] | rw [show hasB #[100, 97, 110] (Int.toNat 99) = false from rfl] | rw [show hasB #[100, 97, 110] (Int.toNat 110) = true from rfl]))
  refine wp_gen (fun W' => RX w W' ⟨op, d, aa, 0, 0, nn, u1, 0⟩) (rx_start w ⟨op, d, aa, 0, 0, nn, u1, 0⟩) ?_
  intro W hX
  have k0 : W.cell? ⟨w.heap.size + 1, 0, none⟩ = some (.int .i64 op) := row_cell hX.b 0
  have r0 : W.cell? ⟨w.heap.size, 0, none⟩ = some (.int .i64 0) := row_cell hX.r 0
  have z0 := row_fr hX.r 0
  have k1 : W.cell? ⟨w.heap.size + 1, 1, none⟩ = some (.int .i64 d) := row_cell hX.b 1
  have r1 : W.cell? ⟨w.heap.size, 1, none⟩ = some (.int .i64 0) := row_cell hX.r 1
  have z1 := row_fr hX.r 1
  have k2 : W.cell? ⟨w.heap.size + 1, 2, none⟩ = some (.int .i64 aa) := row_cell hX.b 2
  have r2 : W.cell? ⟨w.heap.size, 2, none⟩ = some (.int .i64 0) := row_cell hX.r 2
  have z2 := row_fr hX.r 2
  have k3 : W.cell? ⟨w.heap.size + 1, 3, none⟩ = some (.int .i64 0) := row_cell hX.b 3
  have r3 : W.cell? ⟨w.heap.size, 3, none⟩ = some (.int .i64 0) := row_cell hX.r 3
  have z3 := row_fr hX.r 3
  have k4 : W.cell? ⟨w.heap.size + 1, 4, none⟩ = some (.int .i64 0) := row_cell hX.b 4
  have r4 : W.cell? ⟨w.heap.size, 4, none⟩ = some (.int .i64 0) := row_cell hX.r 4
  have z4 := row_fr hX.r 4
  have k5 : W.cell? ⟨w.heap.size + 1, 5, none⟩ = some (.int .i64 nn) := row_cell hX.b 5
  have r5 : W.cell? ⟨w.heap.size, 5, none⟩ = some (.int .i64 0) := row_cell hX.r 5
  have z5 := row_fr hX.r 5
  have k6 : W.cell? ⟨w.heap.size + 1, 6, none⟩ = some (.int .u32 u1) := row_cell hX.b 6
  have r6 : W.cell? ⟨w.heap.size, 6, none⟩ = some (.int .u32 0) := row_cell hX.r 6
  have z6 := row_fr hX.r 6
  have k7 : W.cell? ⟨w.heap.size + 1, 7, none⟩ = some (.int .u32 0) := row_cell hX.b 7
  have r7 : W.cell? ⟨w.heap.size, 7, none⟩ = some (.int .u32 0) := row_cell hX.r 7
  have z7 := row_fr hX.r 7
  have lx := row_lt hX.b
  have lr := row_lt hX.r
  have HX : Hid _ := hX
  clear hX
  by_cases e1 : fst ⟨op, d, aa, 0, 0, nn, u1, 0⟩ = v
  · have HE : Hid _ := e1
    have E1 : Hid _ := e1
    clear e1
    by_cases e2 : most ≤ nn
    · have g2 : decide (most ≤ nn) = true := decide_eq_true e2
      go_wp2_with (first | (go_at_call 36; refine (first_any ⟨op, d, aa, 0, 0, nn, u1, 0⟩ W).mono ?_; rintro e w9 ⟨rfl, rfl⟩; (try rw [HE.out])) | (go_at_call 53; refine (has_any #[100, 97, 110] _ (.inr (.inr (.inr (.inr (.inr (.inr (.inr (.inl rfl)))))))) (by first | exact .inl rfl | exact .inr (.inl rfl) | exact .inr (.inr (.inl rfl)) | exact .inr (.inr (.inr (.inl rfl))) | exact .inr (.inr (.inr (.inr rfl)))) _).mono ?_; rintro e w9 ⟨rfl, rfl⟩; first | rw [show hasB #[100, 97, 110] (Int.toNat 100) = true from rfl] | rw [show hasB #[100, 97, 110] (Int.toNat 97) = true from rfl] | rw [show hasB #[100, 97, 110] (Int.toNat 98) = false from rfl] | rw [show hasB #[100, 97, 110] (Int.toNat 99) = false from rfl] | rw [show hasB #[100, 97, 110] (Int.toNat 110) = true from rfl]))
      refine bodyPost_ret (v := .tuple #[cdV zCr, .int .i64 0, .int .i64 3]) (by simp [results, Try.results37, go_sem, zCr, r0, r1, r2, r3, r4, r5, r6, r7, lr]) rfl ⟨by rw [show okR ⟨#[100, 97, 110], most, 2⟩ v ⟨op, d, aa, 0, 0, nn, u1, 0⟩ = false from by simp [okR, hasB, E1.out, hq, hq2, e2]]; rfl, ?_⟩
      exact (by have hB := HX.out.bel; repeat first | with_reducible exact hB | with_reducible refine Below.setCell ?_ (by first | exact Nat.le_refl _ | (simp; done)) _ | with_reducible refine Below.alloc ?_ (by have := hB.size; first | omega | (simp; omega)) _)
    · have g2 : decide (most ≤ nn) = false := decide_eq_false e2
      go_wp2_with (first | (go_at_call 36; refine (first_any ⟨op, d, aa, 0, 0, nn, u1, 0⟩ W).mono ?_; rintro e w9 ⟨rfl, rfl⟩; (try rw [HE.out])) | (go_at_call 53; refine (has_any #[100, 97, 110] _ (.inr (.inr (.inr (.inr (.inr (.inr (.inr (.inl rfl)))))))) (by first | exact .inl rfl | exact .inr (.inl rfl) | exact .inr (.inr (.inl rfl)) | exact .inr (.inr (.inr (.inl rfl))) | exact .inr (.inr (.inr (.inr rfl)))) _).mono ?_; rintro e w9 ⟨rfl, rfl⟩; first | rw [show hasB #[100, 97, 110] (Int.toNat 100) = true from rfl] | rw [show hasB #[100, 97, 110] (Int.toNat 97) = true from rfl] | rw [show hasB #[100, 97, 110] (Int.toNat 98) = false from rfl] | rw [show hasB #[100, 97, 110] (Int.toNat 99) = false from rfl] | rw [show hasB #[100, 97, 110] (Int.toNat 110) = true from rfl]))
      refine bodyPost_ret (v := .tuple #[cdV ⟨op, d, aa, 0, 0, nn, u1, 0⟩, .int .i64 2, .int .i64 0]) (by simp [results, Try.results37, go_sem, zCr, r0, r1, r2, r3, r4, r5, r6, r7, lr]) rfl ⟨by rw [show okR ⟨#[100, 97, 110], most, 2⟩ v ⟨op, d, aa, 0, 0, nn, u1, 0⟩ = true from by simp [okR, hasB, E1.out, hq, hq2, e2]]; rfl, ?_⟩
      exact (by have hB := HX.out.bel; repeat first | with_reducible exact hB | with_reducible refine Below.setCell ?_ (by first | exact Nat.le_refl _ | (simp; done)) _ | with_reducible refine Below.alloc ?_ (by have := hB.size; first | omega | (simp; omega)) _)
  · have HE : Hid True := trivial
    have g1 : (fst ⟨op, d, aa, 0, 0, nn, u1, 0⟩ != (v : Int)) = true := by simpa using e1
    go_wp2_with (first | (go_at_call 36; refine (first_any ⟨op, d, aa, 0, 0, nn, u1, 0⟩ W).mono ?_; rintro e w9 ⟨rfl, rfl⟩; (try rw [HE.out])) | (go_at_call 53; refine (has_any #[100, 97, 110] _ (.inr (.inr (.inr (.inr (.inr (.inr (.inr (.inl rfl)))))))) (by first | exact .inl rfl | exact .inr (.inl rfl) | exact .inr (.inr (.inl rfl)) | exact .inr (.inr (.inr (.inl rfl))) | exact .inr (.inr (.inr (.inr rfl)))) _).mono ?_; rintro e w9 ⟨rfl, rfl⟩; first | rw [show hasB #[100, 97, 110] (Int.toNat 100) = true from rfl] | rw [show hasB #[100, 97, 110] (Int.toNat 97) = true from rfl] | rw [show hasB #[100, 97, 110] (Int.toNat 98) = false from rfl] | rw [show hasB #[100, 97, 110] (Int.toNat 99) = false from rfl] | rw [show hasB #[100, 97, 110] (Int.toNat 110) = true from rfl]))
    refine bodyPost_ret (v := .tuple #[cdV zCr, .int .i64 0, .int .i64 3]) (by simp [results, Try.results37, go_sem, zCr, r0, r1, r2, r3, r4, r5, r6, r7, lr]) rfl ⟨by rw [show okR ⟨#[100, 97, 110], most, 2⟩ v ⟨op, d, aa, 0, 0, nn, u1, 0⟩ = false from by simp [okR, hasB, e1]]; rfl, ?_⟩
    exact (by have hB := HX.out.bel; repeat first | with_reducible exact hB | with_reducible refine Below.setCell ?_ (by first | exact Nat.le_refl _ | (simp; done)) _ | with_reducible refine Below.alloc ?_ (by have := hB.size; first | omega | (simp; omega)) _)
end Go.Proofs.Ytgkkghphlbgcoaa.Ho
namespace Go.Proofs.Ytgkkghphlbgcoaa.Ho
open Go.RowKit
set_option maxRecDepth 100000
set_option linter.unusedVariables false
set_option linter.unusedSimpArgs false
set_option maxHeartbeats 4000000 in
theorem rdec_dan2h (b off len cap a p1 p2 v op u1 u2 : Nat) (most : Int) (d : Int) (aa : Int) (nn : Int) (hfd : (v : Int) / 256 % 16 = d) (hfa : (v : Int) / 4096 % 16 = aa) (hfn : (v : Int) / 65536 = nn) (w : World) (hv : v < 4294967296) (c0 : w.cell? ⟨b, off + a, none⟩ = some (.int .u32 v)) (c1 : w.cell? ⟨b, off + p1, none⟩ = some (.int .u32 u1)) (lb : b < w.heap.size) (hcap : len ≤ cap) (hl : len ≤ 140737488355328) (ha : a + 2 ≤ len) (hp1 : p1 = a + 1) (hp2 : p2 = a + 2) (hop : v % 256 = op) (hq : (op : Int) = 13) (hF : fmR (op : Int) = ⟨#[100, 97, 110], most, 2⟩) :
    Calls Try.prog 37 #[.slice (some ⟨b, off, none⟩) len cap, .int .i64 a] w fun e w' => e = .returned (rdV (okR ⟨#[100, 97, 110], most, 2⟩ v ⟨op, d, aa, 0, 0, nn, u1, 0⟩) ⟨op, d, aa, 0, 0, nn, u1, 0⟩ 2) ∧ Below w.heap.size w w' := by
  have a0 : (0 : Int) ≤ a := by omega
  have a1 : (a : Int) < len := by omega
  have a2 : (a : Int) ≤ len := by omega
  have a3 : (a : Int) + 2 ≤ len := by omega
  have w1 : IntKind.i64.wrap ((a : Int) + 1) = (p1 : Int) := by rw [IntWalk.i64_in _ (by omega)]; omega
  have x1 : (p1 : Int) < len := by omega
  have y1 : (0 : Int) ≤ p1 := by omega
  have hw3 : IntKind.i64.wrap ((len : Int) - a) = (len : Int) - a := IntWalk.i64_in _ (by omega)
  have v0 : (0 : Int) ≤ v := by omega
  have v1 : (v : Int) < 4294967296 := by omega
  have nb0 : ¬ b = w.heap.size := by omega
  have nb1 : ¬ b = w.heap.size + 1 := by omega
  have lb1 : b < w.heap.size + 1 := by omega
  have HF : Hid _ := hF
  have ho : (v : Int) % 256 = op := by omega
  have o0 : (0 : Int) ≤ op := by omega
  have o1 : (op : Int) < 256 := by omega
  have HW : Hid (IntKind.i64.wrap (op : Int) = op) := IntWalk.i64_in _ (by omega)
  have o12 : ((op : Int) == 12) = false := by simp; omega
  have o13 : ((op : Int) == 13) = true := by simp; omega
  have HQ : Hid _ := hq; clear hq
  clear hF hop hp1 hp2 ha v0 v1
  go_enter Try.func37, Try.ntmps37
  go_upto_region 26 with (first | (go_at_call 35; refine (form_any _ _).mono ?_; rintro e w9 ⟨rfl, rfl⟩; (try rw [HW.out]); rw [HF.out]) | (go_at_call 53; refine (has_any #[100, 97, 110] _ (.inr (.inr (.inr (.inr (.inr (.inr (.inr (.inl rfl)))))))) (by first | exact .inl rfl | exact .inr (.inl rfl) | exact .inr (.inr (.inl rfl)) | exact .inr (.inr (.inr (.inl rfl))) | exact .inr (.inr (.inr (.inr rfl)))) _).mono ?_; rintro e w9 ⟨rfl, rfl⟩; first | rw [show hasB #[100, 97, 110] (Int.toNat 100) = true from rfl] | rw [show hasB #[100, 97, 110] (Int.toNat 97) = true from rfl] | rw [show hasB #[100, 97, 110] (Int.toNat 98) = false from rfl] | rw [show hasB #[100, 97, 110] (Int.toNat 99) = false from rfl] | rw [show hasB #[100, 97, 110] (Int.toNat 110) = true from rfl]))
  refine wp_gen (fun W' => RX w W' ⟨op, d, aa, 0, 0, nn, u1, 0⟩) (rx_start w ⟨op, d, aa, 0, 0, nn, u1, 0⟩) ?_
  intro W hX
  have k0 : W.cell? ⟨w.heap.size + 1, 0, none⟩ = some (.int .i64 op) := row_cell hX.b 0
  have r0 : W.cell? ⟨w.heap.size, 0, none⟩ = some (.int .i64 0) := row_cell hX.r 0
  have z0 := row_fr hX.r 0
  have k1 : W.cell? ⟨w.heap.size + 1, 1, none⟩ = some (.int .i64 d) := row_cell hX.b 1
  have r1 : W.cell? ⟨w.heap.size, 1, none⟩ = some (.int .i64 0) := row_cell hX.r 1
  have z1 := row_fr hX.r 1
  have k2 : W.cell? ⟨w.heap.size + 1, 2, none⟩ = some (.int .i64 aa) := row_cell hX.b 2
  have r2 : W.cell? ⟨w.heap.size, 2, none⟩ = some (.int .i64 0) := row_cell hX.r 2
  have z2 := row_fr hX.r 2
  have k3 : W.cell? ⟨w.heap.size + 1, 3, none⟩ = some (.int .i64 0) := row_cell hX.b 3
  have r3 : W.cell? ⟨w.heap.size, 3, none⟩ = some (.int .i64 0) := row_cell hX.r 3
  have z3 := row_fr hX.r 3
  have k4 : W.cell? ⟨w.heap.size + 1, 4, none⟩ = some (.int .i64 0) := row_cell hX.b 4
  have r4 : W.cell? ⟨w.heap.size, 4, none⟩ = some (.int .i64 0) := row_cell hX.r 4
  have z4 := row_fr hX.r 4
  have k5 : W.cell? ⟨w.heap.size + 1, 5, none⟩ = some (.int .i64 nn) := row_cell hX.b 5
  have r5 : W.cell? ⟨w.heap.size, 5, none⟩ = some (.int .i64 0) := row_cell hX.r 5
  have z5 := row_fr hX.r 5
  have k6 : W.cell? ⟨w.heap.size + 1, 6, none⟩ = some (.int .u32 u1) := row_cell hX.b 6
  have r6 : W.cell? ⟨w.heap.size, 6, none⟩ = some (.int .u32 0) := row_cell hX.r 6
  have z6 := row_fr hX.r 6
  have k7 : W.cell? ⟨w.heap.size + 1, 7, none⟩ = some (.int .u32 0) := row_cell hX.b 7
  have r7 : W.cell? ⟨w.heap.size, 7, none⟩ = some (.int .u32 0) := row_cell hX.r 7
  have z7 := row_fr hX.r 7
  have lx := row_lt hX.b
  have lr := row_lt hX.r
  have HX : Hid _ := hX
  clear hX
  by_cases e1 : fst ⟨op, d, aa, 0, 0, nn, u1, 0⟩ = v
  · have HE : Hid _ := e1
    have E1 : Hid _ := e1
    clear e1
    by_cases e2 : most ≤ nn
    · have g2 : decide (most ≤ nn) = true := decide_eq_true e2
      go_wp2_with (first | (go_at_call 36; refine (first_any ⟨op, d, aa, 0, 0, nn, u1, 0⟩ W).mono ?_; rintro e w9 ⟨rfl, rfl⟩; (try rw [HE.out])) | (go_at_call 53; refine (has_any #[100, 97, 110] _ (.inr (.inr (.inr (.inr (.inr (.inr (.inr (.inl rfl)))))))) (by first | exact .inl rfl | exact .inr (.inl rfl) | exact .inr (.inr (.inl rfl)) | exact .inr (.inr (.inr (.inl rfl))) | exact .inr (.inr (.inr (.inr rfl)))) _).mono ?_; rintro e w9 ⟨rfl, rfl⟩; first | rw [show hasB #[100, 97, 110] (Int.toNat 100) = true from rfl] | rw [show hasB #[100, 97, 110] (Int.toNat 97) = true from rfl] | rw [show hasB #[100, 97, 110] (Int.toNat 98) = false from rfl] | rw [show hasB #[100, 97, 110] (Int.toNat 99) = false from rfl] | rw [show hasB #[100, 97, 110] (Int.toNat 110) = true from rfl]))
      refine bodyPost_ret (v := .tuple #[cdV zCr, .int .i64 0, .int .i64 3]) (by simp [results, Try.results37, go_sem, zCr, r0, r1, r2, r3, r4, r5, r6, r7, lr]) rfl ⟨by rw [show okR ⟨#[100, 97, 110], most, 2⟩ v ⟨op, d, aa, 0, 0, nn, u1, 0⟩ = false from by unfold okR; rw [decide_eq_true E1.out]; simp [hasB, HQ.out, e2]]; rfl, ?_⟩
      exact (by have hB := HX.out.bel; repeat first | with_reducible exact hB | with_reducible refine Below.setCell ?_ (by first | exact Nat.le_refl _ | (simp; done)) _ | with_reducible refine Below.alloc ?_ (by have := hB.size; first | omega | (simp; omega)) _)
    · have g2 : decide (most ≤ nn) = false := decide_eq_false e2
      by_cases e3 : d < 1
      · have g3 : decide (d < 1) = true := decide_eq_true e3
        go_wp2_with (first | (go_at_call 36; refine (first_any ⟨op, d, aa, 0, 0, nn, u1, 0⟩ W).mono ?_; rintro e w9 ⟨rfl, rfl⟩; (try rw [HE.out])) | (go_at_call 53; refine (has_any #[100, 97, 110] _ (.inr (.inr (.inr (.inr (.inr (.inr (.inr (.inl rfl)))))))) (by first | exact .inl rfl | exact .inr (.inl rfl) | exact .inr (.inr (.inl rfl)) | exact .inr (.inr (.inr (.inl rfl))) | exact .inr (.inr (.inr (.inr rfl)))) _).mono ?_; rintro e w9 ⟨rfl, rfl⟩; first | rw [show hasB #[100, 97, 110] (Int.toNat 100) = true from rfl] | rw [show hasB #[100, 97, 110] (Int.toNat 97) = true from rfl] | rw [show hasB #[100, 97, 110] (Int.toNat 98) = false from rfl] | rw [show hasB #[100, 97, 110] (Int.toNat 99) = false from rfl] | rw [show hasB #[100, 97, 110] (Int.toNat 110) = true from rfl]))
        refine bodyPost_ret (v := .tuple #[cdV zCr, .int .i64 0, .int .i64 3]) (by simp [results, Try.results37, go_sem, zCr, r0, r1, r2, r3, r4, r5, r6, r7, lr]) rfl ⟨by rw [show okR ⟨#[100, 97, 110], most, 2⟩ v ⟨op, d, aa, 0, 0, nn, u1, 0⟩ = false from by unfold okR; rw [decide_eq_true E1.out]; simp [hasB, HQ.out, e2, e3]]; rfl, ?_⟩
        exact (by have hB := HX.out.bel; repeat first | with_reducible exact hB | with_reducible refine Below.setCell ?_ (by first | exact Nat.le_refl _ | (simp; done)) _ | with_reducible refine Below.alloc ?_ (by have := hB.size; first | omega | (simp; omega)) _)
      · have g3 : decide (d < 1) = false := decide_eq_false e3
        by_cases e4 : 7 < d
        · have g4 : decide (7 < d) = true := decide_eq_true e4
          go_wp2_with (first | (go_at_call 36; refine (first_any ⟨op, d, aa, 0, 0, nn, u1, 0⟩ W).mono ?_; rintro e w9 ⟨rfl, rfl⟩; (try rw [HE.out])) | (go_at_call 53; refine (has_any #[100, 97, 110] _ (.inr (.inr (.inr (.inr (.inr (.inr (.inr (.inl rfl)))))))) (by first | exact .inl rfl | exact .inr (.inl rfl) | exact .inr (.inr (.inl rfl)) | exact .inr (.inr (.inr (.inl rfl))) | exact .inr (.inr (.inr (.inr rfl)))) _).mono ?_; rintro e w9 ⟨rfl, rfl⟩; first | rw [show hasB #[100, 97, 110] (Int.toNat 100) = true from rfl] | rw [show hasB #[100, 97, 110] (Int.toNat 97) = true from rfl] | rw [show hasB #[100, 97, 110] (Int.toNat 98) = false from rfl] | rw [show hasB #[100, 97, 110] (Int.toNat 99) = false from rfl] | rw [show hasB #[100, 97, 110] (Int.toNat 110) = true from rfl]))
          refine bodyPost_ret (v := .tuple #[cdV zCr, .int .i64 0, .int .i64 3]) (by simp [results, Try.results37, go_sem, zCr, r0, r1, r2, r3, r4, r5, r6, r7, lr]) rfl ⟨by rw [show okR ⟨#[100, 97, 110], most, 2⟩ v ⟨op, d, aa, 0, 0, nn, u1, 0⟩ = false from by unfold okR; rw [decide_eq_true E1.out]; simp [hasB, HQ.out, e2, e4]]; rfl, ?_⟩
          exact (by have hB := HX.out.bel; repeat first | with_reducible exact hB | with_reducible refine Below.setCell ?_ (by first | exact Nat.le_refl _ | (simp; done)) _ | with_reducible refine Below.alloc ?_ (by have := hB.size; first | omega | (simp; omega)) _)
        · have g4 : decide (7 < d) = false := decide_eq_false e4
          go_wp2_with (first | (go_at_call 36; refine (first_any ⟨op, d, aa, 0, 0, nn, u1, 0⟩ W).mono ?_; rintro e w9 ⟨rfl, rfl⟩; (try rw [HE.out])) | (go_at_call 53; refine (has_any #[100, 97, 110] _ (.inr (.inr (.inr (.inr (.inr (.inr (.inr (.inl rfl)))))))) (by first | exact .inl rfl | exact .inr (.inl rfl) | exact .inr (.inr (.inl rfl)) | exact .inr (.inr (.inr (.inl rfl))) | exact .inr (.inr (.inr (.inr rfl)))) _).mono ?_; rintro e w9 ⟨rfl, rfl⟩; first | rw [show hasB #[100, 97, 110] (Int.toNat 100) = true from rfl] | rw [show hasB #[100, 97, 110] (Int.toNat 97) = true from rfl] | rw [show hasB #[100, 97, 110] (Int.toNat 98) = false from rfl] | rw [show hasB #[100, 97, 110] (Int.toNat 99) = false from rfl] | rw [show hasB #[100, 97, 110] (Int.toNat 110) = true from rfl]))
          refine bodyPost_ret (v := .tuple #[cdV ⟨op, d, aa, 0, 0, nn, u1, 0⟩, .int .i64 2, .int .i64 0]) (by simp [results, Try.results37, go_sem, zCr, r0, r1, r2, r3, r4, r5, r6, r7, lr]) rfl ⟨by rw [show okR ⟨#[100, 97, 110], most, 2⟩ v ⟨op, d, aa, 0, 0, nn, u1, 0⟩ = true from by unfold okR; rw [decide_eq_true E1.out]; simp [hasB, HQ.out, e2, e3, e4]]; rfl, ?_⟩
          exact (by have hB := HX.out.bel; repeat first | with_reducible exact hB | with_reducible refine Below.setCell ?_ (by first | exact Nat.le_refl _ | (simp; done)) _ | with_reducible refine Below.alloc ?_ (by have := hB.size; first | omega | (simp; omega)) _)
  · have HE : Hid True := trivial
    have g1 : (fst ⟨op, d, aa, 0, 0, nn, u1, 0⟩ != (v : Int)) = true := by simpa using e1
    go_wp2_with (first | (go_at_call 36; refine (first_any ⟨op, d, aa, 0, 0, nn, u1, 0⟩ W).mono ?_; rintro e w9 ⟨rfl, rfl⟩; (try rw [HE.out])) | (go_at_call 53; refine (has_any #[100, 97, 110] _ (.inr (.inr (.inr (.inr (.inr (.inr (.inr (.inl rfl)))))))) (by first | exact .inl rfl | exact .inr (.inl rfl) | exact .inr (.inr (.inl rfl)) | exact .inr (.inr (.inr (.inl rfl))) | exact .inr (.inr (.inr (.inr rfl)))) _).mono ?_; rintro e w9 ⟨rfl, rfl⟩; first | rw [show hasB #[100, 97, 110] (Int.toNat 100) = true from rfl] | rw [show hasB #[100, 97, 110] (Int.toNat 97) = true from rfl] | rw [show hasB #[100, 97, 110] (Int.toNat 98) = false from rfl] | rw [show hasB #[100, 97, 110] (Int.toNat 99) = false from rfl] | rw [show hasB #[100, 97, 110] (Int.toNat 110) = true from rfl]))
    refine bodyPost_ret (v := .tuple #[cdV zCr, .int .i64 0, .int .i64 3]) (by simp [results, Try.results37, go_sem, zCr, r0, r1, r2, r3, r4, r5, r6, r7, lr]) rfl ⟨by rw [show okR ⟨#[100, 97, 110], most, 2⟩ v ⟨op, d, aa, 0, 0, nn, u1, 0⟩ = false from by simp [okR, hasB, e1]]; rfl, ?_⟩
    exact (by have hB := HX.out.bel; repeat first | with_reducible exact hB | with_reducible refine Below.setCell ?_ (by first | exact Nat.le_refl _ | (simp; done)) _ | with_reducible refine Below.alloc ?_ (by have := hB.size; first | omega | (simp; omega)) _)
set_option maxHeartbeats 4000000 in
theorem rdec_dab1o (b off len cap a p1 p2 v op u1 u2 : Nat) (most : Int) (d : Int) (aa : Int) (bb : Int) (hfd : (v : Int) / 256 % 16 = d) (hfa : (v : Int) / 4096 % 16 = aa) (hfb : (v : Int) / 65536 % 16 = bb) (w : World) (hv : v < 4294967296) (c0 : w.cell? ⟨b, off + a, none⟩ = some (.int .u32 v)) (lb : b < w.heap.size) (hcap : len ≤ cap) (hl : len ≤ 140737488355328) (ha : a + 1 ≤ len) (hp1 : p1 = a + 1) (hp2 : p2 = a + 2) (hop : v % 256 = op) (hq : (op : Int) ≠ 12) (hq2 : (op : Int) ≠ 13) (hF : fmR (op : Int) = ⟨#[100, 97, 98], most, 1⟩) :
    Calls Try.prog 37 #[.slice (some ⟨b, off, none⟩) len cap, .int .i64 a] w fun e w' => e = .returned (rdV (okR ⟨#[100, 97, 98], most, 1⟩ v ⟨op, d, aa, bb, 0, 0, 0, 0⟩) ⟨op, d, aa, bb, 0, 0, 0, 0⟩ 1) ∧ Below w.heap.size w w' := by
  have a0 : (0 : Int) ≤ a := by omega
  have a1 : (a : Int) < len := by omega
  have a2 : (a : Int) ≤ len := by omega
  have a3 : (a : Int) + 1 ≤ len := by omega
  have hw3 : IntKind.i64.wrap ((len : Int) - a) = (len : Int) - a := IntWalk.i64_in _ (by omega)
  have v0 : (0 : Int) ≤ v := by omega
  have v1 : (v : Int) < 4294967296 := by omega
  have nb0 : ¬ b = w.heap.size := by omega
  have nb1 : ¬ b = w.heap.size + 1 := by omega
  have lb1 : b < w.heap.size + 1 := by omega
  have HF : Hid _ := hF
  have ho : (v : Int) % 256 = op := by omega
  have o0 : (0 : Int) ≤ op := by omega
  have o1 : (op : Int) < 256 := by omega
  have HW : Hid (IntKind.i64.wrap (op : Int) = op) := IntWalk.i64_in _ (by omega)
  have o12 : ((op : Int) == 12) = false := by simp; omega
  have o13 : ((op : Int) == 13) = false := by simp; omega
  
  clear hF hop hp1 hp2 ha v0 v1
  go_enter Try.func37, Try.ntmps37
  go_upto_region 26 with (first | (go_at_call 35; refine (form_any _ _).mono ?_; rintro e w9 ⟨rfl, rfl⟩; (try rw [HW.out]); rw [HF.out]) | (go_at_call 53; refine (has_any #[100, 97, 98] _ (.inr (.inr (.inr (.inr (.inr (.inr (.inr (.inr (rfl))))))))) (by first | exact .inl rfl | exact .inr (.inl rfl) | exact .inr (.inr (.inl rfl)) | exact .inr (.inr (.inr (.inl rfl))) | exact .inr (.inr (.inr (.inr rfl)))) _).mono ?_; rintro e w9 ⟨rfl, rfl⟩; first | rw [show hasB #[100, 97, 98] (Int.toNat 100) = true from rfl] | rw [show hasB #[100, 97, 98] (Int.toNat 97) = true from rfl] | rw [show hasB #[100, 97, 98] (Int.toNat 98) = true from rfl] | rw [show hasB #[100, 97, 98] (Int.toNat 99) = false from rfl] | rw [show hasB #[100, 97, 98] (Int.toNat 110) = false from rfl]))
  refine wp_gen (fun W' => RX w W' ⟨op, d, aa, bb, 0, 0, 0, 0⟩) (rx_start w ⟨op, d, aa, bb, 0, 0, 0, 0⟩) ?_
  intro W hX
  have k0 : W.cell? ⟨w.heap.size + 1, 0, none⟩ = some (.int .i64 op) := row_cell hX.b 0
  have r0 : W.cell? ⟨w.heap.size, 0, none⟩ = some (.int .i64 0) := row_cell hX.r 0
  have z0 := row_fr hX.r 0
  have k1 : W.cell? ⟨w.heap.size + 1, 1, none⟩ = some (.int .i64 d) := row_cell hX.b 1
  have r1 : W.cell? ⟨w.heap.size, 1, none⟩ = some (.int .i64 0) := row_cell hX.r 1
  have z1 := row_fr hX.r 1
  have k2 : W.cell? ⟨w.heap.size + 1, 2, none⟩ = some (.int .i64 aa) := row_cell hX.b 2
  have r2 : W.cell? ⟨w.heap.size, 2, none⟩ = some (.int .i64 0) := row_cell hX.r 2
  have z2 := row_fr hX.r 2
  have k3 : W.cell? ⟨w.heap.size + 1, 3, none⟩ = some (.int .i64 bb) := row_cell hX.b 3
  have r3 : W.cell? ⟨w.heap.size, 3, none⟩ = some (.int .i64 0) := row_cell hX.r 3
  have z3 := row_fr hX.r 3
  have k4 : W.cell? ⟨w.heap.size + 1, 4, none⟩ = some (.int .i64 0) := row_cell hX.b 4
  have r4 : W.cell? ⟨w.heap.size, 4, none⟩ = some (.int .i64 0) := row_cell hX.r 4
  have z4 := row_fr hX.r 4
  have k5 : W.cell? ⟨w.heap.size + 1, 5, none⟩ = some (.int .i64 0) := row_cell hX.b 5
  have r5 : W.cell? ⟨w.heap.size, 5, none⟩ = some (.int .i64 0) := row_cell hX.r 5
  have z5 := row_fr hX.r 5
  have k6 : W.cell? ⟨w.heap.size + 1, 6, none⟩ = some (.int .u32 0) := row_cell hX.b 6
  have r6 : W.cell? ⟨w.heap.size, 6, none⟩ = some (.int .u32 0) := row_cell hX.r 6
  have z6 := row_fr hX.r 6
  have k7 : W.cell? ⟨w.heap.size + 1, 7, none⟩ = some (.int .u32 0) := row_cell hX.b 7
  have r7 : W.cell? ⟨w.heap.size, 7, none⟩ = some (.int .u32 0) := row_cell hX.r 7
  have z7 := row_fr hX.r 7
  have lx := row_lt hX.b
  have lr := row_lt hX.r
  have HX : Hid _ := hX
  clear hX
  by_cases e1 : fst ⟨op, d, aa, bb, 0, 0, 0, 0⟩ = v
  · have HE : Hid _ := e1
    have E1 : Hid _ := e1
    clear e1
    go_wp2_with (first | (go_at_call 36; refine (first_any ⟨op, d, aa, bb, 0, 0, 0, 0⟩ W).mono ?_; rintro e w9 ⟨rfl, rfl⟩; (try rw [HE.out])) | (go_at_call 53; refine (has_any #[100, 97, 98] _ (.inr (.inr (.inr (.inr (.inr (.inr (.inr (.inr (rfl))))))))) (by first | exact .inl rfl | exact .inr (.inl rfl) | exact .inr (.inr (.inl rfl)) | exact .inr (.inr (.inr (.inl rfl))) | exact .inr (.inr (.inr (.inr rfl)))) _).mono ?_; rintro e w9 ⟨rfl, rfl⟩; first | rw [show hasB #[100, 97, 98] (Int.toNat 100) = true from rfl] | rw [show hasB #[100, 97, 98] (Int.toNat 97) = true from rfl] | rw [show hasB #[100, 97, 98] (Int.toNat 98) = true from rfl] | rw [show hasB #[100, 97, 98] (Int.toNat 99) = false from rfl] | rw [show hasB #[100, 97, 98] (Int.toNat 110) = false from rfl]))
    refine bodyPost_ret (v := .tuple #[cdV ⟨op, d, aa, bb, 0, 0, 0, 0⟩, .int .i64 1, .int .i64 0]) (by simp [results, Try.results37, go_sem, zCr, r0, r1, r2, r3, r4, r5, r6, r7, lr]) rfl ⟨by rw [show okR ⟨#[100, 97, 98], most, 1⟩ v ⟨op, d, aa, bb, 0, 0, 0, 0⟩ = true from by simp [okR, hasB, E1.out, hq, hq2]]; rfl, ?_⟩
    exact (by have hB := HX.out.bel; repeat first | with_reducible exact hB | with_reducible refine Below.setCell ?_ (by first | exact Nat.le_refl _ | (simp; done)) _ | with_reducible refine Below.alloc ?_ (by have := hB.size; first | omega | (simp; omega)) _)
  · have HE : Hid True := trivial
    have g1 : (fst ⟨op, d, aa, bb, 0, 0, 0, 0⟩ != (v : Int)) = true := by simpa using e1
    go_wp2_with (first | (go_at_call 36; refine (first_any ⟨op, d, aa, bb, 0, 0, 0, 0⟩ W).mono ?_; rintro e w9 ⟨rfl, rfl⟩; (try rw [HE.out])) | (go_at_call 53; refine (has_any #[100, 97, 98] _ (.inr (.inr (.inr (.inr (.inr (.inr (.inr (.inr (rfl))))))))) (by first | exact .inl rfl | exact .inr (.inl rfl) | exact .inr (.inr (.inl rfl)) | exact .inr (.inr (.inr (.inl rfl))) | exact .inr (.inr (.inr (.inr rfl)))) _).mono ?_; rintro e w9 ⟨rfl, rfl⟩; first | rw [show hasB #[100, 97, 98] (Int.toNat 100) = true from rfl] | rw [show hasB #[100, 97, 98] (Int.toNat 97) = true from rfl] | rw [show hasB #[100, 97, 98] (Int.toNat 98) = true from rfl] | rw [show hasB #[100, 97, 98] (Int.toNat 99) = false from rfl] | rw [show hasB #[100, 97, 98] (Int.toNat 110) = false from rfl]))
    refine bodyPost_ret (v := .tuple #[cdV zCr, .int .i64 0, .int .i64 3]) (by simp [results, Try.results37, go_sem, zCr, r0, r1, r2, r3, r4, r5, r6, r7, lr]) rfl ⟨by rw [show okR ⟨#[100, 97, 98], most, 1⟩ v ⟨op, d, aa, bb, 0, 0, 0, 0⟩ = false from by simp [okR, hasB, e1]]; rfl, ?_⟩
    exact (by have hB := HX.out.bel; repeat first | with_reducible exact hB | with_reducible refine Below.setCell ?_ (by first | exact Nat.le_refl _ | (simp; done)) _ | with_reducible refine Below.alloc ?_ (by have := hB.size; first | omega | (simp; omega)) _)
set_option maxHeartbeats 4000000 in
theorem rdec_d1o (b off len cap a p1 p2 v op u1 u2 : Nat) (most : Int) (d : Int) (hfd : (v : Int) / 256 % 16 = d) (w : World) (hv : v < 4294967296) (c0 : w.cell? ⟨b, off + a, none⟩ = some (.int .u32 v)) (lb : b < w.heap.size) (hcap : len ≤ cap) (hl : len ≤ 140737488355328) (ha : a + 1 ≤ len) (hp1 : p1 = a + 1) (hp2 : p2 = a + 2) (hop : v % 256 = op) (hq : (op : Int) ≠ 12) (hq2 : (op : Int) ≠ 13) (hF : fmR (op : Int) = ⟨#[100], most, 1⟩) :
    Calls Try.prog 37 #[.slice (some ⟨b, off, none⟩) len cap, .int .i64 a] w fun e w' => e = .returned (rdV (okR ⟨#[100], most, 1⟩ v ⟨op, d, 0, 0, 0, 0, 0, 0⟩) ⟨op, d, 0, 0, 0, 0, 0, 0⟩ 1) ∧ Below w.heap.size w w' := by
  have a0 : (0 : Int) ≤ a := by omega
  have a1 : (a : Int) < len := by omega
  have a2 : (a : Int) ≤ len := by omega
  have a3 : (a : Int) + 1 ≤ len := by omega
  have hw3 : IntKind.i64.wrap ((len : Int) - a) = (len : Int) - a := IntWalk.i64_in _ (by omega)
  have v0 : (0 : Int) ≤ v := by omega
  have v1 : (v : Int) < 4294967296 := by omega
  have nb0 : ¬ b = w.heap.size := by omega
  have nb1 : ¬ b = w.heap.size + 1 := by omega
  have lb1 : b < w.heap.size + 1 := by omega
  have HF : Hid _ := hF
  have ho : (v : Int) % 256 = op := by omega
  have o0 : (0 : Int) ≤ op := by omega
  have o1 : (op : Int) < 256 := by omega
  have HW : Hid (IntKind.i64.wrap (op : Int) = op) := IntWalk.i64_in _ (by omega)
  have o12 : ((op : Int) == 12) = false := by simp; omega
  have o13 : ((op : Int) == 13) = false := by simp; omega
  
  clear hF hop hp1 hp2 ha v0 v1
  go_enter Try.func37, Try.ntmps37
  go_upto_region 26 with (first | (go_at_call 35; refine (form_any _ _).mono ?_; rintro e w9 ⟨rfl, rfl⟩; (try rw [HW.out]); rw [HF.out]) | (go_at_call 53; refine (has_any #[100] _ (.inr (.inr (.inl rfl))) (by first | exact .inl rfl | exact .inr (.inl rfl) | exact .inr (.inr (.inl rfl)) | exact .inr (.inr (.inr (.inl rfl))) | exact .inr (.inr (.inr (.inr rfl)))) _).mono ?_; rintro e w9 ⟨rfl, rfl⟩; first | rw [show hasB #[100] (Int.toNat 100) = true from rfl] | rw [show hasB #[100] (Int.toNat 97) = false from rfl] | rw [show hasB #[100] (Int.toNat 98) = false from rfl] | rw [show hasB #[100] (Int.toNat 99) = false from rfl] | rw [show hasB #[100] (Int.toNat 110) = false from rfl]))
  refine wp_gen (fun W' => RX w W' ⟨op, d, 0, 0, 0, 0, 0, 0⟩) (rx_start w ⟨op, d, 0, 0, 0, 0, 0, 0⟩) ?_
  intro W hX
  have k0 : W.cell? ⟨w.heap.size + 1, 0, none⟩ = some (.int .i64 op) := row_cell hX.b 0
  have r0 : W.cell? ⟨w.heap.size, 0, none⟩ = some (.int .i64 0) := row_cell hX.r 0
  have z0 := row_fr hX.r 0
  have k1 : W.cell? ⟨w.heap.size + 1, 1, none⟩ = some (.int .i64 d) := row_cell hX.b 1
  have r1 : W.cell? ⟨w.heap.size, 1, none⟩ = some (.int .i64 0) := row_cell hX.r 1
  have z1 := row_fr hX.r 1
  have k2 : W.cell? ⟨w.heap.size + 1, 2, none⟩ = some (.int .i64 0) := row_cell hX.b 2
  have r2 : W.cell? ⟨w.heap.size, 2, none⟩ = some (.int .i64 0) := row_cell hX.r 2
  have z2 := row_fr hX.r 2
  have k3 : W.cell? ⟨w.heap.size + 1, 3, none⟩ = some (.int .i64 0) := row_cell hX.b 3
  have r3 : W.cell? ⟨w.heap.size, 3, none⟩ = some (.int .i64 0) := row_cell hX.r 3
  have z3 := row_fr hX.r 3
  have k4 : W.cell? ⟨w.heap.size + 1, 4, none⟩ = some (.int .i64 0) := row_cell hX.b 4
  have r4 : W.cell? ⟨w.heap.size, 4, none⟩ = some (.int .i64 0) := row_cell hX.r 4
  have z4 := row_fr hX.r 4
  have k5 : W.cell? ⟨w.heap.size + 1, 5, none⟩ = some (.int .i64 0) := row_cell hX.b 5
  have r5 : W.cell? ⟨w.heap.size, 5, none⟩ = some (.int .i64 0) := row_cell hX.r 5
  have z5 := row_fr hX.r 5
  have k6 : W.cell? ⟨w.heap.size + 1, 6, none⟩ = some (.int .u32 0) := row_cell hX.b 6
  have r6 : W.cell? ⟨w.heap.size, 6, none⟩ = some (.int .u32 0) := row_cell hX.r 6
  have z6 := row_fr hX.r 6
  have k7 : W.cell? ⟨w.heap.size + 1, 7, none⟩ = some (.int .u32 0) := row_cell hX.b 7
  have r7 : W.cell? ⟨w.heap.size, 7, none⟩ = some (.int .u32 0) := row_cell hX.r 7
  have z7 := row_fr hX.r 7
  have lx := row_lt hX.b
  have lr := row_lt hX.r
  have HX : Hid _ := hX
  clear hX
  by_cases e1 : fst ⟨op, d, 0, 0, 0, 0, 0, 0⟩ = v
  · have HE : Hid _ := e1
    have E1 : Hid _ := e1
    clear e1
    go_wp2_with (first | (go_at_call 36; refine (first_any ⟨op, d, 0, 0, 0, 0, 0, 0⟩ W).mono ?_; rintro e w9 ⟨rfl, rfl⟩; (try rw [HE.out])) | (go_at_call 53; refine (has_any #[100] _ (.inr (.inr (.inl rfl))) (by first | exact .inl rfl | exact .inr (.inl rfl) | exact .inr (.inr (.inl rfl)) | exact .inr (.inr (.inr (.inl rfl))) | exact .inr (.inr (.inr (.inr rfl)))) _).mono ?_; rintro e w9 ⟨rfl, rfl⟩; first | rw [show hasB #[100] (Int.toNat 100) = true from rfl] | rw [show hasB #[100] (Int.toNat 97) = false from rfl] | rw [show hasB #[100] (Int.toNat 98) = false from rfl] | rw [show hasB #[100] (Int.toNat 99) = false from rfl] | rw [show hasB #[100] (Int.toNat 110) = false from rfl]))
    refine bodyPost_ret (v := .tuple #[cdV ⟨op, d, 0, 0, 0, 0, 0, 0⟩, .int .i64 1, .int .i64 0]) (by simp [results, Try.results37, go_sem, zCr, r0, r1, r2, r3, r4, r5, r6, r7, lr]) rfl ⟨by rw [show okR ⟨#[100], most, 1⟩ v ⟨op, d, 0, 0, 0, 0, 0, 0⟩ = true from by simp [okR, hasB, E1.out, hq, hq2]]; rfl, ?_⟩
    exact (by have hB := HX.out.bel; repeat first | with_reducible exact hB | with_reducible refine Below.setCell ?_ (by first | exact Nat.le_refl _ | (simp; done)) _ | with_reducible refine Below.alloc ?_ (by have := hB.size; first | omega | (simp; omega)) _)
  · have HE : Hid True := trivial
    have g1 : (fst ⟨op, d, 0, 0, 0, 0, 0, 0⟩ != (v : Int)) = true := by simpa using e1
    go_wp2_with (first | (go_at_call 36; refine (first_any ⟨op, d, 0, 0, 0, 0, 0, 0⟩ W).mono ?_; rintro e w9 ⟨rfl, rfl⟩; (try rw [HE.out])) | (go_at_call 53; refine (has_any #[100] _ (.inr (.inr (.inl rfl))) (by first | exact .inl rfl | exact .inr (.inl rfl) | exact .inr (.inr (.inl rfl)) | exact .inr (.inr (.inr (.inl rfl))) | exact .inr (.inr (.inr (.inr rfl)))) _).mono ?_; rintro e w9 ⟨rfl, rfl⟩; first | rw [show hasB #[100] (Int.toNat 100) = true from rfl] | rw [show hasB #[100] (Int.toNat 97) = false from rfl] | rw [show hasB #[100] (Int.toNat 98) = false from rfl] | rw [show hasB #[100] (Int.toNat 99) = false from rfl] | rw [show hasB #[100] (Int.toNat 110) = false from rfl]))
    refine bodyPost_ret (v := .tuple #[cdV zCr, .int .i64 0, .int .i64 3]) (by simp [results, Try.results37, go_sem, zCr, r0, r1, r2, r3, r4, r5, r6, r7, lr]) rfl ⟨by rw [show okR ⟨#[100], most, 1⟩ v ⟨op, d, 0, 0, 0, 0, 0, 0⟩ = false from by simp [okR, hasB, e1]]; rfl, ?_⟩
    exact (by have hB := HX.out.bel; repeat first | with_reducible exact hB | with_reducible refine Below.setCell ?_ (by first | exact Nat.le_refl _ | (simp; done)) _ | with_reducible refine Below.alloc ?_ (by have := hB.size; first | omega | (simp; omega)) _)
end Go.Proofs.Ytgkkghphlbgcoaa.Ho
