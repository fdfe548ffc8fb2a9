import Derived.Test.YtjmffijdojeghaaLM
namespace Go.Proofs.Ytjmffijdojeghaa
open Go.RowKit
set_option maxRecDepth 100000
set_option linter.unusedVariables false
set_option linter.unusedSimpArgs false
set_option maxHeartbeats 4000000 in
theorem do27 (k : BK) (U : Nat) (x : XI) (l : List OpR) (m : Int)  (w : World) (h : TU w k U x l) (hm : Ln l m) (hmx : m + 160 < 90000) (hd : 0 ≤ x.done ∧ x.done ≤ 64) (hO : 0 ≤ x.O ∧ x.O < 16) (hop : x.op = 27) :
    Calls Try.prog 111 #[.pointer (some ⟨U, 0, none⟩)] w fun e w' => e = .returned (.tuple #[]) ∧ Em w w' k U x ((l ++ [⟨2, x.S, 0, 0, 0, 0, 0⟩]) ++ reckOps x.O.toNat x.D (m) x.pc x.done (m + 1)) := by
  obtain ⟨u0, u1, u2, u3, u4, u5, u6, u7, u8, u9⟩ := h.cells
  have lU := row_lt h.bU
  have HNx : Hid (w.heap.size ≠ k.B) := show w.heap.size ≠ k.B by have := h.ltB; omega
  have HPx0 : Hid ((w.alloc (.cells #[.int .i64 x.op, .int .i64 x.D, .int .i64 x.S, .int .i64 x.O, .int .u32 x.im] 26)).heap[w.heap.size]? = some (.cells #[.int .i64 x.op, .int .i64 x.D, .int .i64 x.S, .int .i64 x.O, .int .u32 x.im] 26)) := heap_alloc_last w _
  have HDN : Hid _ := hd
  have HMX : Hid (m + 160 < 90000) := hmx
  have HWR : Hid (IntKind.i64.wrap (x.done + 1) = x.done + 1) := wrap_done x.done hd.1 hd.2
  have HOO : Hid _ := hO
  clear hO
  have HOP : Hid _ := hop
  have k1 : (x.op == 1) = false := by simp [hop]
  have k5 : (x.op == 5) = false := by simp [hop]
  have k6 : (x.op == 6) = false := by simp [hop]
  have k7 : (x.op == 7) = false := by simp [hop]
  have k12 : (x.op == 12) = false := by simp [hop]
  have k13 : (x.op == 13) = false := by simp [hop]
  have k9 : (x.op == 9) = false := by simp [hop]
  have k11 : (x.op == 11) = false := by simp [hop]
  have k14 : (x.op == 14) = false := by simp [hop]
  have k3 : (x.op == 3) = false := by simp [hop]
  have k8 : (x.op == 8) = false := by simp [hop]
  have k10 : (x.op == 10) = false := by simp [hop]
  have k15 : (x.op == 15) = false := by simp [hop]
  have k4 : (x.op == 4) = false := by simp [hop]
  have k2 : (x.op == 2) = false := by simp [hop]
  have k27 : (x.op == 27) = true := by simp [hop]
  clear hop
  have HT : Hid _ := h
  have HM0 : Hid (Ln l m) := hm
  have HM1 : Hid (Ln (l ++ [⟨2, x.S, 0, 0, 0, 0, 0⟩]) (m + 1)) := HM0.out.next (by omega) _
  clear h hm hd
  clear hmx
  go_enter Try.func111, Try.ntmps111
  go_upto_region 24 with fail
  go_region_held3 (fun W' => W'.cell? ⟨U, 0, none⟩ = some (.func (Fn.func 109) #[] #[.pointer (some ⟨k.B, 0, none⟩)]) ∧ W'.cell? ⟨U, 1, none⟩ = some (.func (Fn.func 110) #[] #[.pointer (some ⟨k.L, 0, none⟩)]) ∧ W'.cell? ⟨U, 2, none⟩ = some (.int .i64 x.op) ∧ W'.cell? ⟨U, 3, none⟩ = some (.int .i64 x.D) ∧ W'.cell? ⟨U, 4, none⟩ = some (.int .i64 x.S) ∧ W'.cell? ⟨U, 5, none⟩ = some (.int .i64 x.O) ∧ W'.cell? ⟨U, 6, none⟩ = some (.int .u32 x.im) ∧ W'.cell? ⟨U, 7, none⟩ = some (.int .u32 x.pc) ∧ W'.cell? ⟨U, 8, none⟩ = some (.int .u32 x.next) ∧ W'.cell? ⟨U, 9, none⟩ = some (.int .i64 x.done) ∧ W'.cell? ⟨w.heap.size, 0, none⟩ = some (.int .i64 x.op) ∧ W'.cell? ⟨w.heap.size, 1, none⟩ = some (.int .i64 x.D) ∧ W'.cell? ⟨w.heap.size, 2, none⟩ = some (.int .i64 x.S) ∧ W'.cell? ⟨w.heap.size, 3, none⟩ = some (.int .i64 x.O) ∧ W'.cell? ⟨w.heap.size, 4, none⟩ = some (.int .u32 x.im)) (first | (simp [go_sem, q0, q1, q2, q3, q4, q5, q6, q7, q8, q9, qx0, qx1, qx2, qx3, qx4]; done) | (simp [go_sem, v0, v1, v2, v3, v4, v5, v6, v7, v8, v9, vx0, vx1, vx2, vx3, vx4]; done) | (simp [go_sem, u0, u1, u2, u3, u4, u5, u6, u7, u8, u9, lU]; done))
    (first
      | (have HQ2 := H1; go_at_call 149; refine (reck_any k U x _ (m + 1) (m) _ ?_ HM1.out (by have := HMX.out; omega) HDN.out HOO.out).mono ?_; (focus (first | with_reducible exact H1.out.t | with_reducible exact H1.out.t.drw | with_reducible exact (H1.out.t.alw _) | with_reducible exact (H1.out.t.alw _).drw | with_reducible exact (H1.out.t.drw.alw _) | with_reducible exact ((H1.out.t.alw _).alw _) | with_reducible exact ((H1.out.t.alw _).alw _).drw)); rintro e w2 ⟨rfl, h2⟩; have H2 : Hid (Em w1 w2 k U x ((l ++ [⟨2, x.S, 0, 0, 0, 0, 0⟩]) ++ reckOps x.O.toNat x.D (m) x.pc x.done (m + 1))) := (show Em _ _ _ _ _ _ by first | with_reducible exact h2 | with_reducible exact ((Em.refl H1.out.t).drew).trans h2 | with_reducible exact ((Em.refl H1.out.t).alloc _).trans h2 | with_reducible exact (((Em.refl H1.out.t).alloc _).drew).trans h2 | with_reducible exact (((Em.refl H1.out.t).drew).alloc _).trans h2 | with_reducible exact (((Em.refl H1.out.t).alloc _).alloc _).trans h2 | with_reducible exact ((((Em.refl H1.out.t).alloc _).alloc _).drew).trans h2); obtain ⟨q0, q1, q2, q3, q4, q5, q6, q7, q8, q9⟩ := h2.t.cells; have HPx2 : Hid (w2.heap[w.heap.size]? = some (.cells #[.int .i64 x.op, .int .i64 x.D, .int .i64 x.S, .int .i64 x.O, .int .u32 x.im] 26)) := H2.out.kp.keep _ _ _ HPx1.out HNx.out (by decide); obtain ⟨qx0, qx1, qx2, qx3, qx4⟩ := ins_cells HPx2.out; have qlx := row_lt HPx2.out; have qU := row_lt H2.out.t.bU; clear h2 HQ2)
      | (go_at_call 110; refine (read_m k U x _ (m) x.S _ ?_ HM0.out).mono ?_; (focus (first | with_reducible exact HT.out | with_reducible exact HT.out.drw | with_reducible exact (HT.out.alw _) | with_reducible exact (HT.out.alw _).drw | with_reducible exact (HT.out.drw.alw _) | with_reducible exact ((HT.out.alw _).alw _) | with_reducible exact ((HT.out.alw _).alw _).drw)); rintro e w1 ⟨rfl, h1⟩; have H1 : Hid (Em w w1 k U x (l ++ [⟨2, x.S, 0, 0, 0, 0, 0⟩])) := (show Em _ _ _ _ _ _ by first | with_reducible exact h1 | with_reducible exact ((Em.refl HT.out).drew).trans h1 | with_reducible exact ((Em.refl HT.out).alloc _).trans h1 | with_reducible exact (((Em.refl HT.out).alloc _).drew).trans h1 | with_reducible exact (((Em.refl HT.out).drew).alloc _).trans h1 | with_reducible exact (((Em.refl HT.out).alloc _).alloc _).trans h1 | with_reducible exact ((((Em.refl HT.out).alloc _).alloc _).drew).trans h1); obtain ⟨v0, v1, v2, v3, v4, v5, v6, v7, v8, v9⟩ := h1.t.cells; have HPx1 : Hid (w1.heap[w.heap.size]? = some (.cells #[.int .i64 x.op, .int .i64 x.D, .int .i64 x.S, .int .i64 x.O, .int .u32 x.im] 26)) := h1.kp.keep _ _ _ HPx0.out HNx.out (by decide); obtain ⟨vx0, vx1, vx2, vx3, vx4⟩ := ins_cells HPx1.out; have vlx := row_lt HPx1.out; have vU := row_lt H1.out.t.bU; clear h1))
  all_goals go_wp2_with fail
  all_goals go_end0
  all_goals exact ⟨rfl, (H1.out).trans H2.out⟩
set_option maxHeartbeats 4000000 in
theorem do28 (k : BK) (U : Nat) (x : XI) (l : List OpR) (m : Int)  (w : World) (h : TU w k U x l) (hm : Ln l m) (hmx : m + 160 < 90000) (hd : 0 ≤ x.done ∧ x.done ≤ 64) (hO : 0 ≤ x.O ∧ x.O < 16) (hop : x.op = 28) :
    Calls Try.prog 111 #[.pointer (some ⟨U, 0, none⟩)] w fun e w' => e = .returned (.tuple #[]) ∧ Em w w' k U x ((l ++ [⟨1, 0, 0, 0, 0, x.im, 0⟩]) ++ reckOps x.O.toNat x.D (m) x.pc x.done (m + 1)) := by
  obtain ⟨u0, u1, u2, u3, u4, u5, u6, u7, u8, u9⟩ := h.cells
  have lU := row_lt h.bU
  have HNx : Hid (w.heap.size ≠ k.B) := show w.heap.size ≠ k.B by have := h.ltB; omega
  have HPx0 : Hid ((w.alloc (.cells #[.int .i64 x.op, .int .i64 x.D, .int .i64 x.S, .int .i64 x.O, .int .u32 x.im] 26)).heap[w.heap.size]? = some (.cells #[.int .i64 x.op, .int .i64 x.D, .int .i64 x.S, .int .i64 x.O, .int .u32 x.im] 26)) := heap_alloc_last w _
  have HDN : Hid _ := hd
  have HMX : Hid (m + 160 < 90000) := hmx
  have HWR : Hid (IntKind.i64.wrap (x.done + 1) = x.done + 1) := wrap_done x.done hd.1 hd.2
  have HOO : Hid _ := hO
  clear hO
  have HOP : Hid _ := hop
  have k1 : (x.op == 1) = false := by simp [hop]
  have k5 : (x.op == 5) = false := by simp [hop]
  have k6 : (x.op == 6) = false := by simp [hop]
  have k7 : (x.op == 7) = false := by simp [hop]
  have k12 : (x.op == 12) = false := by simp [hop]
  have k13 : (x.op == 13) = false := by simp [hop]
  have k9 : (x.op == 9) = false := by simp [hop]
  have k11 : (x.op == 11) = false := by simp [hop]
  have k14 : (x.op == 14) = false := by simp [hop]
  have k3 : (x.op == 3) = false := by simp [hop]
  have k8 : (x.op == 8) = false := by simp [hop]
  have k10 : (x.op == 10) = false := by simp [hop]
  have k15 : (x.op == 15) = false := by simp [hop]
  have k4 : (x.op == 4) = false := by simp [hop]
  have k2 : (x.op == 2) = false := by simp [hop]
  have k27 : (x.op == 27) = false := by simp [hop]
  have k28 : (x.op == 28) = true := by simp [hop]
  clear hop
  have HT : Hid _ := h
  have HM0 : Hid (Ln l m) := hm
  have HM1 : Hid (Ln (l ++ [⟨1, 0, 0, 0, 0, x.im, 0⟩]) (m + 1)) := HM0.out.next (by omega) _
  clear h hm hd
  clear hmx
  go_enter Try.func111, Try.ntmps111
  all_goals go_wp2_with (first
      | (have HQ2 := H1; go_at_call 149; refine (reck_any k U x _ (m + 1) (m) _ ?_ HM1.out (by have := HMX.out; omega) HDN.out HOO.out).mono ?_; (focus (first | with_reducible exact H1.out.t | with_reducible exact H1.out.t.drw | with_reducible exact (H1.out.t.alw _) | with_reducible exact (H1.out.t.alw _).drw | with_reducible exact (H1.out.t.drw.alw _) | with_reducible exact ((H1.out.t.alw _).alw _) | with_reducible exact ((H1.out.t.alw _).alw _).drw)); rintro e w2 ⟨rfl, h2⟩; have H2 : Hid (Em w1 w2 k U x ((l ++ [⟨1, 0, 0, 0, 0, x.im, 0⟩]) ++ reckOps x.O.toNat x.D (m) x.pc x.done (m + 1))) := (show Em _ _ _ _ _ _ by first | with_reducible exact h2 | with_reducible exact ((Em.refl H1.out.t).drew).trans h2 | with_reducible exact ((Em.refl H1.out.t).alloc _).trans h2 | with_reducible exact (((Em.refl H1.out.t).alloc _).drew).trans h2 | with_reducible exact (((Em.refl H1.out.t).drew).alloc _).trans h2 | with_reducible exact (((Em.refl H1.out.t).alloc _).alloc _).trans h2 | with_reducible exact ((((Em.refl H1.out.t).alloc _).alloc _).drew).trans h2); obtain ⟨q0, q1, q2, q3, q4, q5, q6, q7, q8, q9⟩ := h2.t.cells; have HPx2 : Hid (w2.heap[w.heap.size]? = some (.cells #[.int .i64 x.op, .int .i64 x.D, .int .i64 x.S, .int .i64 x.O, .int .u32 x.im] 26)) := H2.out.kp.keep _ _ _ HPx1.out HNx.out (by decide); obtain ⟨qx0, qx1, qx2, qx3, qx4⟩ := ins_cells HPx2.out; have qlx := row_lt HPx2.out; have qU := row_lt H2.out.t.bU; clear h2 HQ2)
      | (go_at_call 150; refine (number_m k U x _ (m) x.im _ ?_ HM0.out).mono ?_; (focus (first | with_reducible exact HT.out | with_reducible exact HT.out.drw | with_reducible exact (HT.out.alw _) | with_reducible exact (HT.out.alw _).drw | with_reducible exact (HT.out.drw.alw _) | with_reducible exact ((HT.out.alw _).alw _) | with_reducible exact ((HT.out.alw _).alw _).drw)); rintro e w1 ⟨rfl, h1⟩; have H1 : Hid (Em w w1 k U x (l ++ [⟨1, 0, 0, 0, 0, x.im, 0⟩])) := (show Em _ _ _ _ _ _ by first | with_reducible exact h1 | with_reducible exact ((Em.refl HT.out).drew).trans h1 | with_reducible exact ((Em.refl HT.out).alloc _).trans h1 | with_reducible exact (((Em.refl HT.out).alloc _).drew).trans h1 | with_reducible exact (((Em.refl HT.out).drew).alloc _).trans h1 | with_reducible exact (((Em.refl HT.out).alloc _).alloc _).trans h1 | with_reducible exact ((((Em.refl HT.out).alloc _).alloc _).drew).trans h1); obtain ⟨v0, v1, v2, v3, v4, v5, v6, v7, v8, v9⟩ := h1.t.cells; have HPx1 : Hid (w1.heap[w.heap.size]? = some (.cells #[.int .i64 x.op, .int .i64 x.D, .int .i64 x.S, .int .i64 x.O, .int .u32 x.im] 26)) := h1.kp.keep _ _ _ HPx0.out HNx.out (by decide); obtain ⟨vx0, vx1, vx2, vx3, vx4⟩ := ins_cells HPx1.out; have vlx := row_lt HPx1.out; have vU := row_lt H1.out.t.bU; clear h1))
  all_goals go_end0
  all_goals exact ⟨rfl, (H1.out).trans H2.out⟩
set_option maxHeartbeats 4000000 in
theorem do29 (k : BK) (U : Nat) (x : XI) (l : List OpR) (m : Int)  (w : World) (h : TU w k U x l) (hm : Ln l m) (hmx : m + 160 < 90000) (hd : 0 ≤ x.done ∧ x.done ≤ 64) (hO : 0 ≤ x.O ∧ x.O < 16) (hop : x.op = 29) :
    Calls Try.prog 111 #[.pointer (some ⟨U, 0, none⟩)] w fun e w' => e = .returned (.tuple #[]) ∧ Em w w' k U x ((l ++ [⟨1, 0, 0, 0, 0, x.im, 0⟩]) ++ reckOps x.O.toNat x.D (m) x.pc x.done (m + 1)) := by
  obtain ⟨u0, u1, u2, u3, u4, u5, u6, u7, u8, u9⟩ := h.cells
  have lU := row_lt h.bU
  have HNx : Hid (w.heap.size ≠ k.B) := show w.heap.size ≠ k.B by have := h.ltB; omega
  have HPx0 : Hid ((w.alloc (.cells #[.int .i64 x.op, .int .i64 x.D, .int .i64 x.S, .int .i64 x.O, .int .u32 x.im] 26)).heap[w.heap.size]? = some (.cells #[.int .i64 x.op, .int .i64 x.D, .int .i64 x.S, .int .i64 x.O, .int .u32 x.im] 26)) := heap_alloc_last w _
  have HDN : Hid _ := hd
  have HMX : Hid (m + 160 < 90000) := hmx
  have HWR : Hid (IntKind.i64.wrap (x.done + 1) = x.done + 1) := wrap_done x.done hd.1 hd.2
  have HOO : Hid _ := hO
  clear hO
  have HOP : Hid _ := hop
  have k1 : (x.op == 1) = false := by simp [hop]
  have k5 : (x.op == 5) = false := by simp [hop]
  have k6 : (x.op == 6) = false := by simp [hop]
  have k7 : (x.op == 7) = false := by simp [hop]
  have k12 : (x.op == 12) = false := by simp [hop]
  have k13 : (x.op == 13) = false := by simp [hop]
  have k9 : (x.op == 9) = false := by simp [hop]
  have k11 : (x.op == 11) = false := by simp [hop]
  have k14 : (x.op == 14) = false := by simp [hop]
  have k3 : (x.op == 3) = false := by simp [hop]
  have k8 : (x.op == 8) = false := by simp [hop]
  have k10 : (x.op == 10) = false := by simp [hop]
  have k15 : (x.op == 15) = false := by simp [hop]
  have k4 : (x.op == 4) = false := by simp [hop]
  have k2 : (x.op == 2) = false := by simp [hop]
  have k27 : (x.op == 27) = false := by simp [hop]
  have k28 : (x.op == 28) = false := by simp [hop]
  have k29 : (x.op == 29) = true := by simp [hop]
  clear hop
  have HT : Hid _ := h
  have HM0 : Hid (Ln l m) := hm
  have HM1 : Hid (Ln (l ++ [⟨1, 0, 0, 0, 0, x.im, 0⟩]) (m + 1)) := HM0.out.next (by omega) _
  clear h hm hd
  clear hmx
  go_enter Try.func111, Try.ntmps111
  all_goals go_wp2_with (first
      | (have HQ2 := H1; go_at_call 149; refine (reck_any k U x _ (m + 1) (m) _ ?_ HM1.out (by have := HMX.out; omega) HDN.out HOO.out).mono ?_; (focus (first | with_reducible exact H1.out.t | with_reducible exact H1.out.t.drw | with_reducible exact (H1.out.t.alw _) | with_reducible exact (H1.out.t.alw _).drw | with_reducible exact (H1.out.t.drw.alw _) | with_reducible exact ((H1.out.t.alw _).alw _) | with_reducible exact ((H1.out.t.alw _).alw _).drw)); rintro e w2 ⟨rfl, h2⟩; have H2 : Hid (Em w1 w2 k U x ((l ++ [⟨1, 0, 0, 0, 0, x.im, 0⟩]) ++ reckOps x.O.toNat x.D (m) x.pc x.done (m + 1))) := (show Em _ _ _ _ _ _ by first | with_reducible exact h2 | with_reducible exact ((Em.refl H1.out.t).drew).trans h2 | with_reducible exact ((Em.refl H1.out.t).alloc _).trans h2 | with_reducible exact (((Em.refl H1.out.t).alloc _).drew).trans h2 | with_reducible exact (((Em.refl H1.out.t).drew).alloc _).trans h2 | with_reducible exact (((Em.refl H1.out.t).alloc _).alloc _).trans h2 | with_reducible exact ((((Em.refl H1.out.t).alloc _).alloc _).drew).trans h2); obtain ⟨q0, q1, q2, q3, q4, q5, q6, q7, q8, q9⟩ := h2.t.cells; have HPx2 : Hid (w2.heap[w.heap.size]? = some (.cells #[.int .i64 x.op, .int .i64 x.D, .int .i64 x.S, .int .i64 x.O, .int .u32 x.im] 26)) := H2.out.kp.keep _ _ _ HPx1.out HNx.out (by decide); obtain ⟨qx0, qx1, qx2, qx3, qx4⟩ := ins_cells HPx2.out; have qlx := row_lt HPx2.out; have qU := row_lt H2.out.t.bU; clear h2 HQ2)
      | (go_at_call 150; refine (number_m k U x _ (m) x.im _ ?_ HM0.out).mono ?_; (focus (first | with_reducible exact HT.out | with_reducible exact HT.out.drw | with_reducible exact (HT.out.alw _) | with_reducible exact (HT.out.alw _).drw | with_reducible exact (HT.out.drw.alw _) | with_reducible exact ((HT.out.alw _).alw _) | with_reducible exact ((HT.out.alw _).alw _).drw)); rintro e w1 ⟨rfl, h1⟩; have H1 : Hid (Em w w1 k U x (l ++ [⟨1, 0, 0, 0, 0, x.im, 0⟩])) := (show Em _ _ _ _ _ _ by first | with_reducible exact h1 | with_reducible exact ((Em.refl HT.out).drew).trans h1 | with_reducible exact ((Em.refl HT.out).alloc _).trans h1 | with_reducible exact (((Em.refl HT.out).alloc _).drew).trans h1 | with_reducible exact (((Em.refl HT.out).drew).alloc _).trans h1 | with_reducible exact (((Em.refl HT.out).alloc _).alloc _).trans h1 | with_reducible exact ((((Em.refl HT.out).alloc _).alloc _).drew).trans h1); obtain ⟨v0, v1, v2, v3, v4, v5, v6, v7, v8, v9⟩ := h1.t.cells; have HPx1 : Hid (w1.heap[w.heap.size]? = some (.cells #[.int .i64 x.op, .int .i64 x.D, .int .i64 x.S, .int .i64 x.O, .int .u32 x.im] 26)) := h1.kp.keep _ _ _ HPx0.out HNx.out (by decide); obtain ⟨vx0, vx1, vx2, vx3, vx4⟩ := ins_cells HPx1.out; have vlx := row_lt HPx1.out; have vU := row_lt H1.out.t.bU; clear h1))
  all_goals go_end0
  all_goals exact ⟨rfl, (H1.out).trans H2.out⟩
end Go.Proofs.Ytjmffijdojeghaa
