import Derived.Test.YtjmffijdojeghaaLC
namespace Go.Proofs.Ytjmffijdojeghaa
open Go.RowKit
set_option maxRecDepth 100000
set_option linter.unusedVariables false
set_option linter.unusedSimpArgs false
theorem TU.ltB {w : World} {k : BK} {U : Nat} {x : XI} {l : List OpR} (h : TU w k U x l) : k.B < w.heap.size := by obtain ⟨sv, hs⟩ := h.lb.ex; exact row_lt hs.b
theorem Em.firstAD {w w' : World} {k : BK} {U : Nat} {x : XI} {l l' : List OpR} {o : Obj} (h : TU w k U x l) (g : Em (w.alloc o).drew w' k U x l') : Em w w' k U x l' := ((Em.refl h).alloc o).drew.trans g
set_option maxHeartbeats 4000000 in
theorem pushes14 (k : BK) (U : Nat) (x : XI) (l : List OpR) (m : Int)  (w : World) (h : TU w k U x l) (hm : Ln l m) (hmx : m + 80 < 90000) (hd : 0 ≤ x.done ∧ x.done ≤ 64) (hop : x.op = 14) :
    Calls Try.prog 147 #[.pointer (some ⟨U, 0, none⟩)] w fun e w' => e = .returned (.tuple #[]) ∧ Em w w' k U x (((((((l ++ [⟨2, x.S, 0, 0, 0, 0, 0⟩]) ++ [⟨2, 7, 0, 0, 0, 0, 0⟩]) ++ [⟨1, 0, 0, 0, 0, 4, 0⟩]) ++ [⟨4, 1, m + 1, m + 1 + 1, 0, 0, 0⟩]) ++ [⟨10, 2, m + 1 + 1 + 1, m, 0, x.pc, x.done⟩]) ++ [⟨3, 7, m + 1 + 1 + 1, 0, 0, 0, 0⟩]) ++ [⟨11, 0, 0, 0, 0, x.next, x.done + 1⟩]) := by
  obtain ⟨u0, u1, u2, u3, u4, u5, u6, u7, u8, u9⟩ := h.cells
  have lU := row_lt h.bU
  have HNP : Hid (w.heap.size ≠ k.B) := show w.heap.size ≠ k.B by have := h.ltB; omega
  have HP0 : Hid ((w.alloc (.cells #[.int .i64 x.op, .int .i64 x.D, .int .i64 x.S, .int .i64 x.O, .int .u32 x.im] 26)).heap[w.heap.size]? = some (.cells #[.int .i64 x.op, .int .i64 x.D, .int .i64 x.S, .int .i64 x.O, .int .u32 x.im] 26)) := heap_alloc_last w _
  have HDN : Hid _ := hd
  have HMX : Hid (m + 80 < 90000) := hmx
  have HWR : Hid (IntKind.i64.wrap (x.done + 1) = x.done + 1) := wrap_done x.done hd.1 hd.2
  have k14 : (x.op == 14) = true := by simp [hop]
  clear hop
  have HT : Hid _ := h
  have HM0 : Hid (Ln l m) := hm
  have HM1 : Hid (Ln (l ++ [⟨2, x.S, 0, 0, 0, 0, 0⟩]) (m + 1)) := HM0.out.next (by omega) _
  have HM2 : Hid (Ln ((l ++ [⟨2, x.S, 0, 0, 0, 0, 0⟩]) ++ [⟨2, 7, 0, 0, 0, 0, 0⟩]) (m + 1 + 1)) := HM1.out.next (by omega) _
  have HM3 : Hid (Ln (((l ++ [⟨2, x.S, 0, 0, 0, 0, 0⟩]) ++ [⟨2, 7, 0, 0, 0, 0, 0⟩]) ++ [⟨1, 0, 0, 0, 0, 4, 0⟩]) (m + 1 + 1 + 1)) := HM2.out.next (by omega) _
  have HM4 : Hid (Ln ((((l ++ [⟨2, x.S, 0, 0, 0, 0, 0⟩]) ++ [⟨2, 7, 0, 0, 0, 0, 0⟩]) ++ [⟨1, 0, 0, 0, 0, 4, 0⟩]) ++ [⟨4, 1, m + 1, m + 1 + 1, 0, 0, 0⟩]) (m + 1 + 1 + 1 + 1)) := HM3.out.next (by omega) _
  have HM5 : Hid (Ln (((((l ++ [⟨2, x.S, 0, 0, 0, 0, 0⟩]) ++ [⟨2, 7, 0, 0, 0, 0, 0⟩]) ++ [⟨1, 0, 0, 0, 0, 4, 0⟩]) ++ [⟨4, 1, m + 1, m + 1 + 1, 0, 0, 0⟩]) ++ [⟨10, 2, m + 1 + 1 + 1, m, 0, x.pc, x.done⟩]) (m + 1 + 1 + 1 + 1 + 1)) := HM4.out.next (by omega) _
  have HM6 : Hid (Ln ((((((l ++ [⟨2, x.S, 0, 0, 0, 0, 0⟩]) ++ [⟨2, 7, 0, 0, 0, 0, 0⟩]) ++ [⟨1, 0, 0, 0, 0, 4, 0⟩]) ++ [⟨4, 1, m + 1, m + 1 + 1, 0, 0, 0⟩]) ++ [⟨10, 2, m + 1 + 1 + 1, m, 0, x.pc, x.done⟩]) ++ [⟨3, 7, m + 1 + 1 + 1, 0, 0, 0, 0⟩]) (m + 1 + 1 + 1 + 1 + 1 + 1)) := HM5.out.next (by omega) _
  have HM7 : Hid (Ln (((((((l ++ [⟨2, x.S, 0, 0, 0, 0, 0⟩]) ++ [⟨2, 7, 0, 0, 0, 0, 0⟩]) ++ [⟨1, 0, 0, 0, 0, 4, 0⟩]) ++ [⟨4, 1, m + 1, m + 1 + 1, 0, 0, 0⟩]) ++ [⟨10, 2, m + 1 + 1 + 1, m, 0, x.pc, x.done⟩]) ++ [⟨3, 7, m + 1 + 1 + 1, 0, 0, 0, 0⟩]) ++ [⟨11, 0, 0, 0, 0, x.next, x.done + 1⟩]) (m + 1 + 1 + 1 + 1 + 1 + 1 + 1)) := HM6.out.next (by omega) _
  clear h hm hd
  clear hmx
  go_enter Try.func147, Try.ntmps147
  go_upto_region 3 with fail
  go_region_held3 (fun W' => W'.cell? ⟨U, 0, none⟩ = some (.func (Fn.func 109) #[] #[.pointer (some ⟨k.B, 0, none⟩)]) ∧ W'.cell? ⟨U, 1, none⟩ = some (.func (Fn.func 110) #[] #[.pointer (some ⟨k.L, 0, none⟩)]) ∧ W'.cell? ⟨U, 2, none⟩ = some (.int .i64 x.op) ∧ W'.cell? ⟨U, 3, none⟩ = some (.int .i64 x.D) ∧ W'.cell? ⟨U, 4, none⟩ = some (.int .i64 x.S) ∧ W'.cell? ⟨U, 5, none⟩ = some (.int .i64 x.O) ∧ W'.cell? ⟨U, 6, none⟩ = some (.int .u32 x.im) ∧ W'.cell? ⟨U, 7, none⟩ = some (.int .u32 x.pc) ∧ W'.cell? ⟨U, 8, none⟩ = some (.int .u32 x.next) ∧ W'.cell? ⟨U, 9, none⟩ = some (.int .i64 x.done) ∧ W'.cell? ⟨w.heap.size, 0, none⟩ = some (.int .i64 x.op) ∧ W'.cell? ⟨w.heap.size, 1, none⟩ = some (.int .i64 x.D) ∧ W'.cell? ⟨w.heap.size, 2, none⟩ = some (.int .i64 x.S) ∧ W'.cell? ⟨w.heap.size, 3, none⟩ = some (.int .i64 x.O) ∧ W'.cell? ⟨w.heap.size, 4, none⟩ = some (.int .u32 x.im)) (first | (simp [go_sem, r0, r1, r2, r3, r4, r5, r6, r7, r8, r9, rx0, rx1, rx2, rx3, rx4]; done) | (simp [go_sem, q0, q1, q2, q3, q4, q5, q6, q7, q8, q9, qx0, qx1, qx2, qx3, qx4]; done) | (simp [go_sem, v0, v1, v2, v3, v4, v5, v6, v7, v8, v9, vx0, vx1, vx2, vx3, vx4]; done) | (simp [go_sem, u0, u1, u2, u3, u4, u5, u6, u7, u8, u9, lU]; done))
    (first
      | (have HQ2 := H1; go_at_call 173; refine (push_m k U x _ (m + 1) (m) _ ?_ HM1.out (by have := HMX.out; omega)).mono ?_; (focus (first | with_reducible exact H1.out.t | with_reducible exact H1.out.t.drw)); rintro e w2 ⟨rfl, h2⟩; have H2 : Hid (Em w1 w2 k U x ((((((l ++ [⟨2, x.S, 0, 0, 0, 0, 0⟩]) ++ [⟨2, 7, 0, 0, 0, 0, 0⟩]) ++ [⟨1, 0, 0, 0, 0, 4, 0⟩]) ++ [⟨4, 1, m + 1, m + 1 + 1, 0, 0, 0⟩]) ++ [⟨10, 2, m + 1 + 1 + 1, m, 0, x.pc, x.done⟩]) ++ [⟨3, 7, m + 1 + 1 + 1, 0, 0, 0, 0⟩])) := (by first | exact h2 | exact Em.first H1.out.t h2); obtain ⟨q0, q1, q2, q3, q4, q5, q6, q7, q8, q9⟩ := h2.t.cells; have HP2 : Hid (w2.heap[w.heap.size]? = some (.cells #[.int .i64 x.op, .int .i64 x.D, .int .i64 x.S, .int .i64 x.O, .int .u32 x.im] 26)) := h2.kp.keep _ _ _ HP1.out HNP.out (by decide); obtain ⟨qx0, qx1, qx2, qx3, qx4⟩ := ins_cells HP2.out; clear h2 HQ2)
      | (go_at_call 110; refine (read_m k U x _ (m) x.S _ ?_ HM0.out).mono ?_; (focus (first | with_reducible exact HT.out.alw _ | with_reducible exact (HT.out.alw _).drw)); rintro e w1 ⟨rfl, h1⟩; have H1 : Hid _ := h1; obtain ⟨v0, v1, v2, v3, v4, v5, v6, v7, v8, v9⟩ := h1.t.cells; have HP1 : Hid (w1.heap[w.heap.size]? = some (.cells #[.int .i64 x.op, .int .i64 x.D, .int .i64 x.S, .int .i64 x.O, .int .u32 x.im] 26)) := h1.kp.keep _ _ _ HP0.out HNP.out (by decide); obtain ⟨vx0, vx1, vx2, vx3, vx4⟩ := ins_cells HP1.out; clear h1))
  all_goals go_wp2_with (first
      | (have HQ3 := H2; go_at_call 155; refine (watch_m k U x _ (m + 1 + 1 + 1 + 1 + 1 + 1) _ ?_ HM6.out HDN.out).mono ?_; (focus (first | with_reducible exact H2.out.t | with_reducible exact H2.out.t.drw)); rintro e w3 ⟨rfl, h3⟩; have H3 : Hid (Em w2 w3 k U x (((((((l ++ [⟨2, x.S, 0, 0, 0, 0, 0⟩]) ++ [⟨2, 7, 0, 0, 0, 0, 0⟩]) ++ [⟨1, 0, 0, 0, 0, 4, 0⟩]) ++ [⟨4, 1, m + 1, m + 1 + 1, 0, 0, 0⟩]) ++ [⟨10, 2, m + 1 + 1 + 1, m, 0, x.pc, x.done⟩]) ++ [⟨3, 7, m + 1 + 1 + 1, 0, 0, 0, 0⟩]) ++ [⟨11, 0, 0, 0, 0, x.next, x.done + 1⟩])) := (by first | exact h3 | exact Em.first H2.out.t h3); obtain ⟨r0, r1, r2, r3, r4, r5, r6, r7, r8, r9⟩ := h3.t.cells; have HP3 : Hid (w3.heap[w.heap.size]? = some (.cells #[.int .i64 x.op, .int .i64 x.D, .int .i64 x.S, .int .i64 x.O, .int .u32 x.im] 26)) := h3.kp.keep _ _ _ HP2.out HNP.out (by decide); obtain ⟨rx0, rx1, rx2, rx3, rx4⟩ := ins_cells HP3.out; clear h3 HQ3))
  all_goals go_end0
  all_goals exact ⟨rfl, by first | exact (((Em.firstA HT.out H1.out)).trans H2.out).trans H3.out | exact (((Em.firstAD HT.out H1.out)).trans H2.out).trans H3.out⟩
set_option maxHeartbeats 4000000 in
theorem pushes3 (k : BK) (U : Nat) (x : XI) (l : List OpR) (m : Int)  (w : World) (h : TU w k U x l) (hm : Ln l m) (hmx : m + 80 < 90000) (hd : 0 ≤ x.done ∧ x.done ≤ 64) (hop : x.op = 3) :
    Calls Try.prog 147 #[.pointer (some ⟨U, 0, none⟩)] w fun e w' => e = .returned (.tuple #[]) ∧ Em w w' k U x (((((((l ++ [⟨17, 0, 0, 0, 0, 0, 0⟩]) ++ [⟨2, 7, 0, 0, 0, 0, 0⟩]) ++ [⟨1, 0, 0, 0, 0, 4, 0⟩]) ++ [⟨4, 1, m + 1, m + 1 + 1, 0, 0, 0⟩]) ++ [⟨10, 2, m + 1 + 1 + 1, m, 0, x.pc, x.done⟩]) ++ [⟨3, 7, m + 1 + 1 + 1, 0, 0, 0, 0⟩]) ++ [⟨11, 0, 0, 0, 0, x.next, x.done + 1⟩]) := by
  obtain ⟨u0, u1, u2, u3, u4, u5, u6, u7, u8, u9⟩ := h.cells
  have lU := row_lt h.bU
  have HNP : Hid (w.heap.size ≠ k.B) := show w.heap.size ≠ k.B by have := h.ltB; omega
  have HP0 : Hid ((w.alloc (.cells #[.int .i64 x.op, .int .i64 x.D, .int .i64 x.S, .int .i64 x.O, .int .u32 x.im] 26)).heap[w.heap.size]? = some (.cells #[.int .i64 x.op, .int .i64 x.D, .int .i64 x.S, .int .i64 x.O, .int .u32 x.im] 26)) := heap_alloc_last w _
  have HDN : Hid _ := hd
  have HMX : Hid (m + 80 < 90000) := hmx
  have HWR : Hid (IntKind.i64.wrap (x.done + 1) = x.done + 1) := wrap_done x.done hd.1 hd.2
  have k14 : (x.op == 14) = false := by simp [hop]
  have k3 : (x.op == 3) = true := by simp [hop]
  clear hop
  have HT : Hid _ := h
  have HM0 : Hid (Ln l m) := hm
  have HM1 : Hid (Ln (l ++ [⟨17, 0, 0, 0, 0, 0, 0⟩]) (m + 1)) := HM0.out.next (by omega) _
  have HM2 : Hid (Ln ((l ++ [⟨17, 0, 0, 0, 0, 0, 0⟩]) ++ [⟨2, 7, 0, 0, 0, 0, 0⟩]) (m + 1 + 1)) := HM1.out.next (by omega) _
  have HM3 : Hid (Ln (((l ++ [⟨17, 0, 0, 0, 0, 0, 0⟩]) ++ [⟨2, 7, 0, 0, 0, 0, 0⟩]) ++ [⟨1, 0, 0, 0, 0, 4, 0⟩]) (m + 1 + 1 + 1)) := HM2.out.next (by omega) _
  have HM4 : Hid (Ln ((((l ++ [⟨17, 0, 0, 0, 0, 0, 0⟩]) ++ [⟨2, 7, 0, 0, 0, 0, 0⟩]) ++ [⟨1, 0, 0, 0, 0, 4, 0⟩]) ++ [⟨4, 1, m + 1, m + 1 + 1, 0, 0, 0⟩]) (m + 1 + 1 + 1 + 1)) := HM3.out.next (by omega) _
  have HM5 : Hid (Ln (((((l ++ [⟨17, 0, 0, 0, 0, 0, 0⟩]) ++ [⟨2, 7, 0, 0, 0, 0, 0⟩]) ++ [⟨1, 0, 0, 0, 0, 4, 0⟩]) ++ [⟨4, 1, m + 1, m + 1 + 1, 0, 0, 0⟩]) ++ [⟨10, 2, m + 1 + 1 + 1, m, 0, x.pc, x.done⟩]) (m + 1 + 1 + 1 + 1 + 1)) := HM4.out.next (by omega) _
  have HM6 : Hid (Ln ((((((l ++ [⟨17, 0, 0, 0, 0, 0, 0⟩]) ++ [⟨2, 7, 0, 0, 0, 0, 0⟩]) ++ [⟨1, 0, 0, 0, 0, 4, 0⟩]) ++ [⟨4, 1, m + 1, m + 1 + 1, 0, 0, 0⟩]) ++ [⟨10, 2, m + 1 + 1 + 1, m, 0, x.pc, x.done⟩]) ++ [⟨3, 7, m + 1 + 1 + 1, 0, 0, 0, 0⟩]) (m + 1 + 1 + 1 + 1 + 1 + 1)) := HM5.out.next (by omega) _
  have HM7 : Hid (Ln (((((((l ++ [⟨17, 0, 0, 0, 0, 0, 0⟩]) ++ [⟨2, 7, 0, 0, 0, 0, 0⟩]) ++ [⟨1, 0, 0, 0, 0, 4, 0⟩]) ++ [⟨4, 1, m + 1, m + 1 + 1, 0, 0, 0⟩]) ++ [⟨10, 2, m + 1 + 1 + 1, m, 0, x.pc, x.done⟩]) ++ [⟨3, 7, m + 1 + 1 + 1, 0, 0, 0, 0⟩]) ++ [⟨11, 0, 0, 0, 0, x.next, x.done + 1⟩]) (m + 1 + 1 + 1 + 1 + 1 + 1 + 1)) := HM6.out.next (by omega) _
  clear h hm hd
  clear hmx
  go_enter Try.func147, Try.ntmps147
  all_goals go_wp2_with (first
      | (have HQ3 := H2; go_at_call 155; refine (watch_m k U x _ (m + 1 + 1 + 1 + 1 + 1 + 1) _ ?_ HM6.out HDN.out).mono ?_; (focus (first | with_reducible exact H2.out.t | with_reducible exact H2.out.t.drw)); rintro e w3 ⟨rfl, h3⟩; have H3 : Hid (Em w2 w3 k U x (((((((l ++ [⟨17, 0, 0, 0, 0, 0, 0⟩]) ++ [⟨2, 7, 0, 0, 0, 0, 0⟩]) ++ [⟨1, 0, 0, 0, 0, 4, 0⟩]) ++ [⟨4, 1, m + 1, m + 1 + 1, 0, 0, 0⟩]) ++ [⟨10, 2, m + 1 + 1 + 1, m, 0, x.pc, x.done⟩]) ++ [⟨3, 7, m + 1 + 1 + 1, 0, 0, 0, 0⟩]) ++ [⟨11, 0, 0, 0, 0, x.next, x.done + 1⟩])) := (by first | exact h3 | exact Em.first H2.out.t h3); obtain ⟨r0, r1, r2, r3, r4, r5, r6, r7, r8, r9⟩ := h3.t.cells; have HP3 : Hid (w3.heap[w.heap.size]? = some (.cells #[.int .i64 x.op, .int .i64 x.D, .int .i64 x.S, .int .i64 x.O, .int .u32 x.im] 26)) := h3.kp.keep _ _ _ HP2.out HNP.out (by decide); obtain ⟨rx0, rx1, rx2, rx3, rx4⟩ := ins_cells HP3.out; clear h3 HQ3)
      | (have HQ2 := H1; go_at_call 173; refine (push_m k U x _ (m + 1) (m) _ ?_ HM1.out (by have := HMX.out; omega)).mono ?_; (focus (first | with_reducible exact H1.out.t | with_reducible exact H1.out.t.drw)); rintro e w2 ⟨rfl, h2⟩; have H2 : Hid (Em w1 w2 k U x ((((((l ++ [⟨17, 0, 0, 0, 0, 0, 0⟩]) ++ [⟨2, 7, 0, 0, 0, 0, 0⟩]) ++ [⟨1, 0, 0, 0, 0, 4, 0⟩]) ++ [⟨4, 1, m + 1, m + 1 + 1, 0, 0, 0⟩]) ++ [⟨10, 2, m + 1 + 1 + 1, m, 0, x.pc, x.done⟩]) ++ [⟨3, 7, m + 1 + 1 + 1, 0, 0, 0, 0⟩])) := (by first | exact h2 | exact Em.first H1.out.t h2); obtain ⟨q0, q1, q2, q3, q4, q5, q6, q7, q8, q9⟩ := h2.t.cells; have HP2 : Hid (w2.heap[w.heap.size]? = some (.cells #[.int .i64 x.op, .int .i64 x.D, .int .i64 x.S, .int .i64 x.O, .int .u32 x.im] 26)) := h2.kp.keep _ _ _ HP1.out HNP.out (by decide); obtain ⟨qx0, qx1, qx2, qx3, qx4⟩ := ins_cells HP2.out; clear h2 HQ2)
      | (go_at_call 174; refine (now_m k U x _ (m) _ ?_ HM0.out).mono ?_; (focus (first | with_reducible exact HT.out.alw _ | with_reducible exact (HT.out.alw _).drw)); rintro e w1 ⟨rfl, h1⟩; have H1 : Hid _ := h1; obtain ⟨v0, v1, v2, v3, v4, v5, v6, v7, v8, v9⟩ := h1.t.cells; have HP1 : Hid (w1.heap[w.heap.size]? = some (.cells #[.int .i64 x.op, .int .i64 x.D, .int .i64 x.S, .int .i64 x.O, .int .u32 x.im] 26)) := h1.kp.keep _ _ _ HP0.out HNP.out (by decide); obtain ⟨vx0, vx1, vx2, vx3, vx4⟩ := ins_cells HP1.out; clear h1))
  all_goals go_end0
  all_goals exact ⟨rfl, by first | exact (((Em.firstA HT.out H1.out)).trans H2.out).trans H3.out | exact (((Em.firstAD HT.out H1.out)).trans H2.out).trans H3.out⟩
set_option maxHeartbeats 4000000 in
theorem jump9 (k : BK) (U : Nat) (x : XI) (l : List OpR) (m : Int)  (w : World) (h : TU w k U x l) (hm : Ln l m) (hmx : m + 80 < 90000) (hd : 0 ≤ x.done ∧ x.done ≤ 64) (hop : x.op = 9) :
    Calls Try.prog 146 #[.pointer (some ⟨U, 0, none⟩)] w fun e w' => e = .returned (.tuple #[]) ∧ Em w w' k U x ((l ++ [⟨2, x.S, 0, 0, 0, 0, 0⟩]) ++ [⟨16, 0, m, 0, 0, 0, x.done + 1⟩]) := by
  obtain ⟨u0, u1, u2, u3, u4, u5, u6, u7, u8, u9⟩ := h.cells
  have lU := row_lt h.bU
  have HNP : Hid (w.heap.size ≠ k.B) := show w.heap.size ≠ k.B by have := h.ltB; omega
  have HP0 : Hid ((w.alloc (.cells #[.int .i64 x.op, .int .i64 x.D, .int .i64 x.S, .int .i64 x.O, .int .u32 x.im] 26)).heap[w.heap.size]? = some (.cells #[.int .i64 x.op, .int .i64 x.D, .int .i64 x.S, .int .i64 x.O, .int .u32 x.im] 26)) := heap_alloc_last w _
  have HDN : Hid _ := hd
  have HMX : Hid (m + 80 < 90000) := hmx
  have HWR : Hid (IntKind.i64.wrap (x.done + 1) = x.done + 1) := wrap_done x.done hd.1 hd.2
  have k6 : (x.op == 6) = false := by simp [hop]
  have k7 : (x.op == 7) = false := by simp [hop]
  have k12 : (x.op == 12) = false := by simp [hop]
  have k13 : (x.op == 13) = false := by simp [hop]
  have k9 : (x.op == 9) = true := by simp [hop]
  clear hop
  have HT : Hid _ := h
  have HM0 : Hid (Ln l m) := hm
  have HM1 : Hid (Ln (l ++ [⟨2, x.S, 0, 0, 0, 0, 0⟩]) (m + 1)) := HM0.out.next (by omega) _
  have HM2 : Hid (Ln ((l ++ [⟨2, x.S, 0, 0, 0, 0, 0⟩]) ++ [⟨16, 0, m, 0, 0, 0, x.done + 1⟩]) (m + 1 + 1)) := HM1.out.next (by omega) _
  clear h hm hd
  clear hmx
  go_enter Try.func146, Try.ntmps146
  go_upto_region 10 with fail
  go_region_with (first
      | (have HQ2 := H1; go_at_call 172; refine (goesTo_m k U x _ (m + 1) (m) _ ?_ HM1.out HDN.out).mono ?_; (focus (first | with_reducible exact H1.out.t | with_reducible exact H1.out.t.drw)); rintro e w2 ⟨rfl, h2⟩; have H2 : Hid (Em w1 w2 k U x ((l ++ [⟨2, x.S, 0, 0, 0, 0, 0⟩]) ++ [⟨16, 0, m, 0, 0, 0, x.done + 1⟩])) := (by first | exact h2 | exact Em.first H1.out.t h2); obtain ⟨q0, q1, q2, q3, q4, q5, q6, q7, q8, q9⟩ := h2.t.cells; have HP2 : Hid (w2.heap[w.heap.size]? = some (.cells #[.int .i64 x.op, .int .i64 x.D, .int .i64 x.S, .int .i64 x.O, .int .u32 x.im] 26)) := h2.kp.keep _ _ _ HP1.out HNP.out (by decide); obtain ⟨qx0, qx1, qx2, qx3, qx4⟩ := ins_cells HP2.out; clear h2 HQ2)
      | (go_at_call 110; refine (read_m k U x _ (m) x.S _ ?_ HM0.out).mono ?_; (focus (first | with_reducible exact HT.out.alw _ | with_reducible exact (HT.out.alw _).drw)); rintro e w1 ⟨rfl, h1⟩; have H1 : Hid _ := h1; obtain ⟨v0, v1, v2, v3, v4, v5, v6, v7, v8, v9⟩ := h1.t.cells; have HP1 : Hid (w1.heap[w.heap.size]? = some (.cells #[.int .i64 x.op, .int .i64 x.D, .int .i64 x.S, .int .i64 x.O, .int .u32 x.im] 26)) := h1.kp.keep _ _ _ HP0.out HNP.out (by decide); obtain ⟨vx0, vx1, vx2, vx3, vx4⟩ := ins_cells HP1.out; clear h1))
  all_goals go_wp2_with fail
  all_goals go_end0
  all_goals exact ⟨rfl, by first | exact ((Em.firstA HT.out H1.out)).trans H2.out | exact ((Em.firstAD HT.out H1.out)).trans H2.out⟩
set_option maxHeartbeats 4000000 in
theorem jump11 (k : BK) (U : Nat) (x : XI) (l : List OpR) (m : Int)  (w : World) (h : TU w k U x l) (hm : Ln l m) (hmx : m + 80 < 90000) (hd : 0 ≤ x.done ∧ x.done ≤ 64) (hop : x.op = 11) :
    Calls Try.prog 146 #[.pointer (some ⟨U, 0, none⟩)] w fun e w' => e = .returned (.tuple #[]) ∧ Em w w' k U x (((((l ++ [⟨2, x.S, 0, 0, 0, 0, 0⟩]) ++ [⟨1, 0, 0, 0, 0, x.im, 0⟩]) ++ [⟨4, 0, m, m + 1, 0, 0, 0⟩]) ++ [⟨9, 4, m + 1 + 1, 0, 0, x.pc, x.done⟩]) ++ [⟨16, 0, m + 1 + 1 + 1, 0, 0, 0, x.done + 1⟩]) := by
  obtain ⟨u0, u1, u2, u3, u4, u5, u6, u7, u8, u9⟩ := h.cells
  have lU := row_lt h.bU
  have HNP : Hid (w.heap.size ≠ k.B) := show w.heap.size ≠ k.B by have := h.ltB; omega
  have HP0 : Hid ((w.alloc (.cells #[.int .i64 x.op, .int .i64 x.D, .int .i64 x.S, .int .i64 x.O, .int .u32 x.im] 26)).heap[w.heap.size]? = some (.cells #[.int .i64 x.op, .int .i64 x.D, .int .i64 x.S, .int .i64 x.O, .int .u32 x.im] 26)) := heap_alloc_last w _
  have HDN : Hid _ := hd
  have HMX : Hid (m + 80 < 90000) := hmx
  have HWR : Hid (IntKind.i64.wrap (x.done + 1) = x.done + 1) := wrap_done x.done hd.1 hd.2
  have k6 : (x.op == 6) = false := by simp [hop]
  have k7 : (x.op == 7) = false := by simp [hop]
  have k12 : (x.op == 12) = false := by simp [hop]
  have k13 : (x.op == 13) = false := by simp [hop]
  have k9 : (x.op == 9) = false := by simp [hop]
  have k11 : (x.op == 11) = true := by simp [hop]
  clear hop
  have HT : Hid _ := h
  have HM0 : Hid (Ln l m) := hm
  have HM1 : Hid (Ln (l ++ [⟨2, x.S, 0, 0, 0, 0, 0⟩]) (m + 1)) := HM0.out.next (by omega) _
  have HM2 : Hid (Ln ((l ++ [⟨2, x.S, 0, 0, 0, 0, 0⟩]) ++ [⟨1, 0, 0, 0, 0, x.im, 0⟩]) (m + 1 + 1)) := HM1.out.next (by omega) _
  have HM3 : Hid (Ln (((l ++ [⟨2, x.S, 0, 0, 0, 0, 0⟩]) ++ [⟨1, 0, 0, 0, 0, x.im, 0⟩]) ++ [⟨4, 0, m, m + 1, 0, 0, 0⟩]) (m + 1 + 1 + 1)) := HM2.out.next (by omega) _
  have HM4 : Hid (Ln ((((l ++ [⟨2, x.S, 0, 0, 0, 0, 0⟩]) ++ [⟨1, 0, 0, 0, 0, x.im, 0⟩]) ++ [⟨4, 0, m, m + 1, 0, 0, 0⟩]) ++ [⟨9, 4, m + 1 + 1, 0, 0, x.pc, x.done⟩]) (m + 1 + 1 + 1 + 1)) := HM3.out.next (by omega) _
  have HM5 : Hid (Ln (((((l ++ [⟨2, x.S, 0, 0, 0, 0, 0⟩]) ++ [⟨1, 0, 0, 0, 0, x.im, 0⟩]) ++ [⟨4, 0, m, m + 1, 0, 0, 0⟩]) ++ [⟨9, 4, m + 1 + 1, 0, 0, x.pc, x.done⟩]) ++ [⟨16, 0, m + 1 + 1 + 1, 0, 0, 0, x.done + 1⟩]) (m + 1 + 1 + 1 + 1 + 1)) := HM4.out.next (by omega) _
  clear h hm hd
  clear hmx
  go_enter Try.func146, Try.ntmps146
  all_goals go_wp2_with (first
      | (have HQ3 := H2; go_at_call 172; refine (goesTo_m k U x _ (m + 1 + 1 + 1 + 1) (m + 1 + 1 + 1) _ ?_ HM4.out HDN.out).mono ?_; (focus (first | with_reducible exact H2.out.t | with_reducible exact H2.out.t.drw)); rintro e w3 ⟨rfl, h3⟩; have H3 : Hid (Em w2 w3 k U x (((((l ++ [⟨2, x.S, 0, 0, 0, 0, 0⟩]) ++ [⟨1, 0, 0, 0, 0, x.im, 0⟩]) ++ [⟨4, 0, m, m + 1, 0, 0, 0⟩]) ++ [⟨9, 4, m + 1 + 1, 0, 0, x.pc, x.done⟩]) ++ [⟨16, 0, m + 1 + 1 + 1, 0, 0, 0, x.done + 1⟩])) := (by first | exact h3 | exact Em.first H2.out.t h3); obtain ⟨r0, r1, r2, r3, r4, r5, r6, r7, r8, r9⟩ := h3.t.cells; have HP3 : Hid (w3.heap[w.heap.size]? = some (.cells #[.int .i64 x.op, .int .i64 x.D, .int .i64 x.S, .int .i64 x.O, .int .u32 x.im] 26)) := h3.kp.keep _ _ _ HP2.out HNP.out (by decide); obtain ⟨rx0, rx1, rx2, rx3, rx4⟩ := ins_cells HP3.out; clear h3 HQ3)
      | (have HQ2 := H1; go_at_call 152; refine (load_m k U x _ (m + 1 + 1 + 1) 4 (m + 1 + 1) _ ?_ HM3.out).mono ?_; (focus (first | with_reducible exact H1.out.t | with_reducible exact H1.out.t.drw)); rintro e w2 ⟨rfl, h2⟩; have H2 : Hid (Em w1 w2 k U x ((((l ++ [⟨2, x.S, 0, 0, 0, 0, 0⟩]) ++ [⟨1, 0, 0, 0, 0, x.im, 0⟩]) ++ [⟨4, 0, m, m + 1, 0, 0, 0⟩]) ++ [⟨9, 4, m + 1 + 1, 0, 0, x.pc, x.done⟩])) := (by first | exact h2 | exact Em.first H1.out.t h2); obtain ⟨q0, q1, q2, q3, q4, q5, q6, q7, q8, q9⟩ := h2.t.cells; have HP2 : Hid (w2.heap[w.heap.size]? = some (.cells #[.int .i64 x.op, .int .i64 x.D, .int .i64 x.S, .int .i64 x.O, .int .u32 x.im] 26)) := h2.kp.keep _ _ _ HP1.out HNP.out (by decide); obtain ⟨qx0, qx1, qx2, qx3, qx4⟩ := ins_cells HP2.out; clear h2 HQ2)
      | (go_at_call 153; refine (at_m k U x _ (m) _ ?_ HM0.out (by have := HMX.out; omega)).mono ?_; (focus (first | with_reducible exact HT.out.alw _ | with_reducible exact (HT.out.alw _).drw)); rintro e w1 ⟨rfl, h1⟩; have H1 : Hid _ := h1; obtain ⟨v0, v1, v2, v3, v4, v5, v6, v7, v8, v9⟩ := h1.t.cells; have HP1 : Hid (w1.heap[w.heap.size]? = some (.cells #[.int .i64 x.op, .int .i64 x.D, .int .i64 x.S, .int .i64 x.O, .int .u32 x.im] 26)) := h1.kp.keep _ _ _ HP0.out HNP.out (by decide); obtain ⟨vx0, vx1, vx2, vx3, vx4⟩ := ins_cells HP1.out; clear h1))
  all_goals go_end0
  all_goals exact ⟨rfl, by first | exact (((Em.firstA HT.out H1.out)).trans H2.out).trans H3.out | exact (((Em.firstAD HT.out H1.out)).trans H2.out).trans H3.out⟩
set_option maxHeartbeats 4000000 in
theorem pushes10 (k : BK) (U : Nat) (x : XI) (l : List OpR) (m : Int)  (w : World) (h : TU w k U x l) (hm : Ln l m) (hmx : m + 80 < 90000) (hd : 0 ≤ x.done ∧ x.done ≤ 64) (hop : x.op = 10) :
    Calls Try.prog 147 #[.pointer (some ⟨U, 0, none⟩)] w fun e w' => e = .returned (.tuple #[]) ∧ Em w w' k U x ((((((((l ++ [⟨2, x.S, 0, 0, 0, 0, 0⟩]) ++ [⟨1, 0, 0, 0, 0, x.next, 0⟩]) ++ [⟨2, 7, 0, 0, 0, 0, 0⟩]) ++ [⟨1, 0, 0, 0, 0, 4, 0⟩]) ++ [⟨4, 1, m + 1 + 1, m + 1 + 1 + 1, 0, 0, 0⟩]) ++ [⟨10, 2, m + 1 + 1 + 1 + 1, m + 1, 0, x.pc, x.done⟩]) ++ [⟨3, 7, m + 1 + 1 + 1 + 1, 0, 0, 0, 0⟩]) ++ [⟨16, 0, m, 0, 0, 0, x.done + 1⟩]) := by
  obtain ⟨u0, u1, u2, u3, u4, u5, u6, u7, u8, u9⟩ := h.cells
  have lU := row_lt h.bU
  have HNP : Hid (w.heap.size ≠ k.B) := show w.heap.size ≠ k.B by have := h.ltB; omega
  have HP0 : Hid ((w.alloc (.cells #[.int .i64 x.op, .int .i64 x.D, .int .i64 x.S, .int .i64 x.O, .int .u32 x.im] 26)).heap[w.heap.size]? = some (.cells #[.int .i64 x.op, .int .i64 x.D, .int .i64 x.S, .int .i64 x.O, .int .u32 x.im] 26)) := heap_alloc_last w _
  have HDN : Hid _ := hd
  have HMX : Hid (m + 80 < 90000) := hmx
  have HWR : Hid (IntKind.i64.wrap (x.done + 1) = x.done + 1) := wrap_done x.done hd.1 hd.2
  have k14 : (x.op == 14) = false := by simp [hop]
  have k3 : (x.op == 3) = false := by simp [hop]
  have k8 : (x.op == 8) = false := by simp [hop]
  have k10 : (x.op == 10) = true := by simp [hop]
  clear hop
  have HT : Hid _ := h
  have HM0 : Hid (Ln l m) := hm
  have HM1 : Hid (Ln (l ++ [⟨2, x.S, 0, 0, 0, 0, 0⟩]) (m + 1)) := HM0.out.next (by omega) _
  have HM2 : Hid (Ln ((l ++ [⟨2, x.S, 0, 0, 0, 0, 0⟩]) ++ [⟨1, 0, 0, 0, 0, x.next, 0⟩]) (m + 1 + 1)) := HM1.out.next (by omega) _
  have HM3 : Hid (Ln (((l ++ [⟨2, x.S, 0, 0, 0, 0, 0⟩]) ++ [⟨1, 0, 0, 0, 0, x.next, 0⟩]) ++ [⟨2, 7, 0, 0, 0, 0, 0⟩]) (m + 1 + 1 + 1)) := HM2.out.next (by omega) _
  have HM4 : Hid (Ln ((((l ++ [⟨2, x.S, 0, 0, 0, 0, 0⟩]) ++ [⟨1, 0, 0, 0, 0, x.next, 0⟩]) ++ [⟨2, 7, 0, 0, 0, 0, 0⟩]) ++ [⟨1, 0, 0, 0, 0, 4, 0⟩]) (m + 1 + 1 + 1 + 1)) := HM3.out.next (by omega) _
  have HM5 : Hid (Ln (((((l ++ [⟨2, x.S, 0, 0, 0, 0, 0⟩]) ++ [⟨1, 0, 0, 0, 0, x.next, 0⟩]) ++ [⟨2, 7, 0, 0, 0, 0, 0⟩]) ++ [⟨1, 0, 0, 0, 0, 4, 0⟩]) ++ [⟨4, 1, m + 1 + 1, m + 1 + 1 + 1, 0, 0, 0⟩]) (m + 1 + 1 + 1 + 1 + 1)) := HM4.out.next (by omega) _
  have HM6 : Hid (Ln ((((((l ++ [⟨2, x.S, 0, 0, 0, 0, 0⟩]) ++ [⟨1, 0, 0, 0, 0, x.next, 0⟩]) ++ [⟨2, 7, 0, 0, 0, 0, 0⟩]) ++ [⟨1, 0, 0, 0, 0, 4, 0⟩]) ++ [⟨4, 1, m + 1 + 1, m + 1 + 1 + 1, 0, 0, 0⟩]) ++ [⟨10, 2, m + 1 + 1 + 1 + 1, m + 1, 0, x.pc, x.done⟩]) (m + 1 + 1 + 1 + 1 + 1 + 1)) := HM5.out.next (by omega) _
  have HM7 : Hid (Ln (((((((l ++ [⟨2, x.S, 0, 0, 0, 0, 0⟩]) ++ [⟨1, 0, 0, 0, 0, x.next, 0⟩]) ++ [⟨2, 7, 0, 0, 0, 0, 0⟩]) ++ [⟨1, 0, 0, 0, 0, 4, 0⟩]) ++ [⟨4, 1, m + 1 + 1, m + 1 + 1 + 1, 0, 0, 0⟩]) ++ [⟨10, 2, m + 1 + 1 + 1 + 1, m + 1, 0, x.pc, x.done⟩]) ++ [⟨3, 7, m + 1 + 1 + 1 + 1, 0, 0, 0, 0⟩]) (m + 1 + 1 + 1 + 1 + 1 + 1 + 1)) := HM6.out.next (by omega) _
  have HM8 : Hid (Ln ((((((((l ++ [⟨2, x.S, 0, 0, 0, 0, 0⟩]) ++ [⟨1, 0, 0, 0, 0, x.next, 0⟩]) ++ [⟨2, 7, 0, 0, 0, 0, 0⟩]) ++ [⟨1, 0, 0, 0, 0, 4, 0⟩]) ++ [⟨4, 1, m + 1 + 1, m + 1 + 1 + 1, 0, 0, 0⟩]) ++ [⟨10, 2, m + 1 + 1 + 1 + 1, m + 1, 0, x.pc, x.done⟩]) ++ [⟨3, 7, m + 1 + 1 + 1 + 1, 0, 0, 0, 0⟩]) ++ [⟨16, 0, m, 0, 0, 0, x.done + 1⟩]) (m + 1 + 1 + 1 + 1 + 1 + 1 + 1 + 1)) := HM7.out.next (by omega) _
  clear h hm hd
  clear hmx
  go_enter Try.func147, Try.ntmps147
  go_upto_region 12 with fail
  go_region_held3 (fun W' => W'.cell? ⟨U, 0, none⟩ = some (.func (Fn.func 109) #[] #[.pointer (some ⟨k.B, 0, none⟩)]) ∧ W'.cell? ⟨U, 1, none⟩ = some (.func (Fn.func 110) #[] #[.pointer (some ⟨k.L, 0, none⟩)]) ∧ W'.cell? ⟨U, 2, none⟩ = some (.int .i64 x.op) ∧ W'.cell? ⟨U, 3, none⟩ = some (.int .i64 x.D) ∧ W'.cell? ⟨U, 4, none⟩ = some (.int .i64 x.S) ∧ W'.cell? ⟨U, 5, none⟩ = some (.int .i64 x.O) ∧ W'.cell? ⟨U, 6, none⟩ = some (.int .u32 x.im) ∧ W'.cell? ⟨U, 7, none⟩ = some (.int .u32 x.pc) ∧ W'.cell? ⟨U, 8, none⟩ = some (.int .u32 x.next) ∧ W'.cell? ⟨U, 9, none⟩ = some (.int .i64 x.done) ∧ W'.cell? ⟨w.heap.size, 0, none⟩ = some (.int .i64 x.op) ∧ W'.cell? ⟨w.heap.size, 1, none⟩ = some (.int .i64 x.D) ∧ W'.cell? ⟨w.heap.size, 2, none⟩ = some (.int .i64 x.S) ∧ W'.cell? ⟨w.heap.size, 3, none⟩ = some (.int .i64 x.O) ∧ W'.cell? ⟨w.heap.size, 4, none⟩ = some (.int .u32 x.im)) (first | (simp [go_sem, s0, s1, s2, s3, s4, s5, s6, s7, s8, s9, sx0, sx1, sx2, sx3, sx4]; done) | (simp [go_sem, r0, r1, r2, r3, r4, r5, r6, r7, r8, r9, rx0, rx1, rx2, rx3, rx4]; done) | (simp [go_sem, q0, q1, q2, q3, q4, q5, q6, q7, q8, q9, qx0, qx1, qx2, qx3, qx4]; done) | (simp [go_sem, v0, v1, v2, v3, v4, v5, v6, v7, v8, v9, vx0, vx1, vx2, vx3, vx4]; done) | (simp [go_sem, u0, u1, u2, u3, u4, u5, u6, u7, u8, u9, lU]; done))
    (first
      | (go_at_call 110; refine (read_m k U x _ (m) x.S _ ?_ HM0.out).mono ?_; (focus (first | with_reducible exact HT.out.alw _ | with_reducible exact (HT.out.alw _).drw)); rintro e w1 ⟨rfl, h1⟩; have H1 : Hid _ := h1; obtain ⟨v0, v1, v2, v3, v4, v5, v6, v7, v8, v9⟩ := h1.t.cells; have HP1 : Hid (w1.heap[w.heap.size]? = some (.cells #[.int .i64 x.op, .int .i64 x.D, .int .i64 x.S, .int .i64 x.O, .int .u32 x.im] 26)) := h1.kp.keep _ _ _ HP0.out HNP.out (by decide); obtain ⟨vx0, vx1, vx2, vx3, vx4⟩ := ins_cells HP1.out; clear h1))
  all_goals go_wp2_with (first
      | (have HQ4 := H3; go_at_call 172; refine (goesTo_m k U x _ (m + 1 + 1 + 1 + 1 + 1 + 1 + 1) (m) _ ?_ HM7.out HDN.out).mono ?_; (focus (first | with_reducible exact H3.out.t | with_reducible exact H3.out.t.drw)); rintro e w4 ⟨rfl, h4⟩; have H4 : Hid (Em w3 w4 k U x ((((((((l ++ [⟨2, x.S, 0, 0, 0, 0, 0⟩]) ++ [⟨1, 0, 0, 0, 0, x.next, 0⟩]) ++ [⟨2, 7, 0, 0, 0, 0, 0⟩]) ++ [⟨1, 0, 0, 0, 0, 4, 0⟩]) ++ [⟨4, 1, m + 1 + 1, m + 1 + 1 + 1, 0, 0, 0⟩]) ++ [⟨10, 2, m + 1 + 1 + 1 + 1, m + 1, 0, x.pc, x.done⟩]) ++ [⟨3, 7, m + 1 + 1 + 1 + 1, 0, 0, 0, 0⟩]) ++ [⟨16, 0, m, 0, 0, 0, x.done + 1⟩])) := (by first | exact h4 | exact Em.first H3.out.t h4); obtain ⟨s0, s1, s2, s3, s4, s5, s6, s7, s8, s9⟩ := h4.t.cells; have HP4 : Hid (w4.heap[w.heap.size]? = some (.cells #[.int .i64 x.op, .int .i64 x.D, .int .i64 x.S, .int .i64 x.O, .int .u32 x.im] 26)) := h4.kp.keep _ _ _ HP3.out HNP.out (by decide); obtain ⟨sx0, sx1, sx2, sx3, sx4⟩ := ins_cells HP4.out; clear h4 HQ4)
      | (have HQ3 := H2; go_at_call 173; refine (push_m k U x _ (m + 1 + 1) (m + 1) _ ?_ HM2.out (by have := HMX.out; omega)).mono ?_; (focus (first | with_reducible exact H2.out.t | with_reducible exact H2.out.t.drw)); rintro e w3 ⟨rfl, h3⟩; have H3 : Hid (Em w2 w3 k U x (((((((l ++ [⟨2, x.S, 0, 0, 0, 0, 0⟩]) ++ [⟨1, 0, 0, 0, 0, x.next, 0⟩]) ++ [⟨2, 7, 0, 0, 0, 0, 0⟩]) ++ [⟨1, 0, 0, 0, 0, 4, 0⟩]) ++ [⟨4, 1, m + 1 + 1, m + 1 + 1 + 1, 0, 0, 0⟩]) ++ [⟨10, 2, m + 1 + 1 + 1 + 1, m + 1, 0, x.pc, x.done⟩]) ++ [⟨3, 7, m + 1 + 1 + 1 + 1, 0, 0, 0, 0⟩])) := (by first | exact h3 | exact Em.first H2.out.t h3); obtain ⟨r0, r1, r2, r3, r4, r5, r6, r7, r8, r9⟩ := h3.t.cells; have HP3 : Hid (w3.heap[w.heap.size]? = some (.cells #[.int .i64 x.op, .int .i64 x.D, .int .i64 x.S, .int .i64 x.O, .int .u32 x.im] 26)) := h3.kp.keep _ _ _ HP2.out HNP.out (by decide); obtain ⟨rx0, rx1, rx2, rx3, rx4⟩ := ins_cells HP3.out; clear h3 HQ3)
      | (have HQ2 := H1; go_at_call 150; refine (number_m k U x _ (m + 1) x.next _ ?_ HM1.out).mono ?_; (focus (first | with_reducible exact H1.out.t | with_reducible exact H1.out.t.drw)); rintro e w2 ⟨rfl, h2⟩; have H2 : Hid (Em w1 w2 k U x ((l ++ [⟨2, x.S, 0, 0, 0, 0, 0⟩]) ++ [⟨1, 0, 0, 0, 0, x.next, 0⟩])) := (by first | exact h2 | exact Em.first H1.out.t h2); obtain ⟨q0, q1, q2, q3, q4, q5, q6, q7, q8, q9⟩ := h2.t.cells; have HP2 : Hid (w2.heap[w.heap.size]? = some (.cells #[.int .i64 x.op, .int .i64 x.D, .int .i64 x.S, .int .i64 x.O, .int .u32 x.im] 26)) := h2.kp.keep _ _ _ HP1.out HNP.out (by decide); obtain ⟨qx0, qx1, qx2, qx3, qx4⟩ := ins_cells HP2.out; clear h2 HQ2))
  all_goals go_end0
  all_goals exact ⟨rfl, by first | exact ((((Em.firstA HT.out H1.out)).trans H2.out).trans H3.out).trans H4.out | exact ((((Em.firstAD HT.out H1.out)).trans H2.out).trans H3.out).trans H4.out⟩
end Go.Proofs.Ytjmffijdojeghaa
