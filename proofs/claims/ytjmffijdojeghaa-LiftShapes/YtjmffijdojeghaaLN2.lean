import Derived.Test.YtjmffijdojeghaaLG
import Derived.Test.YtjmffijdojeghaaLJ
namespace Go.Proofs.Ytjmffijdojeghaa
open Go.RowKit
set_option maxRecDepth 100000
set_option linter.unusedVariables false
set_option linter.unusedSimpArgs false
set_option maxHeartbeats 4000000 in
theorem do15 (k : BK) (U : Nat) (x : XI) (l : List OpR) (m : Int)  (w : World) (h : TU w k U x l) (hm : Ln l m) (hmx : m + 160 < 90000) (hd : 0 ≤ x.done ∧ x.done ≤ 64) (hop : x.op = 15) :
    Calls Try.prog 111 #[.pointer (some ⟨U, 0, none⟩)] w fun e w' => e = .returned (.tuple #[]) ∧ Em w w' k U x ((((((l ++ [⟨2, 7, 0, 0, 0, 0, 0⟩]) ++ [⟨9, 4, m, 0, 0, x.pc, x.done⟩]) ++ [⟨1, 0, 0, 0, 0, 4, 0⟩]) ++ [⟨4, 0, m, m + 1 + 1, 0, 0, 0⟩]) ++ [⟨3, 7, m + 1 + 1 + 1, 0, 0, 0, 0⟩]) ++ [⟨3, x.D, m + 1, 0, 0, 0, 0⟩]) := by
  obtain ⟨u0, u1, u2, u3, u4, u5, u6, u7, u8, u9⟩ := h.cells
  have lU := row_lt h.bU
  have HNx : Hid (w.heap.size ≠ k.B) := show w.heap.size ≠ k.B by have := h.ltB; omega
  have HPx0 : Hid ((w.alloc (.cells #[.int .i64 x.op, .int .i64 x.D, .int .i64 x.S, .int .i64 x.O, .int .u32 x.im] 26)).heap[w.heap.size]? = some (.cells #[.int .i64 x.op, .int .i64 x.D, .int .i64 x.S, .int .i64 x.O, .int .u32 x.im] 26)) := heap_alloc_last w _
  have HDN : Hid _ := hd
  have HMX : Hid (m + 160 < 90000) := hmx
  have HWR : Hid (IntKind.i64.wrap (x.done + 1) = x.done + 1) := wrap_done x.done hd.1 hd.2
  have HOP : Hid _ := hop
  have k1 : (x.op == 1) = false := by simp [hop]
  have k5 : (x.op == 5) = false := by simp [hop]
  have k6 : (x.op == 6) = false := by simp [hop]
  have k7 : (x.op == 7) = false := by simp [hop]
  have k12 : (x.op == 12) = false := by simp [hop]
  have k13 : (x.op == 13) = false := by simp [hop]
  have k9 : (x.op == 9) = false := by simp [hop]
  have k11 : (x.op == 11) = false := by simp [hop]
  have k14 : (x.op == 14) = false := by simp [hop]
  have k3 : (x.op == 3) = false := by simp [hop]
  have k8 : (x.op == 8) = false := by simp [hop]
  have k10 : (x.op == 10) = false := by simp [hop]
  have k15 : (x.op == 15) = true := by simp [hop]
  clear hop
  have HT : Hid _ := h
  have HM0 : Hid (Ln l m) := hm
  have HM1 : Hid (Ln (l ++ [⟨2, 7, 0, 0, 0, 0, 0⟩]) (m + 1)) := HM0.out.next (by omega) _
  have HM2 : Hid (Ln ((l ++ [⟨2, 7, 0, 0, 0, 0, 0⟩]) ++ [⟨9, 4, m, 0, 0, x.pc, x.done⟩]) (m + 1 + 1)) := HM1.out.next (by omega) _
  have HM3 : Hid (Ln (((l ++ [⟨2, 7, 0, 0, 0, 0, 0⟩]) ++ [⟨9, 4, m, 0, 0, x.pc, x.done⟩]) ++ [⟨1, 0, 0, 0, 0, 4, 0⟩]) (m + 1 + 1 + 1)) := HM2.out.next (by omega) _
  have HM4 : Hid (Ln ((((l ++ [⟨2, 7, 0, 0, 0, 0, 0⟩]) ++ [⟨9, 4, m, 0, 0, x.pc, x.done⟩]) ++ [⟨1, 0, 0, 0, 0, 4, 0⟩]) ++ [⟨4, 0, m, m + 1 + 1, 0, 0, 0⟩]) (m + 1 + 1 + 1 + 1)) := HM3.out.next (by omega) _
  have HM5 : Hid (Ln (((((l ++ [⟨2, 7, 0, 0, 0, 0, 0⟩]) ++ [⟨9, 4, m, 0, 0, x.pc, x.done⟩]) ++ [⟨1, 0, 0, 0, 0, 4, 0⟩]) ++ [⟨4, 0, m, m + 1 + 1, 0, 0, 0⟩]) ++ [⟨3, 7, m + 1 + 1 + 1, 0, 0, 0, 0⟩]) (m + 1 + 1 + 1 + 1 + 1)) := HM4.out.next (by omega) _
  have HM6 : Hid (Ln ((((((l ++ [⟨2, 7, 0, 0, 0, 0, 0⟩]) ++ [⟨9, 4, m, 0, 0, x.pc, x.done⟩]) ++ [⟨1, 0, 0, 0, 0, 4, 0⟩]) ++ [⟨4, 0, m, m + 1 + 1, 0, 0, 0⟩]) ++ [⟨3, 7, m + 1 + 1 + 1, 0, 0, 0, 0⟩]) ++ [⟨3, x.D, m + 1, 0, 0, 0, 0⟩]) (m + 1 + 1 + 1 + 1 + 1 + 1)) := HM5.out.next (by omega) _
  clear h hm hd
  clear hmx
  go_enter Try.func111, Try.ntmps111
  all_goals go_wp2_with (first
      | (go_at_call 148; refine (pops15 k U x _ (m) _ ?_ HM0.out (by have := HMX.out; omega) HDN.out HOP.out).mono ?_; (focus (first | with_reducible exact HT.out | with_reducible exact HT.out.drw | with_reducible exact (HT.out.alw _) | with_reducible exact (HT.out.alw _).drw | with_reducible exact (HT.out.drw.alw _) | with_reducible exact ((HT.out.alw _).alw _) | with_reducible exact ((HT.out.alw _).alw _).drw)); rintro e w1 ⟨rfl, h1⟩; have H1 : Hid (Em w w1 k U x ((((((l ++ [⟨2, 7, 0, 0, 0, 0, 0⟩]) ++ [⟨9, 4, m, 0, 0, x.pc, x.done⟩]) ++ [⟨1, 0, 0, 0, 0, 4, 0⟩]) ++ [⟨4, 0, m, m + 1 + 1, 0, 0, 0⟩]) ++ [⟨3, 7, m + 1 + 1 + 1, 0, 0, 0, 0⟩]) ++ [⟨3, x.D, m + 1, 0, 0, 0, 0⟩])) := (show Em _ _ _ _ _ _ by first | with_reducible exact h1 | with_reducible exact ((Em.refl HT.out).drew).trans h1 | with_reducible exact ((Em.refl HT.out).alloc _).trans h1 | with_reducible exact (((Em.refl HT.out).alloc _).drew).trans h1 | with_reducible exact (((Em.refl HT.out).drew).alloc _).trans h1 | with_reducible exact (((Em.refl HT.out).alloc _).alloc _).trans h1 | with_reducible exact ((((Em.refl HT.out).alloc _).alloc _).drew).trans h1); obtain ⟨v0, v1, v2, v3, v4, v5, v6, v7, v8, v9⟩ := h1.t.cells; have HPx1 : Hid (w1.heap[w.heap.size]? = some (.cells #[.int .i64 x.op, .int .i64 x.D, .int .i64 x.S, .int .i64 x.O, .int .u32 x.im] 26)) := h1.kp.keep _ _ _ HPx0.out HNx.out (by decide); obtain ⟨vx0, vx1, vx2, vx3, vx4⟩ := ins_cells HPx1.out; have vlx := row_lt HPx1.out; have vU := row_lt H1.out.t.bU; clear h1))
  all_goals go_end0
  all_goals exact ⟨rfl, H1.out⟩
set_option maxHeartbeats 4000000 in
theorem do4 (k : BK) (U : Nat) (x : XI) (l : List OpR) (m : Int)  (w : World) (h : TU w k U x l) (hm : Ln l m) (hmx : m + 160 < 90000) (hd : 0 ≤ x.done ∧ x.done ≤ 64) (hop : x.op = 4) :
    Calls Try.prog 111 #[.pointer (some ⟨U, 0, none⟩)] w fun e w' => e = .returned (.tuple #[]) ∧ Em w w' k U x ((((((((l ++ [⟨2, 7, 0, 0, 0, 0, 0⟩]) ++ [⟨9, 4, m, 0, 0, x.pc, x.done⟩]) ++ [⟨1, 0, 0, 0, 0, 4, 0⟩]) ++ [⟨4, 0, m, m + 1 + 1, 0, 0, 0⟩]) ++ [⟨3, 7, m + 1 + 1 + 1, 0, 0, 0, 0⟩]) ++ [⟨1, 0, 0, 0, 0, 0, 0⟩]) ++ [⟨3, 8, m + 1 + 1 + 1 + 1 + 1, 0, 0, 0, 0⟩]) ++ [⟨3, 11, m + 1, 0, 0, 0, 0⟩]) := by
  obtain ⟨u0, u1, u2, u3, u4, u5, u6, u7, u8, u9⟩ := h.cells
  have lU := row_lt h.bU
  have HNx : Hid (w.heap.size ≠ k.B) := show w.heap.size ≠ k.B by have := h.ltB; omega
  have HPx0 : Hid ((w.alloc (.cells #[.int .i64 x.op, .int .i64 x.D, .int .i64 x.S, .int .i64 x.O, .int .u32 x.im] 26)).heap[w.heap.size]? = some (.cells #[.int .i64 x.op, .int .i64 x.D, .int .i64 x.S, .int .i64 x.O, .int .u32 x.im] 26)) := heap_alloc_last w _
  have HDN : Hid _ := hd
  have HMX : Hid (m + 160 < 90000) := hmx
  have HWR : Hid (IntKind.i64.wrap (x.done + 1) = x.done + 1) := wrap_done x.done hd.1 hd.2
  have HOP : Hid _ := hop
  have k1 : (x.op == 1) = false := by simp [hop]
  have k5 : (x.op == 5) = false := by simp [hop]
  have k6 : (x.op == 6) = false := by simp [hop]
  have k7 : (x.op == 7) = false := by simp [hop]
  have k12 : (x.op == 12) = false := by simp [hop]
  have k13 : (x.op == 13) = false := by simp [hop]
  have k9 : (x.op == 9) = false := by simp [hop]
  have k11 : (x.op == 11) = false := by simp [hop]
  have k14 : (x.op == 14) = false := by simp [hop]
  have k3 : (x.op == 3) = false := by simp [hop]
  have k8 : (x.op == 8) = false := by simp [hop]
  have k10 : (x.op == 10) = false := by simp [hop]
  have k15 : (x.op == 15) = false := by simp [hop]
  have k4 : (x.op == 4) = true := by simp [hop]
  clear hop
  have HT : Hid _ := h
  have HM0 : Hid (Ln l m) := hm
  have HM1 : Hid (Ln (l ++ [⟨2, 7, 0, 0, 0, 0, 0⟩]) (m + 1)) := HM0.out.next (by omega) _
  have HM2 : Hid (Ln ((l ++ [⟨2, 7, 0, 0, 0, 0, 0⟩]) ++ [⟨9, 4, m, 0, 0, x.pc, x.done⟩]) (m + 1 + 1)) := HM1.out.next (by omega) _
  have HM3 : Hid (Ln (((l ++ [⟨2, 7, 0, 0, 0, 0, 0⟩]) ++ [⟨9, 4, m, 0, 0, x.pc, x.done⟩]) ++ [⟨1, 0, 0, 0, 0, 4, 0⟩]) (m + 1 + 1 + 1)) := HM2.out.next (by omega) _
  have HM4 : Hid (Ln ((((l ++ [⟨2, 7, 0, 0, 0, 0, 0⟩]) ++ [⟨9, 4, m, 0, 0, x.pc, x.done⟩]) ++ [⟨1, 0, 0, 0, 0, 4, 0⟩]) ++ [⟨4, 0, m, m + 1 + 1, 0, 0, 0⟩]) (m + 1 + 1 + 1 + 1)) := HM3.out.next (by omega) _
  have HM5 : Hid (Ln (((((l ++ [⟨2, 7, 0, 0, 0, 0, 0⟩]) ++ [⟨9, 4, m, 0, 0, x.pc, x.done⟩]) ++ [⟨1, 0, 0, 0, 0, 4, 0⟩]) ++ [⟨4, 0, m, m + 1 + 1, 0, 0, 0⟩]) ++ [⟨3, 7, m + 1 + 1 + 1, 0, 0, 0, 0⟩]) (m + 1 + 1 + 1 + 1 + 1)) := HM4.out.next (by omega) _
  have HM6 : Hid (Ln ((((((l ++ [⟨2, 7, 0, 0, 0, 0, 0⟩]) ++ [⟨9, 4, m, 0, 0, x.pc, x.done⟩]) ++ [⟨1, 0, 0, 0, 0, 4, 0⟩]) ++ [⟨4, 0, m, m + 1 + 1, 0, 0, 0⟩]) ++ [⟨3, 7, m + 1 + 1 + 1, 0, 0, 0, 0⟩]) ++ [⟨1, 0, 0, 0, 0, 0, 0⟩]) (m + 1 + 1 + 1 + 1 + 1 + 1)) := HM5.out.next (by omega) _
  have HM7 : Hid (Ln (((((((l ++ [⟨2, 7, 0, 0, 0, 0, 0⟩]) ++ [⟨9, 4, m, 0, 0, x.pc, x.done⟩]) ++ [⟨1, 0, 0, 0, 0, 4, 0⟩]) ++ [⟨4, 0, m, m + 1 + 1, 0, 0, 0⟩]) ++ [⟨3, 7, m + 1 + 1 + 1, 0, 0, 0, 0⟩]) ++ [⟨1, 0, 0, 0, 0, 0, 0⟩]) ++ [⟨3, 8, m + 1 + 1 + 1 + 1 + 1, 0, 0, 0, 0⟩]) (m + 1 + 1 + 1 + 1 + 1 + 1 + 1)) := HM6.out.next (by omega) _
  have HM8 : Hid (Ln ((((((((l ++ [⟨2, 7, 0, 0, 0, 0, 0⟩]) ++ [⟨9, 4, m, 0, 0, x.pc, x.done⟩]) ++ [⟨1, 0, 0, 0, 0, 4, 0⟩]) ++ [⟨4, 0, m, m + 1 + 1, 0, 0, 0⟩]) ++ [⟨3, 7, m + 1 + 1 + 1, 0, 0, 0, 0⟩]) ++ [⟨1, 0, 0, 0, 0, 0, 0⟩]) ++ [⟨3, 8, m + 1 + 1 + 1 + 1 + 1, 0, 0, 0, 0⟩]) ++ [⟨3, 11, m + 1, 0, 0, 0, 0⟩]) (m + 1 + 1 + 1 + 1 + 1 + 1 + 1 + 1)) := HM7.out.next (by omega) _
  clear h hm hd
  clear hmx
  go_enter Try.func111, Try.ntmps111
  all_goals go_wp2_with (first
      | (go_at_call 148; refine (pops4 k U x _ (m) _ ?_ HM0.out (by have := HMX.out; omega) HDN.out HOP.out).mono ?_; (focus (first | with_reducible exact HT.out | with_reducible exact HT.out.drw | with_reducible exact (HT.out.alw _) | with_reducible exact (HT.out.alw _).drw | with_reducible exact (HT.out.drw.alw _) | with_reducible exact ((HT.out.alw _).alw _) | with_reducible exact ((HT.out.alw _).alw _).drw)); rintro e w1 ⟨rfl, h1⟩; have H1 : Hid (Em w w1 k U x ((((((((l ++ [⟨2, 7, 0, 0, 0, 0, 0⟩]) ++ [⟨9, 4, m, 0, 0, x.pc, x.done⟩]) ++ [⟨1, 0, 0, 0, 0, 4, 0⟩]) ++ [⟨4, 0, m, m + 1 + 1, 0, 0, 0⟩]) ++ [⟨3, 7, m + 1 + 1 + 1, 0, 0, 0, 0⟩]) ++ [⟨1, 0, 0, 0, 0, 0, 0⟩]) ++ [⟨3, 8, m + 1 + 1 + 1 + 1 + 1, 0, 0, 0, 0⟩]) ++ [⟨3, 11, m + 1, 0, 0, 0, 0⟩])) := (show Em _ _ _ _ _ _ by first | with_reducible exact h1 | with_reducible exact ((Em.refl HT.out).drew).trans h1 | with_reducible exact ((Em.refl HT.out).alloc _).trans h1 | with_reducible exact (((Em.refl HT.out).alloc _).drew).trans h1 | with_reducible exact (((Em.refl HT.out).drew).alloc _).trans h1 | with_reducible exact (((Em.refl HT.out).alloc _).alloc _).trans h1 | with_reducible exact ((((Em.refl HT.out).alloc _).alloc _).drew).trans h1); obtain ⟨v0, v1, v2, v3, v4, v5, v6, v7, v8, v9⟩ := h1.t.cells; have HPx1 : Hid (w1.heap[w.heap.size]? = some (.cells #[.int .i64 x.op, .int .i64 x.D, .int .i64 x.S, .int .i64 x.O, .int .u32 x.im] 26)) := h1.kp.keep _ _ _ HPx0.out HNx.out (by decide); obtain ⟨vx0, vx1, vx2, vx3, vx4⟩ := ins_cells HPx1.out; have vlx := row_lt HPx1.out; have vU := row_lt H1.out.t.bU; clear h1))
  all_goals go_end0
  all_goals exact ⟨rfl, H1.out⟩
set_option maxHeartbeats 4000000 in
theorem do2 (k : BK) (U : Nat) (x : XI) (l : List OpR) (m : Int)  (w : World) (h : TU w k U x l) (hm : Ln l m) (hmx : m + 160 < 90000) (hd : 0 ≤ x.done ∧ x.done ≤ 64) (hop : x.op = 2) :
    Calls Try.prog 111 #[.pointer (some ⟨U, 0, none⟩)] w fun e w' => e = .returned (.tuple #[]) ∧ Em w w' k U x ((((((l ++ [⟨2, 7, 0, 0, 0, 0, 0⟩]) ++ [⟨9, 4, m, 0, 0, x.pc, x.done⟩]) ++ [⟨1, 0, 0, 0, 0, 4, 0⟩]) ++ [⟨4, 0, m, m + 1 + 1, 0, 0, 0⟩]) ++ [⟨3, 7, m + 1 + 1 + 1, 0, 0, 0, 0⟩]) ++ [⟨16, 0, m + 1, 0, 0, 0, x.done + 1⟩]) := by
  obtain ⟨u0, u1, u2, u3, u4, u5, u6, u7, u8, u9⟩ := h.cells
  have lU := row_lt h.bU
  have HNx : Hid (w.heap.size ≠ k.B) := show w.heap.size ≠ k.B by have := h.ltB; omega
  have HPx0 : Hid ((w.alloc (.cells #[.int .i64 x.op, .int .i64 x.D, .int .i64 x.S, .int .i64 x.O, .int .u32 x.im] 26)).heap[w.heap.size]? = some (.cells #[.int .i64 x.op, .int .i64 x.D, .int .i64 x.S, .int .i64 x.O, .int .u32 x.im] 26)) := heap_alloc_last w _
  have HDN : Hid _ := hd
  have HMX : Hid (m + 160 < 90000) := hmx
  have HWR : Hid (IntKind.i64.wrap (x.done + 1) = x.done + 1) := wrap_done x.done hd.1 hd.2
  have HOP : Hid _ := hop
  have k1 : (x.op == 1) = false := by simp [hop]
  have k5 : (x.op == 5) = false := by simp [hop]
  have k6 : (x.op == 6) = false := by simp [hop]
  have k7 : (x.op == 7) = false := by simp [hop]
  have k12 : (x.op == 12) = false := by simp [hop]
  have k13 : (x.op == 13) = false := by simp [hop]
  have k9 : (x.op == 9) = false := by simp [hop]
  have k11 : (x.op == 11) = false := by simp [hop]
  have k14 : (x.op == 14) = false := by simp [hop]
  have k3 : (x.op == 3) = false := by simp [hop]
  have k8 : (x.op == 8) = false := by simp [hop]
  have k10 : (x.op == 10) = false := by simp [hop]
  have k15 : (x.op == 15) = false := by simp [hop]
  have k4 : (x.op == 4) = false := by simp [hop]
  have k2 : (x.op == 2) = true := by simp [hop]
  clear hop
  have HT : Hid _ := h
  have HM0 : Hid (Ln l m) := hm
  have HM1 : Hid (Ln (l ++ [⟨2, 7, 0, 0, 0, 0, 0⟩]) (m + 1)) := HM0.out.next (by omega) _
  have HM2 : Hid (Ln ((l ++ [⟨2, 7, 0, 0, 0, 0, 0⟩]) ++ [⟨9, 4, m, 0, 0, x.pc, x.done⟩]) (m + 1 + 1)) := HM1.out.next (by omega) _
  have HM3 : Hid (Ln (((l ++ [⟨2, 7, 0, 0, 0, 0, 0⟩]) ++ [⟨9, 4, m, 0, 0, x.pc, x.done⟩]) ++ [⟨1, 0, 0, 0, 0, 4, 0⟩]) (m + 1 + 1 + 1)) := HM2.out.next (by omega) _
  have HM4 : Hid (Ln ((((l ++ [⟨2, 7, 0, 0, 0, 0, 0⟩]) ++ [⟨9, 4, m, 0, 0, x.pc, x.done⟩]) ++ [⟨1, 0, 0, 0, 0, 4, 0⟩]) ++ [⟨4, 0, m, m + 1 + 1, 0, 0, 0⟩]) (m + 1 + 1 + 1 + 1)) := HM3.out.next (by omega) _
  have HM5 : Hid (Ln (((((l ++ [⟨2, 7, 0, 0, 0, 0, 0⟩]) ++ [⟨9, 4, m, 0, 0, x.pc, x.done⟩]) ++ [⟨1, 0, 0, 0, 0, 4, 0⟩]) ++ [⟨4, 0, m, m + 1 + 1, 0, 0, 0⟩]) ++ [⟨3, 7, m + 1 + 1 + 1, 0, 0, 0, 0⟩]) (m + 1 + 1 + 1 + 1 + 1)) := HM4.out.next (by omega) _
  have HM6 : Hid (Ln ((((((l ++ [⟨2, 7, 0, 0, 0, 0, 0⟩]) ++ [⟨9, 4, m, 0, 0, x.pc, x.done⟩]) ++ [⟨1, 0, 0, 0, 0, 4, 0⟩]) ++ [⟨4, 0, m, m + 1 + 1, 0, 0, 0⟩]) ++ [⟨3, 7, m + 1 + 1 + 1, 0, 0, 0, 0⟩]) ++ [⟨16, 0, m + 1, 0, 0, 0, x.done + 1⟩]) (m + 1 + 1 + 1 + 1 + 1 + 1)) := HM5.out.next (by omega) _
  clear h hm hd
  clear hmx
  go_enter Try.func111, Try.ntmps111
  all_goals go_wp2_with (first
      | (go_at_call 148; refine (pops2 k U x _ (m) _ ?_ HM0.out (by have := HMX.out; omega) HDN.out HOP.out).mono ?_; (focus (first | with_reducible exact HT.out | with_reducible exact HT.out.drw | with_reducible exact (HT.out.alw _) | with_reducible exact (HT.out.alw _).drw | with_reducible exact (HT.out.drw.alw _) | with_reducible exact ((HT.out.alw _).alw _) | with_reducible exact ((HT.out.alw _).alw _).drw)); rintro e w1 ⟨rfl, h1⟩; have H1 : Hid (Em w w1 k U x ((((((l ++ [⟨2, 7, 0, 0, 0, 0, 0⟩]) ++ [⟨9, 4, m, 0, 0, x.pc, x.done⟩]) ++ [⟨1, 0, 0, 0, 0, 4, 0⟩]) ++ [⟨4, 0, m, m + 1 + 1, 0, 0, 0⟩]) ++ [⟨3, 7, m + 1 + 1 + 1, 0, 0, 0, 0⟩]) ++ [⟨16, 0, m + 1, 0, 0, 0, x.done + 1⟩])) := (show Em _ _ _ _ _ _ by first | with_reducible exact h1 | with_reducible exact ((Em.refl HT.out).drew).trans h1 | with_reducible exact ((Em.refl HT.out).alloc _).trans h1 | with_reducible exact (((Em.refl HT.out).alloc _).drew).trans h1 | with_reducible exact (((Em.refl HT.out).drew).alloc _).trans h1 | with_reducible exact (((Em.refl HT.out).alloc _).alloc _).trans h1 | with_reducible exact ((((Em.refl HT.out).alloc _).alloc _).drew).trans h1); obtain ⟨v0, v1, v2, v3, v4, v5, v6, v7, v8, v9⟩ := h1.t.cells; have HPx1 : Hid (w1.heap[w.heap.size]? = some (.cells #[.int .i64 x.op, .int .i64 x.D, .int .i64 x.S, .int .i64 x.O, .int .u32 x.im] 26)) := h1.kp.keep _ _ _ HPx0.out HNx.out (by decide); obtain ⟨vx0, vx1, vx2, vx3, vx4⟩ := ins_cells HPx1.out; have vlx := row_lt HPx1.out; have vU := row_lt H1.out.t.bU; clear h1))
  all_goals go_end0
  all_goals exact ⟨rfl, H1.out⟩
set_option maxHeartbeats 4000000 in
theorem do24 (k : BK) (U : Nat) (x : XI) (l : List OpR) (m : Int)  (w : World) (h : TU w k U x l) (hm : Ln l m) (hmx : m + 160 < 90000) (hd : 0 ≤ x.done ∧ x.done ≤ 64) (hop : x.op = 24) :
    Calls Try.prog 111 #[.pointer (some ⟨U, 0, none⟩)] w fun e w' => e = .returned (.tuple #[]) ∧ Em w w' k U x ((((((((l ++ [⟨2, x.S, 0, 0, 0, 0, 0⟩]) ++ [⟨1, 0, 0, 0, 0, x.im, 0⟩]) ++ [⟨4, 0, m, m + 1, 0, 0, 0⟩]) ++ [⟨9, 4, m + 1 + 1, 0, 0, x.pc, x.done⟩]) ++ [⟨2, x.D, 0, 0, 0, 0, 0⟩]) ++ [⟨10, 2, m + 1 + 1, m + 1 + 1 + 1 + 1, 0, x.pc, x.done⟩]) ++ [⟨3, x.D, m + 1 + 1 + 1, 0, 0, 0, 0⟩]) ++ [⟨11, 0, 0, 0, 0, x.next, x.done + 1⟩]) := by
  obtain ⟨u0, u1, u2, u3, u4, u5, u6, u7, u8, u9⟩ := h.cells
  have lU := row_lt h.bU
  have HNx : Hid (w.heap.size ≠ k.B) := show w.heap.size ≠ k.B by have := h.ltB; omega
  have HPx0 : Hid ((w.alloc (.cells #[.int .i64 x.op, .int .i64 x.D, .int .i64 x.S, .int .i64 x.O, .int .u32 x.im] 26)).heap[w.heap.size]? = some (.cells #[.int .i64 x.op, .int .i64 x.D, .int .i64 x.S, .int .i64 x.O, .int .u32 x.im] 26)) := heap_alloc_last w _
  have HDN : Hid _ := hd
  have HMX : Hid (m + 160 < 90000) := hmx
  have HWR : Hid (IntKind.i64.wrap (x.done + 1) = x.done + 1) := wrap_done x.done hd.1 hd.2
  have HOP : Hid _ := hop
  have k1 : (x.op == 1) = false := by simp [hop]
  have k5 : (x.op == 5) = false := by simp [hop]
  have k6 : (x.op == 6) = false := by simp [hop]
  have k7 : (x.op == 7) = false := by simp [hop]
  have k12 : (x.op == 12) = false := by simp [hop]
  have k13 : (x.op == 13) = false := by simp [hop]
  have k9 : (x.op == 9) = false := by simp [hop]
  have k11 : (x.op == 11) = false := by simp [hop]
  have k14 : (x.op == 14) = false := by simp [hop]
  have k3 : (x.op == 3) = false := by simp [hop]
  have k8 : (x.op == 8) = false := by simp [hop]
  have k10 : (x.op == 10) = false := by simp [hop]
  have k15 : (x.op == 15) = false := by simp [hop]
  have k4 : (x.op == 4) = false := by simp [hop]
  have k2 : (x.op == 2) = false := by simp [hop]
  have k27 : (x.op == 27) = false := by simp [hop]
  have k28 : (x.op == 28) = false := by simp [hop]
  have k29 : (x.op == 29) = false := by simp [hop]
  have k30 : (x.op == 30) = false := by simp [hop]
  have k31 : (x.op == 31) = false := by simp [hop]
  have k24 : (x.op == 24) = true := by simp [hop]
  clear hop
  have HT : Hid _ := h
  have HM0 : Hid (Ln l m) := hm
  have HM1 : Hid (Ln (l ++ [⟨2, x.S, 0, 0, 0, 0, 0⟩]) (m + 1)) := HM0.out.next (by omega) _
  have HM2 : Hid (Ln ((l ++ [⟨2, x.S, 0, 0, 0, 0, 0⟩]) ++ [⟨1, 0, 0, 0, 0, x.im, 0⟩]) (m + 1 + 1)) := HM1.out.next (by omega) _
  have HM3 : Hid (Ln (((l ++ [⟨2, x.S, 0, 0, 0, 0, 0⟩]) ++ [⟨1, 0, 0, 0, 0, x.im, 0⟩]) ++ [⟨4, 0, m, m + 1, 0, 0, 0⟩]) (m + 1 + 1 + 1)) := HM2.out.next (by omega) _
  have HM4 : Hid (Ln ((((l ++ [⟨2, x.S, 0, 0, 0, 0, 0⟩]) ++ [⟨1, 0, 0, 0, 0, x.im, 0⟩]) ++ [⟨4, 0, m, m + 1, 0, 0, 0⟩]) ++ [⟨9, 4, m + 1 + 1, 0, 0, x.pc, x.done⟩]) (m + 1 + 1 + 1 + 1)) := HM3.out.next (by omega) _
  have HM5 : Hid (Ln (((((l ++ [⟨2, x.S, 0, 0, 0, 0, 0⟩]) ++ [⟨1, 0, 0, 0, 0, x.im, 0⟩]) ++ [⟨4, 0, m, m + 1, 0, 0, 0⟩]) ++ [⟨9, 4, m + 1 + 1, 0, 0, x.pc, x.done⟩]) ++ [⟨2, x.D, 0, 0, 0, 0, 0⟩]) (m + 1 + 1 + 1 + 1 + 1)) := HM4.out.next (by omega) _
  have HM6 : Hid (Ln ((((((l ++ [⟨2, x.S, 0, 0, 0, 0, 0⟩]) ++ [⟨1, 0, 0, 0, 0, x.im, 0⟩]) ++ [⟨4, 0, m, m + 1, 0, 0, 0⟩]) ++ [⟨9, 4, m + 1 + 1, 0, 0, x.pc, x.done⟩]) ++ [⟨2, x.D, 0, 0, 0, 0, 0⟩]) ++ [⟨10, 2, m + 1 + 1, m + 1 + 1 + 1 + 1, 0, x.pc, x.done⟩]) (m + 1 + 1 + 1 + 1 + 1 + 1)) := HM5.out.next (by omega) _
  have HM7 : Hid (Ln (((((((l ++ [⟨2, x.S, 0, 0, 0, 0, 0⟩]) ++ [⟨1, 0, 0, 0, 0, x.im, 0⟩]) ++ [⟨4, 0, m, m + 1, 0, 0, 0⟩]) ++ [⟨9, 4, m + 1 + 1, 0, 0, x.pc, x.done⟩]) ++ [⟨2, x.D, 0, 0, 0, 0, 0⟩]) ++ [⟨10, 2, m + 1 + 1, m + 1 + 1 + 1 + 1, 0, x.pc, x.done⟩]) ++ [⟨3, x.D, m + 1 + 1 + 1, 0, 0, 0, 0⟩]) (m + 1 + 1 + 1 + 1 + 1 + 1 + 1)) := HM6.out.next (by omega) _
  have HM8 : Hid (Ln ((((((((l ++ [⟨2, x.S, 0, 0, 0, 0, 0⟩]) ++ [⟨1, 0, 0, 0, 0, x.im, 0⟩]) ++ [⟨4, 0, m, m + 1, 0, 0, 0⟩]) ++ [⟨9, 4, m + 1 + 1, 0, 0, x.pc, x.done⟩]) ++ [⟨2, x.D, 0, 0, 0, 0, 0⟩]) ++ [⟨10, 2, m + 1 + 1, m + 1 + 1 + 1 + 1, 0, x.pc, x.done⟩]) ++ [⟨3, x.D, m + 1 + 1 + 1, 0, 0, 0, 0⟩]) ++ [⟨11, 0, 0, 0, 0, x.next, x.done + 1⟩]) (m + 1 + 1 + 1 + 1 + 1 + 1 + 1 + 1)) := HM7.out.next (by omega) _
  clear h hm hd
  clear hmx
  go_enter Try.func111, Try.ntmps111
  all_goals go_wp2_with (first
      | (have HQ2 := H1; go_at_call 155; refine (watch_m k U x _ (m + 1 + 1 + 1 + 1 + 1 + 1 + 1) _ ?_ HM7.out HDN.out).mono ?_; (focus (first | with_reducible exact H1.out.t | with_reducible exact H1.out.t.drw | with_reducible exact (H1.out.t.alw _) | with_reducible exact (H1.out.t.alw _).drw | with_reducible exact (H1.out.t.drw.alw _) | with_reducible exact ((H1.out.t.alw _).alw _) | with_reducible exact ((H1.out.t.alw _).alw _).drw)); rintro e w2 ⟨rfl, h2⟩; have H2 : Hid (Em w1 w2 k U x ((((((((l ++ [⟨2, x.S, 0, 0, 0, 0, 0⟩]) ++ [⟨1, 0, 0, 0, 0, x.im, 0⟩]) ++ [⟨4, 0, m, m + 1, 0, 0, 0⟩]) ++ [⟨9, 4, m + 1 + 1, 0, 0, x.pc, x.done⟩]) ++ [⟨2, x.D, 0, 0, 0, 0, 0⟩]) ++ [⟨10, 2, m + 1 + 1, m + 1 + 1 + 1 + 1, 0, x.pc, x.done⟩]) ++ [⟨3, x.D, m + 1 + 1 + 1, 0, 0, 0, 0⟩]) ++ [⟨11, 0, 0, 0, 0, x.next, x.done + 1⟩])) := (show Em _ _ _ _ _ _ by first | with_reducible exact h2 | with_reducible exact ((Em.refl H1.out.t).drew).trans h2 | with_reducible exact ((Em.refl H1.out.t).alloc _).trans h2 | with_reducible exact (((Em.refl H1.out.t).alloc _).drew).trans h2 | with_reducible exact (((Em.refl H1.out.t).drew).alloc _).trans h2 | with_reducible exact (((Em.refl H1.out.t).alloc _).alloc _).trans h2 | with_reducible exact ((((Em.refl H1.out.t).alloc _).alloc _).drew).trans h2); obtain ⟨q0, q1, q2, q3, q4, q5, q6, q7, q8, q9⟩ := h2.t.cells; have HPx2 : Hid (w2.heap[w.heap.size]? = some (.cells #[.int .i64 x.op, .int .i64 x.D, .int .i64 x.S, .int .i64 x.O, .int .u32 x.im] 26)) := H2.out.kp.keep _ _ _ HPx1.out HNx.out (by decide); obtain ⟨qx0, qx1, qx2, qx3, qx4⟩ := ins_cells HPx2.out; have qlx := row_lt HPx2.out; have qU := row_lt H2.out.t.bU; clear h2 HQ2)
      | (go_at_call 156; refine (swaps24 k U x _ (m) _ ?_ HM0.out (by have := HMX.out; omega) HDN.out HOP.out).mono ?_; (focus (first | with_reducible exact HT.out | with_reducible exact HT.out.drw | with_reducible exact (HT.out.alw _) | with_reducible exact (HT.out.alw _).drw | with_reducible exact (HT.out.drw.alw _) | with_reducible exact ((HT.out.alw _).alw _) | with_reducible exact ((HT.out.alw _).alw _).drw)); rintro e w1 ⟨rfl, h1⟩; have H1 : Hid (Em w w1 k U x (((((((l ++ [⟨2, x.S, 0, 0, 0, 0, 0⟩]) ++ [⟨1, 0, 0, 0, 0, x.im, 0⟩]) ++ [⟨4, 0, m, m + 1, 0, 0, 0⟩]) ++ [⟨9, 4, m + 1 + 1, 0, 0, x.pc, x.done⟩]) ++ [⟨2, x.D, 0, 0, 0, 0, 0⟩]) ++ [⟨10, 2, m + 1 + 1, m + 1 + 1 + 1 + 1, 0, x.pc, x.done⟩]) ++ [⟨3, x.D, m + 1 + 1 + 1, 0, 0, 0, 0⟩])) := (show Em _ _ _ _ _ _ by first | with_reducible exact h1 | with_reducible exact ((Em.refl HT.out).drew).trans h1 | with_reducible exact ((Em.refl HT.out).alloc _).trans h1 | with_reducible exact (((Em.refl HT.out).alloc _).drew).trans h1 | with_reducible exact (((Em.refl HT.out).drew).alloc _).trans h1 | with_reducible exact (((Em.refl HT.out).alloc _).alloc _).trans h1 | with_reducible exact ((((Em.refl HT.out).alloc _).alloc _).drew).trans h1); obtain ⟨v0, v1, v2, v3, v4, v5, v6, v7, v8, v9⟩ := h1.t.cells; have HPx1 : Hid (w1.heap[w.heap.size]? = some (.cells #[.int .i64 x.op, .int .i64 x.D, .int .i64 x.S, .int .i64 x.O, .int .u32 x.im] 26)) := h1.kp.keep _ _ _ HPx0.out HNx.out (by decide); obtain ⟨vx0, vx1, vx2, vx3, vx4⟩ := ins_cells HPx1.out; have vlx := row_lt HPx1.out; have vU := row_lt H1.out.t.bU; clear h1))
  all_goals go_end0
  all_goals exact ⟨rfl, (H1.out).trans H2.out⟩
set_option maxHeartbeats 4000000 in
theorem do25 (k : BK) (U : Nat) (x : XI) (l : List OpR) (m : Int)  (w : World) (h : TU w k U x l) (hm : Ln l m) (hmx : m + 160 < 90000) (hd : 0 ≤ x.done ∧ x.done ≤ 64) (hop : x.op = 25) :
    Calls Try.prog 111 #[.pointer (some ⟨U, 0, none⟩)] w fun e w' => e = .returned (.tuple #[]) ∧ Em w w' k U x (((((((((((((l ++ [⟨2, x.S, 0, 0, 0, 0, 0⟩]) ++ [⟨1, 0, 0, 0, 0, x.im, 0⟩]) ++ [⟨4, 0, m, m + 1, 0, 0, 0⟩]) ++ [⟨9, 4, m + 1 + 1, 0, 0, x.pc, x.done⟩]) ++ [⟨2, x.D, 0, 0, 0, 0, 0⟩]) ++ [⟨4, 0, m + 1 + 1 + 1, m + 1 + 1 + 1 + 1, 0, 0, 0⟩]) ++ [⟨10, 2, m + 1 + 1, m + 1 + 1 + 1 + 1 + 1, 0, x.pc, x.done⟩]) ++ [⟨3, x.D, m + 1 + 1 + 1, 0, 0, 0, 0⟩]) ++ [⟨1, 0, 0, 0, 0, 1, 0⟩]) ++ [⟨3, 8, m + 1 + 1 + 1 + 1 + 1 + 1 + 1 + 1, 0, 0, 0, 0⟩]) ++ [⟨3, 9, m + 1 + 1 + 1, 0, 0, 0, 0⟩]) ++ [⟨3, 10, m + 1 + 1 + 1 + 1, 0, 0, 0, 0⟩]) ++ [⟨11, 0, 0, 0, 0, x.next, x.done + 1⟩]) := by
  obtain ⟨u0, u1, u2, u3, u4, u5, u6, u7, u8, u9⟩ := h.cells
  have lU := row_lt h.bU
  have HNx : Hid (w.heap.size ≠ k.B) := show w.heap.size ≠ k.B by have := h.ltB; omega
  have HPx0 : Hid ((w.alloc (.cells #[.int .i64 x.op, .int .i64 x.D, .int .i64 x.S, .int .i64 x.O, .int .u32 x.im] 26)).heap[w.heap.size]? = some (.cells #[.int .i64 x.op, .int .i64 x.D, .int .i64 x.S, .int .i64 x.O, .int .u32 x.im] 26)) := heap_alloc_last w _
  have HDN : Hid _ := hd
  have HMX : Hid (m + 160 < 90000) := hmx
  have HWR : Hid (IntKind.i64.wrap (x.done + 1) = x.done + 1) := wrap_done x.done hd.1 hd.2
  have HOP : Hid _ := hop
  have k1 : (x.op == 1) = false := by simp [hop]
  have k5 : (x.op == 5) = false := by simp [hop]
  have k6 : (x.op == 6) = false := by simp [hop]
  have k7 : (x.op == 7) = false := by simp [hop]
  have k12 : (x.op == 12) = false := by simp [hop]
  have k13 : (x.op == 13) = false := by simp [hop]
  have k9 : (x.op == 9) = false := by simp [hop]
  have k11 : (x.op == 11) = false := by simp [hop]
  have k14 : (x.op == 14) = false := by simp [hop]
  have k3 : (x.op == 3) = false := by simp [hop]
  have k8 : (x.op == 8) = false := by simp [hop]
  have k10 : (x.op == 10) = false := by simp [hop]
  have k15 : (x.op == 15) = false := by simp [hop]
  have k4 : (x.op == 4) = false := by simp [hop]
  have k2 : (x.op == 2) = false := by simp [hop]
  have k27 : (x.op == 27) = false := by simp [hop]
  have k28 : (x.op == 28) = false := by simp [hop]
  have k29 : (x.op == 29) = false := by simp [hop]
  have k30 : (x.op == 30) = false := by simp [hop]
  have k31 : (x.op == 31) = false := by simp [hop]
  have k24 : (x.op == 24) = false := by simp [hop]
  have k25 : (x.op == 25) = true := by simp [hop]
  clear hop
  have HT : Hid _ := h
  have HM0 : Hid (Ln l m) := hm
  have HM1 : Hid (Ln (l ++ [⟨2, x.S, 0, 0, 0, 0, 0⟩]) (m + 1)) := HM0.out.next (by omega) _
  have HM2 : Hid (Ln ((l ++ [⟨2, x.S, 0, 0, 0, 0, 0⟩]) ++ [⟨1, 0, 0, 0, 0, x.im, 0⟩]) (m + 1 + 1)) := HM1.out.next (by omega) _
  have HM3 : Hid (Ln (((l ++ [⟨2, x.S, 0, 0, 0, 0, 0⟩]) ++ [⟨1, 0, 0, 0, 0, x.im, 0⟩]) ++ [⟨4, 0, m, m + 1, 0, 0, 0⟩]) (m + 1 + 1 + 1)) := HM2.out.next (by omega) _
  have HM4 : Hid (Ln ((((l ++ [⟨2, x.S, 0, 0, 0, 0, 0⟩]) ++ [⟨1, 0, 0, 0, 0, x.im, 0⟩]) ++ [⟨4, 0, m, m + 1, 0, 0, 0⟩]) ++ [⟨9, 4, m + 1 + 1, 0, 0, x.pc, x.done⟩]) (m + 1 + 1 + 1 + 1)) := HM3.out.next (by omega) _
  have HM5 : Hid (Ln (((((l ++ [⟨2, x.S, 0, 0, 0, 0, 0⟩]) ++ [⟨1, 0, 0, 0, 0, x.im, 0⟩]) ++ [⟨4, 0, m, m + 1, 0, 0, 0⟩]) ++ [⟨9, 4, m + 1 + 1, 0, 0, x.pc, x.done⟩]) ++ [⟨2, x.D, 0, 0, 0, 0, 0⟩]) (m + 1 + 1 + 1 + 1 + 1)) := HM4.out.next (by omega) _
  have HM6 : Hid (Ln ((((((l ++ [⟨2, x.S, 0, 0, 0, 0, 0⟩]) ++ [⟨1, 0, 0, 0, 0, x.im, 0⟩]) ++ [⟨4, 0, m, m + 1, 0, 0, 0⟩]) ++ [⟨9, 4, m + 1 + 1, 0, 0, x.pc, x.done⟩]) ++ [⟨2, x.D, 0, 0, 0, 0, 0⟩]) ++ [⟨4, 0, m + 1 + 1 + 1, m + 1 + 1 + 1 + 1, 0, 0, 0⟩]) (m + 1 + 1 + 1 + 1 + 1 + 1)) := HM5.out.next (by omega) _
  have HM7 : Hid (Ln (((((((l ++ [⟨2, x.S, 0, 0, 0, 0, 0⟩]) ++ [⟨1, 0, 0, 0, 0, x.im, 0⟩]) ++ [⟨4, 0, m, m + 1, 0, 0, 0⟩]) ++ [⟨9, 4, m + 1 + 1, 0, 0, x.pc, x.done⟩]) ++ [⟨2, x.D, 0, 0, 0, 0, 0⟩]) ++ [⟨4, 0, m + 1 + 1 + 1, m + 1 + 1 + 1 + 1, 0, 0, 0⟩]) ++ [⟨10, 2, m + 1 + 1, m + 1 + 1 + 1 + 1 + 1, 0, x.pc, x.done⟩]) (m + 1 + 1 + 1 + 1 + 1 + 1 + 1)) := HM6.out.next (by omega) _
  have HM8 : Hid (Ln ((((((((l ++ [⟨2, x.S, 0, 0, 0, 0, 0⟩]) ++ [⟨1, 0, 0, 0, 0, x.im, 0⟩]) ++ [⟨4, 0, m, m + 1, 0, 0, 0⟩]) ++ [⟨9, 4, m + 1 + 1, 0, 0, x.pc, x.done⟩]) ++ [⟨2, x.D, 0, 0, 0, 0, 0⟩]) ++ [⟨4, 0, m + 1 + 1 + 1, m + 1 + 1 + 1 + 1, 0, 0, 0⟩]) ++ [⟨10, 2, m + 1 + 1, m + 1 + 1 + 1 + 1 + 1, 0, x.pc, x.done⟩]) ++ [⟨3, x.D, m + 1 + 1 + 1, 0, 0, 0, 0⟩]) (m + 1 + 1 + 1 + 1 + 1 + 1 + 1 + 1)) := HM7.out.next (by omega) _
  have HM9 : Hid (Ln (((((((((l ++ [⟨2, x.S, 0, 0, 0, 0, 0⟩]) ++ [⟨1, 0, 0, 0, 0, x.im, 0⟩]) ++ [⟨4, 0, m, m + 1, 0, 0, 0⟩]) ++ [⟨9, 4, m + 1 + 1, 0, 0, x.pc, x.done⟩]) ++ [⟨2, x.D, 0, 0, 0, 0, 0⟩]) ++ [⟨4, 0, m + 1 + 1 + 1, m + 1 + 1 + 1 + 1, 0, 0, 0⟩]) ++ [⟨10, 2, m + 1 + 1, m + 1 + 1 + 1 + 1 + 1, 0, x.pc, x.done⟩]) ++ [⟨3, x.D, m + 1 + 1 + 1, 0, 0, 0, 0⟩]) ++ [⟨1, 0, 0, 0, 0, 1, 0⟩]) (m + 1 + 1 + 1 + 1 + 1 + 1 + 1 + 1 + 1)) := HM8.out.next (by omega) _
  have HM10 : Hid (Ln ((((((((((l ++ [⟨2, x.S, 0, 0, 0, 0, 0⟩]) ++ [⟨1, 0, 0, 0, 0, x.im, 0⟩]) ++ [⟨4, 0, m, m + 1, 0, 0, 0⟩]) ++ [⟨9, 4, m + 1 + 1, 0, 0, x.pc, x.done⟩]) ++ [⟨2, x.D, 0, 0, 0, 0, 0⟩]) ++ [⟨4, 0, m + 1 + 1 + 1, m + 1 + 1 + 1 + 1, 0, 0, 0⟩]) ++ [⟨10, 2, m + 1 + 1, m + 1 + 1 + 1 + 1 + 1, 0, x.pc, x.done⟩]) ++ [⟨3, x.D, m + 1 + 1 + 1, 0, 0, 0, 0⟩]) ++ [⟨1, 0, 0, 0, 0, 1, 0⟩]) ++ [⟨3, 8, m + 1 + 1 + 1 + 1 + 1 + 1 + 1 + 1, 0, 0, 0, 0⟩]) (m + 1 + 1 + 1 + 1 + 1 + 1 + 1 + 1 + 1 + 1)) := HM9.out.next (by omega) _
  have HM11 : Hid (Ln (((((((((((l ++ [⟨2, x.S, 0, 0, 0, 0, 0⟩]) ++ [⟨1, 0, 0, 0, 0, x.im, 0⟩]) ++ [⟨4, 0, m, m + 1, 0, 0, 0⟩]) ++ [⟨9, 4, m + 1 + 1, 0, 0, x.pc, x.done⟩]) ++ [⟨2, x.D, 0, 0, 0, 0, 0⟩]) ++ [⟨4, 0, m + 1 + 1 + 1, m + 1 + 1 + 1 + 1, 0, 0, 0⟩]) ++ [⟨10, 2, m + 1 + 1, m + 1 + 1 + 1 + 1 + 1, 0, x.pc, x.done⟩]) ++ [⟨3, x.D, m + 1 + 1 + 1, 0, 0, 0, 0⟩]) ++ [⟨1, 0, 0, 0, 0, 1, 0⟩]) ++ [⟨3, 8, m + 1 + 1 + 1 + 1 + 1 + 1 + 1 + 1, 0, 0, 0, 0⟩]) ++ [⟨3, 9, m + 1 + 1 + 1, 0, 0, 0, 0⟩]) (m + 1 + 1 + 1 + 1 + 1 + 1 + 1 + 1 + 1 + 1 + 1)) := HM10.out.next (by omega) _
  have HM12 : Hid (Ln ((((((((((((l ++ [⟨2, x.S, 0, 0, 0, 0, 0⟩]) ++ [⟨1, 0, 0, 0, 0, x.im, 0⟩]) ++ [⟨4, 0, m, m + 1, 0, 0, 0⟩]) ++ [⟨9, 4, m + 1 + 1, 0, 0, x.pc, x.done⟩]) ++ [⟨2, x.D, 0, 0, 0, 0, 0⟩]) ++ [⟨4, 0, m + 1 + 1 + 1, m + 1 + 1 + 1 + 1, 0, 0, 0⟩]) ++ [⟨10, 2, m + 1 + 1, m + 1 + 1 + 1 + 1 + 1, 0, x.pc, x.done⟩]) ++ [⟨3, x.D, m + 1 + 1 + 1, 0, 0, 0, 0⟩]) ++ [⟨1, 0, 0, 0, 0, 1, 0⟩]) ++ [⟨3, 8, m + 1 + 1 + 1 + 1 + 1 + 1 + 1 + 1, 0, 0, 0, 0⟩]) ++ [⟨3, 9, m + 1 + 1 + 1, 0, 0, 0, 0⟩]) ++ [⟨3, 10, m + 1 + 1 + 1 + 1, 0, 0, 0, 0⟩]) (m + 1 + 1 + 1 + 1 + 1 + 1 + 1 + 1 + 1 + 1 + 1 + 1)) := HM11.out.next (by omega) _
  have HM13 : Hid (Ln (((((((((((((l ++ [⟨2, x.S, 0, 0, 0, 0, 0⟩]) ++ [⟨1, 0, 0, 0, 0, x.im, 0⟩]) ++ [⟨4, 0, m, m + 1, 0, 0, 0⟩]) ++ [⟨9, 4, m + 1 + 1, 0, 0, x.pc, x.done⟩]) ++ [⟨2, x.D, 0, 0, 0, 0, 0⟩]) ++ [⟨4, 0, m + 1 + 1 + 1, m + 1 + 1 + 1 + 1, 0, 0, 0⟩]) ++ [⟨10, 2, m + 1 + 1, m + 1 + 1 + 1 + 1 + 1, 0, x.pc, x.done⟩]) ++ [⟨3, x.D, m + 1 + 1 + 1, 0, 0, 0, 0⟩]) ++ [⟨1, 0, 0, 0, 0, 1, 0⟩]) ++ [⟨3, 8, m + 1 + 1 + 1 + 1 + 1 + 1 + 1 + 1, 0, 0, 0, 0⟩]) ++ [⟨3, 9, m + 1 + 1 + 1, 0, 0, 0, 0⟩]) ++ [⟨3, 10, m + 1 + 1 + 1 + 1, 0, 0, 0, 0⟩]) ++ [⟨11, 0, 0, 0, 0, x.next, x.done + 1⟩]) (m + 1 + 1 + 1 + 1 + 1 + 1 + 1 + 1 + 1 + 1 + 1 + 1 + 1)) := HM12.out.next (by omega) _
  clear h hm hd
  clear hmx
  go_enter Try.func111, Try.ntmps111
  all_goals go_wp2_with (first
      | (have HQ2 := H1; go_at_call 155; refine (watch_m k U x _ (m + 1 + 1 + 1 + 1 + 1 + 1 + 1 + 1 + 1 + 1 + 1 + 1) _ ?_ HM12.out HDN.out).mono ?_; (focus (first | with_reducible exact H1.out.t | with_reducible exact H1.out.t.drw | with_reducible exact (H1.out.t.alw _) | with_reducible exact (H1.out.t.alw _).drw | with_reducible exact (H1.out.t.drw.alw _) | with_reducible exact ((H1.out.t.alw _).alw _) | with_reducible exact ((H1.out.t.alw _).alw _).drw)); rintro e w2 ⟨rfl, h2⟩; have H2 : Hid (Em w1 w2 k U x (((((((((((((l ++ [⟨2, x.S, 0, 0, 0, 0, 0⟩]) ++ [⟨1, 0, 0, 0, 0, x.im, 0⟩]) ++ [⟨4, 0, m, m + 1, 0, 0, 0⟩]) ++ [⟨9, 4, m + 1 + 1, 0, 0, x.pc, x.done⟩]) ++ [⟨2, x.D, 0, 0, 0, 0, 0⟩]) ++ [⟨4, 0, m + 1 + 1 + 1, m + 1 + 1 + 1 + 1, 0, 0, 0⟩]) ++ [⟨10, 2, m + 1 + 1, m + 1 + 1 + 1 + 1 + 1, 0, x.pc, x.done⟩]) ++ [⟨3, x.D, m + 1 + 1 + 1, 0, 0, 0, 0⟩]) ++ [⟨1, 0, 0, 0, 0, 1, 0⟩]) ++ [⟨3, 8, m + 1 + 1 + 1 + 1 + 1 + 1 + 1 + 1, 0, 0, 0, 0⟩]) ++ [⟨3, 9, m + 1 + 1 + 1, 0, 0, 0, 0⟩]) ++ [⟨3, 10, m + 1 + 1 + 1 + 1, 0, 0, 0, 0⟩]) ++ [⟨11, 0, 0, 0, 0, x.next, x.done + 1⟩])) := (show Em _ _ _ _ _ _ by first | with_reducible exact h2 | with_reducible exact ((Em.refl H1.out.t).drew).trans h2 | with_reducible exact ((Em.refl H1.out.t).alloc _).trans h2 | with_reducible exact (((Em.refl H1.out.t).alloc _).drew).trans h2 | with_reducible exact (((Em.refl H1.out.t).drew).alloc _).trans h2 | with_reducible exact (((Em.refl H1.out.t).alloc _).alloc _).trans h2 | with_reducible exact ((((Em.refl H1.out.t).alloc _).alloc _).drew).trans h2); obtain ⟨q0, q1, q2, q3, q4, q5, q6, q7, q8, q9⟩ := h2.t.cells; have HPx2 : Hid (w2.heap[w.heap.size]? = some (.cells #[.int .i64 x.op, .int .i64 x.D, .int .i64 x.S, .int .i64 x.O, .int .u32 x.im] 26)) := H2.out.kp.keep _ _ _ HPx1.out HNx.out (by decide); obtain ⟨qx0, qx1, qx2, qx3, qx4⟩ := ins_cells HPx2.out; have qlx := row_lt HPx2.out; have qU := row_lt H2.out.t.bU; clear h2 HQ2)
      | (go_at_call 156; refine (swaps25 k U x _ (m) _ ?_ HM0.out (by have := HMX.out; omega) HDN.out HOP.out).mono ?_; (focus (first | with_reducible exact HT.out | with_reducible exact HT.out.drw | with_reducible exact (HT.out.alw _) | with_reducible exact (HT.out.alw _).drw | with_reducible exact (HT.out.drw.alw _) | with_reducible exact ((HT.out.alw _).alw _) | with_reducible exact ((HT.out.alw _).alw _).drw)); rintro e w1 ⟨rfl, h1⟩; have H1 : Hid (Em w w1 k U x ((((((((((((l ++ [⟨2, x.S, 0, 0, 0, 0, 0⟩]) ++ [⟨1, 0, 0, 0, 0, x.im, 0⟩]) ++ [⟨4, 0, m, m + 1, 0, 0, 0⟩]) ++ [⟨9, 4, m + 1 + 1, 0, 0, x.pc, x.done⟩]) ++ [⟨2, x.D, 0, 0, 0, 0, 0⟩]) ++ [⟨4, 0, m + 1 + 1 + 1, m + 1 + 1 + 1 + 1, 0, 0, 0⟩]) ++ [⟨10, 2, m + 1 + 1, m + 1 + 1 + 1 + 1 + 1, 0, x.pc, x.done⟩]) ++ [⟨3, x.D, m + 1 + 1 + 1, 0, 0, 0, 0⟩]) ++ [⟨1, 0, 0, 0, 0, 1, 0⟩]) ++ [⟨3, 8, m + 1 + 1 + 1 + 1 + 1 + 1 + 1 + 1, 0, 0, 0, 0⟩]) ++ [⟨3, 9, m + 1 + 1 + 1, 0, 0, 0, 0⟩]) ++ [⟨3, 10, m + 1 + 1 + 1 + 1, 0, 0, 0, 0⟩])) := (show Em _ _ _ _ _ _ by first | with_reducible exact h1 | with_reducible exact ((Em.refl HT.out).drew).trans h1 | with_reducible exact ((Em.refl HT.out).alloc _).trans h1 | with_reducible exact (((Em.refl HT.out).alloc _).drew).trans h1 | with_reducible exact (((Em.refl HT.out).drew).alloc _).trans h1 | with_reducible exact (((Em.refl HT.out).alloc _).alloc _).trans h1 | with_reducible exact ((((Em.refl HT.out).alloc _).alloc _).drew).trans h1); obtain ⟨v0, v1, v2, v3, v4, v5, v6, v7, v8, v9⟩ := h1.t.cells; have HPx1 : Hid (w1.heap[w.heap.size]? = some (.cells #[.int .i64 x.op, .int .i64 x.D, .int .i64 x.S, .int .i64 x.O, .int .u32 x.im] 26)) := h1.kp.keep _ _ _ HPx0.out HNx.out (by decide); obtain ⟨vx0, vx1, vx2, vx3, vx4⟩ := ins_cells HPx1.out; have vlx := row_lt HPx1.out; have vU := row_lt H1.out.t.bU; clear h1))
  all_goals go_end0
  all_goals exact ⟨rfl, (H1.out).trans H2.out⟩
set_option maxHeartbeats 4000000 in
theorem do26 (k : BK) (U : Nat) (x : XI) (l : List OpR) (m : Int)  (w : World) (h : TU w k U x l) (hm : Ln l m) (hmx : m + 160 < 90000) (hd : 0 ≤ x.done ∧ x.done ≤ 64) (hop : x.op = 26) :
    Calls Try.prog 111 #[.pointer (some ⟨U, 0, none⟩)] w fun e w' => e = .returned (.tuple #[]) ∧ Em w w' k U x (((((((((((((((l ++ [⟨2, x.S, 0, 0, 0, 0, 0⟩]) ++ [⟨1, 0, 0, 0, 0, x.im, 0⟩]) ++ [⟨4, 0, m, m + 1, 0, 0, 0⟩]) ++ [⟨9, 4, m + 1 + 1, 0, 0, x.pc, x.done⟩]) ++ [⟨2, x.D, 0, 0, 0, 0, 0⟩]) ++ [⟨2, 0, 0, 0, 0, 0, 0⟩]) ++ [⟨4, 13, m + 1 + 1 + 1 + 1 + 1, m + 1 + 1 + 1, 0, 0, 0⟩]) ++ [⟨6, 0, m + 1 + 1 + 1 + 1 + 1 + 1, m + 1 + 1 + 1 + 1, m + 1 + 1 + 1, 0, 0⟩]) ++ [⟨10, 2, m + 1 + 1, m + 1 + 1 + 1 + 1 + 1 + 1 + 1, 0, x.pc, x.done⟩]) ++ [⟨3, 0, m + 1 + 1 + 1, 0, 0, 0, 0⟩]) ++ [⟨1, 0, 0, 0, 0, 3, 0⟩]) ++ [⟨3, 8, m + 1 + 1 + 1 + 1 + 1 + 1 + 1 + 1 + 1 + 1, 0, 0, 0, 0⟩]) ++ [⟨3, 9, m + 1 + 1 + 1 + 1 + 1, 0, 0, 0, 0⟩]) ++ [⟨3, 10, m + 1 + 1 + 1, 0, 0, 0, 0⟩]) ++ [⟨11, 0, 0, 0, 0, x.next, x.done + 1⟩]) := by
  obtain ⟨u0, u1, u2, u3, u4, u5, u6, u7, u8, u9⟩ := h.cells
  have lU := row_lt h.bU
  have HNx : Hid (w.heap.size ≠ k.B) := show w.heap.size ≠ k.B by have := h.ltB; omega
  have HPx0 : Hid ((w.alloc (.cells #[.int .i64 x.op, .int .i64 x.D, .int .i64 x.S, .int .i64 x.O, .int .u32 x.im] 26)).heap[w.heap.size]? = some (.cells #[.int .i64 x.op, .int .i64 x.D, .int .i64 x.S, .int .i64 x.O, .int .u32 x.im] 26)) := heap_alloc_last w _
  have HDN : Hid _ := hd
  have HMX : Hid (m + 160 < 90000) := hmx
  have HWR : Hid (IntKind.i64.wrap (x.done + 1) = x.done + 1) := wrap_done x.done hd.1 hd.2
  have HOP : Hid _ := hop
  have k1 : (x.op == 1) = false := by simp [hop]
  have k5 : (x.op == 5) = false := by simp [hop]
  have k6 : (x.op == 6) = false := by simp [hop]
  have k7 : (x.op == 7) = false := by simp [hop]
  have k12 : (x.op == 12) = false := by simp [hop]
  have k13 : (x.op == 13) = false := by simp [hop]
  have k9 : (x.op == 9) = false := by simp [hop]
  have k11 : (x.op == 11) = false := by simp [hop]
  have k14 : (x.op == 14) = false := by simp [hop]
  have k3 : (x.op == 3) = false := by simp [hop]
  have k8 : (x.op == 8) = false := by simp [hop]
  have k10 : (x.op == 10) = false := by simp [hop]
  have k15 : (x.op == 15) = false := by simp [hop]
  have k4 : (x.op == 4) = false := by simp [hop]
  have k2 : (x.op == 2) = false := by simp [hop]
  have k27 : (x.op == 27) = false := by simp [hop]
  have k28 : (x.op == 28) = false := by simp [hop]
  have k29 : (x.op == 29) = false := by simp [hop]
  have k30 : (x.op == 30) = false := by simp [hop]
  have k31 : (x.op == 31) = false := by simp [hop]
  have k24 : (x.op == 24) = false := by simp [hop]
  have k25 : (x.op == 25) = false := by simp [hop]
  have k26 : (x.op == 26) = true := by simp [hop]
  clear hop
  have HT : Hid _ := h
  have HM0 : Hid (Ln l m) := hm
  have HM1 : Hid (Ln (l ++ [⟨2, x.S, 0, 0, 0, 0, 0⟩]) (m + 1)) := HM0.out.next (by omega) _
  have HM2 : Hid (Ln ((l ++ [⟨2, x.S, 0, 0, 0, 0, 0⟩]) ++ [⟨1, 0, 0, 0, 0, x.im, 0⟩]) (m + 1 + 1)) := HM1.out.next (by omega) _
  have HM3 : Hid (Ln (((l ++ [⟨2, x.S, 0, 0, 0, 0, 0⟩]) ++ [⟨1, 0, 0, 0, 0, x.im, 0⟩]) ++ [⟨4, 0, m, m + 1, 0, 0, 0⟩]) (m + 1 + 1 + 1)) := HM2.out.next (by omega) _
  have HM4 : Hid (Ln ((((l ++ [⟨2, x.S, 0, 0, 0, 0, 0⟩]) ++ [⟨1, 0, 0, 0, 0, x.im, 0⟩]) ++ [⟨4, 0, m, m + 1, 0, 0, 0⟩]) ++ [⟨9, 4, m + 1 + 1, 0, 0, x.pc, x.done⟩]) (m + 1 + 1 + 1 + 1)) := HM3.out.next (by omega) _
  have HM5 : Hid (Ln (((((l ++ [⟨2, x.S, 0, 0, 0, 0, 0⟩]) ++ [⟨1, 0, 0, 0, 0, x.im, 0⟩]) ++ [⟨4, 0, m, m + 1, 0, 0, 0⟩]) ++ [⟨9, 4, m + 1 + 1, 0, 0, x.pc, x.done⟩]) ++ [⟨2, x.D, 0, 0, 0, 0, 0⟩]) (m + 1 + 1 + 1 + 1 + 1)) := HM4.out.next (by omega) _
  have HM6 : Hid (Ln ((((((l ++ [⟨2, x.S, 0, 0, 0, 0, 0⟩]) ++ [⟨1, 0, 0, 0, 0, x.im, 0⟩]) ++ [⟨4, 0, m, m + 1, 0, 0, 0⟩]) ++ [⟨9, 4, m + 1 + 1, 0, 0, x.pc, x.done⟩]) ++ [⟨2, x.D, 0, 0, 0, 0, 0⟩]) ++ [⟨2, 0, 0, 0, 0, 0, 0⟩]) (m + 1 + 1 + 1 + 1 + 1 + 1)) := HM5.out.next (by omega) _
  have HM7 : Hid (Ln (((((((l ++ [⟨2, x.S, 0, 0, 0, 0, 0⟩]) ++ [⟨1, 0, 0, 0, 0, x.im, 0⟩]) ++ [⟨4, 0, m, m + 1, 0, 0, 0⟩]) ++ [⟨9, 4, m + 1 + 1, 0, 0, x.pc, x.done⟩]) ++ [⟨2, x.D, 0, 0, 0, 0, 0⟩]) ++ [⟨2, 0, 0, 0, 0, 0, 0⟩]) ++ [⟨4, 13, m + 1 + 1 + 1 + 1 + 1, m + 1 + 1 + 1, 0, 0, 0⟩]) (m + 1 + 1 + 1 + 1 + 1 + 1 + 1)) := HM6.out.next (by omega) _
  have HM8 : Hid (Ln ((((((((l ++ [⟨2, x.S, 0, 0, 0, 0, 0⟩]) ++ [⟨1, 0, 0, 0, 0, x.im, 0⟩]) ++ [⟨4, 0, m, m + 1, 0, 0, 0⟩]) ++ [⟨9, 4, m + 1 + 1, 0, 0, x.pc, x.done⟩]) ++ [⟨2, x.D, 0, 0, 0, 0, 0⟩]) ++ [⟨2, 0, 0, 0, 0, 0, 0⟩]) ++ [⟨4, 13, m + 1 + 1 + 1 + 1 + 1, m + 1 + 1 + 1, 0, 0, 0⟩]) ++ [⟨6, 0, m + 1 + 1 + 1 + 1 + 1 + 1, m + 1 + 1 + 1 + 1, m + 1 + 1 + 1, 0, 0⟩]) (m + 1 + 1 + 1 + 1 + 1 + 1 + 1 + 1)) := HM7.out.next (by omega) _
  have HM9 : Hid (Ln (((((((((l ++ [⟨2, x.S, 0, 0, 0, 0, 0⟩]) ++ [⟨1, 0, 0, 0, 0, x.im, 0⟩]) ++ [⟨4, 0, m, m + 1, 0, 0, 0⟩]) ++ [⟨9, 4, m + 1 + 1, 0, 0, x.pc, x.done⟩]) ++ [⟨2, x.D, 0, 0, 0, 0, 0⟩]) ++ [⟨2, 0, 0, 0, 0, 0, 0⟩]) ++ [⟨4, 13, m + 1 + 1 + 1 + 1 + 1, m + 1 + 1 + 1, 0, 0, 0⟩]) ++ [⟨6, 0, m + 1 + 1 + 1 + 1 + 1 + 1, m + 1 + 1 + 1 + 1, m + 1 + 1 + 1, 0, 0⟩]) ++ [⟨10, 2, m + 1 + 1, m + 1 + 1 + 1 + 1 + 1 + 1 + 1, 0, x.pc, x.done⟩]) (m + 1 + 1 + 1 + 1 + 1 + 1 + 1 + 1 + 1)) := HM8.out.next (by omega) _
  have HM10 : Hid (Ln ((((((((((l ++ [⟨2, x.S, 0, 0, 0, 0, 0⟩]) ++ [⟨1, 0, 0, 0, 0, x.im, 0⟩]) ++ [⟨4, 0, m, m + 1, 0, 0, 0⟩]) ++ [⟨9, 4, m + 1 + 1, 0, 0, x.pc, x.done⟩]) ++ [⟨2, x.D, 0, 0, 0, 0, 0⟩]) ++ [⟨2, 0, 0, 0, 0, 0, 0⟩]) ++ [⟨4, 13, m + 1 + 1 + 1 + 1 + 1, m + 1 + 1 + 1, 0, 0, 0⟩]) ++ [⟨6, 0, m + 1 + 1 + 1 + 1 + 1 + 1, m + 1 + 1 + 1 + 1, m + 1 + 1 + 1, 0, 0⟩]) ++ [⟨10, 2, m + 1 + 1, m + 1 + 1 + 1 + 1 + 1 + 1 + 1, 0, x.pc, x.done⟩]) ++ [⟨3, 0, m + 1 + 1 + 1, 0, 0, 0, 0⟩]) (m + 1 + 1 + 1 + 1 + 1 + 1 + 1 + 1 + 1 + 1)) := HM9.out.next (by omega) _
  have HM11 : Hid (Ln (((((((((((l ++ [⟨2, x.S, 0, 0, 0, 0, 0⟩]) ++ [⟨1, 0, 0, 0, 0, x.im, 0⟩]) ++ [⟨4, 0, m, m + 1, 0, 0, 0⟩]) ++ [⟨9, 4, m + 1 + 1, 0, 0, x.pc, x.done⟩]) ++ [⟨2, x.D, 0, 0, 0, 0, 0⟩]) ++ [⟨2, 0, 0, 0, 0, 0, 0⟩]) ++ [⟨4, 13, m + 1 + 1 + 1 + 1 + 1, m + 1 + 1 + 1, 0, 0, 0⟩]) ++ [⟨6, 0, m + 1 + 1 + 1 + 1 + 1 + 1, m + 1 + 1 + 1 + 1, m + 1 + 1 + 1, 0, 0⟩]) ++ [⟨10, 2, m + 1 + 1, m + 1 + 1 + 1 + 1 + 1 + 1 + 1, 0, x.pc, x.done⟩]) ++ [⟨3, 0, m + 1 + 1 + 1, 0, 0, 0, 0⟩]) ++ [⟨1, 0, 0, 0, 0, 3, 0⟩]) (m + 1 + 1 + 1 + 1 + 1 + 1 + 1 + 1 + 1 + 1 + 1)) := HM10.out.next (by omega) _
  have HM12 : Hid (Ln ((((((((((((l ++ [⟨2, x.S, 0, 0, 0, 0, 0⟩]) ++ [⟨1, 0, 0, 0, 0, x.im, 0⟩]) ++ [⟨4, 0, m, m + 1, 0, 0, 0⟩]) ++ [⟨9, 4, m + 1 + 1, 0, 0, x.pc, x.done⟩]) ++ [⟨2, x.D, 0, 0, 0, 0, 0⟩]) ++ [⟨2, 0, 0, 0, 0, 0, 0⟩]) ++ [⟨4, 13, m + 1 + 1 + 1 + 1 + 1, m + 1 + 1 + 1, 0, 0, 0⟩]) ++ [⟨6, 0, m + 1 + 1 + 1 + 1 + 1 + 1, m + 1 + 1 + 1 + 1, m + 1 + 1 + 1, 0, 0⟩]) ++ [⟨10, 2, m + 1 + 1, m + 1 + 1 + 1 + 1 + 1 + 1 + 1, 0, x.pc, x.done⟩]) ++ [⟨3, 0, m + 1 + 1 + 1, 0, 0, 0, 0⟩]) ++ [⟨1, 0, 0, 0, 0, 3, 0⟩]) ++ [⟨3, 8, m + 1 + 1 + 1 + 1 + 1 + 1 + 1 + 1 + 1 + 1, 0, 0, 0, 0⟩]) (m + 1 + 1 + 1 + 1 + 1 + 1 + 1 + 1 + 1 + 1 + 1 + 1)) := HM11.out.next (by omega) _
  have HM13 : Hid (Ln (((((((((((((l ++ [⟨2, x.S, 0, 0, 0, 0, 0⟩]) ++ [⟨1, 0, 0, 0, 0, x.im, 0⟩]) ++ [⟨4, 0, m, m + 1, 0, 0, 0⟩]) ++ [⟨9, 4, m + 1 + 1, 0, 0, x.pc, x.done⟩]) ++ [⟨2, x.D, 0, 0, 0, 0, 0⟩]) ++ [⟨2, 0, 0, 0, 0, 0, 0⟩]) ++ [⟨4, 13, m + 1 + 1 + 1 + 1 + 1, m + 1 + 1 + 1, 0, 0, 0⟩]) ++ [⟨6, 0, m + 1 + 1 + 1 + 1 + 1 + 1, m + 1 + 1 + 1 + 1, m + 1 + 1 + 1, 0, 0⟩]) ++ [⟨10, 2, m + 1 + 1, m + 1 + 1 + 1 + 1 + 1 + 1 + 1, 0, x.pc, x.done⟩]) ++ [⟨3, 0, m + 1 + 1 + 1, 0, 0, 0, 0⟩]) ++ [⟨1, 0, 0, 0, 0, 3, 0⟩]) ++ [⟨3, 8, m + 1 + 1 + 1 + 1 + 1 + 1 + 1 + 1 + 1 + 1, 0, 0, 0, 0⟩]) ++ [⟨3, 9, m + 1 + 1 + 1 + 1 + 1, 0, 0, 0, 0⟩]) (m + 1 + 1 + 1 + 1 + 1 + 1 + 1 + 1 + 1 + 1 + 1 + 1 + 1)) := HM12.out.next (by omega) _
  have HM14 : Hid (Ln ((((((((((((((l ++ [⟨2, x.S, 0, 0, 0, 0, 0⟩]) ++ [⟨1, 0, 0, 0, 0, x.im, 0⟩]) ++ [⟨4, 0, m, m + 1, 0, 0, 0⟩]) ++ [⟨9, 4, m + 1 + 1, 0, 0, x.pc, x.done⟩]) ++ [⟨2, x.D, 0, 0, 0, 0, 0⟩]) ++ [⟨2, 0, 0, 0, 0, 0, 0⟩]) ++ [⟨4, 13, m + 1 + 1 + 1 + 1 + 1, m + 1 + 1 + 1, 0, 0, 0⟩]) ++ [⟨6, 0, m + 1 + 1 + 1 + 1 + 1 + 1, m + 1 + 1 + 1 + 1, m + 1 + 1 + 1, 0, 0⟩]) ++ [⟨10, 2, m + 1 + 1, m + 1 + 1 + 1 + 1 + 1 + 1 + 1, 0, x.pc, x.done⟩]) ++ [⟨3, 0, m + 1 + 1 + 1, 0, 0, 0, 0⟩]) ++ [⟨1, 0, 0, 0, 0, 3, 0⟩]) ++ [⟨3, 8, m + 1 + 1 + 1 + 1 + 1 + 1 + 1 + 1 + 1 + 1, 0, 0, 0, 0⟩]) ++ [⟨3, 9, m + 1 + 1 + 1 + 1 + 1, 0, 0, 0, 0⟩]) ++ [⟨3, 10, m + 1 + 1 + 1, 0, 0, 0, 0⟩]) (m + 1 + 1 + 1 + 1 + 1 + 1 + 1 + 1 + 1 + 1 + 1 + 1 + 1 + 1)) := HM13.out.next (by omega) _
  have HM15 : Hid (Ln (((((((((((((((l ++ [⟨2, x.S, 0, 0, 0, 0, 0⟩]) ++ [⟨1, 0, 0, 0, 0, x.im, 0⟩]) ++ [⟨4, 0, m, m + 1, 0, 0, 0⟩]) ++ [⟨9, 4, m + 1 + 1, 0, 0, x.pc, x.done⟩]) ++ [⟨2, x.D, 0, 0, 0, 0, 0⟩]) ++ [⟨2, 0, 0, 0, 0, 0, 0⟩]) ++ [⟨4, 13, m + 1 + 1 + 1 + 1 + 1, m + 1 + 1 + 1, 0, 0, 0⟩]) ++ [⟨6, 0, m + 1 + 1 + 1 + 1 + 1 + 1, m + 1 + 1 + 1 + 1, m + 1 + 1 + 1, 0, 0⟩]) ++ [⟨10, 2, m + 1 + 1, m + 1 + 1 + 1 + 1 + 1 + 1 + 1, 0, x.pc, x.done⟩]) ++ [⟨3, 0, m + 1 + 1 + 1, 0, 0, 0, 0⟩]) ++ [⟨1, 0, 0, 0, 0, 3, 0⟩]) ++ [⟨3, 8, m + 1 + 1 + 1 + 1 + 1 + 1 + 1 + 1 + 1 + 1, 0, 0, 0, 0⟩]) ++ [⟨3, 9, m + 1 + 1 + 1 + 1 + 1, 0, 0, 0, 0⟩]) ++ [⟨3, 10, m + 1 + 1 + 1, 0, 0, 0, 0⟩]) ++ [⟨11, 0, 0, 0, 0, x.next, x.done + 1⟩]) (m + 1 + 1 + 1 + 1 + 1 + 1 + 1 + 1 + 1 + 1 + 1 + 1 + 1 + 1 + 1)) := HM14.out.next (by omega) _
  clear h hm hd
  clear hmx
  go_enter Try.func111, Try.ntmps111
  all_goals go_wp2_with (first
      | (have HQ2 := H1; go_at_call 155; refine (watch_m k U x _ (m + 1 + 1 + 1 + 1 + 1 + 1 + 1 + 1 + 1 + 1 + 1 + 1 + 1 + 1) _ ?_ HM14.out HDN.out).mono ?_; (focus (first | with_reducible exact H1.out.t | with_reducible exact H1.out.t.drw | with_reducible exact (H1.out.t.alw _) | with_reducible exact (H1.out.t.alw _).drw | with_reducible exact (H1.out.t.drw.alw _) | with_reducible exact ((H1.out.t.alw _).alw _) | with_reducible exact ((H1.out.t.alw _).alw _).drw)); rintro e w2 ⟨rfl, h2⟩; have H2 : Hid (Em w1 w2 k U x (((((((((((((((l ++ [⟨2, x.S, 0, 0, 0, 0, 0⟩]) ++ [⟨1, 0, 0, 0, 0, x.im, 0⟩]) ++ [⟨4, 0, m, m + 1, 0, 0, 0⟩]) ++ [⟨9, 4, m + 1 + 1, 0, 0, x.pc, x.done⟩]) ++ [⟨2, x.D, 0, 0, 0, 0, 0⟩]) ++ [⟨2, 0, 0, 0, 0, 0, 0⟩]) ++ [⟨4, 13, m + 1 + 1 + 1 + 1 + 1, m + 1 + 1 + 1, 0, 0, 0⟩]) ++ [⟨6, 0, m + 1 + 1 + 1 + 1 + 1 + 1, m + 1 + 1 + 1 + 1, m + 1 + 1 + 1, 0, 0⟩]) ++ [⟨10, 2, m + 1 + 1, m + 1 + 1 + 1 + 1 + 1 + 1 + 1, 0, x.pc, x.done⟩]) ++ [⟨3, 0, m + 1 + 1 + 1, 0, 0, 0, 0⟩]) ++ [⟨1, 0, 0, 0, 0, 3, 0⟩]) ++ [⟨3, 8, m + 1 + 1 + 1 + 1 + 1 + 1 + 1 + 1 + 1 + 1, 0, 0, 0, 0⟩]) ++ [⟨3, 9, m + 1 + 1 + 1 + 1 + 1, 0, 0, 0, 0⟩]) ++ [⟨3, 10, m + 1 + 1 + 1, 0, 0, 0, 0⟩]) ++ [⟨11, 0, 0, 0, 0, x.next, x.done + 1⟩])) := (show Em _ _ _ _ _ _ by first | with_reducible exact h2 | with_reducible exact ((Em.refl H1.out.t).drew).trans h2 | with_reducible exact ((Em.refl H1.out.t).alloc _).trans h2 | with_reducible exact (((Em.refl H1.out.t).alloc _).drew).trans h2 | with_reducible exact (((Em.refl H1.out.t).drew).alloc _).trans h2 | with_reducible exact (((Em.refl H1.out.t).alloc _).alloc _).trans h2 | with_reducible exact ((((Em.refl H1.out.t).alloc _).alloc _).drew).trans h2); obtain ⟨q0, q1, q2, q3, q4, q5, q6, q7, q8, q9⟩ := h2.t.cells; have HPx2 : Hid (w2.heap[w.heap.size]? = some (.cells #[.int .i64 x.op, .int .i64 x.D, .int .i64 x.S, .int .i64 x.O, .int .u32 x.im] 26)) := H2.out.kp.keep _ _ _ HPx1.out HNx.out (by decide); obtain ⟨qx0, qx1, qx2, qx3, qx4⟩ := ins_cells HPx2.out; have qlx := row_lt HPx2.out; have qU := row_lt H2.out.t.bU; clear h2 HQ2)
      | (go_at_call 156; refine (swaps26 k U x _ (m) _ ?_ HM0.out (by have := HMX.out; omega) HDN.out HOP.out).mono ?_; (focus (first | with_reducible exact HT.out | with_reducible exact HT.out.drw | with_reducible exact (HT.out.alw _) | with_reducible exact (HT.out.alw _).drw | with_reducible exact (HT.out.drw.alw _) | with_reducible exact ((HT.out.alw _).alw _) | with_reducible exact ((HT.out.alw _).alw _).drw)); rintro e w1 ⟨rfl, h1⟩; have H1 : Hid (Em w w1 k U x ((((((((((((((l ++ [⟨2, x.S, 0, 0, 0, 0, 0⟩]) ++ [⟨1, 0, 0, 0, 0, x.im, 0⟩]) ++ [⟨4, 0, m, m + 1, 0, 0, 0⟩]) ++ [⟨9, 4, m + 1 + 1, 0, 0, x.pc, x.done⟩]) ++ [⟨2, x.D, 0, 0, 0, 0, 0⟩]) ++ [⟨2, 0, 0, 0, 0, 0, 0⟩]) ++ [⟨4, 13, m + 1 + 1 + 1 + 1 + 1, m + 1 + 1 + 1, 0, 0, 0⟩]) ++ [⟨6, 0, m + 1 + 1 + 1 + 1 + 1 + 1, m + 1 + 1 + 1 + 1, m + 1 + 1 + 1, 0, 0⟩]) ++ [⟨10, 2, m + 1 + 1, m + 1 + 1 + 1 + 1 + 1 + 1 + 1, 0, x.pc, x.done⟩]) ++ [⟨3, 0, m + 1 + 1 + 1, 0, 0, 0, 0⟩]) ++ [⟨1, 0, 0, 0, 0, 3, 0⟩]) ++ [⟨3, 8, m + 1 + 1 + 1 + 1 + 1 + 1 + 1 + 1 + 1 + 1, 0, 0, 0, 0⟩]) ++ [⟨3, 9, m + 1 + 1 + 1 + 1 + 1, 0, 0, 0, 0⟩]) ++ [⟨3, 10, m + 1 + 1 + 1, 0, 0, 0, 0⟩])) := (show Em _ _ _ _ _ _ by first | with_reducible exact h1 | with_reducible exact ((Em.refl HT.out).drew).trans h1 | with_reducible exact ((Em.refl HT.out).alloc _).trans h1 | with_reducible exact (((Em.refl HT.out).alloc _).drew).trans h1 | with_reducible exact (((Em.refl HT.out).drew).alloc _).trans h1 | with_reducible exact (((Em.refl HT.out).alloc _).alloc _).trans h1 | with_reducible exact ((((Em.refl HT.out).alloc _).alloc _).drew).trans h1); obtain ⟨v0, v1, v2, v3, v4, v5, v6, v7, v8, v9⟩ := h1.t.cells; have HPx1 : Hid (w1.heap[w.heap.size]? = some (.cells #[.int .i64 x.op, .int .i64 x.D, .int .i64 x.S, .int .i64 x.O, .int .u32 x.im] 26)) := h1.kp.keep _ _ _ HPx0.out HNx.out (by decide); obtain ⟨vx0, vx1, vx2, vx3, vx4⟩ := ins_cells HPx1.out; have vlx := row_lt HPx1.out; have vU := row_lt H1.out.t.bU; clear h1))
  all_goals go_end0
  all_goals exact ⟨rfl, (H1.out).trans H2.out⟩
end Go.Proofs.Ytjmffijdojeghaa
