import Derived.Test.YtjmffijdojeghaaLH
namespace Go.Proofs.Ytjmffijdojeghaa
open Go.RowKit
set_option maxRecDepth 100000
set_option linter.unusedVariables false
set_option linter.unusedSimpArgs false
set_option maxHeartbeats 4000000 in
theorem set17 (k : BK) (U : Nat) (x : XI) (l : List OpR) (m : Int)  (w : World) (h : TU w k U x l) (hm : Ln l m) (hmx : m + 100 < 90000) (hd : 0 ≤ x.done ∧ x.done ≤ 64) (hop : x.op = 17) :
    Calls Try.prog 157 #[.pointer (some ⟨U, 0, none⟩)] w fun e w' => e = .returned (.tuple #[]) ∧ Em w w' k U x ((((((((((l ++ [⟨2, x.D, 0, 0, 0, 0, 0⟩]) ++ [⟨1, 0, 0, 0, 0, 1, 0⟩]) ++ [⟨17, 0, 0, 0, 0, 0, 0⟩]) ++ [⟨4, 0, m, m + 1, 0, 0, 0⟩]) ++ [⟨3, x.D, m + 1 + 1 + 1, 0, 0, 0, 0⟩]) ++ [⟨1, 0, 0, 0, 0, 11, 0⟩]) ++ [⟨3, 8, m + 1 + 1 + 1 + 1 + 1, 0, 0, 0, 0⟩]) ++ [⟨3, 9, m, 0, 0, 0, 0⟩]) ++ [⟨3, 10, m + 1, 0, 0, 0, 0⟩]) ++ [⟨3, 11, m + 1 + 1, 0, 0, 0, 0⟩]) := by
  obtain ⟨u0, u1, u2, u3, u4, u5, u6, u7, u8, u9⟩ := h.cells
  have lU := row_lt h.bU
  have HNx : Hid (w.heap.size ≠ k.B) := show w.heap.size ≠ k.B by have := h.ltB; omega
  have HPx0 : Hid ((w.alloc (.cells #[.int .i64 x.op, .int .i64 x.D, .int .i64 x.S, .int .i64 x.O, .int .u32 x.im] 26)).heap[w.heap.size]? = some (.cells #[.int .i64 x.op, .int .i64 x.D, .int .i64 x.S, .int .i64 x.O, .int .u32 x.im] 26)) := heap_alloc_last w _
  have HDN : Hid _ := hd
  have HMX : Hid (m + 100 < 90000) := hmx
  have HWR : Hid (IntKind.i64.wrap (x.done + 1) = x.done + 1) := wrap_done x.done hd.1 hd.2
  have k16 : (x.op == 16) = false := by simp [hop]
  have k22 : (x.op == 22) = false := by simp [hop]
  have k23 : (x.op == 23) = false := by simp [hop]
  have k20 : (x.op == 20) = false := by simp [hop]
  have k17 : (x.op == 17) = true := by simp [hop]
  clear hop
  have HT : Hid _ := h
  have HM0 : Hid (Ln l m) := hm
  have HM1 : Hid (Ln (l ++ [⟨2, x.D, 0, 0, 0, 0, 0⟩]) (m + 1)) := HM0.out.next (by omega) _
  have HM2 : Hid (Ln ((l ++ [⟨2, x.D, 0, 0, 0, 0, 0⟩]) ++ [⟨1, 0, 0, 0, 0, 1, 0⟩]) (m + 1 + 1)) := HM1.out.next (by omega) _
  have HM3 : Hid (Ln (((l ++ [⟨2, x.D, 0, 0, 0, 0, 0⟩]) ++ [⟨1, 0, 0, 0, 0, 1, 0⟩]) ++ [⟨17, 0, 0, 0, 0, 0, 0⟩]) (m + 1 + 1 + 1)) := HM2.out.next (by omega) _
  have HM4 : Hid (Ln ((((l ++ [⟨2, x.D, 0, 0, 0, 0, 0⟩]) ++ [⟨1, 0, 0, 0, 0, 1, 0⟩]) ++ [⟨17, 0, 0, 0, 0, 0, 0⟩]) ++ [⟨4, 0, m, m + 1, 0, 0, 0⟩]) (m + 1 + 1 + 1 + 1)) := HM3.out.next (by omega) _
  have HM5 : Hid (Ln (((((l ++ [⟨2, x.D, 0, 0, 0, 0, 0⟩]) ++ [⟨1, 0, 0, 0, 0, 1, 0⟩]) ++ [⟨17, 0, 0, 0, 0, 0, 0⟩]) ++ [⟨4, 0, m, m + 1, 0, 0, 0⟩]) ++ [⟨3, x.D, m + 1 + 1 + 1, 0, 0, 0, 0⟩]) (m + 1 + 1 + 1 + 1 + 1)) := HM4.out.next (by omega) _
  have HM6 : Hid (Ln ((((((l ++ [⟨2, x.D, 0, 0, 0, 0, 0⟩]) ++ [⟨1, 0, 0, 0, 0, 1, 0⟩]) ++ [⟨17, 0, 0, 0, 0, 0, 0⟩]) ++ [⟨4, 0, m, m + 1, 0, 0, 0⟩]) ++ [⟨3, x.D, m + 1 + 1 + 1, 0, 0, 0, 0⟩]) ++ [⟨1, 0, 0, 0, 0, 11, 0⟩]) (m + 1 + 1 + 1 + 1 + 1 + 1)) := HM5.out.next (by omega) _
  have HM7 : Hid (Ln (((((((l ++ [⟨2, x.D, 0, 0, 0, 0, 0⟩]) ++ [⟨1, 0, 0, 0, 0, 1, 0⟩]) ++ [⟨17, 0, 0, 0, 0, 0, 0⟩]) ++ [⟨4, 0, m, m + 1, 0, 0, 0⟩]) ++ [⟨3, x.D, m + 1 + 1 + 1, 0, 0, 0, 0⟩]) ++ [⟨1, 0, 0, 0, 0, 11, 0⟩]) ++ [⟨3, 8, m + 1 + 1 + 1 + 1 + 1, 0, 0, 0, 0⟩]) (m + 1 + 1 + 1 + 1 + 1 + 1 + 1)) := HM6.out.next (by omega) _
  have HM8 : Hid (Ln ((((((((l ++ [⟨2, x.D, 0, 0, 0, 0, 0⟩]) ++ [⟨1, 0, 0, 0, 0, 1, 0⟩]) ++ [⟨17, 0, 0, 0, 0, 0, 0⟩]) ++ [⟨4, 0, m, m + 1, 0, 0, 0⟩]) ++ [⟨3, x.D, m + 1 + 1 + 1, 0, 0, 0, 0⟩]) ++ [⟨1, 0, 0, 0, 0, 11, 0⟩]) ++ [⟨3, 8, m + 1 + 1 + 1 + 1 + 1, 0, 0, 0, 0⟩]) ++ [⟨3, 9, m, 0, 0, 0, 0⟩]) (m + 1 + 1 + 1 + 1 + 1 + 1 + 1 + 1)) := HM7.out.next (by omega) _
  have HM9 : Hid (Ln (((((((((l ++ [⟨2, x.D, 0, 0, 0, 0, 0⟩]) ++ [⟨1, 0, 0, 0, 0, 1, 0⟩]) ++ [⟨17, 0, 0, 0, 0, 0, 0⟩]) ++ [⟨4, 0, m, m + 1, 0, 0, 0⟩]) ++ [⟨3, x.D, m + 1 + 1 + 1, 0, 0, 0, 0⟩]) ++ [⟨1, 0, 0, 0, 0, 11, 0⟩]) ++ [⟨3, 8, m + 1 + 1 + 1 + 1 + 1, 0, 0, 0, 0⟩]) ++ [⟨3, 9, m, 0, 0, 0, 0⟩]) ++ [⟨3, 10, m + 1, 0, 0, 0, 0⟩]) (m + 1 + 1 + 1 + 1 + 1 + 1 + 1 + 1 + 1)) := HM8.out.next (by omega) _
  have HM10 : Hid (Ln ((((((((((l ++ [⟨2, x.D, 0, 0, 0, 0, 0⟩]) ++ [⟨1, 0, 0, 0, 0, 1, 0⟩]) ++ [⟨17, 0, 0, 0, 0, 0, 0⟩]) ++ [⟨4, 0, m, m + 1, 0, 0, 0⟩]) ++ [⟨3, x.D, m + 1 + 1 + 1, 0, 0, 0, 0⟩]) ++ [⟨1, 0, 0, 0, 0, 11, 0⟩]) ++ [⟨3, 8, m + 1 + 1 + 1 + 1 + 1, 0, 0, 0, 0⟩]) ++ [⟨3, 9, m, 0, 0, 0, 0⟩]) ++ [⟨3, 10, m + 1, 0, 0, 0, 0⟩]) ++ [⟨3, 11, m + 1 + 1, 0, 0, 0, 0⟩]) (m + 1 + 1 + 1 + 1 + 1 + 1 + 1 + 1 + 1 + 1)) := HM9.out.next (by omega) _
  clear h hm hd
  clear hmx
  go_enter Try.func157, Try.ntmps157
  all_goals go_wp2_with (first
      | (go_at_call 179; refine (count_m k U x _ (m) 0 11 _ ?_ HM0.out (by have := HMX.out; omega) HDN.out (by decide)).mono ?_; (focus (first | with_reducible exact HT.out | with_reducible exact HT.out.drw | with_reducible exact (HT.out.alw _) | with_reducible exact (HT.out.alw _).drw | with_reducible exact (HT.out.drw.alw _) | with_reducible exact ((HT.out.alw _).alw _) | with_reducible exact ((HT.out.alw _).alw _).drw)); rintro e w1 ⟨rfl, h1⟩; have H1 : Hid (Em w w1 k U x ((((((((((l ++ [⟨2, x.D, 0, 0, 0, 0, 0⟩]) ++ [⟨1, 0, 0, 0, 0, 1, 0⟩]) ++ [⟨17, 0, 0, 0, 0, 0, 0⟩]) ++ [⟨4, 0, m, m + 1, 0, 0, 0⟩]) ++ [⟨3, x.D, m + 1 + 1 + 1, 0, 0, 0, 0⟩]) ++ [⟨1, 0, 0, 0, 0, 11, 0⟩]) ++ [⟨3, 8, m + 1 + 1 + 1 + 1 + 1, 0, 0, 0, 0⟩]) ++ [⟨3, 9, m, 0, 0, 0, 0⟩]) ++ [⟨3, 10, m + 1, 0, 0, 0, 0⟩]) ++ [⟨3, 11, m + 1 + 1, 0, 0, 0, 0⟩])) := (show Em _ _ _ _ _ _ by first | with_reducible exact h1 | with_reducible exact ((Em.refl HT.out).drew).trans h1 | with_reducible exact ((Em.refl HT.out).alloc _).trans h1 | with_reducible exact (((Em.refl HT.out).alloc _).drew).trans h1 | with_reducible exact (((Em.refl HT.out).drew).alloc _).trans h1 | with_reducible exact (((Em.refl HT.out).alloc _).alloc _).trans h1 | with_reducible exact ((((Em.refl HT.out).alloc _).alloc _).drew).trans h1); obtain ⟨v0, v1, v2, v3, v4, v5, v6, v7, v8, v9⟩ := h1.t.cells; have HPx1 : Hid (w1.heap[w.heap.size]? = some (.cells #[.int .i64 x.op, .int .i64 x.D, .int .i64 x.S, .int .i64 x.O, .int .u32 x.im] 26)) := h1.kp.keep _ _ _ HPx0.out HNx.out (by decide); obtain ⟨vx0, vx1, vx2, vx3, vx4⟩ := ins_cells HPx1.out; have vlx := row_lt HPx1.out; have vU := row_lt H1.out.t.bU; clear h1))
  all_goals go_end0
  all_goals exact ⟨rfl, H1.out⟩
set_option maxHeartbeats 4000000 in
theorem set18 (k : BK) (U : Nat) (x : XI) (l : List OpR) (m : Int)  (w : World) (h : TU w k U x l) (hm : Ln l m) (hmx : m + 100 < 90000) (hd : 0 ≤ x.done ∧ x.done ≤ 64) (hop : x.op = 18) :
    Calls Try.prog 157 #[.pointer (some ⟨U, 0, none⟩)] w fun e w' => e = .returned (.tuple #[]) ∧ Em w w' k U x ((((((((((l ++ [⟨2, x.D, 0, 0, 0, 0, 0⟩]) ++ [⟨1, 0, 0, 0, 0, 1, 0⟩]) ++ [⟨17, 0, 0, 0, 0, 0, 0⟩]) ++ [⟨4, 1, m, m + 1, 0, 0, 0⟩]) ++ [⟨3, x.D, m + 1 + 1 + 1, 0, 0, 0, 0⟩]) ++ [⟨1, 0, 0, 0, 0, 12, 0⟩]) ++ [⟨3, 8, m + 1 + 1 + 1 + 1 + 1, 0, 0, 0, 0⟩]) ++ [⟨3, 9, m, 0, 0, 0, 0⟩]) ++ [⟨3, 10, m + 1, 0, 0, 0, 0⟩]) ++ [⟨3, 11, m + 1 + 1, 0, 0, 0, 0⟩]) := by
  obtain ⟨u0, u1, u2, u3, u4, u5, u6, u7, u8, u9⟩ := h.cells
  have lU := row_lt h.bU
  have HNx : Hid (w.heap.size ≠ k.B) := show w.heap.size ≠ k.B by have := h.ltB; omega
  have HPx0 : Hid ((w.alloc (.cells #[.int .i64 x.op, .int .i64 x.D, .int .i64 x.S, .int .i64 x.O, .int .u32 x.im] 26)).heap[w.heap.size]? = some (.cells #[.int .i64 x.op, .int .i64 x.D, .int .i64 x.S, .int .i64 x.O, .int .u32 x.im] 26)) := heap_alloc_last w _
  have HDN : Hid _ := hd
  have HMX : Hid (m + 100 < 90000) := hmx
  have HWR : Hid (IntKind.i64.wrap (x.done + 1) = x.done + 1) := wrap_done x.done hd.1 hd.2
  have k16 : (x.op == 16) = false := by simp [hop]
  have k22 : (x.op == 22) = false := by simp [hop]
  have k23 : (x.op == 23) = false := by simp [hop]
  have k20 : (x.op == 20) = false := by simp [hop]
  have k17 : (x.op == 17) = false := by simp [hop]
  have k18 : (x.op == 18) = true := by simp [hop]
  clear hop
  have HT : Hid _ := h
  have HM0 : Hid (Ln l m) := hm
  have HM1 : Hid (Ln (l ++ [⟨2, x.D, 0, 0, 0, 0, 0⟩]) (m + 1)) := HM0.out.next (by omega) _
  have HM2 : Hid (Ln ((l ++ [⟨2, x.D, 0, 0, 0, 0, 0⟩]) ++ [⟨1, 0, 0, 0, 0, 1, 0⟩]) (m + 1 + 1)) := HM1.out.next (by omega) _
  have HM3 : Hid (Ln (((l ++ [⟨2, x.D, 0, 0, 0, 0, 0⟩]) ++ [⟨1, 0, 0, 0, 0, 1, 0⟩]) ++ [⟨17, 0, 0, 0, 0, 0, 0⟩]) (m + 1 + 1 + 1)) := HM2.out.next (by omega) _
  have HM4 : Hid (Ln ((((l ++ [⟨2, x.D, 0, 0, 0, 0, 0⟩]) ++ [⟨1, 0, 0, 0, 0, 1, 0⟩]) ++ [⟨17, 0, 0, 0, 0, 0, 0⟩]) ++ [⟨4, 1, m, m + 1, 0, 0, 0⟩]) (m + 1 + 1 + 1 + 1)) := HM3.out.next (by omega) _
  have HM5 : Hid (Ln (((((l ++ [⟨2, x.D, 0, 0, 0, 0, 0⟩]) ++ [⟨1, 0, 0, 0, 0, 1, 0⟩]) ++ [⟨17, 0, 0, 0, 0, 0, 0⟩]) ++ [⟨4, 1, m, m + 1, 0, 0, 0⟩]) ++ [⟨3, x.D, m + 1 + 1 + 1, 0, 0, 0, 0⟩]) (m + 1 + 1 + 1 + 1 + 1)) := HM4.out.next (by omega) _
  have HM6 : Hid (Ln ((((((l ++ [⟨2, x.D, 0, 0, 0, 0, 0⟩]) ++ [⟨1, 0, 0, 0, 0, 1, 0⟩]) ++ [⟨17, 0, 0, 0, 0, 0, 0⟩]) ++ [⟨4, 1, m, m + 1, 0, 0, 0⟩]) ++ [⟨3, x.D, m + 1 + 1 + 1, 0, 0, 0, 0⟩]) ++ [⟨1, 0, 0, 0, 0, 12, 0⟩]) (m + 1 + 1 + 1 + 1 + 1 + 1)) := HM5.out.next (by omega) _
  have HM7 : Hid (Ln (((((((l ++ [⟨2, x.D, 0, 0, 0, 0, 0⟩]) ++ [⟨1, 0, 0, 0, 0, 1, 0⟩]) ++ [⟨17, 0, 0, 0, 0, 0, 0⟩]) ++ [⟨4, 1, m, m + 1, 0, 0, 0⟩]) ++ [⟨3, x.D, m + 1 + 1 + 1, 0, 0, 0, 0⟩]) ++ [⟨1, 0, 0, 0, 0, 12, 0⟩]) ++ [⟨3, 8, m + 1 + 1 + 1 + 1 + 1, 0, 0, 0, 0⟩]) (m + 1 + 1 + 1 + 1 + 1 + 1 + 1)) := HM6.out.next (by omega) _
  have HM8 : Hid (Ln ((((((((l ++ [⟨2, x.D, 0, 0, 0, 0, 0⟩]) ++ [⟨1, 0, 0, 0, 0, 1, 0⟩]) ++ [⟨17, 0, 0, 0, 0, 0, 0⟩]) ++ [⟨4, 1, m, m + 1, 0, 0, 0⟩]) ++ [⟨3, x.D, m + 1 + 1 + 1, 0, 0, 0, 0⟩]) ++ [⟨1, 0, 0, 0, 0, 12, 0⟩]) ++ [⟨3, 8, m + 1 + 1 + 1 + 1 + 1, 0, 0, 0, 0⟩]) ++ [⟨3, 9, m, 0, 0, 0, 0⟩]) (m + 1 + 1 + 1 + 1 + 1 + 1 + 1 + 1)) := HM7.out.next (by omega) _
  have HM9 : Hid (Ln (((((((((l ++ [⟨2, x.D, 0, 0, 0, 0, 0⟩]) ++ [⟨1, 0, 0, 0, 0, 1, 0⟩]) ++ [⟨17, 0, 0, 0, 0, 0, 0⟩]) ++ [⟨4, 1, m, m + 1, 0, 0, 0⟩]) ++ [⟨3, x.D, m + 1 + 1 + 1, 0, 0, 0, 0⟩]) ++ [⟨1, 0, 0, 0, 0, 12, 0⟩]) ++ [⟨3, 8, m + 1 + 1 + 1 + 1 + 1, 0, 0, 0, 0⟩]) ++ [⟨3, 9, m, 0, 0, 0, 0⟩]) ++ [⟨3, 10, m + 1, 0, 0, 0, 0⟩]) (m + 1 + 1 + 1 + 1 + 1 + 1 + 1 + 1 + 1)) := HM8.out.next (by omega) _
  have HM10 : Hid (Ln ((((((((((l ++ [⟨2, x.D, 0, 0, 0, 0, 0⟩]) ++ [⟨1, 0, 0, 0, 0, 1, 0⟩]) ++ [⟨17, 0, 0, 0, 0, 0, 0⟩]) ++ [⟨4, 1, m, m + 1, 0, 0, 0⟩]) ++ [⟨3, x.D, m + 1 + 1 + 1, 0, 0, 0, 0⟩]) ++ [⟨1, 0, 0, 0, 0, 12, 0⟩]) ++ [⟨3, 8, m + 1 + 1 + 1 + 1 + 1, 0, 0, 0, 0⟩]) ++ [⟨3, 9, m, 0, 0, 0, 0⟩]) ++ [⟨3, 10, m + 1, 0, 0, 0, 0⟩]) ++ [⟨3, 11, m + 1 + 1, 0, 0, 0, 0⟩]) (m + 1 + 1 + 1 + 1 + 1 + 1 + 1 + 1 + 1 + 1)) := HM9.out.next (by omega) _
  clear h hm hd
  clear hmx
  go_enter Try.func157, Try.ntmps157
  all_goals go_wp2_with (first
      | (go_at_call 179; refine (count_m k U x _ (m) 1 12 _ ?_ HM0.out (by have := HMX.out; omega) HDN.out (by decide)).mono ?_; (focus (first | with_reducible exact HT.out | with_reducible exact HT.out.drw | with_reducible exact (HT.out.alw _) | with_reducible exact (HT.out.alw _).drw | with_reducible exact (HT.out.drw.alw _) | with_reducible exact ((HT.out.alw _).alw _) | with_reducible exact ((HT.out.alw _).alw _).drw)); rintro e w1 ⟨rfl, h1⟩; have H1 : Hid (Em w w1 k U x ((((((((((l ++ [⟨2, x.D, 0, 0, 0, 0, 0⟩]) ++ [⟨1, 0, 0, 0, 0, 1, 0⟩]) ++ [⟨17, 0, 0, 0, 0, 0, 0⟩]) ++ [⟨4, 1, m, m + 1, 0, 0, 0⟩]) ++ [⟨3, x.D, m + 1 + 1 + 1, 0, 0, 0, 0⟩]) ++ [⟨1, 0, 0, 0, 0, 12, 0⟩]) ++ [⟨3, 8, m + 1 + 1 + 1 + 1 + 1, 0, 0, 0, 0⟩]) ++ [⟨3, 9, m, 0, 0, 0, 0⟩]) ++ [⟨3, 10, m + 1, 0, 0, 0, 0⟩]) ++ [⟨3, 11, m + 1 + 1, 0, 0, 0, 0⟩])) := (show Em _ _ _ _ _ _ by first | with_reducible exact h1 | with_reducible exact ((Em.refl HT.out).drew).trans h1 | with_reducible exact ((Em.refl HT.out).alloc _).trans h1 | with_reducible exact (((Em.refl HT.out).alloc _).drew).trans h1 | with_reducible exact (((Em.refl HT.out).drew).alloc _).trans h1 | with_reducible exact (((Em.refl HT.out).alloc _).alloc _).trans h1 | with_reducible exact ((((Em.refl HT.out).alloc _).alloc _).drew).trans h1); obtain ⟨v0, v1, v2, v3, v4, v5, v6, v7, v8, v9⟩ := h1.t.cells; have HPx1 : Hid (w1.heap[w.heap.size]? = some (.cells #[.int .i64 x.op, .int .i64 x.D, .int .i64 x.S, .int .i64 x.O, .int .u32 x.im] 26)) := h1.kp.keep _ _ _ HPx0.out HNx.out (by decide); obtain ⟨vx0, vx1, vx2, vx3, vx4⟩ := ins_cells HPx1.out; have vlx := row_lt HPx1.out; have vU := row_lt H1.out.t.bU; clear h1))
  all_goals go_end0
  all_goals exact ⟨rfl, H1.out⟩
set_option maxHeartbeats 4000000 in
theorem set19 (k : BK) (U : Nat) (x : XI) (l : List OpR) (m : Int)  (w : World) (h : TU w k U x l) (hm : Ln l m) (hmx : m + 100 < 90000) (hd : 0 ≤ x.done ∧ x.done ≤ 64) (hop : x.op = 19) :
    Calls Try.prog 157 #[.pointer (some ⟨U, 0, none⟩)] w fun e w' => e = .returned (.tuple #[]) ∧ Em w w' k U x ((((((((l ++ [⟨1, 0, 0, 0, 0, 0, 0⟩]) ++ [⟨2, x.D, 0, 0, 0, 0, 0⟩]) ++ [⟨4, 1, m, m + 1, 0, 0, 0⟩]) ++ [⟨3, x.D, m + 1 + 1, 0, 0, 0, 0⟩]) ++ [⟨1, 0, 0, 0, 0, 3, 0⟩]) ++ [⟨3, 8, m + 1 + 1 + 1 + 1, 0, 0, 0, 0⟩]) ++ [⟨3, 9, m, 0, 0, 0, 0⟩]) ++ [⟨3, 10, m + 1, 0, 0, 0, 0⟩]) := by
  obtain ⟨u0, u1, u2, u3, u4, u5, u6, u7, u8, u9⟩ := h.cells
  have lU := row_lt h.bU
  have HNx : Hid (w.heap.size ≠ k.B) := show w.heap.size ≠ k.B by have := h.ltB; omega
  have HPx0 : Hid ((w.alloc (.cells #[.int .i64 x.op, .int .i64 x.D, .int .i64 x.S, .int .i64 x.O, .int .u32 x.im] 26)).heap[w.heap.size]? = some (.cells #[.int .i64 x.op, .int .i64 x.D, .int .i64 x.S, .int .i64 x.O, .int .u32 x.im] 26)) := heap_alloc_last w _
  have HDN : Hid _ := hd
  have HMX : Hid (m + 100 < 90000) := hmx
  have HWR : Hid (IntKind.i64.wrap (x.done + 1) = x.done + 1) := wrap_done x.done hd.1 hd.2
  have k16 : (x.op == 16) = false := by simp [hop]
  have k22 : (x.op == 22) = false := by simp [hop]
  have k23 : (x.op == 23) = false := by simp [hop]
  have k20 : (x.op == 20) = false := by simp [hop]
  have k17 : (x.op == 17) = false := by simp [hop]
  have k18 : (x.op == 18) = false := by simp [hop]
  have k19 : (x.op == 19) = true := by simp [hop]
  clear hop
  have HT : Hid _ := h
  have HM0 : Hid (Ln l m) := hm
  have HM1 : Hid (Ln (l ++ [⟨1, 0, 0, 0, 0, 0, 0⟩]) (m + 1)) := HM0.out.next (by omega) _
  have HM2 : Hid (Ln ((l ++ [⟨1, 0, 0, 0, 0, 0, 0⟩]) ++ [⟨2, x.D, 0, 0, 0, 0, 0⟩]) (m + 1 + 1)) := HM1.out.next (by omega) _
  have HM3 : Hid (Ln (((l ++ [⟨1, 0, 0, 0, 0, 0, 0⟩]) ++ [⟨2, x.D, 0, 0, 0, 0, 0⟩]) ++ [⟨4, 1, m, m + 1, 0, 0, 0⟩]) (m + 1 + 1 + 1)) := HM2.out.next (by omega) _
  have HM4 : Hid (Ln ((((l ++ [⟨1, 0, 0, 0, 0, 0, 0⟩]) ++ [⟨2, x.D, 0, 0, 0, 0, 0⟩]) ++ [⟨4, 1, m, m + 1, 0, 0, 0⟩]) ++ [⟨3, x.D, m + 1 + 1, 0, 0, 0, 0⟩]) (m + 1 + 1 + 1 + 1)) := HM3.out.next (by omega) _
  have HM5 : Hid (Ln (((((l ++ [⟨1, 0, 0, 0, 0, 0, 0⟩]) ++ [⟨2, x.D, 0, 0, 0, 0, 0⟩]) ++ [⟨4, 1, m, m + 1, 0, 0, 0⟩]) ++ [⟨3, x.D, m + 1 + 1, 0, 0, 0, 0⟩]) ++ [⟨1, 0, 0, 0, 0, 3, 0⟩]) (m + 1 + 1 + 1 + 1 + 1)) := HM4.out.next (by omega) _
  have HM6 : Hid (Ln ((((((l ++ [⟨1, 0, 0, 0, 0, 0, 0⟩]) ++ [⟨2, x.D, 0, 0, 0, 0, 0⟩]) ++ [⟨4, 1, m, m + 1, 0, 0, 0⟩]) ++ [⟨3, x.D, m + 1 + 1, 0, 0, 0, 0⟩]) ++ [⟨1, 0, 0, 0, 0, 3, 0⟩]) ++ [⟨3, 8, m + 1 + 1 + 1 + 1, 0, 0, 0, 0⟩]) (m + 1 + 1 + 1 + 1 + 1 + 1)) := HM5.out.next (by omega) _
  have HM7 : Hid (Ln (((((((l ++ [⟨1, 0, 0, 0, 0, 0, 0⟩]) ++ [⟨2, x.D, 0, 0, 0, 0, 0⟩]) ++ [⟨4, 1, m, m + 1, 0, 0, 0⟩]) ++ [⟨3, x.D, m + 1 + 1, 0, 0, 0, 0⟩]) ++ [⟨1, 0, 0, 0, 0, 3, 0⟩]) ++ [⟨3, 8, m + 1 + 1 + 1 + 1, 0, 0, 0, 0⟩]) ++ [⟨3, 9, m, 0, 0, 0, 0⟩]) (m + 1 + 1 + 1 + 1 + 1 + 1 + 1)) := HM6.out.next (by omega) _
  have HM8 : Hid (Ln ((((((((l ++ [⟨1, 0, 0, 0, 0, 0, 0⟩]) ++ [⟨2, x.D, 0, 0, 0, 0, 0⟩]) ++ [⟨4, 1, m, m + 1, 0, 0, 0⟩]) ++ [⟨3, x.D, m + 1 + 1, 0, 0, 0, 0⟩]) ++ [⟨1, 0, 0, 0, 0, 3, 0⟩]) ++ [⟨3, 8, m + 1 + 1 + 1 + 1, 0, 0, 0, 0⟩]) ++ [⟨3, 9, m, 0, 0, 0, 0⟩]) ++ [⟨3, 10, m + 1, 0, 0, 0, 0⟩]) (m + 1 + 1 + 1 + 1 + 1 + 1 + 1 + 1)) := HM7.out.next (by omega) _
  clear h hm hd
  clear hmx
  go_enter Try.func157, Try.ntmps157
  go_upto_region 15 with fail
  go_region_held3 (fun W' => W'.cell? ⟨U, 0, none⟩ = some (.func (Fn.func 109) #[] #[.pointer (some ⟨k.B, 0, none⟩)]) ∧ W'.cell? ⟨U, 1, none⟩ = some (.func (Fn.func 110) #[] #[.pointer (some ⟨k.L, 0, none⟩)]) ∧ W'.cell? ⟨U, 2, none⟩ = some (.int .i64 x.op) ∧ W'.cell? ⟨U, 3, none⟩ = some (.int .i64 x.D) ∧ W'.cell? ⟨U, 4, none⟩ = some (.int .i64 x.S) ∧ W'.cell? ⟨U, 5, none⟩ = some (.int .i64 x.O) ∧ W'.cell? ⟨U, 6, none⟩ = some (.int .u32 x.im) ∧ W'.cell? ⟨U, 7, none⟩ = some (.int .u32 x.pc) ∧ W'.cell? ⟨U, 8, none⟩ = some (.int .u32 x.next) ∧ W'.cell? ⟨U, 9, none⟩ = some (.int .i64 x.done) ∧ W'.cell? ⟨w.heap.size, 0, none⟩ = some (.int .i64 x.op) ∧ W'.cell? ⟨w.heap.size, 1, none⟩ = some (.int .i64 x.D) ∧ W'.cell? ⟨w.heap.size, 2, none⟩ = some (.int .i64 x.S) ∧ W'.cell? ⟨w.heap.size, 3, none⟩ = some (.int .i64 x.O) ∧ W'.cell? ⟨w.heap.size, 4, none⟩ = some (.int .u32 x.im)) (first | (simp [go_sem, t0, t1, t2, t3, t4, t5, t6, t7, t8, t9, tx0, tx1, tx2, tx3, tx4]; done) | (simp [go_sem, s0, s1, s2, s3, s4, s5, s6, s7, s8, s9, sx0, sx1, sx2, sx3, sx4]; done) | (simp [go_sem, r0, r1, r2, r3, r4, r5, r6, r7, r8, r9, rx0, rx1, rx2, rx3, rx4]; done) | (simp [go_sem, q0, q1, q2, q3, q4, q5, q6, q7, q8, q9, qx0, qx1, qx2, qx3, qx4]; done) | (simp [go_sem, v0, v1, v2, v3, v4, v5, v6, v7, v8, v9, vx0, vx1, vx2, vx3, vx4]; done) | (simp [go_sem, u0, u1, u2, u3, u4, u5, u6, u7, u8, u9, lU]; done))
    (first
      | (have HQ2 := H1; go_at_call 110; refine (read_m k U x _ (m + 1) x.D _ ?_ HM1.out).mono ?_; (focus (first | with_reducible exact H1.out.t | with_reducible exact H1.out.t.drw | with_reducible exact (H1.out.t.alw _) | with_reducible exact (H1.out.t.alw _).drw | with_reducible exact (H1.out.t.drw.alw _) | with_reducible exact ((H1.out.t.alw _).alw _) | with_reducible exact ((H1.out.t.alw _).alw _).drw)); rintro e w2 ⟨rfl, h2⟩; have H2 : Hid (Em w1 w2 k U x ((l ++ [⟨1, 0, 0, 0, 0, 0, 0⟩]) ++ [⟨2, x.D, 0, 0, 0, 0, 0⟩])) := (show Em _ _ _ _ _ _ by first | with_reducible exact h2 | with_reducible exact ((Em.refl H1.out.t).drew).trans h2 | with_reducible exact ((Em.refl H1.out.t).alloc _).trans h2 | with_reducible exact (((Em.refl H1.out.t).alloc _).drew).trans h2 | with_reducible exact (((Em.refl H1.out.t).drew).alloc _).trans h2 | with_reducible exact (((Em.refl H1.out.t).alloc _).alloc _).trans h2 | with_reducible exact ((((Em.refl H1.out.t).alloc _).alloc _).drew).trans h2); obtain ⟨q0, q1, q2, q3, q4, q5, q6, q7, q8, q9⟩ := h2.t.cells; have HPx2 : Hid (w2.heap[w.heap.size]? = some (.cells #[.int .i64 x.op, .int .i64 x.D, .int .i64 x.S, .int .i64 x.O, .int .u32 x.im] 26)) := H2.out.kp.keep _ _ _ HPx1.out HNx.out (by decide); obtain ⟨qx0, qx1, qx2, qx3, qx4⟩ := ins_cells HPx2.out; have qlx := row_lt HPx2.out; have qU := row_lt H2.out.t.bU; clear h2 HQ2)
      | (go_at_call 150; refine (number_m k U x _ (m) 0 _ ?_ HM0.out).mono ?_; (focus (first | with_reducible exact HT.out | with_reducible exact HT.out.drw | with_reducible exact (HT.out.alw _) | with_reducible exact (HT.out.alw _).drw | with_reducible exact (HT.out.drw.alw _) | with_reducible exact ((HT.out.alw _).alw _) | with_reducible exact ((HT.out.alw _).alw _).drw)); rintro e w1 ⟨rfl, h1⟩; have H1 : Hid (Em w w1 k U x (l ++ [⟨1, 0, 0, 0, 0, 0, 0⟩])) := (show Em _ _ _ _ _ _ by first | with_reducible exact h1 | with_reducible exact ((Em.refl HT.out).drew).trans h1 | with_reducible exact ((Em.refl HT.out).alloc _).trans h1 | with_reducible exact (((Em.refl HT.out).alloc _).drew).trans h1 | with_reducible exact (((Em.refl HT.out).drew).alloc _).trans h1 | with_reducible exact (((Em.refl HT.out).alloc _).alloc _).trans h1 | with_reducible exact ((((Em.refl HT.out).alloc _).alloc _).drew).trans h1); obtain ⟨v0, v1, v2, v3, v4, v5, v6, v7, v8, v9⟩ := h1.t.cells; have HPx1 : Hid (w1.heap[w.heap.size]? = some (.cells #[.int .i64 x.op, .int .i64 x.D, .int .i64 x.S, .int .i64 x.O, .int .u32 x.im] 26)) := h1.kp.keep _ _ _ HPx0.out HNx.out (by decide); obtain ⟨vx0, vx1, vx2, vx3, vx4⟩ := ins_cells HPx1.out; have vlx := row_lt HPx1.out; have vU := row_lt H1.out.t.bU; clear h1))
  go_upto_region 16 with fail
  go_region_held3 (fun W' => W'.cell? ⟨U, 0, none⟩ = some (.func (Fn.func 109) #[] #[.pointer (some ⟨k.B, 0, none⟩)]) ∧ W'.cell? ⟨U, 1, none⟩ = some (.func (Fn.func 110) #[] #[.pointer (some ⟨k.L, 0, none⟩)]) ∧ W'.cell? ⟨U, 2, none⟩ = some (.int .i64 x.op) ∧ W'.cell? ⟨U, 3, none⟩ = some (.int .i64 x.D) ∧ W'.cell? ⟨U, 4, none⟩ = some (.int .i64 x.S) ∧ W'.cell? ⟨U, 5, none⟩ = some (.int .i64 x.O) ∧ W'.cell? ⟨U, 6, none⟩ = some (.int .u32 x.im) ∧ W'.cell? ⟨U, 7, none⟩ = some (.int .u32 x.pc) ∧ W'.cell? ⟨U, 8, none⟩ = some (.int .u32 x.next) ∧ W'.cell? ⟨U, 9, none⟩ = some (.int .i64 x.done) ∧ W'.cell? ⟨w.heap.size, 0, none⟩ = some (.int .i64 x.op) ∧ W'.cell? ⟨w.heap.size, 1, none⟩ = some (.int .i64 x.D) ∧ W'.cell? ⟨w.heap.size, 2, none⟩ = some (.int .i64 x.S) ∧ W'.cell? ⟨w.heap.size, 3, none⟩ = some (.int .i64 x.O) ∧ W'.cell? ⟨w.heap.size, 4, none⟩ = some (.int .u32 x.im)) (first | (simp [go_sem, t0, t1, t2, t3, t4, t5, t6, t7, t8, t9, tx0, tx1, tx2, tx3, tx4]; done) | (simp [go_sem, s0, s1, s2, s3, s4, s5, s6, s7, s8, s9, sx0, sx1, sx2, sx3, sx4]; done) | (simp [go_sem, r0, r1, r2, r3, r4, r5, r6, r7, r8, r9, rx0, rx1, rx2, rx3, rx4]; done) | (simp [go_sem, q0, q1, q2, q3, q4, q5, q6, q7, q8, q9, qx0, qx1, qx2, qx3, qx4]; done) | (simp [go_sem, v0, v1, v2, v3, v4, v5, v6, v7, v8, v9, vx0, vx1, vx2, vx3, vx4]; done) | (simp [go_sem, u0, u1, u2, u3, u4, u5, u6, u7, u8, u9, lU]; done))
    (first
      | (have HQ4 := H3; go_at_call 151; refine (put_m k U x _ (m + 1 + 1 + 1) x.D (m + 1 + 1) _ ?_ HM3.out).mono ?_; (focus (first | with_reducible exact H3.out.t | with_reducible exact H3.out.t.drw | with_reducible exact (H3.out.t.alw _) | with_reducible exact (H3.out.t.alw _).drw | with_reducible exact (H3.out.t.drw.alw _) | with_reducible exact ((H3.out.t.alw _).alw _) | with_reducible exact ((H3.out.t.alw _).alw _).drw)); rintro e w4 ⟨rfl, h4⟩; have H4 : Hid (Em w3 w4 k U x ((((l ++ [⟨1, 0, 0, 0, 0, 0, 0⟩]) ++ [⟨2, x.D, 0, 0, 0, 0, 0⟩]) ++ [⟨4, 1, m, m + 1, 0, 0, 0⟩]) ++ [⟨3, x.D, m + 1 + 1, 0, 0, 0, 0⟩])) := (show Em _ _ _ _ _ _ by first | with_reducible exact h4 | with_reducible exact ((Em.refl H3.out.t).drew).trans h4 | with_reducible exact ((Em.refl H3.out.t).alloc _).trans h4 | with_reducible exact (((Em.refl H3.out.t).alloc _).drew).trans h4 | with_reducible exact (((Em.refl H3.out.t).drew).alloc _).trans h4 | with_reducible exact (((Em.refl H3.out.t).alloc _).alloc _).trans h4 | with_reducible exact ((((Em.refl H3.out.t).alloc _).alloc _).drew).trans h4); obtain ⟨s0, s1, s2, s3, s4, s5, s6, s7, s8, s9⟩ := h4.t.cells; have HPx4 : Hid (w4.heap[w.heap.size]? = some (.cells #[.int .i64 x.op, .int .i64 x.D, .int .i64 x.S, .int .i64 x.O, .int .u32 x.im] 26)) := H4.out.kp.keep _ _ _ HPx3.out HNx.out (by decide); obtain ⟨sx0, sx1, sx2, sx3, sx4⟩ := ins_cells HPx4.out; have slx := row_lt HPx4.out; have sU := row_lt H4.out.t.bU; clear h4 HQ4)
      | (have HQ3 := H2; go_at_call 175; refine (bin_m k U x _ (m + 1 + 1) 1 (m) (m + 1) _ ?_ HM2.out).mono ?_; (focus (first | with_reducible exact H2.out.t | with_reducible exact H2.out.t.drw | with_reducible exact (H2.out.t.alw _) | with_reducible exact (H2.out.t.alw _).drw | with_reducible exact (H2.out.t.drw.alw _) | with_reducible exact ((H2.out.t.alw _).alw _) | with_reducible exact ((H2.out.t.alw _).alw _).drw)); rintro e w3 ⟨rfl, h3⟩; have H3 : Hid (Em w2 w3 k U x (((l ++ [⟨1, 0, 0, 0, 0, 0, 0⟩]) ++ [⟨2, x.D, 0, 0, 0, 0, 0⟩]) ++ [⟨4, 1, m, m + 1, 0, 0, 0⟩])) := (show Em _ _ _ _ _ _ by first | with_reducible exact h3 | with_reducible exact ((Em.refl H2.out.t).drew).trans h3 | with_reducible exact ((Em.refl H2.out.t).alloc _).trans h3 | with_reducible exact (((Em.refl H2.out.t).alloc _).drew).trans h3 | with_reducible exact (((Em.refl H2.out.t).drew).alloc _).trans h3 | with_reducible exact (((Em.refl H2.out.t).alloc _).alloc _).trans h3 | with_reducible exact ((((Em.refl H2.out.t).alloc _).alloc _).drew).trans h3); obtain ⟨r0, r1, r2, r3, r4, r5, r6, r7, r8, r9⟩ := h3.t.cells; have HPx3 : Hid (w3.heap[w.heap.size]? = some (.cells #[.int .i64 x.op, .int .i64 x.D, .int .i64 x.S, .int .i64 x.O, .int .u32 x.im] 26)) := H3.out.kp.keep _ _ _ HPx2.out HNx.out (by decide); obtain ⟨rx0, rx1, rx2, rx3, rx4⟩ := ins_cells HPx3.out; have rlx := row_lt HPx3.out; have rU := row_lt H3.out.t.bU; clear h3 HQ3))
  all_goals go_wp2_with (first
      | (have HQ5 := H4; go_at_call 176; refine (tell2 k U x _ (m + 1 + 1 + 1 + 1) 3 _ _ #[.int .i64 (m), .int .i64 (m + 1)] (m) (m + 1) _ ?_ HM4.out (by have := HMX.out; omega) ?_ rfl rfl ?_ (by decide)).mono ?_; (focus (first | with_reducible exact H4.out.t | with_reducible exact H4.out.t.drw | with_reducible exact (H4.out.t.alw _) | with_reducible exact (H4.out.t.alw _).drw | with_reducible exact (H4.out.t.drw.alw _) | with_reducible exact ((H4.out.t.alw _).alw _) | with_reducible exact ((H4.out.t.alw _).alw _).drw)); (focus (exact heap_alloc_last _ _)); (focus (have := H4.out.t.ltB; omega)); rintro e w5 ⟨rfl, h5⟩; have H5 : Hid (Em w4 w5 k U x ((((((((l ++ [⟨1, 0, 0, 0, 0, 0, 0⟩]) ++ [⟨2, x.D, 0, 0, 0, 0, 0⟩]) ++ [⟨4, 1, m, m + 1, 0, 0, 0⟩]) ++ [⟨3, x.D, m + 1 + 1, 0, 0, 0, 0⟩]) ++ [⟨1, 0, 0, 0, 0, 3, 0⟩]) ++ [⟨3, 8, m + 1 + 1 + 1 + 1, 0, 0, 0, 0⟩]) ++ [⟨3, 9, m, 0, 0, 0, 0⟩]) ++ [⟨3, 10, m + 1, 0, 0, 0, 0⟩])) := (show Em _ _ _ _ _ _ by first | with_reducible exact h5 | with_reducible exact ((Em.refl H4.out.t).drew).trans h5 | with_reducible exact ((Em.refl H4.out.t).alloc _).trans h5 | with_reducible exact (((Em.refl H4.out.t).alloc _).drew).trans h5 | with_reducible exact (((Em.refl H4.out.t).drew).alloc _).trans h5 | with_reducible exact (((Em.refl H4.out.t).alloc _).alloc _).trans h5 | with_reducible exact ((((Em.refl H4.out.t).alloc _).alloc _).drew).trans h5); obtain ⟨t0, t1, t2, t3, t4, t5, t6, t7, t8, t9⟩ := h5.t.cells; have HPx5 : Hid (w5.heap[w.heap.size]? = some (.cells #[.int .i64 x.op, .int .i64 x.D, .int .i64 x.S, .int .i64 x.O, .int .u32 x.im] 26)) := H5.out.kp.keep _ _ _ HPx4.out HNx.out (by decide); obtain ⟨tx0, tx1, tx2, tx3, tx4⟩ := ins_cells HPx5.out; have tlx := row_lt HPx5.out; have tU := row_lt H5.out.t.bU; clear h5 HQ5))
  all_goals go_end0
  all_goals exact ⟨rfl, ((((H1.out).trans H2.out).trans H3.out).trans H4.out).trans H5.out⟩
set_option maxHeartbeats 4000000 in
theorem set21 (k : BK) (U : Nat) (x : XI) (l : List OpR) (m : Int)  (w : World) (h : TU w k U x l) (hm : Ln l m) (hmx : m + 100 < 90000) (hd : 0 ≤ x.done ∧ x.done ≤ 64) (hop : x.op = 21) :
    Calls Try.prog 157 #[.pointer (some ⟨U, 0, none⟩)] w fun e w' => e = .returned (.tuple #[]) ∧ Em w w' k U x (((l ++ [⟨17, 0, 0, 0, 0, 0, 0⟩]) ++ [⟨8, x.O, m, 0, 0, 0, 0⟩]) ++ [⟨3, x.D, m + 1, 0, 0, 0, 0⟩]) := by
  obtain ⟨u0, u1, u2, u3, u4, u5, u6, u7, u8, u9⟩ := h.cells
  have lU := row_lt h.bU
  have HNx : Hid (w.heap.size ≠ k.B) := show w.heap.size ≠ k.B by have := h.ltB; omega
  have HPx0 : Hid ((w.alloc (.cells #[.int .i64 x.op, .int .i64 x.D, .int .i64 x.S, .int .i64 x.O, .int .u32 x.im] 26)).heap[w.heap.size]? = some (.cells #[.int .i64 x.op, .int .i64 x.D, .int .i64 x.S, .int .i64 x.O, .int .u32 x.im] 26)) := heap_alloc_last w _
  have HDN : Hid _ := hd
  have HMX : Hid (m + 100 < 90000) := hmx
  have HWR : Hid (IntKind.i64.wrap (x.done + 1) = x.done + 1) := wrap_done x.done hd.1 hd.2
  have k16 : (x.op == 16) = false := by simp [hop]
  have k22 : (x.op == 22) = false := by simp [hop]
  have k23 : (x.op == 23) = false := by simp [hop]
  have k20 : (x.op == 20) = false := by simp [hop]
  have k17 : (x.op == 17) = false := by simp [hop]
  have k18 : (x.op == 18) = false := by simp [hop]
  have k19 : (x.op == 19) = false := by simp [hop]
  have k21 : (x.op == 21) = true := by simp [hop]
  clear hop
  have HT : Hid _ := h
  have HM0 : Hid (Ln l m) := hm
  have HM1 : Hid (Ln (l ++ [⟨17, 0, 0, 0, 0, 0, 0⟩]) (m + 1)) := HM0.out.next (by omega) _
  have HM2 : Hid (Ln ((l ++ [⟨17, 0, 0, 0, 0, 0, 0⟩]) ++ [⟨8, x.O, m, 0, 0, 0, 0⟩]) (m + 1 + 1)) := HM1.out.next (by omega) _
  have HM3 : Hid (Ln (((l ++ [⟨17, 0, 0, 0, 0, 0, 0⟩]) ++ [⟨8, x.O, m, 0, 0, 0, 0⟩]) ++ [⟨3, x.D, m + 1, 0, 0, 0, 0⟩]) (m + 1 + 1 + 1)) := HM2.out.next (by omega) _
  clear h hm hd
  clear hmx
  go_enter Try.func157, Try.ntmps157
  go_upto_region 19 with fail
  go_region_held3 (fun W' => W'.cell? ⟨U, 0, none⟩ = some (.func (Fn.func 109) #[] #[.pointer (some ⟨k.B, 0, none⟩)]) ∧ W'.cell? ⟨U, 1, none⟩ = some (.func (Fn.func 110) #[] #[.pointer (some ⟨k.L, 0, none⟩)]) ∧ W'.cell? ⟨U, 2, none⟩ = some (.int .i64 x.op) ∧ W'.cell? ⟨U, 3, none⟩ = some (.int .i64 x.D) ∧ W'.cell? ⟨U, 4, none⟩ = some (.int .i64 x.S) ∧ W'.cell? ⟨U, 5, none⟩ = some (.int .i64 x.O) ∧ W'.cell? ⟨U, 6, none⟩ = some (.int .u32 x.im) ∧ W'.cell? ⟨U, 7, none⟩ = some (.int .u32 x.pc) ∧ W'.cell? ⟨U, 8, none⟩ = some (.int .u32 x.next) ∧ W'.cell? ⟨U, 9, none⟩ = some (.int .i64 x.done) ∧ W'.cell? ⟨w.heap.size, 0, none⟩ = some (.int .i64 x.op) ∧ W'.cell? ⟨w.heap.size, 1, none⟩ = some (.int .i64 x.D) ∧ W'.cell? ⟨w.heap.size, 2, none⟩ = some (.int .i64 x.S) ∧ W'.cell? ⟨w.heap.size, 3, none⟩ = some (.int .i64 x.O) ∧ W'.cell? ⟨w.heap.size, 4, none⟩ = some (.int .u32 x.im)) (first | (simp [go_sem, q0, q1, q2, q3, q4, q5, q6, q7, q8, q9, qx0, qx1, qx2, qx3, qx4]; done) | (simp [go_sem, v0, v1, v2, v3, v4, v5, v6, v7, v8, v9, vx0, vx1, vx2, vx3, vx4]; done) | (simp [go_sem, u0, u1, u2, u3, u4, u5, u6, u7, u8, u9, lU]; done))
    (first
      | (have HQ2 := H1; go_at_call 151; refine (put_m k U x _ (m + 1 + 1) x.D (m + 1) _ ?_ HM2.out).mono ?_; (focus (first | with_reducible exact H1.out.t | with_reducible exact H1.out.t.drw | with_reducible exact (H1.out.t.alw _) | with_reducible exact (H1.out.t.alw _).drw | with_reducible exact (H1.out.t.drw.alw _) | with_reducible exact ((H1.out.t.alw _).alw _) | with_reducible exact ((H1.out.t.alw _).alw _).drw)); rintro e w2 ⟨rfl, h2⟩; have H2 : Hid (Em w1 w2 k U x (((l ++ [⟨17, 0, 0, 0, 0, 0, 0⟩]) ++ [⟨8, x.O, m, 0, 0, 0, 0⟩]) ++ [⟨3, x.D, m + 1, 0, 0, 0, 0⟩])) := (show Em _ _ _ _ _ _ by first | with_reducible exact h2 | with_reducible exact ((Em.refl H1.out.t).drew).trans h2 | with_reducible exact ((Em.refl H1.out.t).alloc _).trans h2 | with_reducible exact (((Em.refl H1.out.t).alloc _).drew).trans h2 | with_reducible exact (((Em.refl H1.out.t).drew).alloc _).trans h2 | with_reducible exact (((Em.refl H1.out.t).alloc _).alloc _).trans h2 | with_reducible exact ((((Em.refl H1.out.t).alloc _).alloc _).drew).trans h2); obtain ⟨q0, q1, q2, q3, q4, q5, q6, q7, q8, q9⟩ := h2.t.cells; have HPx2 : Hid (w2.heap[w.heap.size]? = some (.cells #[.int .i64 x.op, .int .i64 x.D, .int .i64 x.S, .int .i64 x.O, .int .u32 x.im] 26)) := H2.out.kp.keep _ _ _ HPx1.out HNx.out (by decide); obtain ⟨qx0, qx1, qx2, qx3, qx4⟩ := ins_cells HPx2.out; have qlx := row_lt HPx2.out; have qU := row_lt H2.out.t.bU; clear h2 HQ2)
      | (go_at_call 171; refine (holds_m k U x _ (m) x.O _ ?_ HM0.out (by have := HMX.out; omega)).mono ?_; (focus (first | with_reducible exact HT.out | with_reducible exact HT.out.drw | with_reducible exact (HT.out.alw _) | with_reducible exact (HT.out.alw _).drw | with_reducible exact (HT.out.drw.alw _) | with_reducible exact ((HT.out.alw _).alw _) | with_reducible exact ((HT.out.alw _).alw _).drw)); rintro e w1 ⟨rfl, h1⟩; have H1 : Hid (Em w w1 k U x ((l ++ [⟨17, 0, 0, 0, 0, 0, 0⟩]) ++ [⟨8, x.O, m, 0, 0, 0, 0⟩])) := (show Em _ _ _ _ _ _ by first | with_reducible exact h1 | with_reducible exact ((Em.refl HT.out).drew).trans h1 | with_reducible exact ((Em.refl HT.out).alloc _).trans h1 | with_reducible exact (((Em.refl HT.out).alloc _).drew).trans h1 | with_reducible exact (((Em.refl HT.out).drew).alloc _).trans h1 | with_reducible exact (((Em.refl HT.out).alloc _).alloc _).trans h1 | with_reducible exact ((((Em.refl HT.out).alloc _).alloc _).drew).trans h1); obtain ⟨v0, v1, v2, v3, v4, v5, v6, v7, v8, v9⟩ := h1.t.cells; have HPx1 : Hid (w1.heap[w.heap.size]? = some (.cells #[.int .i64 x.op, .int .i64 x.D, .int .i64 x.S, .int .i64 x.O, .int .u32 x.im] 26)) := h1.kp.keep _ _ _ HPx0.out HNx.out (by decide); obtain ⟨vx0, vx1, vx2, vx3, vx4⟩ := ins_cells HPx1.out; have vlx := row_lt HPx1.out; have vU := row_lt H1.out.t.bU; clear h1))
  all_goals go_wp2_with fail
  all_goals go_end0
  all_goals exact ⟨rfl, (H1.out).trans H2.out⟩
set_option maxHeartbeats 4000000 in
theorem set0 (k : BK) (U : Nat) (x : XI) (l : List OpR) (w : World) (h : TU w k U x l) (hop : x.op = 0) :
    Calls Try.prog 157 #[.pointer (some ⟨U, 0, none⟩)] w fun e w' => e = .returned (.tuple #[]) ∧ Em w w' k U x l := by
  obtain ⟨u0, u1, u2, u3, u4, u5, u6, u7, u8, u9⟩ := h.cells
  have lU := row_lt h.bU
  have k16 : (x.op == 16) = false := by simp [hop]
  have k22 : (x.op == 22) = false := by simp [hop]
  have k23 : (x.op == 23) = false := by simp [hop]
  have k20 : (x.op == 20) = false := by simp [hop]
  have k17 : (x.op == 17) = false := by simp [hop]
  have k18 : (x.op == 18) = false := by simp [hop]
  have k19 : (x.op == 19) = false := by simp [hop]
  have k21 : (x.op == 21) = false := by simp [hop]
  clear hop
  have HT : Hid _ := h
  clear h
  go_enter Try.func157, Try.ntmps157
  go_wp2
  go_end0
  exact ⟨rfl, (Em.refl HT.out).alloc _⟩
end Go.Proofs.Ytjmffijdojeghaa
