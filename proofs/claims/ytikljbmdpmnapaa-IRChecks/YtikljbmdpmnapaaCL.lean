import Derived.Test.YtikljbmdpmnapaaCR
import Derived.Test.YtikljbmdpmnapaaCV
namespace Go.Proofs.Ytikljbmdpmnapaa
open Go.RowKit
set_option maxRecDepth 100000
set_option linter.unusedVariables false
set_option linter.unusedSimpArgs false

structure LW (w wx : World) (V pc : Nat) (count bytes : Int) (bp bp' : Option Addr) (n cap cap' : Nat) (f : Nat → OpR) : Prop where
  b2 : wx.heap[w.heap.size]? = some (.cells #[.int .u32 pc, .int .i64 count, .int .i64 bytes, .slice bp n cap] 82)
  b5 : wx.heap[V]? = some (.cells #[.int .u32 pc, .int .i64 count, .int .i64 bytes, .slice bp' n cap'] 82)
  bel : Below w.heap.size w wx
  o : OpsR wx bp n f
  o' : OpsR wx bp' n f
theorem LW.next {w wx w' : World} {V pc : Nat} {count bytes : Int} {bp bp' : Option Addr} {n cap cap' : Nat} {f : Nat → OpR} (h : LW w wx V pc count bytes bp bp' n cap cap' f) (k : Below wx.heap.size wx w') : LW w w' V pc count bytes bp bp' n cap cap' f :=
  ⟨(k.block _ (row_lt h.b2)).trans h.b2, (k.block _ (row_lt h.b5)).trans h.b5, h.bel.trans (k.mono (Nat.le_of_lt (row_lt h.b2))), h.o.below k (Nat.le_refl _), h.o'.below k (Nat.le_refl _)⟩

set_option maxHeartbeats 4000000 in
theorem checks_walk (pc : Nat) (count bytes : Int) (bp : Option Addr) (n cap : Nat) (f : Nat → OpR) (kind : Int) (w : World) (hO : OpsR w bp n f) (hby : n * 56 ≤ 140737488355328) (hcap : n ≤ cap) :
    Calls Try.prog 11 #[.agg #[.int .u32 pc, .int .i64 count, .int .i64 bytes, .slice bp n cap], .int .i64 kind] w fun e w' => e = .returned (.bool true) ∧ Below w.heap.size w w' := by
  have HO : Hid (OpsR (w.alloc (.cells #[.int .u32 pc, .int .i64 count, .int .i64 bytes, .slice bp n cap] 82)) bp n f) := hO.below (wk_bel1 w _) (Nat.le_refl _)
  have HBY : Hid _ := hby
  have HCAP : Hid _ := hcap
  have HN : Hid (n < 9223372036854775807) := show n < 9223372036854775807 by omega
  obtain ⟨⟨e1, e2⟩, HE⟩ : ∃ E, Hid (checkF count bytes n f = E) := ⟨_, rfl⟩
  obtain ⟨g, HG⟩ : ∃ g, Hid ((rr kind).gives = g) := ⟨_, rfl⟩
  have HG2 : Hid (rgiv kind = g) := (giv_eq kind).trans HG.out
  clear hO hby hcap
  go_enter Try.func11, Try.ntmps11
  go_wp2_with (first
    | (go_at_call 39; refine (twin_any pc count bytes bp n cap f _ HO.out HBY.out).mono ?_; rintro e w1 ⟨bp', cap', rfl, hO', hc', hB'⟩; have HB2 : Hid (w1.heap[w.heap.size]? = some (.cells #[.int .u32 pc, .int .i64 count, .int .i64 bytes, .slice bp n cap] 82)) := (hB'.block _ (by simp)).trans (heap_alloc_last w _); have HC' : Hid _ := hc'; have l2 := row_lt HB2.out; have l2' := Nat.lt_succ_of_lt l2; have H1 : Hid (LW w (w1.alloc (.cells #[.int .u32 pc, .int .i64 count, .int .i64 bytes, .slice bp' n cap'] 82)) w1.heap.size pc count bytes bp bp' n cap cap' f) := ⟨(al_old _ _ _ l2).trans HB2.out, heap_alloc_last w1 _, ((wk_bel1 w _).trans (hB'.mono (by simp))).alloc (Nat.le_of_lt l2) _, (HO.out.below hB' (Nat.le_refl _)).below (wk_bel1 w1 _) (Nat.le_refl _), hO'.below (wk_bel1 w1 _) (Nat.le_refl _)⟩; have x0 : w1.cell? ⟨w.heap.size, 0, none⟩ = some (.int .u32 pc) := row_cell HB2.out 0; have x1 : w1.cell? ⟨w.heap.size, 1, none⟩ = some (.int .i64 count) := row_cell HB2.out 1; have x2 : w1.cell? ⟨w.heap.size, 2, none⟩ = some (.int .i64 bytes) := row_cell HB2.out 2; have x3 : w1.cell? ⟨w.heap.size, 3, none⟩ = some (.slice bp n cap) := row_cell HB2.out 3; clear hO' hc' hB')
    | (go_at_call 40; refine (check_any pc count bytes bp n cap f _ H1.out.o HCAP.out HN.out).mono ?_; rintro e w2 ⟨rfl, h2⟩; rw [HE.out]; have H2 : Hid _ := H1.out.next h2; have ax0 : w2.cell? ⟨w.heap.size, 0, none⟩ = some (.int .u32 pc) := row_cell H2.out.b2 0; have ax1 : w2.cell? ⟨w.heap.size, 1, none⟩ = some (.int .i64 count) := row_cell H2.out.b2 1; have ax2 : w2.cell? ⟨w.heap.size, 2, none⟩ = some (.int .i64 bytes) := row_cell H2.out.b2 2; have ax3 : w2.cell? ⟨w.heap.size, 3, none⟩ = some (.slice bp n cap) := row_cell H2.out.b2 3; have ay0 : w2.cell? ⟨w1.heap.size, 0, none⟩ = some (.int .u32 pc) := row_cell H2.out.b5 0; have ay1 : w2.cell? ⟨w1.heap.size, 1, none⟩ = some (.int .i64 count) := row_cell H2.out.b5 1; have ay2 : w2.cell? ⟨w1.heap.size, 2, none⟩ = some (.int .i64 bytes) := row_cell H2.out.b5 2; have ay3 : w2.cell? ⟨w1.heap.size, 3, none⟩ = some (.slice bp' n cap') := row_cell H2.out.b5 3; clear h2 x0 x1 x2 x3)
    | (go_at_call 41; refine (rcheck_any pc count bytes bp' n cap' f _ H2.out.o' HN.out).mono ?_; rintro e w3 ⟨rfl, h3⟩; rw [HE.out]; have H3 : Hid _ := H2.out.next h3; have bx0 : w3.cell? ⟨w.heap.size, 0, none⟩ = some (.int .u32 pc) := row_cell H3.out.b2 0; have bx1 : w3.cell? ⟨w.heap.size, 1, none⟩ = some (.int .i64 count) := row_cell H3.out.b2 1; have bx2 : w3.cell? ⟨w.heap.size, 2, none⟩ = some (.int .i64 bytes) := row_cell H3.out.b2 2; have bx3 : w3.cell? ⟨w.heap.size, 3, none⟩ = some (.slice bp n cap) := row_cell H3.out.b2 3; have by0 : w3.cell? ⟨w1.heap.size, 0, none⟩ = some (.int .u32 pc) := row_cell H3.out.b5 0; have by1 : w3.cell? ⟨w1.heap.size, 1, none⟩ = some (.int .i64 count) := row_cell H3.out.b5 1; have by2 : w3.cell? ⟨w1.heap.size, 2, none⟩ = some (.int .i64 bytes) := row_cell H3.out.b5 2; have by3 : w3.cell? ⟨w1.heap.size, 3, none⟩ = some (.slice bp' n cap') := row_cell H3.out.b5 3; clear h3 ax0 ay0 ax1 ay1 ax2 ay2 ax3 ay3)
    | (go_at_call 42; refine (sameOps_any bp bp' n cap cap' f _ H3.out.o H3.out.o' HN.out).mono ?_; rintro e w4 ⟨rfl, h4⟩; have H4 : Hid _ := H3.out.next h4; clear h4 bx0 by0 bx1 by1 bx2 by2 bx3 by3)
    | (go_at_call 43; refine (pgives_any kind _).mono ?_; rintro e w5 ⟨rfl, h5⟩; rw [HG.out]; have H5 : Hid _ := H4.out.next h5; clear h5)
    | (go_at_call 44; refine (rgives_any kind _).mono ?_; rintro e w6 ⟨rfl, rfl⟩; rw [HG2.out]))
  go_ret
  exact ⟨rfl, H5.out.bel⟩
end Go.Proofs.Ytikljbmdpmnapaa
