import Derived.Test.YtkhaajbhgenicaaMQ
import Derived.Deep.RegionHeld3
import Derived.Deep.RegionWith
namespace Go.Proofs.Ytkhaajbhgenicaa
open Go.RowKit
set_option maxRecDepth 100000
set_option linter.unusedVariables false

/-! ## One step of both -/
structure Both (w : World) (X : Nat) (k : RB) (s : MS) : Prop where
  pm : PM w X s
  rm : RM w k s
  ok : s.Ok
  ne : X ∉ k.y :: k.all
def Fin (w : World) (X : Nat) (k : RB) (w' : World) : Prop := (∃ s', Both w' X k s') ∧ Chg (X :: k.all) w w'

theorem upd_bd {f : Nat → Int} {lo hi : Int} (h : ∀ i, lo ≤ f i ∧ f i ≤ hi) (p : Nat) (v : Int) (hv : lo ≤ v ∧ v ≤ hi) : ∀ i, lo ≤ upd f p v i ∧ upd f p v i ≤ hi := by
  intro i; unfold upd; split
  · exact hv
  · exact h i
theorem ok_tellS {s : MS} (h : s.Ok) (p : Nat) : (tellS s p).Ok := ⟨by rw [tellS_B]; exact h.by_, by rw [tellS_R]; exact h.ri⟩
theorem ok_tellB {s : MS} (h : s.Ok) (a n : Nat) : (tellB s a n).Ok := ⟨by rw [tellB_B]; exact h.by_, by rw [tellB_R]; exact h.ri⟩
theorem ok_protT {s : MS} (h : s.Ok) (p r : Int) : (protT s p r).Ok := by
  unfold protT; split
  · rename_i hv
    unfold protS; split
    · exact h
    · exact ok_tellS (s := { s with R := upd s.R p.toNat r }) ⟨h.by_, upd_bd h.ri _ _ hv.2⟩ _
  · exact h
theorem ok_pokeS {s : MS} (h : s.Ok) (a n : Nat) (z : Nat → Int) (hz : ∀ i, i < n → 0 ≤ z i ∧ z i ≤ 255) : (pokeS s a n z).Ok := by
  refine ok_tellB (s := { s with B := ovr s.B a n z }) ⟨fun i => ?_, h.ri⟩ _ _
  show 0 ≤ ovr s.B a n z i ∧ ovr s.B a n z i ≤ 255
  unfold ovr; split
  · exact hz _ (by omega)
  · exact h.by_ i
theorem ok_pokeT {s : MS} (h : s.Ok) (a : Int) (n : Nat) (z : Nat → Int) (hz : ∀ i, i < n → 0 ≤ z i ∧ z i ≤ 255) : (pokeT s a n z).Ok := by
  unfold pokeT; split
  · exact ok_pokeS h _ _ _ hz
  · exact h
theorem zv_bd (v i : Nat) : 0 ≤ zv v i ∧ zv v i ≤ 255 := by unfold zv; omega
theorem ok_storeT {s : MS} (h : s.Ok) (a : Nat) (n : Int) (v : Nat) : (storeT s a n v).Ok := by
  unfold storeT; split
  · exact ok_pokeS h _ _ _ (fun i _ => zv_bd v i)
  · exact h
theorem ok_markT {s : MS} (h : s.Ok) (p : Int) (on : Bool) : (markT s p on).Ok := by
  unfold markT; split
  · unfold markS; split <;> exact ⟨h.by_, h.ri⟩
  · exact h
theorem ok_chS {s : MS} (h : s.Ok) : (chS s).Ok := ⟨h.by_, h.ri⟩

theorem Both.alloc {w : World} {X : Nat} {k : RB} {s : MS} (h : Both w X k s) (o : Obj) : Both (w.alloc o) X k s := ⟨h.pm.alloc o, h.rm.alloc o, h.ok, h.ne⟩
theorem Both.drew {w : World} {X : Nat} {k : RB} {s : MS} (h : Both w X k s) : Both w.drew X k s := ⟨h.pm.drew, h.rm.drew, h.ok, h.ne⟩
theorem Both.below {w w' : World} {X n : Nat} {k : RB} {s : MS} (h : Both w X k s) (hb : Below n w w') (hn : w.heap.size ≤ n) : Both w' X k s := ⟨h.pm.below hb (Nat.lt_of_lt_of_le h.pm.lt hn), h.rm.below hb hn, h.ok, h.ne⟩
theorem Both.nX {w : World} {X : Nat} {k : RB} {s : MS} (h : Both w X k s) : ∀ x ∈ k.y :: k.all, x ∉ [X] := fun x hx hm => h.ne (by simp at hm; subst hm; exact hx)
theorem Both.nK {w : World} {X : Nat} {k : RB} {s : MS} (h : Both w X k s) : X ∉ k.all := fun hm => h.ne (List.mem_cons_of_mem _ hm)
theorem Both.rmX {w w1 : World} {X : Nat} {k : RB} {s : MS} (h : Both w X k s) (hc : Chg [X] w w1) : RM w1 k s := h.rm.keep hc h.nX
theorem Both.pmK {w w1 : World} {X : Nat} {k : RB} {s : MS} (h : Both w X k s) (hc : Chg k.all w w1) : PM w1 X s := h.pm.keep hc h.nK

theorem Chg.toX {X : Nat} {k : RB} {w w' : World} (h : Chg [X] w w') : Chg (X :: k.all) w w' := h.mono (by simp)
theorem Chg.toK {X : Nat} {k : RB} {w w' : World} (h : Chg k.all w w') : Chg (X :: k.all) w w' := h.mono (fun _ hx => List.mem_cons_of_mem _ hx)
theorem Chg.dn {S : List Nat} {w w' : World} {o : Obj} (h : Chg S (w.alloc o).drew w') : Chg S w w' := (Chg.of_below S (((Below.refl w.heap.size w).alloc (Nat.le_refl _) o).drew)).trans h
theorem Chg.al {S : List Nat} {w w' : World} {o : Obj} (h : Chg S (w.alloc o) w') : Chg S w w' := (Chg.of_below S ((Below.refl w.heap.size w).alloc (Nat.le_refl _) o)).trans h

/-- The program's call first. -/
theorem fin_A {w w0 w1 w2 : World} {X : Nat} {k : RB} {s s' : MS} (h : Both w0 X k s) (h0 : Chg (X :: k.all) w w0) (hP : PM w1 X s') (c1 : Chg [X] w0 w1) (hR : RM w2 k s') (c2 : Chg k.all w1 w2) (ok : s'.Ok) : Fin w X k w2 :=
  ⟨⟨s', ⟨hP.keep c2 h.nK, hR, ok, h.ne⟩⟩, h0.trans (c1.toX.trans c2.toK)⟩
/-- The reference's call first. -/
theorem fin_B {w w0 w1 w2 : World} {X : Nat} {k : RB} {s s' : MS} (h : Both w0 X k s) (h0 : Chg (X :: k.all) w w0) (hR : RM w1 k s') (c1 : Chg k.all w0 w1) (hP : PM w2 X s') (c2 : Chg [X] w1 w2) (ok : s'.Ok) : Fin w X k w2 :=
  ⟨⟨s', ⟨hP, hR.keep c2 h.nX, ok, h.ne⟩⟩, h0.trans (c1.toK.trans c2.toX)⟩

abbrev stepC (kind A N V : Int) (bp : Option Addr) (n c : Nat) (on : Bool) : Array Value := #[.int .i64 kind, .int .u32 A, .int .i64 N, .int .u32 V, .slice bp n c, .bool on]
/-- The step's own cells. -/
structure Own (w w1 : World) (A N V : Int) (bp : Option Addr) (n c : Nat) (on : Bool) : Prop where
  f1 : w1.cell? ⟨w.heap.size, 1, none⟩ = some (.int .u32 A)
  f2 : w1.cell? ⟨w.heap.size, 2, none⟩ = some (.int .i64 N)
  f3 : w1.cell? ⟨w.heap.size, 3, none⟩ = some (.int .u32 V)
  f4 : w1.cell? ⟨w.heap.size, 4, none⟩ = some (.slice bp n c)
  f5 : w1.cell? ⟨w.heap.size, 5, none⟩ = some (.bool on)
theorem own_of {w w1 : World} {S : List Nat} {kind A N V : Int} {bp : Option Addr} {n c : Nat} {on : Bool} (h : Chg S (w.alloc (.cells (stepC kind A N V bp n c on) 46)) w1) (hS : ∀ x ∈ S, x < w.heap.size) : Own w w1 A N V bp n c on := by
  have h1 : w1.heap[w.heap.size]? = some (.cells (stepC kind A N V bp n c on) 46 (0, 0)) := (h.block _ (by simp) (fun hm => by have := hS _ hm; omega)).trans (heap_alloc_last w _)
  exact ⟨(cell_of_row _ _ 1 _ 46 (0, 0) h1).trans rfl, (cell_of_row _ _ 2 _ 46 (0, 0) h1).trans rfl, (cell_of_row _ _ 3 _ 46 (0, 0) h1).trans rfl, (cell_of_row _ _ 4 _ 46 (0, 0) h1).trans rfl, (cell_of_row _ _ 5 _ 46 (0, 0) h1).trans rfl⟩
theorem Both.ltX {w : World} {X : Nat} {k : RB} {s : MS} (h : Both w X k s) : ∀ x ∈ [X], x < w.heap.size := by intro x hx; simp at hx; subst hx; exact h.pm.lt
theorem Both.ltK {w : World} {X : Nat} {k : RB} {s : MS} (h : Both w X k s) : ∀ x ∈ k.all, x < w.heap.size := fun x hx => h.rm.lt x (List.mem_cons_of_mem _ hx)

theorem Chg.undrew {S : List Nat} {w w' : World} (h : Chg S w.drew w') : Chg S w w' := ⟨h.os, h.tape, h.output, h.size, h.block⟩

theorem own_of2 {w w1 w2 : World} {S : List Nat} {A N V : Int} {bp : Option Addr} {n c : Nat} {on : Bool} (h : Own w w1 A N V bp n c on) (hc : Chg S w1 w2) (hS : ∀ x ∈ S, x < w.heap.size) (hz : w.heap.size ≤ w1.heap.size) : Own w w2 A N V bp n c on := by
  have hlt : w.heap.size < w1.heap.size := lt_of_cell h.f1
  have hk : ∀ o, w2.cell? ⟨w.heap.size, o, none⟩ = w1.cell? ⟨w.heap.size, o, none⟩ := fun o => hc.cell hlt (fun hm => by have := hS _ hm; omega)
  exact ⟨(hk _).trans h.f1, (hk _).trans h.f2, (hk _).trans h.f3, (hk _).trans h.f4, (hk _).trans h.f5⟩

def pgI (A : Int) : Int := IntKind.i32.wrap A

set_option maxHeartbeats 2000000 in
theorem step0 (X A : Nat) (k : RB) (N V : Int) (bp : Option Addr) (n c : Nat) (on : Bool) (s : MS) (w : World) (h : Both w X k s) (hA : A < 4294967296) :
    Calls Try.prog 19 #[.pointer (some ⟨X, 0, none⟩), .pointer (some ⟨k.y, 0, none⟩), .agg (stepC 0 A N V bp n c on)] w fun e w' => e = .returned (.bool true) ∧ Fin w X k w' := by
  have HB : Hid (Both w X k s) := h
  clear h
  have hB0 : Both (w.alloc (.cells (stepC 0 A N V bp n c on) 46)).drew X k s := (HB.out.alloc _).drew
  have O0 : Own w (w.alloc (.cells (stepC 0 A N V bp n c on) 46)).drew A N V bp n c on := own_of (Chg.refl _ _).drew HB.out.ltX
  have C0 : Chg (X :: k.all) w (w.alloc (.cells (stepC 0 A N V bp n c on) 46)).drew := (Chg.refl _ _).dn
  go_enter Try.func19, Try.ntmps19
  go_wp2
  go_region_held3 (fun w' => w'.cell? ⟨w.heap.size, 1, none⟩ = some (.int .u32 A) ∧ w'.cell? ⟨w.heap.size, 2, none⟩ = some (.int .i64 N)) (first | exact ⟨O0.f1, O0.f2⟩ | exact ⟨ow1.f1, ow1.f2⟩ | exact ⟨ow2.f1, ow2.f2⟩)
    (first
      | (go_at_call 29; refine (prot_tot X _ _ s _ hB0.pm).mono ?_; rintro e w1 ⟨rfl, hP1, hC1⟩; have ow1 : Own w w1 A N V bp n c on := own_of hC1.undrew HB.out.ltX; have hR1 := hB0.rmX hC1)
      | (go_at_call 30; refine (rprot_tot k _ _ s _ hR1).mono ?_; rintro e w2 ⟨rfl, hR2, hC2⟩; have ow2 : Own w w2 A N V bp n c on := own_of2 ow1 hC2 HB.out.ltK hC1.undrew.al.size; have hF : Fin w X k w2 := fin_A hB0 C0 hP1 hC1 hR2 hC2 (ok_protT HB.out.ok _ _))
      | (go_at_call 30; refine (rprot_tot k _ _ s _ hB0.rm).mono ?_; rintro e w1 ⟨rfl, hR1, hC1⟩; have ow1 : Own w w1 A N V bp n c on := own_of hC1.undrew HB.out.ltK; have hP1 := hB0.pmK hC1)
      | (go_at_call 29; refine (prot_tot X _ _ s _ hP1).mono ?_; rintro e w2 ⟨rfl, hP2, hC2⟩; have ow2 : Own w w2 A N V bp n c on := own_of2 ow1 hC2 HB.out.ltX hC1.undrew.al.size; have hF : Fin w X k w2 := fin_B hB0 C0 hR1 hC1 hP2 hC2 (ok_protT HB.out.ok _ _)))
  all_goals
    go_wp2
    go_ret
    exact ⟨rfl, hF⟩

set_option maxHeartbeats 2000000 in
theorem step4 (X A V : Nat) (k : RB) (N : Int) (bp : Option Addr) (n c : Nat) (on : Bool) (s : MS) (w : World) (h : Both w X k s) (hA : A < 4294967296) (hV : V < 4294967296) :
    Calls Try.prog 19 #[.pointer (some ⟨X, 0, none⟩), .pointer (some ⟨k.y, 0, none⟩), .agg (stepC 4 A N V bp n c on)] w fun e w' => e = .returned (.bool true) ∧ Fin w X k w' := by
  have HB : Hid (Both w X k s) := h
  clear h
  have hB0 : Both (w.alloc (.cells (stepC 4 A N V bp n c on) 46)).drew X k s := (HB.out.alloc _).drew
  have O0 : Own w (w.alloc (.cells (stepC 4 A N V bp n c on) 46)).drew A N V bp n c on := own_of (Chg.refl _ _).drew HB.out.ltX
  have C0 : Chg (X :: k.all) w (w.alloc (.cells (stepC 4 A N V bp n c on) 46)).drew := (Chg.refl _ _).dn
  go_enter Try.func19, Try.ntmps19
  go_wp2
  go_region_held3 (fun w' => w'.cell? ⟨w.heap.size, 1, none⟩ = some (.int .u32 A) ∧ w'.cell? ⟨w.heap.size, 2, none⟩ = some (.int .i64 N) ∧ w'.cell? ⟨w.heap.size, 3, none⟩ = some (.int .u32 V)) (first | exact ⟨O0.f1, O0.f2, O0.f3⟩ | exact ⟨ow1.f1, ow1.f2, ow1.f3⟩ | exact ⟨ow2.f1, ow2.f2, ow2.f3⟩)
    (first
      | (go_at_call 37; refine (store_tot X A V N s _ hA hV HB.out.ok hB0.pm).mono ?_; rintro e w1 ⟨rfl, hP1, hC1⟩; have ow1 : Own w w1 A N V bp n c on := own_of hC1.undrew HB.out.ltX; have hR1 := hB0.rmX hC1)
      | (go_at_call 38; refine (rstore_tot k A V N s _ hA hV HB.out.ok hR1).mono ?_; rintro e w2 ⟨rfl, hR2, hC2⟩; have ow2 : Own w w2 A N V bp n c on := own_of2 ow1 hC2 HB.out.ltK hC1.undrew.al.size; have hF : Fin w X k w2 := fin_A hB0 C0 hP1 hC1 hR2 hC2 (ok_storeT HB.out.ok _ _ _))
      | (go_at_call 38; refine (rstore_tot k A V N s _ hA hV HB.out.ok hB0.rm).mono ?_; rintro e w1 ⟨rfl, hR1, hC1⟩; have ow1 : Own w w1 A N V bp n c on := own_of hC1.undrew HB.out.ltK; have hP1 := hB0.pmK hC1)
      | (go_at_call 37; refine (store_tot X A V N s _ hA hV HB.out.ok hP1).mono ?_; rintro e w2 ⟨rfl, hP2, hC2⟩; have ow2 : Own w w2 A N V bp n c on := own_of2 ow1 hC2 HB.out.ltX hC1.undrew.al.size; have hF : Fin w X k w2 := fin_B hB0 C0 hR1 hC1 hP2 hC2 (ok_storeT HB.out.ok _ _ _)))
  all_goals
    go_wp2
    go_ret
    exact ⟨rfl, hF⟩

set_option maxHeartbeats 2000000 in
theorem step6 (X : Nat) (k : RB) (A N V : Int) (bp : Option Addr) (n c : Nat) (on : Bool) (s : MS) (w : World) (h : Both w X k s) :
    Calls Try.prog 19 #[.pointer (some ⟨X, 0, none⟩), .pointer (some ⟨k.y, 0, none⟩), .agg (stepC 6 A N V bp n c on)] w fun e w' => e = .returned (.bool true) ∧ Fin w X k w' := by
  have HB : Hid (Both w X k s) := h
  clear h
  have hB0 : Both (w.alloc (.cells (stepC 6 A N V bp n c on) 46)).drew X k s := (HB.out.alloc _).drew
  have O0 : Own w (w.alloc (.cells (stepC 6 A N V bp n c on) 46)).drew A N V bp n c on := own_of (Chg.refl _ _).drew HB.out.ltX
  have C0 : Chg (X :: k.all) w (w.alloc (.cells (stepC 6 A N V bp n c on) 46)).drew := (Chg.refl _ _).dn
  go_enter Try.func19, Try.ntmps19
  go_wp2
  go_region_held3 (fun w' => w'.cell? ⟨w.heap.size, 2, none⟩ = some (.int .i64 N) ∧ w'.cell? ⟨w.heap.size, 5, none⟩ = some (.bool on)) (first | exact ⟨O0.f2, O0.f5⟩ | exact ⟨ow1.f2, ow1.f5⟩ | exact ⟨ow2.f2, ow2.f5⟩)
    (first
      | (go_at_call 41; refine (mark_tot X N on s _ hB0.pm).mono ?_; rintro e w1 ⟨rfl, hP1, hC1⟩; have ow1 : Own w w1 A N V bp n c on := own_of hC1.undrew HB.out.ltX; have hR1 := hB0.rmX hC1)
      | (go_at_call 42; refine (rmark_tot k N on s _ hR1).mono ?_; rintro e w2 ⟨rfl, hR2, hC2⟩; have ow2 : Own w w2 A N V bp n c on := own_of2 ow1 hC2 HB.out.ltK hC1.undrew.al.size; have hF : Fin w X k w2 := fin_A hB0 C0 hP1 hC1 hR2 hC2 (ok_markT HB.out.ok _ _))
      | (go_at_call 42; refine (rmark_tot k N on s _ hB0.rm).mono ?_; rintro e w1 ⟨rfl, hR1, hC1⟩; have ow1 : Own w w1 A N V bp n c on := own_of hC1.undrew HB.out.ltK; have hP1 := hB0.pmK hC1)
      | (go_at_call 41; refine (mark_tot X N on s _ hP1).mono ?_; rintro e w2 ⟨rfl, hP2, hC2⟩; have ow2 : Own w w2 A N V bp n c on := own_of2 ow1 hC2 HB.out.ltX hC1.undrew.al.size; have hF : Fin w X k w2 := fin_B hB0 C0 hR1 hC1 hP2 hC2 (ok_markT HB.out.ok _ _)))
  all_goals
    go_wp2
    go_ret
    exact ⟨rfl, hF⟩
end Go.Proofs.Ytkhaajbhgenicaa
