import Derived.Test.YtkgbjpdoigdjnaaJ16
import Derived.Test.YtkgbjpdoigdjnaaJ32
import Derived.Test.YtkgbjpdoigdjnaaJ37
import Derived.Deep.CutBlock
import Derived.Deep.RegionWith
namespace Go.Proofs.Ytkgbjpdoigdjnaa
open Go.RowKit
set_option maxRecDepth 100000
set_option linter.unusedVariables false
set_option linter.unusedSimpArgs false

/-! ## A turn: an instruction under way -/
abbrev tTurn : TypeId := 153
abbrev tuC (X : Nat) (s : GS) : Array Value := #[.pointer (some ⟨X, 0, none⟩), .int .u32 (s.R 0), .int .u32 (s.R 1), .int .u32 (s.R 2), .int .u32 (s.R 3), .int .u32 (s.R 4), .int .u32 (s.R 5), .int .u32 (s.R 6), .int .u32 (s.R 7), .int .u32 s.pc, .int .u32 s.f]
abbrev tuB (X : Nat) (s : GS) : Obj := .cells (tuC X s) tTurn
theorem tu_m {w : World} {U X : Nat} {s : GS} (h : w.heap[U]? = some (tuB X s)) : w.cell? ⟨U, 0, none⟩ = some (.pointer (some ⟨X, 0, none⟩)) := cell_of_row _ _ 0 _ _ (0, 0) h
theorem tu_reg {w : World} {U X : Nat} {s : GS} (h : w.heap[U]? = some (tuB X s)) (d : Nat) (hd : d < 8) : w.cell? ⟨U, 1 + d, none⟩ = some (.int .u32 (s.R d)) := by
  rw [cell_of_row _ _ (1 + d) _ _ (0, 0) h]
  match d, hd with
  | 0, _ => rfl
  | 1, _ => rfl
  | 2, _ => rfl
  | 3, _ => rfl
  | 4, _ => rfl
  | 5, _ => rfl
  | 6, _ => rfl
  | 7, _ => rfl
  | n + 8, h => omega
theorem tu_pc {w : World} {U X : Nat} {s : GS} (h : w.heap[U]? = some (tuB X s)) : w.cell? ⟨U, 9, none⟩ = some (.int .u32 s.pc) := cell_of_row _ _ 9 _ _ (0, 0) h
theorem tu_f {w : World} {U X : Nat} {s : GS} (h : w.heap[U]? = some (tuB X s)) : w.cell? ⟨U, 10, none⟩ = some (.int .u32 s.f) := cell_of_row _ _ 10 _ _ (0, 0) h
theorem tu_fr {w : World} {U X : Nat} {s : GS} (h : w.heap[U]? = some (tuB X s)) (o : Nat) : w.frozen? ⟨U, o, none⟩ = false := frozen_of_row _ _ o _ _ h
theorem tu_setR {w : World} {U X : Nat} {s : GS} (h : w.heap[U]? = some (tuB X s)) (d : Nat) (hd : d < 8) (v : Int) (hv : 0 ≤ v) : (w.setCell ⟨U, 1 + d, none⟩ (.int .u32 v)).heap[U]? = some (tuB X (s.setR d v.toNat)) := by
  rw [heap_setCell_same w U (1 + d) _ _ _ h]
  have e : ((v.toNat : Nat) : Int) = v := by omega
  match d, hd with
  | 0, _ => simp [tuB, tuC, GS.setR, upd, e]
  | 1, _ => simp [tuB, tuC, GS.setR, upd, e]
  | 2, _ => simp [tuB, tuC, GS.setR, upd, e]
  | 3, _ => simp [tuB, tuC, GS.setR, upd, e]
  | 4, _ => simp [tuB, tuC, GS.setR, upd, e]
  | 5, _ => simp [tuB, tuC, GS.setR, upd, e]
  | 6, _ => simp [tuB, tuC, GS.setR, upd, e]
  | 7, _ => simp [tuB, tuC, GS.setR, upd, e]
  | n + 8, h => omega
theorem tu_setPC {w : World} {U X : Nat} {s : GS} (h : w.heap[U]? = some (tuB X s)) (v : Int) (hv : 0 ≤ v) : (w.setCell ⟨U, 9, none⟩ (.int .u32 v)).heap[U]? = some (tuB X (s.setPC v.toNat)) := by
  rw [heap_setCell_same w U 9 _ _ _ h]
  have e : ((v.toNat : Nat) : Int) = v := by omega
  simp [tuB, tuC, GS.setPC, e]
theorem tu_setF {w : World} {U X : Nat} {s : GS} (h : w.heap[U]? = some (tuB X s)) (v : Int) (hv : 0 ≤ v) : (w.setCell ⟨U, 10, none⟩ (.int .u32 v)).heap[U]? = some (tuB X (s.setF v.toNat)) := by
  rw [heap_setCell_same w U 10 _ _ _ h]
  have e : ((v.toNat : Nat) : Int) = v := by omega
  simp [tuB, tuC, GS.setF, e]
set_option maxHeartbeats 1000000 in
theorem at_any (U X : Nat) (s : GS) (op : Int) (D S : Nat) (O : Int) (imm : Nat) (w : World) (hU : w.heap[U]? = some (tuB X s)) (hS : S < 8) (hs : s.Ok) (hi : imm < 4294967296) :
    Calls Try.prog 163 #[.pointer (some ⟨U, 0, none⟩), insA op D S O imm] w fun e w' => e = .returned (.int .u32 (w32 ((s.R S : Int) + imm))) ∧ Below w.heap.size w w' := by
  have hul : U < w.heap.size := lt_of_block hU
  have hul1 : U < w.heap.size + 1 := by omega
  have r1 := tu_reg hU S hS
  have hSi : (S : Int) < 8 := by omega
  have hRl := hs.r S
  have HE : Hid _ := w32_cast ((s.R S : Int) + imm)
  clear hs hU
  go_enter Try.func163, Try.ntmps163
  go_wp2
  go_region
  go_wp2
  go_ret
  exact ⟨Fl.ret_int HE.out.symm, ((Below.refl _ _).alloc (Nat.le_refl _) _).drew⟩

/-! ## The world while a turn is under way -/
structure TuW (w W : World) (U X : Nat) (m : MS) (t : GS) : Prop where
  pm : PM W X m
  chg : Chg [X, U] w W
  bU : W.heap[U]? = some (tuB X t)
  hU : U < w.heap.size
  hX : X < w.heap.size
  ne : U ≠ X
theorem TuW.start {w : World} {U X : Nat} {m : MS} {t : GS} (hp : PM w X m) (hb : w.heap[U]? = some (tuB X t)) (hn : U ≠ X) : TuW w w U X m t := ⟨hp, Chg.refl _ _, hb, lt_of_block hb, hp.lt, hn⟩
theorem TuW.drew {w W : World} {U X : Nat} {m : MS} {t : GS} (h : TuW w W U X m t) : TuW w W.drew U X m t := ⟨h.pm.drew, h.chg.drew, h.bU, h.hU, h.hX, h.ne⟩
theorem TuW.big {w W : World} {U X : Nat} {m : MS} {t : GS} (h : TuW w W U X m t) : w.heap.size ≤ W.heap.size := h.chg.size
theorem TuW.below {w W W' : World} {U X : Nat} {m : MS} {t : GS} (h : TuW w W U X m t) {n : Nat} (hb : Below n W W') (hn : w.heap.size ≤ n) : TuW w W' U X m t :=
  ⟨h.pm.below hb (Nat.lt_of_lt_of_le h.hX hn), ⟨hb.os.trans h.chg.os, hb.tape.trans h.chg.tape, hb.output.trans h.chg.output, Nat.le_trans h.chg.size hb.size, fun b hbl hs => (hb.block b (Nat.lt_of_lt_of_le hbl hn)).trans (h.chg.block b hbl hs)⟩,
    (hb.block U (Nat.lt_of_lt_of_le h.hU hn)).trans h.bU, h.hU, h.hX, h.ne⟩
theorem TuW.alloc {w W : World} {U X : Nat} {m : MS} {t : GS} (h : TuW w W U X m t) (o : Obj) : TuW w (W.alloc o) U X m t := h.below ((Below.refl W.heap.size W).alloc (Nat.le_refl _) o) h.big
theorem TuW.call {w W W' : World} {U X : Nat} {m : MS} {t : GS} (h : TuW w W U X m t) (hb : Below W.heap.size W W') : TuW w W' U X m t := h.below hb h.big
theorem TuW.own {w W : World} {U X : Nat} {m : MS} {t t' : GS} (h : TuW w W U X m t) (o : Nat) (v : Value) (hb : (W.setCell ⟨U, o, none⟩ v).heap[U]? = some (tuB X t')) : TuW w (W.setCell ⟨U, o, none⟩ v) U X m t' :=
  ⟨h.pm.of_block (((Only.refl U W).setCell o v).block X (Ne.symm h.ne)), h.chg.setIn (by simp), hb, h.hU, h.hX, h.ne⟩
theorem TuW.setR {w W : World} {U X : Nat} {m : MS} {t : GS} (h : TuW w W U X m t) (d : Nat) (hd : d < 8) (v : Int) (hv : 0 ≤ v) : TuW w (W.setCell ⟨U, 1 + d, none⟩ (.int .u32 v)) U X m (t.setR d v.toNat) := h.own _ _ (tu_setR h.bU d hd v hv)
theorem TuW.setPC {w W : World} {U X : Nat} {m : MS} {t : GS} (h : TuW w W U X m t) (v : Int) (hv : 0 ≤ v) : TuW w (W.setCell ⟨U, 9, none⟩ (.int .u32 v)) U X m (t.setPC v.toNat) := h.own _ _ (tu_setPC h.bU v hv)
theorem TuW.setF {w W : World} {U X : Nat} {m : MS} {t : GS} (h : TuW w W U X m t) (v : Int) (hv : 0 ≤ v) : TuW w (W.setCell ⟨U, 10, none⟩ (.int .u32 v)) U X m (t.setF v.toNat) := h.own _ _ (tu_setF h.bU v hv)
theorem TuW.new {w W : World} {U X : Nat} {m : MS} {t : GS} (h : TuW w W U X m t) {q : Nat} (hq : w.heap.size ≤ q) (o : Nat) (v : Value) : TuW w (W.setCell ⟨q, o, none⟩ v) U X m t := by
  have hqX : X ≠ q := by have := h.hX; omega
  have hqU : U ≠ q := by have := h.hU; omega
  exact ⟨h.pm.of_block (((Only.refl q W).setCell o v).block X hqX), h.chg.new hq ((Only.refl q W).setCell o v), (((Only.refl q W).setCell o v).block U hqU).trans h.bU, h.hU, h.hX, h.ne⟩
theorem TuW.store {w W W' : World} {U X : Nat} {m m' : MS} {t : GS} (h : TuW w W U X m t) (hp : PM W' X m') (hc : Chg [X] W W') : TuW w W' U X m' t :=
  ⟨hp, h.chg.trans (hc.mono (by simp)), (hc.block U (Nat.lt_of_lt_of_le h.hU h.big) (by simp [h.ne])).trans h.bU, h.hU, h.hX, h.ne⟩
/-- A new block is as it was laid behind what leaves it alone. -/
theorem TuW.lu {w W : World} {U X : Nat} {m : MS} {t : GS} (h : TuW w W U X m t) : U < W.heap.size := Nat.lt_of_lt_of_le h.hU h.big
theorem TuW.setRn {w W : World} {U X : Nat} {m : MS} {t : GS} (h : TuW w W U X m t) (d : Nat) (hd : d < 8) (v : Nat) : TuW w (W.setCell ⟨U, 1 + d, none⟩ (.int .u32 v)) U X m (t.setR d v) := h.setR d hd v (Int.natCast_nonneg _)
theorem TuW.setPCn {w W : World} {U X : Nat} {m : MS} {t : GS} (h : TuW w W U X m t) (v : Nat) : TuW w (W.setCell ⟨U, 9, none⟩ (.int .u32 v)) U X m (t.setPC v) := h.setPC v (Int.natCast_nonneg _)
theorem TuW.setFn {w W : World} {U X : Nat} {m : MS} {t : GS} (h : TuW w W U X m t) (v : Nat) : TuW w (W.setCell ⟨U, 10, none⟩ (.int .u32 v)) U X m (t.setF v) := h.setF v (Int.natCast_nonneg _)
theorem TuW.setR0n {w W : World} {U X : Nat} {m : MS} {t : GS} (h : TuW w W U X m t) (v : Nat) : TuW w (W.setCell ⟨U, 1, none⟩ (.int .u32 v)) U X m (t.setR 0 v) := h.setR 0 (by omega) v (Int.natCast_nonneg _)
/-- A block that is new since w. -/
structure Own (w W : World) (q : Nat) (o : Obj) : Prop where
  b : W.heap[q]? = some o
  n : w.heap.size ≤ q
theorem Own.drew {w W : World} {q : Nat} {o : Obj} (h : Own w W q o) : Own w W.drew q o := ⟨h.b, h.n⟩
theorem Own.last {w W : World} {q : Nat} {o : Obj} (hq : q = W.heap.size) (hn : w.heap.size ≤ q) : Own w (W.alloc o) q o := ⟨hq ▸ heap_alloc_last W o, hn⟩
theorem Own.call {w W W' : World} {q : Nat} {o : Obj} (h : Own w W q o) (hb : Below W.heap.size W W') : Own w W' q o := ⟨(hb.block q (lt_of_block h.b)).trans h.b, h.n⟩
theorem Own.alloc {w W : World} {q : Nat} {o : Obj} (h : Own w W q o) (o' : Obj) : Own w (W.alloc o') q o := h.call ((Below.refl W.heap.size W).alloc (Nat.le_refl _) o')
theorem Own.old {w W : World} {q : Nat} {o : Obj} (h : Own w W q o) {U : Nat} (hU : U < w.heap.size) (i : Nat) (v : Value) : Own w (W.setCell ⟨U, i, none⟩ v) q o := by
  have := h.n
  exact ⟨(((Only.refl U W).setCell i v).block q (by omega)).trans h.b, h.n⟩
theorem Own.other {w W : World} {q : Nat} {o : Obj} (h : Own w W q o) {p : Nat} (hp : q ≠ p) (i : Nat) (v : Value) : Own w (W.setCell ⟨p, i, none⟩ v) q o := ⟨(((Only.refl p W).setCell i v).block q hp).trans h.b, h.n⟩
theorem Own.store {w W W' : World} {q X : Nat} {o : Obj} (h : Own w W q o) (hX : X < w.heap.size) (hc : Chg [X] W W') : Own w W' q o := by
  have := h.n
  exact ⟨(hc.block q (lt_of_block h.b) (by simp; omega)).trans h.b, h.n⟩
abbrev insO (op : Int) (D S : Nat) (O : Int) (imm : Nat) : Obj := .cells #[.int .i64 op, .int .i64 D, .int .i64 S, .int .i64 O, .int .u32 imm] 26
theorem Own.ins {w W : World} {q : Nat} {op : Int} {D S : Nat} {O : Int} {imm : Nat} (h : Own w W q (insO op D S O imm)) : W.cell? ⟨q, 0, none⟩ = some (.int .i64 op) ∧ W.cell? ⟨q, 1, none⟩ = some (.int .i64 D) ∧ W.cell? ⟨q, 2, none⟩ = some (.int .i64 S) ∧ W.cell? ⟨q, 3, none⟩ = some (.int .i64 O) ∧ W.cell? ⟨q, 4, none⟩ = some (.int .u32 imm) :=
  ⟨cell_of_row _ _ 0 _ _ (0, 0) h.b, cell_of_row _ _ 1 _ _ (0, 0) h.b, cell_of_row _ _ 2 _ _ (0, 0) h.b, cell_of_row _ _ 3 _ _ (0, 0) h.b, cell_of_row _ _ 4 _ _ (0, 0) h.b⟩
theorem Own.stop {w W : World} {q : Nat} {k a : Int} (h : Own w W q (stopB k a)) : W.cell? ⟨q, 0, none⟩ = some (.int .i64 k) ∧ W.cell? ⟨q, 1, none⟩ = some (.int .u32 a) ∧ W.frozen? ⟨q, 0, none⟩ = false ∧ W.frozen? ⟨q, 1, none⟩ = false := stop_cells h.b
theorem Own.lt {w W : World} {q : Nat} {o : Obj} (h : Own w W q o) : q < W.heap.size := lt_of_block h.b
end Go.Proofs.Ytkgbjpdoigdjnaa

namespace Go.Proofs.Ytkgbjpdoigdjnaa
open Go.RowKit
set_option maxRecDepth 100000
set_option linter.unusedVariables false
set_option linter.unusedSimpArgs false

abbrev stop0 : Value := .agg #[.int .i64 0, .int .u32 0]
theorem pholds_me (c : Int) (f : Nat) (b : Bool) (w : World) (hb : Fl.holdsF c f = b) (hf : f < 4294967296) (hc : c ≤ 9223372036854775807) : Calls Try.prog 33 #[.int .i64 c, .int .u32 f] w fun e w' => e = .returned (.bool b) ∧ Below w.heap.size w w' := hb ▸ pholds_any c f w hf hc
set_option maxHeartbeats 1000000 in
theorem jump6 (U X : Nat) (m : MS) (t : GS) (D S : Nat) (O : Int) (imm : Nat) (w : World) (H : TuW w w U X m t) (ht : t.Ok) (hi : imm < 4294967296) :
    Calls Try.prog 130 #[.pointer (some ⟨U, 0, none⟩), insA 6 D S O imm] w fun e w' => e = .returned stop0 ∧ TuW w w' U X m (t.setPC (w32 ((t.pc : Int) + imm))) := by
  have HH : Hid _ := H
  have HT : Hid _ := ht
  have u0 := H.hU
  have u1 : U < w.heap.size + 1 := by omega
  have u2 : U < w.heap.size + 1 + 1 := by omega
  have u3 : U < w.heap.size + 1 + 1 + 1 := by omega
  have u4 : U < w.heap.size + 1 + 1 + 1 + 1 := by omega
  have c9 := tu_pc H.bU
  have f9 := tu_fr H.bU 9
  have hp := ht.p
  have hf := ht.f
  clear H ht
  go_enter Try.func130, Try.ntmps130
  go_wp2
  go_region
  all_goals go_wp2
  all_goals exact bodyPost_ret (v := stop0) (by simp [results, Try.results130, go_sem, u0, u1, u2, u3, u4]) rfl ⟨rfl, by
    unfold w32
    have hB := HH.out
    (repeat (first | with_reducible exact hB | with_reducible refine TuW.drew ?_ | with_reducible refine TuW.setPC ?_ _ (Int.emod_nonneg _ (by decide)) | with_reducible refine TuW.new ?_ (by omega) _ _ | with_reducible refine TuW.alloc ?_ _))⟩
set_option maxHeartbeats 1000000 in
theorem jump7 (U X : Nat) (m : MS) (t : GS) (D S : Nat) (O : Int) (imm : Nat) (w : World) (H : TuW w w U X m t) (ht : t.Ok) (hi : imm < 4294967296) :
    Calls Try.prog 130 #[.pointer (some ⟨U, 0, none⟩), insA 7 D S O imm] w fun e w' => e = .returned stop0 ∧ TuW w w' U X m (t.setPC (w32 ((t.pc : Int) + imm))) := by
  have HH : Hid _ := H
  have HT : Hid _ := ht
  have u0 := H.hU
  have u1 : U < w.heap.size + 1 := by omega
  have u2 : U < w.heap.size + 1 + 1 := by omega
  have u3 : U < w.heap.size + 1 + 1 + 1 := by omega
  have u4 : U < w.heap.size + 1 + 1 + 1 + 1 := by omega
  have c9 := tu_pc H.bU
  have f9 := tu_fr H.bU 9
  have hp := ht.p
  have hf := ht.f
  clear H ht
  go_enter Try.func130, Try.ntmps130
  go_wp2
  go_region
  all_goals go_wp2
  all_goals exact bodyPost_ret (v := stop0) (by simp [results, Try.results130, go_sem, u0, u1, u2, u3, u4]) rfl ⟨rfl, by
    unfold w32
    have hB := HH.out
    (repeat (first | with_reducible exact hB | with_reducible refine TuW.drew ?_ | with_reducible refine TuW.setPC ?_ _ (Int.emod_nonneg _ (by decide)) | with_reducible refine TuW.new ?_ (by omega) _ _ | with_reducible refine TuW.alloc ?_ _))⟩
set_option maxHeartbeats 1000000 in
theorem jump12t (U X : Nat) (m : MS) (t : GS) (D S : Nat) (O : Int) (imm : Nat) (w : World) (H : TuW w w U X m t) (ht : t.Ok) (hi : imm < 4294967296) (hO : O ≤ 9223372036854775807) (hb : Fl.holdsF O t.f = true) :
    Calls Try.prog 130 #[.pointer (some ⟨U, 0, none⟩), insA 12 D S O imm] w fun e w' => e = .returned stop0 ∧ TuW w w' U X m (t.setPC (w32 ((t.pc : Int) + imm))) := by
  have HH : Hid _ := H
  have HT : Hid _ := ht
  have u0 := H.hU
  have u1 : U < w.heap.size + 1 := by omega
  have u2 : U < w.heap.size + 1 + 1 := by omega
  have u3 : U < w.heap.size + 1 + 1 + 1 := by omega
  have u4 : U < w.heap.size + 1 + 1 + 1 + 1 := by omega
  have c9 := tu_pc H.bU
  have f9 := tu_fr H.bU 9
  have cF := tu_f H.bU
  have fF := tu_fr H.bU 10
  have hp := ht.p
  have hf := ht.f
  have HB : Hid _ := hb
  clear hb
  clear H ht
  go_enter Try.func130, Try.ntmps130
  go_wp2
  go_region_with (go_at_call 33; refine (pholds_me O t.f true _ HB.out hf hO).mono ?_; rintro e w1 ⟨rfl, hB1⟩; have HW1 : Hid (TuW w w1 U X m t) := TuW.call (by have hB := HH.out; (repeat (first | with_reducible exact hB | with_reducible refine TuW.drew ?_ | with_reducible refine TuW.new ?_ (by omega) _ _ | with_reducible refine TuW.alloc ?_ _))) hB1; have c91 := tu_pc HW1.out.bU; have f91 := tu_fr HW1.out.bU 9; have l1 := HW1.out.lu; have HI1 : Hid (Own w w1 (w.heap.size) (insO 12 D S O imm)) := Own.call (by (repeat (first | with_reducible refine Own.drew ?_ | (with_reducible refine Own.last ?_ ?_; (focus (simp; done)); (focus omega)) | with_reducible refine Own.alloc ?_ _ | with_reducible refine Own.old ?_ u0 _ _ | with_reducible refine Own.other ?_ (by omega) _ _))) hB1; obtain ⟨Ia1, Ib1, Ic1, Id1, Ie1⟩ := HI1.out.ins; have Il1 := HI1.out.lt; have HP1 : Hid (Own w w1 (w.heap.size + 1) (stopB 0 0)) := Own.call (by (repeat (first | with_reducible refine Own.drew ?_ | (with_reducible refine Own.last ?_ ?_; (focus (simp; done)); (focus omega)) | with_reducible refine Own.alloc ?_ _ | with_reducible refine Own.old ?_ u0 _ _ | with_reducible refine Own.other ?_ (by omega) _ _))) hB1; obtain ⟨Pa1, Pb1, Pc1, Pd1⟩ := HP1.out.stop; have Pl1 := HP1.out.lt; have HQ1 : Hid (Own w w1 (w.heap.size + 1 + 1) (stopB 0 0)) := Own.call (by (repeat (first | with_reducible refine Own.drew ?_ | (with_reducible refine Own.last ?_ ?_; (focus (simp; done)); (focus omega)) | with_reducible refine Own.alloc ?_ _ | with_reducible refine Own.old ?_ u0 _ _ | with_reducible refine Own.other ?_ (by omega) _ _))) hB1; obtain ⟨Qa1, Qb1, Qc1, Qd1⟩ := HQ1.out.stop; have Ql1 := HQ1.out.lt; clear hB1)
  all_goals go_wp2
  all_goals go_region
  all_goals go_wp2
  all_goals exact bodyPost_ret (v := stop0) (by simp [results, Try.results130, go_sem, u0, u1, u2, u3, u4, Pa1, Pb1, Pc1, Pd1, Qa1, Qb1, Qc1, Qd1, l1]) rfl ⟨rfl, by
    unfold w32
    have hB := HW1.out
    (repeat (first | with_reducible exact hB | with_reducible refine TuW.drew ?_ | with_reducible refine TuW.setPC ?_ _ (Int.emod_nonneg _ (by decide)) | with_reducible refine TuW.new ?_ (by omega) _ _ | with_reducible refine TuW.alloc ?_ _))⟩
set_option maxHeartbeats 1000000 in
theorem jump12f (U X : Nat) (m : MS) (t : GS) (D S : Nat) (O : Int) (imm : Nat) (w : World) (H : TuW w w U X m t) (ht : t.Ok) (hi : imm < 4294967296) (hO : O ≤ 9223372036854775807) (hb : Fl.holdsF O t.f = false) :
    Calls Try.prog 130 #[.pointer (some ⟨U, 0, none⟩), insA 12 D S O imm] w fun e w' => e = .returned stop0 ∧ TuW w w' U X m t := by
  have HH : Hid _ := H
  have HT : Hid _ := ht
  have u0 := H.hU
  have u1 : U < w.heap.size + 1 := by omega
  have u2 : U < w.heap.size + 1 + 1 := by omega
  have u3 : U < w.heap.size + 1 + 1 + 1 := by omega
  have u4 : U < w.heap.size + 1 + 1 + 1 + 1 := by omega
  have c9 := tu_pc H.bU
  have f9 := tu_fr H.bU 9
  have cF := tu_f H.bU
  have fF := tu_fr H.bU 10
  have hp := ht.p
  have hf := ht.f
  have HB : Hid _ := hb
  clear hb
  clear H ht
  go_enter Try.func130, Try.ntmps130
  go_wp2
  go_region_with (go_at_call 33; refine (pholds_me O t.f false _ HB.out hf hO).mono ?_; rintro e w1 ⟨rfl, hB1⟩; have HW1 : Hid (TuW w w1 U X m t) := TuW.call (by have hB := HH.out; (repeat (first | with_reducible exact hB | with_reducible refine TuW.drew ?_ | with_reducible refine TuW.new ?_ (by omega) _ _ | with_reducible refine TuW.alloc ?_ _))) hB1; have c91 := tu_pc HW1.out.bU; have f91 := tu_fr HW1.out.bU 9; have l1 := HW1.out.lu; have HI1 : Hid (Own w w1 (w.heap.size) (insO 12 D S O imm)) := Own.call (by (repeat (first | with_reducible refine Own.drew ?_ | (with_reducible refine Own.last ?_ ?_; (focus (simp; done)); (focus omega)) | with_reducible refine Own.alloc ?_ _ | with_reducible refine Own.old ?_ u0 _ _ | with_reducible refine Own.other ?_ (by omega) _ _))) hB1; obtain ⟨Ia1, Ib1, Ic1, Id1, Ie1⟩ := HI1.out.ins; have Il1 := HI1.out.lt; have HP1 : Hid (Own w w1 (w.heap.size + 1) (stopB 0 0)) := Own.call (by (repeat (first | with_reducible refine Own.drew ?_ | (with_reducible refine Own.last ?_ ?_; (focus (simp; done)); (focus omega)) | with_reducible refine Own.alloc ?_ _ | with_reducible refine Own.old ?_ u0 _ _ | with_reducible refine Own.other ?_ (by omega) _ _))) hB1; obtain ⟨Pa1, Pb1, Pc1, Pd1⟩ := HP1.out.stop; have Pl1 := HP1.out.lt; have HQ1 : Hid (Own w w1 (w.heap.size + 1 + 1) (stopB 0 0)) := Own.call (by (repeat (first | with_reducible refine Own.drew ?_ | (with_reducible refine Own.last ?_ ?_; (focus (simp; done)); (focus omega)) | with_reducible refine Own.alloc ?_ _ | with_reducible refine Own.old ?_ u0 _ _ | with_reducible refine Own.other ?_ (by omega) _ _))) hB1; obtain ⟨Qa1, Qb1, Qc1, Qd1⟩ := HQ1.out.stop; have Ql1 := HQ1.out.lt; clear hB1)
  all_goals go_wp2
  all_goals exact bodyPost_ret (v := stop0) (by simp [results, Try.results130, go_sem, u0, u1, u2, u3, u4, Pa1, Pb1, Pc1, Pd1, Qa1, Qb1, Qc1, Qd1, l1]) rfl ⟨rfl, by
    have hB := HW1.out
    (repeat (first | with_reducible exact hB | with_reducible refine TuW.drew ?_ | with_reducible refine TuW.setPC ?_ _ (Int.emod_nonneg _ (by decide)) | with_reducible refine TuW.new ?_ (by omega) _ _ | with_reducible refine TuW.alloc ?_ _))⟩
set_option maxHeartbeats 1000000 in
theorem jump13t (U X : Nat) (m : MS) (t : GS) (D S : Nat) (O : Int) (imm : Nat) (w : World) (H : TuW w w U X m t) (ht : t.Ok) (hi : imm < 4294967296) (hO : O ≤ 9223372036854775807) (hb : Fl.holdsF O t.f = true) :
    Calls Try.prog 130 #[.pointer (some ⟨U, 0, none⟩), insA 13 D S O imm] w fun e w' => e = .returned stop0 ∧ TuW w w' U X m (t.setPC (w32 ((t.pc : Int) + imm))) := by
  have HH : Hid _ := H
  have HT : Hid _ := ht
  have u0 := H.hU
  have u1 : U < w.heap.size + 1 := by omega
  have u2 : U < w.heap.size + 1 + 1 := by omega
  have u3 : U < w.heap.size + 1 + 1 + 1 := by omega
  have u4 : U < w.heap.size + 1 + 1 + 1 + 1 := by omega
  have c9 := tu_pc H.bU
  have f9 := tu_fr H.bU 9
  have cF := tu_f H.bU
  have fF := tu_fr H.bU 10
  have hp := ht.p
  have hf := ht.f
  have HB : Hid _ := hb
  clear hb
  clear H ht
  go_enter Try.func130, Try.ntmps130
  go_wp2
  go_region_with (go_at_call 33; refine (pholds_me O t.f true _ HB.out hf hO).mono ?_; rintro e w1 ⟨rfl, hB1⟩; have HW1 : Hid (TuW w w1 U X m t) := TuW.call (by have hB := HH.out; (repeat (first | with_reducible exact hB | with_reducible refine TuW.drew ?_ | with_reducible refine TuW.new ?_ (by omega) _ _ | with_reducible refine TuW.alloc ?_ _))) hB1; have c91 := tu_pc HW1.out.bU; have f91 := tu_fr HW1.out.bU 9; have l1 := HW1.out.lu; have HI1 : Hid (Own w w1 (w.heap.size) (insO 13 D S O imm)) := Own.call (by (repeat (first | with_reducible refine Own.drew ?_ | (with_reducible refine Own.last ?_ ?_; (focus (simp; done)); (focus omega)) | with_reducible refine Own.alloc ?_ _ | with_reducible refine Own.old ?_ u0 _ _ | with_reducible refine Own.other ?_ (by omega) _ _))) hB1; obtain ⟨Ia1, Ib1, Ic1, Id1, Ie1⟩ := HI1.out.ins; have Il1 := HI1.out.lt; have HP1 : Hid (Own w w1 (w.heap.size + 1) (stopB 0 0)) := Own.call (by (repeat (first | with_reducible refine Own.drew ?_ | (with_reducible refine Own.last ?_ ?_; (focus (simp; done)); (focus omega)) | with_reducible refine Own.alloc ?_ _ | with_reducible refine Own.old ?_ u0 _ _ | with_reducible refine Own.other ?_ (by omega) _ _))) hB1; obtain ⟨Pa1, Pb1, Pc1, Pd1⟩ := HP1.out.stop; have Pl1 := HP1.out.lt; have HQ1 : Hid (Own w w1 (w.heap.size + 1 + 1) (stopB 0 0)) := Own.call (by (repeat (first | with_reducible refine Own.drew ?_ | (with_reducible refine Own.last ?_ ?_; (focus (simp; done)); (focus omega)) | with_reducible refine Own.alloc ?_ _ | with_reducible refine Own.old ?_ u0 _ _ | with_reducible refine Own.other ?_ (by omega) _ _))) hB1; obtain ⟨Qa1, Qb1, Qc1, Qd1⟩ := HQ1.out.stop; have Ql1 := HQ1.out.lt; clear hB1)
  all_goals go_wp2
  all_goals go_region
  all_goals go_wp2
  all_goals exact bodyPost_ret (v := stop0) (by simp [results, Try.results130, go_sem, u0, u1, u2, u3, u4, Pa1, Pb1, Pc1, Pd1, Qa1, Qb1, Qc1, Qd1, l1]) rfl ⟨rfl, by
    unfold w32
    have hB := HW1.out
    (repeat (first | with_reducible exact hB | with_reducible refine TuW.drew ?_ | with_reducible refine TuW.setPC ?_ _ (Int.emod_nonneg _ (by decide)) | with_reducible refine TuW.new ?_ (by omega) _ _ | with_reducible refine TuW.alloc ?_ _))⟩
set_option maxHeartbeats 1000000 in
theorem jump13f (U X : Nat) (m : MS) (t : GS) (D S : Nat) (O : Int) (imm : Nat) (w : World) (H : TuW w w U X m t) (ht : t.Ok) (hi : imm < 4294967296) (hO : O ≤ 9223372036854775807) (hb : Fl.holdsF O t.f = false) :
    Calls Try.prog 130 #[.pointer (some ⟨U, 0, none⟩), insA 13 D S O imm] w fun e w' => e = .returned stop0 ∧ TuW w w' U X m t := by
  have HH : Hid _ := H
  have HT : Hid _ := ht
  have u0 := H.hU
  have u1 : U < w.heap.size + 1 := by omega
  have u2 : U < w.heap.size + 1 + 1 := by omega
  have u3 : U < w.heap.size + 1 + 1 + 1 := by omega
  have u4 : U < w.heap.size + 1 + 1 + 1 + 1 := by omega
  have c9 := tu_pc H.bU
  have f9 := tu_fr H.bU 9
  have cF := tu_f H.bU
  have fF := tu_fr H.bU 10
  have hp := ht.p
  have hf := ht.f
  have HB : Hid _ := hb
  clear hb
  clear H ht
  go_enter Try.func130, Try.ntmps130
  go_wp2
  go_region_with (go_at_call 33; refine (pholds_me O t.f false _ HB.out hf hO).mono ?_; rintro e w1 ⟨rfl, hB1⟩; have HW1 : Hid (TuW w w1 U X m t) := TuW.call (by have hB := HH.out; (repeat (first | with_reducible exact hB | with_reducible refine TuW.drew ?_ | with_reducible refine TuW.new ?_ (by omega) _ _ | with_reducible refine TuW.alloc ?_ _))) hB1; have c91 := tu_pc HW1.out.bU; have f91 := tu_fr HW1.out.bU 9; have l1 := HW1.out.lu; have HI1 : Hid (Own w w1 (w.heap.size) (insO 13 D S O imm)) := Own.call (by (repeat (first | with_reducible refine Own.drew ?_ | (with_reducible refine Own.last ?_ ?_; (focus (simp; done)); (focus omega)) | with_reducible refine Own.alloc ?_ _ | with_reducible refine Own.old ?_ u0 _ _ | with_reducible refine Own.other ?_ (by omega) _ _))) hB1; obtain ⟨Ia1, Ib1, Ic1, Id1, Ie1⟩ := HI1.out.ins; have Il1 := HI1.out.lt; have HP1 : Hid (Own w w1 (w.heap.size + 1) (stopB 0 0)) := Own.call (by (repeat (first | with_reducible refine Own.drew ?_ | (with_reducible refine Own.last ?_ ?_; (focus (simp; done)); (focus omega)) | with_reducible refine Own.alloc ?_ _ | with_reducible refine Own.old ?_ u0 _ _ | with_reducible refine Own.other ?_ (by omega) _ _))) hB1; obtain ⟨Pa1, Pb1, Pc1, Pd1⟩ := HP1.out.stop; have Pl1 := HP1.out.lt; have HQ1 : Hid (Own w w1 (w.heap.size + 1 + 1) (stopB 0 0)) := Own.call (by (repeat (first | with_reducible refine Own.drew ?_ | (with_reducible refine Own.last ?_ ?_; (focus (simp; done)); (focus omega)) | with_reducible refine Own.alloc ?_ _ | with_reducible refine Own.old ?_ u0 _ _ | with_reducible refine Own.other ?_ (by omega) _ _))) hB1; obtain ⟨Qa1, Qb1, Qc1, Qd1⟩ := HQ1.out.stop; have Ql1 := HQ1.out.lt; clear hB1)
  all_goals go_wp2
  all_goals exact bodyPost_ret (v := stop0) (by simp [results, Try.results130, go_sem, u0, u1, u2, u3, u4, Pa1, Pb1, Pc1, Pd1, Qa1, Qb1, Qc1, Qd1, l1]) rfl ⟨rfl, by
    have hB := HW1.out
    (repeat (first | with_reducible exact hB | with_reducible refine TuW.drew ?_ | with_reducible refine TuW.setPC ?_ _ (Int.emod_nonneg _ (by decide)) | with_reducible refine TuW.new ?_ (by omega) _ _ | with_reducible refine TuW.alloc ?_ _))⟩
set_option maxHeartbeats 1000000 in
theorem jump9 (U X : Nat) (m : MS) (t : GS) (D S : Nat) (O : Int) (imm : Nat) (w : World) (H : TuW w w U X m t) (ht : t.Ok) (hi : imm < 4294967296) (hS : S < 8) :
    Calls Try.prog 130 #[.pointer (some ⟨U, 0, none⟩), insA 9 D S O imm] w fun e w' => e = .returned stop0 ∧ TuW w w' U X m (t.setPC (t.R S)) := by
  have HH : Hid _ := H
  have HT : Hid _ := ht
  have u0 := H.hU
  have u1 : U < w.heap.size + 1 := by omega
  have u2 : U < w.heap.size + 1 + 1 := by omega
  have u3 : U < w.heap.size + 1 + 1 + 1 := by omega
  have u4 : U < w.heap.size + 1 + 1 + 1 + 1 := by omega
  have rS := tu_reg H.bU S hS
  have c9 := tu_pc H.bU
  have f9 := tu_fr H.bU 9
  have hSi : (S : Int) < 8 := by omega
  have hRS := ht.r S
  have hp := ht.p
  have hf := ht.f
  clear H ht
  go_enter Try.func130, Try.ntmps130
  go_wp2
  go_region
  all_goals go_wp2
  all_goals exact bodyPost_ret (v := stop0) (by simp [results, Try.results130, go_sem, u0, u1, u2, u3, u4]) rfl ⟨rfl, by
    have hB := HH.out
    (repeat (first | with_reducible exact hB | with_reducible refine TuW.drew ?_ | with_reducible refine TuW.setPCn ?_ _ | with_reducible refine TuW.new ?_ (by omega) _ _ | with_reducible refine TuW.alloc ?_ _))⟩
end Go.Proofs.Ytkgbjpdoigdjnaa
