import Derived.Test.YtjmffijdojeghaaCX
import Derived.Deep.AppendLies
import Derived.Laws.Rows
namespace Go.Proofs.Ytjmffijdojeghaa
open Go.RowKit
set_option maxRecDepth 100000
set_option linter.unusedVariables false
set_option linter.unusedSimpArgs false
def opCells (o : OpR) : List Value := [.int .i64 o.kind, .int .i64 o.w, .int .i64 o.a, .int .i64 o.b, .int .i64 o.c, .int .u32 o.k, .int .i64 o.n]
def opsV : List OpR → List Value
  | [] => []
  | o :: l => opCells o ++ opsV l
theorem opsV_len : ∀ l : List OpR, (opsV l).length = l.length * 7
  | [] => rfl
  | o :: l => by simp only [opsV, List.length_append, opsV_len l, opCells, List.length_cons, List.length_nil]; omega
theorem opsV_app : ∀ (l : List OpR) (o : OpR), opsV (l ++ [o]) = opsV l ++ opCells o
  | [], o => by simp [opsV]
  | x :: l, o => by simp only [List.cons_append, opsV, opsV_app l o, List.append_assoc]
structure LB (w : World) (base B pc : Nat) (count bytes : Int) (sv : Value) (l : List OpR) : Prop where
  b : w.heap[B]? = some (.cells #[.int .u32 pc, .int .i64 count, .int .i64 bytes, sv] 82)
  o : w.ownsRow base 163 7 sv l.length (opsV l)
structure Kp (B : Nat) (w w' : World) : Prop where
  os : w'.os = w.os
  tape : w'.tape = w.tape
  output : w'.output = w.output
  size : w.heap.size ≤ w'.heap.size
  keep : ∀ k A T, w.heap[k]? = some (.cells A T) → k ≠ B → T ≠ 163 → w'.heap[k]? = some (.cells A T)
theorem Kp.refl (B : Nat) (w : World) : Kp B w w := ⟨rfl, rfl, rfl, Nat.le_refl _, fun _ _ _ h _ _ => h⟩
theorem Kp.trans {B : Nat} {a b c : World} (h : Kp B a b) (k : Kp B b c) : Kp B a c :=
  ⟨k.os.trans h.os, k.tape.trans h.tape, k.output.trans h.output, Nat.le_trans h.size k.size, fun i A T h1 h2 h3 => k.keep i A T (h.keep i A T h1 h2 h3) h2 h3⟩
theorem Kp.of_below {B : Nat} {a b : World} (h : Below a.heap.size a b) : Kp B a b :=
  ⟨h.os, h.tape, h.output, h.size, fun i A T h1 _ _ => (h.block i (row_lt h1)).trans h1⟩
theorem Kp.set {B : Nat} {a b : World} (h : Kp B a b) (o : Nat) (v : Value) : Kp B a (b.setCell ⟨B, o, none⟩ v) :=
  h.trans ⟨rfl, rfl, rfl, by simp, fun i A T h1 h2 _ => (Below.heap_setCell b ⟨B, o, none⟩ v i h2).trans h1⟩
theorem Kp.alloc {B : Nat} {a b : World} (h : Kp B a b) (o : Obj) : Kp B a (b.alloc o) := h.trans (Kp.of_below ((Below.refl _ _).alloc (Nat.le_refl _) _))
theorem Kp.drew {B : Nat} {a b : World} (h : Kp B a b) : Kp B a b.drew := h.trans (Kp.of_below (Below.refl _ _).drew)
theorem owns_block {w : World} {base n : Nat} {v : Value} {xs : List Value} {g : Nat} (h : w.ownsRow base 163 7 v n xs) (hg : v.ownBlock = some g) : base ≤ g ∧ ∃ cur, w.heap[g]? = some (.cells cur 163) := by
  rcases h.2 with ⟨hv, h0⟩ | ⟨g', c', cur, hv, hb, hh, h1, h2, h3, h4⟩
  · rw [hv] at hg; cases hg
  · rw [hv] at hg; cases hg; exact ⟨hb, cur, hh⟩
theorem owns_keep {w w' : World} {base n : Nat} {v : Value} {xs : List Value} (h : w.ownsRow base 163 7 v n xs) (hk : ∀ g, v.ownBlock = some g → w'.heap[g]? = w.heap[g]?) : w'.ownsRow base 163 7 v n xs := by
  refine ⟨h.1, ?_⟩
  rcases h.2 with ⟨hv, h0⟩ | ⟨g', c', cur, hv, hb, hh, h1, h2, h3, h4⟩
  · exact Or.inl ⟨hv, h0⟩
  · exact Or.inr ⟨g', c', cur, hv, hb, (hk g' (by rw [hv]; rfl)).trans hh, h1, h2, h3, h4⟩
theorem owns_below {w w' : World} {base n : Nat} {v : Value} {xs : List Value} (h : w.ownsRow base 163 7 v n xs) (b : Below w.heap.size w w') : w'.ownsRow base 163 7 v n xs :=
  owns_keep h fun g hg => by obtain ⟨-, cur, hh⟩ := owns_block h hg; exact b.block g (row_lt hh)
theorem LB.ne {w : World} {base B pc : Nat} {count bytes : Int} {sv : Value} {l : List OpR} (h : LB w base B pc count bytes sv l) {g : Nat} (hg : sv.ownBlock = some g) : g ≠ B := fun e => by
  obtain ⟨-, cur, hh⟩ := owns_block h.o hg
  rw [e, h.b] at hh
  cases hh
theorem LB.below {w w' : World} {base B pc : Nat} {count bytes : Int} {sv : Value} {l : List OpR} (h : LB w base B pc count bytes sv l) (b : Below w.heap.size w w') : LB w' base B pc count bytes sv l :=
  ⟨(b.block _ (row_lt h.b)).trans h.b, owns_below h.o b⟩
theorem kp_grown {B : Nat} {w w' : World} {base n : Nat} {v : Value} {xs : List Value} (ho : w.ownsRow base 163 7 v n xs) (hg : w.grownBy w' v.ownBlock) : Kp B w w' :=
  ⟨hg.os, hg.tape, hg.output, hg.size, fun i A T h1 h2 h3 => (hg.block i (row_lt h1) (fun e => by obtain ⟨-, cur, hh⟩ := owns_block ho e.symm; rw [hh] at h1; cases h1; exact h3 rfl)).trans h1⟩
set_option maxHeartbeats 2000000 in
theorem lay_any (base B pc : Nat) (count bytes : Int) (sv : Value) (l : List OpR) (o : OpR) (w : World) (hB : LB w base B pc count bytes sv l) (hlen : l.length < 100000) (hb : base ≤ B) (hw : base ≤ w.heap.size) :
    Calls Try.prog 109 #[.agg #[.int .i64 o.kind, .int .i64 o.w, .int .i64 o.a, .int .i64 o.b, .int .i64 o.c, .int .u32 o.k, .int .i64 o.n], .pointer (some ⟨B, 0, none⟩)] w fun e w' => e = .returned (.int .i64 l.length) ∧ (∃ sv', LB w' base B pc count bytes sv' (l ++ [o])) ∧ Kp B w w' ∧ Below base w w' := by
  have c3 : w.cell? ⟨B, 3, none⟩ = some sv := row_cell hB.b 3
  have lB := row_lt hB.b
  have lB1 := Nat.lt_succ_of_lt lB
  obtain ⟨i0, hi, hz0, hz1, hz2⟩ := info_parts info160
  have HB : Hid _ := hB
  have b2 := wk_bel w (.cells #[.int .i64 o.kind, .int .i64 o.w, .int .i64 o.a, .int .i64 o.b, .int .i64 o.c, .int .u32 o.k, .int .i64 o.n] 163) (.cells #[.int .i64 o.kind, .int .i64 o.w, .int .i64 o.a, .int .i64 o.b, .int .i64 o.c, .int .u32 o.k, .int .i64 o.n] 163)
  have HB2 : Hid _ := hB.below b2
  have HW2 : Hid (Below w.heap.size w ((w.alloc (.cells #[.int .i64 o.kind, .int .i64 o.w, .int .i64 o.a, .int .i64 o.b, .int .i64 o.c, .int .u32 o.k, .int .i64 o.n] 163)).alloc (.cells #[.int .i64 o.kind, .int .i64 o.w, .int .i64 o.a, .int .i64 o.b, .int .i64 o.c, .int .u32 o.k, .int .i64 o.n] 163))) := b2
  have HNW : Hid (∀ j u, (opCells o)[j]? = some u → ((w.alloc (.cells #[.int .i64 o.kind, .int .i64 o.w, .int .i64 o.a, .int .i64 o.b, .int .i64 o.c, .int .u32 o.k, .int .i64 o.n] 163)).alloc (.cells #[.int .i64 o.kind, .int .i64 o.w, .int .i64 o.a, .int .i64 o.b, .int .i64 o.c, .int .u32 o.k, .int .i64 o.n] 163)).cell? ((⟨w.heap.size + 1, 0, none⟩ : Addr).add j) = some u) := show ∀ j u, _ from fun j u hu => by
    rw [Addr.add_mid, Nat.zero_add]
    have hl := heap_alloc_last (w.alloc (.cells #[.int .i64 o.kind, .int .i64 o.w, .int .i64 o.a, .int .i64 o.b, .int .i64 o.c, .int .u32 o.k, .int .i64 o.n] 163)) (.cells #[.int .i64 o.kind, .int .i64 o.w, .int .i64 o.a, .int .i64 o.b, .int .i64 o.c, .int .u32 o.k, .int .i64 o.n] 163)
    rw [show (w.alloc (.cells #[.int .i64 o.kind, .int .i64 o.w, .int .i64 o.a, .int .i64 o.b, .int .i64 o.c, .int .u32 o.k, .int .i64 o.n] 163)).heap.size = w.heap.size + 1 by simp] at hl
    rw [row_cell hl]
    simpa [opCells] using hu
  have HONE : Hid (∀ u ∈ opCells o, u.oneCell' = true) := show ∀ u ∈ opCells o, _ from fun u hu => by
    simp only [opCells, List.mem_cons, List.not_mem_nil, or_false] at hu
    rcases hu with rfl | rfl | rfl | rfl | rfl | rfl | rfl <;> rfl
  have H63 : Hid (l.length + 1 ≤ maxLen) := show l.length + 1 ≤ maxLen by unfold maxLen; omega
  have HBY : Hid ((l.length + 1) * 56 ≤ 140737488355328) := show (l.length + 1) * 56 ≤ 140737488355328 by omega
  have HBS : Hid (base ≤ ((w.alloc (.cells #[.int .i64 o.kind, .int .i64 o.w, .int .i64 o.a, .int .i64 o.b, .int .i64 o.c, .int .u32 o.k, .int .i64 o.n] 163)).alloc (.cells #[.int .i64 o.kind, .int .i64 o.w, .int .i64 o.a, .int .i64 o.b, .int .i64 o.c, .int .u32 o.k, .int .i64 o.n] 163)).heap.size) := show base ≤ _ by simp; omega
  have HLB : Hid (base ≤ B) := hb
  have HLW : Hid (base ≤ w.heap.size) := hw
  have ll : (l.length : Int) < 100000 := by omega
  have l0 : (0 : Int) ≤ (l.length : Int) := by omega
  clear hB hb hw b2 hlen
  go_enter Try.func109, Try.ntmps109
  go_wp2_with (at_builtin; refine wpList_append_lies _ rfl _ _ _ rfl base 163 i0 _ 7 56 Try.underlying80 hi hz0 hz1 hz2 rfl (by decide) sv l.length (opsV l) rfl HB2.out.o ⟨w.heap.size + 1, 0, none⟩ 1 1 (opCells o) rfl rfl HNW.out HONE.out (by decide) H63.out HBY.out HBS.out (w.heap.size + 1 + 1) (by simp) ?_; intro g cap2 w2 hown hgr hgg hlt; have HOW : Hid _ := hown; have HGR : Hid _ := hgr; have HGG : Hid _ := hgg; have HBB : Hid (w2.heap[B]? = some (.cells #[.int .u32 pc, .int .i64 count, .int .i64 bytes, sv] 82)) := (hgr.block B (by simp; omega) (fun e => HB2.out.ne e.symm rfl)).trans HB2.out.b; have d3 : w2.cell? ⟨B, 3, none⟩ = some sv := row_cell HBB.out 3; have df := row_fr HBB.out; have dl := row_lt HBB.out; clear hown hgr hgg)
  have hgB : g ≠ B := fun e => by
    rcases HGG.out with h | h
    · exact HB2.out.ne h e
    · omega
  exact bodyPost_ret (v := .int .i64 l.length) (by simp [results, Try.results109, go_sem]) rfl ⟨rfl, ⟨_, ⟨(heap_setCell_same w2 B 3 _ _ _ HBB.out).trans rfl, by
    have h1 := HOW.out
    have e1 : (l ++ [o]).length = l.length + 1 := by simp
    rw [e1, opsV_app]
    exact owns_keep h1 (fun g' hg' => by cases hg'; exact Below.heap_setCell w2 ⟨B, 3, none⟩ _ _ hgB)⟩⟩,
    (((Kp.of_below HW2.out).trans (kp_grown HB2.out.o HGR.out)).set 3 _),
    (Below.grown (HW2.out.mono HLW.out) HGR.out HBS.out (fun k hk => (owns_block HB2.out.o hk).1)).setCell HLB.out _⟩
end Go.Proofs.Ytjmffijdojeghaa
namespace Go.Proofs.Ytjmffijdojeghaa
open Go.RowKit
set_option maxRecDepth 100000
set_option linter.unusedVariables false
set_option linter.unusedSimpArgs false
structure XI where
  op : Int
  D : Int
  S : Int
  O : Int
  im : Nat
  pc : Nat
  next : Nat
  done : Int
structure BK where
  base : Nat
  B : Nat
  L : Nat
  pc : Nat
  count : Int
  bytes : Int
structure LBx (w : World) (k : BK) (l : List OpR) : Prop where
  ex : ∃ sv, LB w k.base k.B k.pc k.count k.bytes sv l
structure TU (w : World) (k : BK) (U : Nat) (x : XI) (l : List OpR) : Prop where
  lb : LBx w k l
  bL : w.heap[k.L]? = some (.cells #[.func (Fn.func 109) #[] #[.pointer (some ⟨k.B, 0, none⟩)]] 178)
  bU : w.heap[U]? = some (.cells #[.func (Fn.func 109) #[] #[.pointer (some ⟨k.B, 0, none⟩)], .func (Fn.func 110) #[] #[.pointer (some ⟨k.L, 0, none⟩)], .int .i64 x.op, .int .i64 x.D, .int .i64 x.S, .int .i64 x.O, .int .u32 x.im, .int .u32 x.pc, .int .u32 x.next, .int .i64 x.done] 180)
  hb : k.base ≤ k.B
  hw : k.base ≤ w.heap.size
  nL : k.L ≠ k.B
  nU : U ≠ k.B
theorem TU.next {w w' : World} {k : BK} {U : Nat} {x : XI} {l l' : List OpR} (h : TU w k U x l) (h1 : LBx w' k l') (h2 : Kp k.B w w') : TU w' k U x l' :=
  ⟨h1, h2.keep _ _ _ h.bL h.nL (by decide), h2.keep _ _ _ h.bU h.nU (by decide), h.hb, Nat.le_trans h.hw h2.size, h.nL, h.nU⟩
theorem LBx.below {w w' : World} {k : BK} {l : List OpR} (h : LBx w k l) (b : Below w.heap.size w w') : LBx w' k l := by
  obtain ⟨sv, hs⟩ := h.ex
  exact ⟨sv, hs.below b⟩
theorem TU.below {w w' : World} {k : BK} {U : Nat} {x : XI} {l : List OpR} (h : TU w k U x l) (b : Below w.heap.size w w') : TU w' k U x l := h.next (h.lb.below b) (Kp.of_below b)
/-- What laying leaves. -/
structure Em (w w' : World) (k : BK) (U : Nat) (x : XI) (l : List OpR) : Prop where
  t : TU w' k U x l
  kp : Kp k.B w w'
  bel : Below k.base w w'
theorem Em.trans {a b c : World} {k : BK} {U : Nat} {x : XI} {l l' : List OpR} (h : Em a b k U x l) (g : Em b c k U x l') : Em a c k U x l' := ⟨g.t, h.kp.trans g.kp, h.bel.trans g.bel⟩
theorem Em.refl {w : World} {k : BK} {U : Nat} {x : XI} {l : List OpR} (h : TU w k U x l) : Em w w k U x l := ⟨h, Kp.refl _ _, Below.refl _ _⟩
theorem Em.below {a b c : World} {k : BK} {U : Nat} {x : XI} {l : List OpR} (h : Em a b k U x l) (g : Below b.heap.size b c) : Em a c k U x l := h.trans ⟨h.t.below g, Kp.of_below g, g.mono h.t.hw⟩
theorem Em.drew {a b : World} {k : BK} {U : Nat} {x : XI} {l : List OpR} (h : Em a b k U x l) : Em a b.drew k U x l := h.below (Below.refl _ _).drew
theorem Em.alloc {a b : World} {k : BK} {U : Nat} {x : XI} {l : List OpR} (h : Em a b k U x l) (o : Obj) : Em a (b.alloc o) k U x l := h.below ((Below.refl _ _).alloc (Nat.le_refl _) _)
theorem lay_tu (k : BK) (U : Nat) (x : XI) (l : List OpR) (o : OpR) (w : World) (h : TU w k U x l) (hl : l.length < 100000) :
    Calls Try.prog 109 #[.agg #[.int .i64 o.kind, .int .i64 o.w, .int .i64 o.a, .int .i64 o.b, .int .i64 o.c, .int .u32 o.k, .int .i64 o.n], .pointer (some ⟨k.B, 0, none⟩)] w fun e w' => e = .returned (.int .i64 l.length) ∧ Em w w' k U x (l ++ [o]) := by
  obtain ⟨sv, hs⟩ := h.lb.ex
  refine (lay_any k.base k.B k.pc k.count k.bytes sv l o w hs hl h.hb h.hw).mono ?_
  rintro e w' ⟨rfl, h1, h2, h3⟩
  exact ⟨rfl, h.next ⟨h1⟩ h2, h2, h3⟩
set_option maxHeartbeats 1000000 in
theorem read_tu (k : BK) (U : Nat) (x : XI) (l : List OpR) (slot : Int) (w : World) (h : TU w k U x l) (hl : l.length < 100000) :
    Calls Try.prog 110 #[.int .i64 slot, .pointer (some ⟨k.L, 0, none⟩)] w fun e w' => e = .returned (.int .i64 l.length) ∧ Em w w' k U x (l ++ [⟨2, slot, 0, 0, 0, 0, 0⟩]) := by
  have c0 : w.cell? ⟨k.L, 0, none⟩ = some (.func (Fn.func 109) #[] #[.pointer (some ⟨k.B, 0, none⟩)]) := row_cell h.bL 0
  have HT : Hid _ := h
  have HL : Hid _ := hl
  clear h hl
  go_enter Try.func110, Try.ntmps110
  go_wp2_with (go_at_call 109; refine (lay_tu k U x l ⟨2, slot, 0, 0, 0, 0, 0⟩ _ HT.out HL.out).mono ?_; rintro e w1 ⟨rfl, h1⟩)
  go_ret
  exact ⟨rfl, h1⟩
theorem wrap_done (d : Int) (h0 : 0 ≤ d) (h1 : d ≤ 64) : IntKind.i64.wrap (d + 1) = d + 1 := IntWalk.i64_in _ (by omega)
theorem TU.drw {w : World} {k : BK} {U : Nat} {x : XI} {l : List OpR} (h : TU w k U x l) : TU w.drew k U x l := h.below (Below.refl _ _).drew
theorem Em.first {w w' : World} {k : BK} {U : Nat} {x : XI} {l l' : List OpR} (h : TU w k U x l) (g : Em w.drew w' k U x l') : Em w w' k U x l' := (Em.refl h).drew.trans g
set_option maxHeartbeats 1000000 in
theorem number_tu (k : BK) (U : Nat) (x : XI) (l : List OpR) (n : Nat) (w : World) (h : TU w k U x l) (hl : l.length < 100000) :
    Calls Try.prog 150 #[.pointer (some ⟨U, 0, none⟩), .int .u32 n] w fun e w' => e = .returned (.int .i64 l.length) ∧ Em w w' k U x (l ++ [⟨1, 0, 0, 0, 0, n, 0⟩]) := by
  have u0 : w.cell? ⟨U, 0, none⟩ = some (.func (Fn.func 109) #[] #[.pointer (some ⟨k.B, 0, none⟩)]) := row_cell h.bU 0
  have u1 : w.cell? ⟨U, 1, none⟩ = some (.func (Fn.func 110) #[] #[.pointer (some ⟨k.L, 0, none⟩)]) := row_cell h.bU 1
  have u2 : w.cell? ⟨U, 2, none⟩ = some (.int .i64 x.op) := row_cell h.bU 2
  have u3 : w.cell? ⟨U, 3, none⟩ = some (.int .i64 x.D) := row_cell h.bU 3
  have u4 : w.cell? ⟨U, 4, none⟩ = some (.int .i64 x.S) := row_cell h.bU 4
  have u5 : w.cell? ⟨U, 5, none⟩ = some (.int .i64 x.O) := row_cell h.bU 5
  have u6 : w.cell? ⟨U, 6, none⟩ = some (.int .u32 x.im) := row_cell h.bU 6
  have u7 : w.cell? ⟨U, 7, none⟩ = some (.int .u32 x.pc) := row_cell h.bU 7
  have u8 : w.cell? ⟨U, 8, none⟩ = some (.int .u32 x.next) := row_cell h.bU 8
  have u9 : w.cell? ⟨U, 9, none⟩ = some (.int .i64 x.done) := row_cell h.bU 9
  have HT : Hid _ := h
  have HL : Hid _ := hl
  clear h hl
  go_enter Try.func150, Try.ntmps150
  go_wp2_with (go_at_call 109; refine (lay_tu k U x l ⟨1, 0, 0, 0, 0, n, 0⟩ _ HT.out HL.out).mono ?_; rintro e w1 ⟨rfl, h1⟩)
  go_ret
  exact ⟨rfl, h1⟩
set_option maxHeartbeats 1000000 in
theorem put_tu (k : BK) (U : Nat) (x : XI) (l : List OpR) (slot v : Int) (w : World) (h : TU w k U x l) (hl : l.length < 100000) :
    Calls Try.prog 151 #[.pointer (some ⟨U, 0, none⟩), .int .i64 slot, .int .i64 v] w fun e w' => e = .returned (.tuple #[]) ∧ Em w w' k U x (l ++ [⟨3, slot, v, 0, 0, 0, 0⟩]) := by
  have u0 : w.cell? ⟨U, 0, none⟩ = some (.func (Fn.func 109) #[] #[.pointer (some ⟨k.B, 0, none⟩)]) := row_cell h.bU 0
  have u1 : w.cell? ⟨U, 1, none⟩ = some (.func (Fn.func 110) #[] #[.pointer (some ⟨k.L, 0, none⟩)]) := row_cell h.bU 1
  have u2 : w.cell? ⟨U, 2, none⟩ = some (.int .i64 x.op) := row_cell h.bU 2
  have u3 : w.cell? ⟨U, 3, none⟩ = some (.int .i64 x.D) := row_cell h.bU 3
  have u4 : w.cell? ⟨U, 4, none⟩ = some (.int .i64 x.S) := row_cell h.bU 4
  have u5 : w.cell? ⟨U, 5, none⟩ = some (.int .i64 x.O) := row_cell h.bU 5
  have u6 : w.cell? ⟨U, 6, none⟩ = some (.int .u32 x.im) := row_cell h.bU 6
  have u7 : w.cell? ⟨U, 7, none⟩ = some (.int .u32 x.pc) := row_cell h.bU 7
  have u8 : w.cell? ⟨U, 8, none⟩ = some (.int .u32 x.next) := row_cell h.bU 8
  have u9 : w.cell? ⟨U, 9, none⟩ = some (.int .i64 x.done) := row_cell h.bU 9
  have HT : Hid _ := h
  have HL : Hid _ := hl
  clear h hl
  go_enter Try.func151, Try.ntmps151
  go_wp2_with (go_at_call 109; refine (lay_tu k U x l ⟨3, slot, v, 0, 0, 0, 0⟩ _ HT.out HL.out).mono ?_; rintro e w1 ⟨rfl, h1⟩)
  go_end0
  exact ⟨rfl, h1⟩
set_option maxHeartbeats 1000000 in
theorem bin_tu (k : BK) (U : Nat) (x : XI) (l : List OpR) (g a b : Int) (w : World) (h : TU w k U x l) (hl : l.length < 100000) :
    Calls Try.prog 175 #[.pointer (some ⟨U, 0, none⟩), .int .i64 g, .int .i64 a, .int .i64 b] w fun e w' => e = .returned (.int .i64 l.length) ∧ Em w w' k U x (l ++ [⟨4, g, a, b, 0, 0, 0⟩]) := by
  have u0 : w.cell? ⟨U, 0, none⟩ = some (.func (Fn.func 109) #[] #[.pointer (some ⟨k.B, 0, none⟩)]) := row_cell h.bU 0
  have u1 : w.cell? ⟨U, 1, none⟩ = some (.func (Fn.func 110) #[] #[.pointer (some ⟨k.L, 0, none⟩)]) := row_cell h.bU 1
  have u2 : w.cell? ⟨U, 2, none⟩ = some (.int .i64 x.op) := row_cell h.bU 2
  have u3 : w.cell? ⟨U, 3, none⟩ = some (.int .i64 x.D) := row_cell h.bU 3
  have u4 : w.cell? ⟨U, 4, none⟩ = some (.int .i64 x.S) := row_cell h.bU 4
  have u5 : w.cell? ⟨U, 5, none⟩ = some (.int .i64 x.O) := row_cell h.bU 5
  have u6 : w.cell? ⟨U, 6, none⟩ = some (.int .u32 x.im) := row_cell h.bU 6
  have u7 : w.cell? ⟨U, 7, none⟩ = some (.int .u32 x.pc) := row_cell h.bU 7
  have u8 : w.cell? ⟨U, 8, none⟩ = some (.int .u32 x.next) := row_cell h.bU 8
  have u9 : w.cell? ⟨U, 9, none⟩ = some (.int .i64 x.done) := row_cell h.bU 9
  have HT : Hid _ := h
  have HL : Hid _ := hl
  clear h hl
  go_enter Try.func175, Try.ntmps175
  go_wp2_with (go_at_call 109; refine (lay_tu k U x l ⟨4, g, a, b, 0, 0, 0⟩ _ HT.out HL.out).mono ?_; rintro e w1 ⟨rfl, h1⟩)
  go_ret
  exact ⟨rfl, h1⟩
set_option maxHeartbeats 1000000 in
theorem un_tu (k : BK) (U : Nat) (x : XI) (l : List OpR) (g a : Int) (w : World) (h : TU w k U x l) (hl : l.length < 100000) :
    Calls Try.prog 177 #[.pointer (some ⟨U, 0, none⟩), .int .i64 g, .int .i64 a] w fun e w' => e = .returned (.int .i64 l.length) ∧ Em w w' k U x (l ++ [⟨5, g, a, 0, 0, 0, 0⟩]) := by
  have u0 : w.cell? ⟨U, 0, none⟩ = some (.func (Fn.func 109) #[] #[.pointer (some ⟨k.B, 0, none⟩)]) := row_cell h.bU 0
  have u1 : w.cell? ⟨U, 1, none⟩ = some (.func (Fn.func 110) #[] #[.pointer (some ⟨k.L, 0, none⟩)]) := row_cell h.bU 1
  have u2 : w.cell? ⟨U, 2, none⟩ = some (.int .i64 x.op) := row_cell h.bU 2
  have u3 : w.cell? ⟨U, 3, none⟩ = some (.int .i64 x.D) := row_cell h.bU 3
  have u4 : w.cell? ⟨U, 4, none⟩ = some (.int .i64 x.S) := row_cell h.bU 4
  have u5 : w.cell? ⟨U, 5, none⟩ = some (.int .i64 x.O) := row_cell h.bU 5
  have u6 : w.cell? ⟨U, 6, none⟩ = some (.int .u32 x.im) := row_cell h.bU 6
  have u7 : w.cell? ⟨U, 7, none⟩ = some (.int .u32 x.pc) := row_cell h.bU 7
  have u8 : w.cell? ⟨U, 8, none⟩ = some (.int .u32 x.next) := row_cell h.bU 8
  have u9 : w.cell? ⟨U, 9, none⟩ = some (.int .i64 x.done) := row_cell h.bU 9
  have HT : Hid _ := h
  have HL : Hid _ := hl
  clear h hl
  go_enter Try.func177, Try.ntmps177
  go_wp2_with (go_at_call 109; refine (lay_tu k U x l ⟨5, g, a, 0, 0, 0, 0⟩ _ HT.out HL.out).mono ?_; rintro e w1 ⟨rfl, h1⟩)
  go_ret
  exact ⟨rfl, h1⟩
set_option maxHeartbeats 1000000 in
theorem now_tu (k : BK) (U : Nat) (x : XI) (l : List OpR)  (w : World) (h : TU w k U x l) (hl : l.length < 100000) :
    Calls Try.prog 174 #[.pointer (some ⟨U, 0, none⟩)] w fun e w' => e = .returned (.int .i64 l.length) ∧ Em w w' k U x (l ++ [⟨17, 0, 0, 0, 0, 0, 0⟩]) := by
  have u0 : w.cell? ⟨U, 0, none⟩ = some (.func (Fn.func 109) #[] #[.pointer (some ⟨k.B, 0, none⟩)]) := row_cell h.bU 0
  have u1 : w.cell? ⟨U, 1, none⟩ = some (.func (Fn.func 110) #[] #[.pointer (some ⟨k.L, 0, none⟩)]) := row_cell h.bU 1
  have u2 : w.cell? ⟨U, 2, none⟩ = some (.int .i64 x.op) := row_cell h.bU 2
  have u3 : w.cell? ⟨U, 3, none⟩ = some (.int .i64 x.D) := row_cell h.bU 3
  have u4 : w.cell? ⟨U, 4, none⟩ = some (.int .i64 x.S) := row_cell h.bU 4
  have u5 : w.cell? ⟨U, 5, none⟩ = some (.int .i64 x.O) := row_cell h.bU 5
  have u6 : w.cell? ⟨U, 6, none⟩ = some (.int .u32 x.im) := row_cell h.bU 6
  have u7 : w.cell? ⟨U, 7, none⟩ = some (.int .u32 x.pc) := row_cell h.bU 7
  have u8 : w.cell? ⟨U, 8, none⟩ = some (.int .u32 x.next) := row_cell h.bU 8
  have u9 : w.cell? ⟨U, 9, none⟩ = some (.int .i64 x.done) := row_cell h.bU 9
  have HT : Hid _ := h
  have HL : Hid _ := hl
  clear h hl
  go_enter Try.func174, Try.ntmps174
  go_wp2_with (go_at_call 109; refine (lay_tu k U x l ⟨17, 0, 0, 0, 0, 0, 0⟩ _ HT.out HL.out).mono ?_; rintro e w1 ⟨rfl, h1⟩)
  go_ret
  exact ⟨rfl, h1⟩
set_option maxHeartbeats 1000000 in
theorem load_tu (k : BK) (U : Nat) (x : XI) (l : List OpR) (g a : Int) (w : World) (h : TU w k U x l) (hl : l.length < 100000) :
    Calls Try.prog 152 #[.pointer (some ⟨U, 0, none⟩), .int .i64 g, .int .i64 a] w fun e w' => e = .returned (.int .i64 l.length) ∧ Em w w' k U x (l ++ [⟨9, g, a, 0, 0, x.pc, x.done⟩]) := by
  have u0 : w.cell? ⟨U, 0, none⟩ = some (.func (Fn.func 109) #[] #[.pointer (some ⟨k.B, 0, none⟩)]) := row_cell h.bU 0
  have u1 : w.cell? ⟨U, 1, none⟩ = some (.func (Fn.func 110) #[] #[.pointer (some ⟨k.L, 0, none⟩)]) := row_cell h.bU 1
  have u2 : w.cell? ⟨U, 2, none⟩ = some (.int .i64 x.op) := row_cell h.bU 2
  have u3 : w.cell? ⟨U, 3, none⟩ = some (.int .i64 x.D) := row_cell h.bU 3
  have u4 : w.cell? ⟨U, 4, none⟩ = some (.int .i64 x.S) := row_cell h.bU 4
  have u5 : w.cell? ⟨U, 5, none⟩ = some (.int .i64 x.O) := row_cell h.bU 5
  have u6 : w.cell? ⟨U, 6, none⟩ = some (.int .u32 x.im) := row_cell h.bU 6
  have u7 : w.cell? ⟨U, 7, none⟩ = some (.int .u32 x.pc) := row_cell h.bU 7
  have u8 : w.cell? ⟨U, 8, none⟩ = some (.int .u32 x.next) := row_cell h.bU 8
  have u9 : w.cell? ⟨U, 9, none⟩ = some (.int .i64 x.done) := row_cell h.bU 9
  have HT : Hid _ := h
  have HL : Hid _ := hl
  clear h hl
  go_enter Try.func152, Try.ntmps152
  go_upto_region 1 with fail
  go_region_held3 (fun W' => W'.cell? ⟨U, 0, none⟩ = some (.func (Fn.func 109) #[] #[.pointer (some ⟨k.B, 0, none⟩)]) ∧ W'.cell? ⟨U, 1, none⟩ = some (.func (Fn.func 110) #[] #[.pointer (some ⟨k.L, 0, none⟩)]) ∧ W'.cell? ⟨U, 2, none⟩ = some (.int .i64 x.op) ∧ W'.cell? ⟨U, 3, none⟩ = some (.int .i64 x.D) ∧ W'.cell? ⟨U, 4, none⟩ = some (.int .i64 x.S) ∧ W'.cell? ⟨U, 5, none⟩ = some (.int .i64 x.O) ∧ W'.cell? ⟨U, 6, none⟩ = some (.int .u32 x.im) ∧ W'.cell? ⟨U, 7, none⟩ = some (.int .u32 x.pc) ∧ W'.cell? ⟨U, 8, none⟩ = some (.int .u32 x.next) ∧ W'.cell? ⟨U, 9, none⟩ = some (.int .i64 x.done)) (first | (simp [go_sem, v0, v1, v2, v3, v4, v5, v6, v7, v8, v9]; done) | (simp [go_sem, u0, u1, u2, u3, u4, u5, u6, u7, u8, u9]; done))
    (first | (go_at_call 109; refine (lay_tu k U x l ⟨9, g, a, 0, 0, x.pc, x.done⟩ _ ?_ HL.out).mono ?_; (focus (first | with_reducible exact HT.out | with_reducible exact HT.out.drw | with_reducible exact HT.out.drw.drw)); rintro e w1 ⟨rfl, h1⟩; have v0 : w1.cell? ⟨U, 0, none⟩ = some (.func (Fn.func 109) #[] #[.pointer (some ⟨k.B, 0, none⟩)]) := row_cell h1.t.bU 0; have v1 : w1.cell? ⟨U, 1, none⟩ = some (.func (Fn.func 110) #[] #[.pointer (some ⟨k.L, 0, none⟩)]) := row_cell h1.t.bU 1; have v2 : w1.cell? ⟨U, 2, none⟩ = some (.int .i64 x.op) := row_cell h1.t.bU 2; have v3 : w1.cell? ⟨U, 3, none⟩ = some (.int .i64 x.D) := row_cell h1.t.bU 3; have v4 : w1.cell? ⟨U, 4, none⟩ = some (.int .i64 x.S) := row_cell h1.t.bU 4; have v5 : w1.cell? ⟨U, 5, none⟩ = some (.int .i64 x.O) := row_cell h1.t.bU 5; have v6 : w1.cell? ⟨U, 6, none⟩ = some (.int .u32 x.im) := row_cell h1.t.bU 6; have v7 : w1.cell? ⟨U, 7, none⟩ = some (.int .u32 x.pc) := row_cell h1.t.bU 7; have v8 : w1.cell? ⟨U, 8, none⟩ = some (.int .u32 x.next) := row_cell h1.t.bU 8; have v9 : w1.cell? ⟨U, 9, none⟩ = some (.int .i64 x.done) := row_cell h1.t.bU 9))
  go_wp2
  go_ret
  exact ⟨rfl, Em.first HT.out h1⟩
set_option maxHeartbeats 1000000 in
theorem store_tu (k : BK) (U : Nat) (x : XI) (l : List OpR) (g a v : Int) (w : World) (h : TU w k U x l) (hl : l.length < 100000) :
    Calls Try.prog 154 #[.pointer (some ⟨U, 0, none⟩), .int .i64 g, .int .i64 a, .int .i64 v] w fun e w' => e = .returned (.tuple #[]) ∧ Em w w' k U x (l ++ [⟨10, g, a, v, 0, x.pc, x.done⟩]) := by
  have u0 : w.cell? ⟨U, 0, none⟩ = some (.func (Fn.func 109) #[] #[.pointer (some ⟨k.B, 0, none⟩)]) := row_cell h.bU 0
  have u1 : w.cell? ⟨U, 1, none⟩ = some (.func (Fn.func 110) #[] #[.pointer (some ⟨k.L, 0, none⟩)]) := row_cell h.bU 1
  have u2 : w.cell? ⟨U, 2, none⟩ = some (.int .i64 x.op) := row_cell h.bU 2
  have u3 : w.cell? ⟨U, 3, none⟩ = some (.int .i64 x.D) := row_cell h.bU 3
  have u4 : w.cell? ⟨U, 4, none⟩ = some (.int .i64 x.S) := row_cell h.bU 4
  have u5 : w.cell? ⟨U, 5, none⟩ = some (.int .i64 x.O) := row_cell h.bU 5
  have u6 : w.cell? ⟨U, 6, none⟩ = some (.int .u32 x.im) := row_cell h.bU 6
  have u7 : w.cell? ⟨U, 7, none⟩ = some (.int .u32 x.pc) := row_cell h.bU 7
  have u8 : w.cell? ⟨U, 8, none⟩ = some (.int .u32 x.next) := row_cell h.bU 8
  have u9 : w.cell? ⟨U, 9, none⟩ = some (.int .i64 x.done) := row_cell h.bU 9
  have HT : Hid _ := h
  have HL : Hid _ := hl
  clear h hl
  go_enter Try.func154, Try.ntmps154
  go_upto_region 0 with fail
  go_region_with 
    (first | (go_at_call 109; refine (lay_tu k U x l ⟨10, g, a, v, 0, x.pc, x.done⟩ _ ?_ HL.out).mono ?_; (focus (first | with_reducible exact HT.out | with_reducible exact HT.out.drw | with_reducible exact HT.out.drw.drw)); rintro e w1 ⟨rfl, h1⟩; have v0 : w1.cell? ⟨U, 0, none⟩ = some (.func (Fn.func 109) #[] #[.pointer (some ⟨k.B, 0, none⟩)]) := row_cell h1.t.bU 0; have v1 : w1.cell? ⟨U, 1, none⟩ = some (.func (Fn.func 110) #[] #[.pointer (some ⟨k.L, 0, none⟩)]) := row_cell h1.t.bU 1; have v2 : w1.cell? ⟨U, 2, none⟩ = some (.int .i64 x.op) := row_cell h1.t.bU 2; have v3 : w1.cell? ⟨U, 3, none⟩ = some (.int .i64 x.D) := row_cell h1.t.bU 3; have v4 : w1.cell? ⟨U, 4, none⟩ = some (.int .i64 x.S) := row_cell h1.t.bU 4; have v5 : w1.cell? ⟨U, 5, none⟩ = some (.int .i64 x.O) := row_cell h1.t.bU 5; have v6 : w1.cell? ⟨U, 6, none⟩ = some (.int .u32 x.im) := row_cell h1.t.bU 6; have v7 : w1.cell? ⟨U, 7, none⟩ = some (.int .u32 x.pc) := row_cell h1.t.bU 7; have v8 : w1.cell? ⟨U, 8, none⟩ = some (.int .u32 x.next) := row_cell h1.t.bU 8; have v9 : w1.cell? ⟨U, 9, none⟩ = some (.int .i64 x.done) := row_cell h1.t.bU 9))
  all_goals go_wp2
  all_goals go_end0
  all_goals exact ⟨rfl, Em.first HT.out h1⟩
set_option maxHeartbeats 1000000 in
theorem watch_tu (k : BK) (U : Nat) (x : XI) (l : List OpR)  (w : World) (h : TU w k U x l) (hl : l.length < 100000) (hd : 0 ≤ x.done ∧ x.done ≤ 64) :
    Calls Try.prog 155 #[.pointer (some ⟨U, 0, none⟩)] w fun e w' => e = .returned (.tuple #[]) ∧ Em w w' k U x (l ++ [⟨11, 0, 0, 0, 0, x.next, x.done + 1⟩]) := by
  have u0 : w.cell? ⟨U, 0, none⟩ = some (.func (Fn.func 109) #[] #[.pointer (some ⟨k.B, 0, none⟩)]) := row_cell h.bU 0
  have u1 : w.cell? ⟨U, 1, none⟩ = some (.func (Fn.func 110) #[] #[.pointer (some ⟨k.L, 0, none⟩)]) := row_cell h.bU 1
  have u2 : w.cell? ⟨U, 2, none⟩ = some (.int .i64 x.op) := row_cell h.bU 2
  have u3 : w.cell? ⟨U, 3, none⟩ = some (.int .i64 x.D) := row_cell h.bU 3
  have u4 : w.cell? ⟨U, 4, none⟩ = some (.int .i64 x.S) := row_cell h.bU 4
  have u5 : w.cell? ⟨U, 5, none⟩ = some (.int .i64 x.O) := row_cell h.bU 5
  have u6 : w.cell? ⟨U, 6, none⟩ = some (.int .u32 x.im) := row_cell h.bU 6
  have u7 : w.cell? ⟨U, 7, none⟩ = some (.int .u32 x.pc) := row_cell h.bU 7
  have u8 : w.cell? ⟨U, 8, none⟩ = some (.int .u32 x.next) := row_cell h.bU 8
  have u9 : w.cell? ⟨U, 9, none⟩ = some (.int .i64 x.done) := row_cell h.bU 9
  obtain ⟨d0, d1⟩ := hd
  have HWR : Hid (IntKind.i64.wrap (x.done + 1) = x.done + 1) := wrap_done x.done d0 d1
  have HT : Hid _ := h
  have HL : Hid _ := hl
  clear h hl
  go_enter Try.func155, Try.ntmps155
  go_upto_region 0 with fail
  go_region_with 
    (first | (go_at_call 109; rw [HWR.out]; refine (lay_tu k U x l ⟨11, 0, 0, 0, 0, x.next, x.done + 1⟩ _ ?_ HL.out).mono ?_; (focus (first | with_reducible exact HT.out | with_reducible exact HT.out.drw | with_reducible exact HT.out.drw.drw)); rintro e w1 ⟨rfl, h1⟩; have v0 : w1.cell? ⟨U, 0, none⟩ = some (.func (Fn.func 109) #[] #[.pointer (some ⟨k.B, 0, none⟩)]) := row_cell h1.t.bU 0; have v1 : w1.cell? ⟨U, 1, none⟩ = some (.func (Fn.func 110) #[] #[.pointer (some ⟨k.L, 0, none⟩)]) := row_cell h1.t.bU 1; have v2 : w1.cell? ⟨U, 2, none⟩ = some (.int .i64 x.op) := row_cell h1.t.bU 2; have v3 : w1.cell? ⟨U, 3, none⟩ = some (.int .i64 x.D) := row_cell h1.t.bU 3; have v4 : w1.cell? ⟨U, 4, none⟩ = some (.int .i64 x.S) := row_cell h1.t.bU 4; have v5 : w1.cell? ⟨U, 5, none⟩ = some (.int .i64 x.O) := row_cell h1.t.bU 5; have v6 : w1.cell? ⟨U, 6, none⟩ = some (.int .u32 x.im) := row_cell h1.t.bU 6; have v7 : w1.cell? ⟨U, 7, none⟩ = some (.int .u32 x.pc) := row_cell h1.t.bU 7; have v8 : w1.cell? ⟨U, 8, none⟩ = some (.int .u32 x.next) := row_cell h1.t.bU 8; have v9 : w1.cell? ⟨U, 9, none⟩ = some (.int .i64 x.done) := row_cell h1.t.bU 9))
  all_goals go_wp2
  all_goals go_end0
  all_goals exact ⟨rfl, Em.first HT.out h1⟩
set_option maxHeartbeats 1000000 in
theorem goes_tu (k : BK) (U : Nat) (x : XI) (l : List OpR) (n : Nat) (w : World) (h : TU w k U x l) (hl : l.length < 100000) (hd : 0 ≤ x.done ∧ x.done ≤ 64) :
    Calls Try.prog 170 #[.pointer (some ⟨U, 0, none⟩), .int .u32 n] w fun e w' => e = .returned (.tuple #[]) ∧ Em w w' k U x (l ++ [⟨15, 0, 0, 0, 0, n, x.done + 1⟩]) := by
  have u0 : w.cell? ⟨U, 0, none⟩ = some (.func (Fn.func 109) #[] #[.pointer (some ⟨k.B, 0, none⟩)]) := row_cell h.bU 0
  have u1 : w.cell? ⟨U, 1, none⟩ = some (.func (Fn.func 110) #[] #[.pointer (some ⟨k.L, 0, none⟩)]) := row_cell h.bU 1
  have u2 : w.cell? ⟨U, 2, none⟩ = some (.int .i64 x.op) := row_cell h.bU 2
  have u3 : w.cell? ⟨U, 3, none⟩ = some (.int .i64 x.D) := row_cell h.bU 3
  have u4 : w.cell? ⟨U, 4, none⟩ = some (.int .i64 x.S) := row_cell h.bU 4
  have u5 : w.cell? ⟨U, 5, none⟩ = some (.int .i64 x.O) := row_cell h.bU 5
  have u6 : w.cell? ⟨U, 6, none⟩ = some (.int .u32 x.im) := row_cell h.bU 6
  have u7 : w.cell? ⟨U, 7, none⟩ = some (.int .u32 x.pc) := row_cell h.bU 7
  have u8 : w.cell? ⟨U, 8, none⟩ = some (.int .u32 x.next) := row_cell h.bU 8
  have u9 : w.cell? ⟨U, 9, none⟩ = some (.int .i64 x.done) := row_cell h.bU 9
  obtain ⟨d0, d1⟩ := hd
  have HWR : Hid (IntKind.i64.wrap (x.done + 1) = x.done + 1) := wrap_done x.done d0 d1
  have HT : Hid _ := h
  have HL : Hid _ := hl
  clear h hl
  go_enter Try.func170, Try.ntmps170
  go_upto_region 0 with fail
  go_region_with 
    (first | (go_at_call 109; rw [HWR.out]; refine (lay_tu k U x l ⟨15, 0, 0, 0, 0, n, x.done + 1⟩ _ ?_ HL.out).mono ?_; (focus (first | with_reducible exact HT.out | with_reducible exact HT.out.drw | with_reducible exact HT.out.drw.drw)); rintro e w1 ⟨rfl, h1⟩; have v0 : w1.cell? ⟨U, 0, none⟩ = some (.func (Fn.func 109) #[] #[.pointer (some ⟨k.B, 0, none⟩)]) := row_cell h1.t.bU 0; have v1 : w1.cell? ⟨U, 1, none⟩ = some (.func (Fn.func 110) #[] #[.pointer (some ⟨k.L, 0, none⟩)]) := row_cell h1.t.bU 1; have v2 : w1.cell? ⟨U, 2, none⟩ = some (.int .i64 x.op) := row_cell h1.t.bU 2; have v3 : w1.cell? ⟨U, 3, none⟩ = some (.int .i64 x.D) := row_cell h1.t.bU 3; have v4 : w1.cell? ⟨U, 4, none⟩ = some (.int .i64 x.S) := row_cell h1.t.bU 4; have v5 : w1.cell? ⟨U, 5, none⟩ = some (.int .i64 x.O) := row_cell h1.t.bU 5; have v6 : w1.cell? ⟨U, 6, none⟩ = some (.int .u32 x.im) := row_cell h1.t.bU 6; have v7 : w1.cell? ⟨U, 7, none⟩ = some (.int .u32 x.pc) := row_cell h1.t.bU 7; have v8 : w1.cell? ⟨U, 8, none⟩ = some (.int .u32 x.next) := row_cell h1.t.bU 8; have v9 : w1.cell? ⟨U, 9, none⟩ = some (.int .i64 x.done) := row_cell h1.t.bU 9))
  all_goals go_wp2
  all_goals go_end0
  all_goals exact ⟨rfl, Em.first HT.out h1⟩
set_option maxHeartbeats 1000000 in
theorem goesTo_tu (k : BK) (U : Nat) (x : XI) (l : List OpR) (v : Int) (w : World) (h : TU w k U x l) (hl : l.length < 100000) (hd : 0 ≤ x.done ∧ x.done ≤ 64) :
    Calls Try.prog 172 #[.pointer (some ⟨U, 0, none⟩), .int .i64 v] w fun e w' => e = .returned (.tuple #[]) ∧ Em w w' k U x (l ++ [⟨16, 0, v, 0, 0, 0, x.done + 1⟩]) := by
  have u0 : w.cell? ⟨U, 0, none⟩ = some (.func (Fn.func 109) #[] #[.pointer (some ⟨k.B, 0, none⟩)]) := row_cell h.bU 0
  have u1 : w.cell? ⟨U, 1, none⟩ = some (.func (Fn.func 110) #[] #[.pointer (some ⟨k.L, 0, none⟩)]) := row_cell h.bU 1
  have u2 : w.cell? ⟨U, 2, none⟩ = some (.int .i64 x.op) := row_cell h.bU 2
  have u3 : w.cell? ⟨U, 3, none⟩ = some (.int .i64 x.D) := row_cell h.bU 3
  have u4 : w.cell? ⟨U, 4, none⟩ = some (.int .i64 x.S) := row_cell h.bU 4
  have u5 : w.cell? ⟨U, 5, none⟩ = some (.int .i64 x.O) := row_cell h.bU 5
  have u6 : w.cell? ⟨U, 6, none⟩ = some (.int .u32 x.im) := row_cell h.bU 6
  have u7 : w.cell? ⟨U, 7, none⟩ = some (.int .u32 x.pc) := row_cell h.bU 7
  have u8 : w.cell? ⟨U, 8, none⟩ = some (.int .u32 x.next) := row_cell h.bU 8
  have u9 : w.cell? ⟨U, 9, none⟩ = some (.int .i64 x.done) := row_cell h.bU 9
  obtain ⟨d0, d1⟩ := hd
  have HWR : Hid (IntKind.i64.wrap (x.done + 1) = x.done + 1) := wrap_done x.done d0 d1
  have HT : Hid _ := h
  have HL : Hid _ := hl
  clear h hl
  go_enter Try.func172, Try.ntmps172
  go_upto_region 0 with fail
  go_region_with 
    (first | (go_at_call 109; rw [HWR.out]; refine (lay_tu k U x l ⟨16, 0, v, 0, 0, 0, x.done + 1⟩ _ ?_ HL.out).mono ?_; (focus (first | with_reducible exact HT.out | with_reducible exact HT.out.drw | with_reducible exact HT.out.drw.drw)); rintro e w1 ⟨rfl, h1⟩; have v0 : w1.cell? ⟨U, 0, none⟩ = some (.func (Fn.func 109) #[] #[.pointer (some ⟨k.B, 0, none⟩)]) := row_cell h1.t.bU 0; have v1 : w1.cell? ⟨U, 1, none⟩ = some (.func (Fn.func 110) #[] #[.pointer (some ⟨k.L, 0, none⟩)]) := row_cell h1.t.bU 1; have v2 : w1.cell? ⟨U, 2, none⟩ = some (.int .i64 x.op) := row_cell h1.t.bU 2; have v3 : w1.cell? ⟨U, 3, none⟩ = some (.int .i64 x.D) := row_cell h1.t.bU 3; have v4 : w1.cell? ⟨U, 4, none⟩ = some (.int .i64 x.S) := row_cell h1.t.bU 4; have v5 : w1.cell? ⟨U, 5, none⟩ = some (.int .i64 x.O) := row_cell h1.t.bU 5; have v6 : w1.cell? ⟨U, 6, none⟩ = some (.int .u32 x.im) := row_cell h1.t.bU 6; have v7 : w1.cell? ⟨U, 7, none⟩ = some (.int .u32 x.pc) := row_cell h1.t.bU 7; have v8 : w1.cell? ⟨U, 8, none⟩ = some (.int .u32 x.next) := row_cell h1.t.bU 8; have v9 : w1.cell? ⟨U, 9, none⟩ = some (.int .i64 x.done) := row_cell h1.t.bU 9))
  all_goals go_wp2
  all_goals go_end0
  all_goals exact ⟨rfl, Em.first HT.out h1⟩
end Go.Proofs.Ytjmffijdojeghaa
