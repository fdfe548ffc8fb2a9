import Derived.Test.YtkgbjpdoigdjnabPA
import Derived.Deep.OwnRows
import Derived.Deep.AppendLies
import Derived.OwnWalk
import Derived.Maps.OwnSet
import Derived.DeepKeys4
import Derived.Deep.RegionLaw
set_option linter.unusedVariables false
set_option linter.unusedSimpArgs false
set_option maxHeartbeats 2000000
namespace Go.Proofs.Ytkgbjpdoigdjnab
open Go.RowKit
open Go.Maps
set_option maxRecDepth 100000
def upd {α : Type} (f : Nat → α) (i : Nat) (v : α) : Nat → α := fun j => if j = i then v else f j
structure ON where
 kd : Nat
 w : Nat
 a : Nat
 b : Nat
 c : Nat
 k : Nat
 n : Nat
def onEq (x y : ON) : Bool := decide (x.kd = y.kd) && decide (x.w = y.w) && decide (x.a = y.a) && decide (x.b = y.b) && decide (x.c = y.c) && decide (x.k = y.k) && decide (x.n = y.n)
theorem onEq_iff (x y : ON) : onEq x y = true ↔ x = y := by
 obtain ⟨a1, a2, a3, a4, a5, a6, a7⟩ := x
 obtain ⟨b1, b2, b3, b4, b5, b6, b7⟩ := y
 simp [onEq, and_assoc]
def rO (o : ON) : OpR := ⟨o.kd, o.w, o.a, o.b, o.c, o.k, o.n⟩
abbrev onA (o : ON) : Array Value := #[.int .i64 (o.kd : Int), .int .i64 (o.w : Int), .int .i64 (o.a : Int), .int .i64 (o.b : Int), .int .i64 (o.c : Int), .int .u32 (o.k : Int), .int .i64 (o.n : Int)]
abbrev onV (o : ON) : Value := .agg (onA o)
def onL (o : ON) : List Value := [.int .i64 (o.kd : Int), .int .i64 (o.w : Int), .int .i64 (o.a : Int), .int .i64 (o.b : Int), .int .i64 (o.c : Int), .int .u32 (o.k : Int), .int .i64 (o.n : Int)]
def onsV : List ON → List Value
 | [] => []
 | o :: l => onL o ++ onsV l
def onD : ON := ⟨0, 0, 0, 0, 0, 0, 0⟩
def onC (o : ON) : Nat → Value
 | 0 => .int .i64 (o.kd : Int)
 | 1 => .int .i64 (o.w : Int)
 | 2 => .int .i64 (o.a : Int)
 | 3 => .int .i64 (o.b : Int)
 | 4 => .int .i64 (o.c : Int)
 | 5 => .int .u32 (o.k : Int)
 | _ => .int .i64 (o.n : Int)
theorem onsV_len : ∀ l : List ON, (onsV l).length = l.length * 7
 | [] => rfl
 | o :: l => by simp only [onsV, List.length_append, onsV_len l, onL, List.length_cons, List.length_nil]; omega
theorem onsV_app : ∀ (l : List ON) (o : ON), onsV (l ++ [o]) = onsV l ++ onL o
 | [], o => by simp [onsV]
 | x :: l, o => by simp only [List.cons_append, onsV, onsV_app l o, List.append_assoc]
theorem onsV_at : ∀ (l : List ON) (i r : Nat), i < l.length → r < 7 → (onsV l)[i * 7 + r]? = some (onC (l.getD i onD) r)
 | [], _, _, h, _ => by simp at h
 | o :: l, 0, r, _, hr => by
  have hl : (onL o).length = 7 := rfl
  rw [onsV, List.getElem?_append_left (by omega)]
  match r, hr with
  | 0, _ | 1, _ | 2, _ | 3, _ | 4, _ | 5, _ | 6, _ => rfl
  | n + 7, h => exact absurd h (by omega)
 | o :: l, i + 1, r, h, hr => by
  have hl : (onL o).length = 7 := rfl
  rw [onsV, List.getElem?_append_right (by omega), show (i + 1) * 7 + r - (onL o).length = i * 7 + r by omega, onsV_at l i r (by simpa using h) hr]
  simp
structure OnW (o : ON) : Prop where
 kd : o.kd < 9223372036854775808
 w : o.w < 9223372036854775808
 a : o.a < 9223372036854775808
 b : o.b < 9223372036854775808
 c : o.c < 9223372036854775808
 k : o.k < 4294967296
 n : o.n < 9223372036854775808
theorem key_type : Try.prog.keyType 67 = true := by kernel_rfl
theorem laid_out : laidOutB Try.prog = true := by kernel_rfl
theorem key_row : (67 : TypeId) < Try.prog.types.size := of_decide_eq_true (by kernel_rfl)
theorem key_wide : (match Try.prog.underlying 67 with | some (.array _ _) | some (.struct _) => true | _ => false) = true := by kernel_rfl
theorem key_law : Keyed Try.prog 67 := Keyed.of_law (deep_law_laid laid_out (m := 2) (by omega) key_row (by kernel_rfl) key_wide)
theorem key_c : Try.prog.cellsOf 67 = 7 := by kernel_rfl
theorem key_ci : Try.prog.cellsOf 3 = 1 := by kernel_rfl
theorem key_cu : Try.prog.cellsOf 22 = 1 := by kernel_rfl
theorem key_n : Try.prog.types.size = 334 := by kernel_rfl
theorem wf_i (n : Nat) (h : n < 9223372036854775808) : (Lit.int .i64 (n : Int)).wf = true := by
 have e1 : IntKind.i64.min = -9223372036854775808 := by decide
 have e2 : IntKind.i64.max = 9223372036854775807 := by decide
 simp only [Lit.wf, e1, e2, Bool.and_eq_true, decide_eq_true_eq]; omega
theorem wf_u (n : Nat) (h : n < 4294967296) : (Lit.int .u32 (n : Int)).wf = true := by
 have e1 : IntKind.u32.min = 0 := by decide
 have e2 : IntKind.u32.max = 4294967295 := by decide
 simp only [Lit.wf, e1, e2, Bool.and_eq_true, decide_eq_true_eq]; omega
theorem key_i (d n : Nat) (h : n < 9223372036854775808) : Try.prog.keyLits (d + 1) 3 [.int .i64 (n : Int)] = some [.int .i64 n] := by
 unfold Program.keyLits; simp only [Try.underlying3, wf_i n h, and_self, if_true]
theorem key_u (d n : Nat) (h : n < 4294967296) : Try.prog.keyLits (d + 1) 22 [.int .u32 (n : Int)] = some [.int .u32 n] := by
 unfold Program.keyLits; simp only [Try.underlying22, wf_u n h, and_self, if_true]
theorem key_l (d : Nat) (o : ON) (h : OnW o) : ∃ ls, Try.prog.keyLits (d + 2) 67 (onL o) = some ls := by
 unfold Program.keyLits
 simp only [Try.underlying67, key_c]
 rw [if_pos ⟨rfl, by kernel_rfl⟩]
 simp only [List.mapM_cons, List.mapM_nil, key_ci, key_cu, onL, List.drop, List.take, key_i d _ h.kd, key_i d _ h.w, key_i d _ h.a, key_i d _ h.b, key_i d _ h.c, key_u d _ h.k, key_i d _ h.n]
 exact ⟨_, rfl⟩
theorem key_some (o : ON) (h : OnW o) : ∃ kl, keyOf Try.prog 67 (onV o) = some kl := by
 have e1 := Try.underlying67
 have f1 : (onV o).formed Try.prog 67 = true := by simp [Value.formed, e1, key_c]
 obtain ⟨ls, hl⟩ := key_l 333 o h
 unfold keyOf
 simp only [e1, key_type, f1, Bool.and_self, if_true, key_n]
 exact ⟨_, congrArg (Option.map _) hl⟩
noncomputable def klO (o : ON) : Lit := (keyOf Try.prog 67 (onV o)).getD (.bool false)
theorem key_on (o : ON) (h : OnW o) : keyOf Try.prog 67 (onV o) = some (klO o) := by
 obtain ⟨l, e⟩ := key_some o h
 unfold klO
 rw [e]; rfl
theorem onV_inj {x y : ON} (h : onV x = onV y) : x = y := by
 obtain ⟨a1, a2, a3, a4, a5, a6, a7⟩ := x
 obtain ⟨b1, b2, b3, b4, b5, b6, b7⟩ := y
 simp only [onV, onA, Value.agg.injEq, Array.mk.injEq, List.cons.injEq, Value.int.injEq, Int.ofNat_inj, true_and, and_true] at h
 obtain ⟨rfl, rfl, rfl, rfl, rfl, rfl, rfl⟩ := h
 rfl
theorem kl_inj {x y : ON} (hx : OnW x) (hy : OnW y) (h : klO x = klO y) : x = y := onV_inj (key_law.inj (key_on x hx) (h ▸ key_on y hy))
structure SE where
 l : List ON
 sl : Nat → Option Nat
 now : Option Nat
 lft : Bool
def oI : Option Nat → Int
 | none => -1
 | some n => n
def seF (sv : Value) (M : Nat) (s : SE) (o : Nat) : Value :=
 if o = 0 then sv else if o = 1 then .map (some M) else if o < 14 then .int .i64 (oI (s.sl (o - 2))) else if o = 14 then .int .i64 (oI s.now) else .bool s.lft
def isP (k : Nat) : Bool := decide (k = 1) || (decide (4 ≤ k) && decide (k ≤ 8))
def fnd (l : List ON) (o : ON) : Option Nat := l.findIdx? (fun x => onEq x o)
structure MapOk (D : DataW Unit) (l : List ON) : Prop where
 hs : ∀ o, OnW o → isP o.kd = true → Maps.has D (klO o) = (fnd l o).isSome
 at_ : ∀ o j, OnW o → isP o.kd = true → fnd l o = some j → D.atKey (klO o) (.lit (.int .i64 0)) = .lit (.int .i64 (j : Int))
structure SW (w : World) (base X M : Nat) (s : SE) (ml : List ON) (sv : Value) : Prop where
 xb : w.rowIs X 211 16 (seF sv M s)
 o : w.ownsRow base 67 7 sv s.l.length (onsV s.l)
 mp : ∃ D : DataW Unit, w.ownsMap Try.prog 67 (plainElem Try.prog 3) M ml.length D ∧ MapOk D ml
 bX : base ≤ X
 bM : base ≤ M
 bw : base ≤ w.heap.size
structure Kz (base X M : Nat) (sv : Value) (w : World) (sv' : Value) (w' : World) : Prop where
 bel : Below base w w'
 blk : ∀ i, i < w.heap.size → i ≠ X → i ≠ M → sv.ownBlock ≠ some i → w'.heap[i]? = w.heap[i]?
 nw : sv'.ownBlock = sv.ownBlock ∨ ∀ i, sv'.ownBlock = some i → w.heap.size ≤ i
theorem Kz.refl (base X M : Nat) (sv : Value) (w : World) : Kz base X M sv w sv w := ⟨Below.refl _ _, fun _ _ _ _ _ => rfl, .inl rfl⟩
theorem Kz.trans {base X M : Nat} {s1 s2 s3 : Value} {a b c : World} (h : Kz base X M s1 a s2 b) (k : Kz base X M s2 b s3 c) : Kz base X M s1 a s3 c :=
 ⟨h.bel.trans k.bel, fun i h1 h2 h3 h4 => (k.blk i (Nat.lt_of_lt_of_le h1 h.bel.size) h2 h3 (by
  rcases h.nw with e | e
  ·rw [e]; exact h4
  ·intro e2; have := e i e2; omega)).trans (h.blk i h1 h2 h3 h4), by
  rcases k.nw with e | e
  ·rw [e]; exact h.nw
  ·exact .inr fun i hi => Nat.le_trans h.bel.size (e i hi)⟩
theorem Kz.of_below {base X M : Nat} {sv : Value} {w w' : World} (h : Below w.heap.size w w') (hb : base ≤ w.heap.size) : Kz base X M sv w sv w' :=
 ⟨h.mono hb, fun i h1 _ _ _ => h.block i h1, .inl rfl⟩
theorem Kz.next {base X M : Nat} {s1 s2 : Value} {w w' w2 : World} (k : Kz base X M s1 w s2 w') (h : Below w'.heap.size w' w2) (hb : base ≤ w.heap.size) : Kz base X M s1 w s2 w2 :=
 k.trans (Kz.of_below h (Nat.le_trans hb k.bel.size))
theorem blk_other {w : World} {X Y o : Nat} (hne : Y ≠ X) (v : Value) : (w.setCell ⟨X, o, none⟩ v).heap[Y]? = w.heap[Y]? := Below.heap_setCell w ⟨X, o, none⟩ v Y hne
theorem Kz.setIn {base X M : Nat} {s1 s2 : Value} {w w' : World} (k : Kz base X M s1 w s2 w') {B : Nat} (hB : B = X ∨ w.heap.size ≤ B) (hb : base ≤ B) (o : Nat) (v : Value) : Kz base X M s1 w s2 (w'.setCell ⟨B, o, none⟩ v) :=
 ⟨k.bel.setCell hb v, fun i h1 h2 h3 h4 => (blk_other (by rcases hB with e | e; (subst e; exact h2); omega) v).trans (k.blk i h1 h2 h3 h4), k.nw⟩
theorem owns_blk {w : World} {base n g : Nat} {v : Value} {xs : List Value} (h : w.ownsRow base 67 7 v n xs) (hg : v.ownBlock = some g) : base ≤ g ∧ ∃ cur, w.heap[g]? = some (.cells cur 67) := by
 rcases h.2 with ⟨hv, h0⟩ | ⟨g', c', cur, hv, hb, hh, h1, h2, h3, h4⟩
 ·rw [hv] at hg; cases hg
 ·rw [hv] at hg; cases hg; exact ⟨hb, cur, hh⟩
theorem owns_keep {w w' : World} {base n : Nat} {v : Value} {xs : List Value} (h : w.ownsRow base 67 7 v n xs) (hk : ∀ g, v.ownBlock = some g → w'.heap[g]? = w.heap[g]?) : w'.ownsRow base 67 7 v n xs := by
 refine ⟨h.1, ?_⟩
 rcases h.2 with ⟨hv, h0⟩ | ⟨g', c', cur, hv, hb, hh, h1, h2, h3, h4⟩
 ·exact Or.inl ⟨hv, h0⟩
 ·exact Or.inr ⟨g', c', cur, hv, hb, (hk g' (by rw [hv]; rfl)).trans hh, h1, h2, h3, h4⟩
theorem owns_sl {w : World} {base n : Nat} {v : Value} {xs : List Value} (h : w.ownsRow base 67 7 v n xs) : ∃ sa sn sc, v = .slice sa sn sc := by
 rcases h.2 with ⟨hv, h0⟩ | ⟨g', c', cur, hv, -⟩
 ·exact ⟨_, _, _, hv⟩
 ·exact ⟨_, _, _, hv⟩
theorem owns_at {w : World} {base : Nat} {sv : Value} {l : List ON} (h : w.ownsRow base 67 7 sv l.length (onsV l)) (hn : 0 < l.length) : ∃ g cap, sv = .slice (some ⟨g, 0, none⟩) l.length cap ∧ g < w.heap.size ∧ l.length ≤ cap ∧ ∀ i r, i < l.length → r < 7 → w.cell? ⟨g, i * 7 + r, none⟩ = some (onC (l.getD i onD) r) := by
 rcases h.2 with ⟨-, h0⟩ | ⟨g, c', cur, hv, hb, hh, h1, h2, h3, h4⟩
 ·omega
 ·refine ⟨g, c', hv, row_lt hh, by omega, fun i r hi hr => ?_⟩
  rw [row_cell hh]
  have h5 := onsV_at l i r hi hr
  rw [← h4, List.getElem?_take, if_pos (by omega)] at h5
  simpa using h5
theorem own_map_lt {w : World} {M n : Nat} {D : DataW Unit} (h : w.ownsMap Try.prog 67 (plainElem Try.prog 3) M n D) : ∃ es ck, w.heap[M]? = some (.map es ck) := by
 obtain ⟨es, ck, h1, -⟩ := h
 exact ⟨es, ck, h1⟩
theorem own_map_keep {w w' : World} {M n : Nat} {D : DataW Unit} (h : w.ownsMap Try.prog 67 (plainElem Try.prog 3) M n D) (hk : w'.heap[M]? = w.heap[M]?) : w'.ownsMap Try.prog 67 (plainElem Try.prog 3) M n D := by
 obtain ⟨es, ck, h1, h2⟩ := h
 exact ⟨es, ck, hk.trans h1, h2⟩
theorem SW.neXM {w : World} {base X M : Nat} {s : SE} {ml : List ON} {sv : Value} (h : SW w base X M s ml sv) : X ≠ M := fun e => by
 obtain ⟨c, hc, -⟩ := h.xb
 obtain ⟨D, hD, -⟩ := h.mp
 obtain ⟨es, ck, hm⟩ := own_map_lt hD
 rw [e, hm] at hc
 cases hc
theorem SW.ow {w : World} {base X M : Nat} {s : SE} {ml : List ON} {sv : Value} (h : SW w base X M s ml sv) {g : Nat} (hg : sv.ownBlock = some g) : g ≠ X ∧ g ≠ M ∧ g < w.heap.size := by
 obtain ⟨-, cur, hh⟩ := owns_blk h.o hg
 obtain ⟨c, hc, -⟩ := h.xb
 obtain ⟨D, hD, -⟩ := h.mp
 obtain ⟨es, ck, hm⟩ := own_map_lt hD
 exact ⟨fun e => by (rw [e, hc] at hh; cases hh), fun e => by (rw [e, hm] at hh; cases hh), row_lt hh⟩
theorem SW.ltM {w : World} {base X M : Nat} {s : SE} {ml : List ON} {sv : Value} (h : SW w base X M s ml sv) : M < w.heap.size := by
 obtain ⟨D, hD, -⟩ := h.mp
 exact hD.lt
theorem SW.keep {w w' : World} {base X M : Nat} {s : SE} {ml : List ON} {sv : Value} (h : SW w base X M s ml sv) (h1 : w'.heap[X]? = w.heap[X]?) (h2 : w'.heap[M]? = w.heap[M]?) (h3 : ∀ g, sv.ownBlock = some g → w'.heap[g]? = w.heap[g]?) (h4 : w.heap.size ≤ w'.heap.size) : SW w' base X M s ml sv := by
 obtain ⟨D, hD, hm⟩ := h.mp
 exact ⟨h.xb.of_block h1, owns_keep h.o h3, ⟨D, own_map_keep hD h2, hm⟩, h.bX, h.bM, Nat.le_trans h.bw h4⟩
theorem SW.below {w w' : World} {base X M : Nat} {s : SE} {ml : List ON} {sv : Value} (h : SW w base X M s ml sv) (k : Below w.heap.size w w') : SW w' base X M s ml sv :=
 h.keep (k.block _ h.xb.lt) (k.block _ h.ltM) (fun g hg => k.block _ (h.ow hg).2.2) k.size
theorem SW.setX {w : World} {base X M : Nat} {s : SE} {ml : List ON} {sv : Value} (h : SW w base X M s ml sv) (o : Nat) (v : Value) (s' : SE) (hl : s'.l = s.l) (e : ∀ j, j < 16 → (if j = o then v else seF sv M s j) = seF sv M s' j) : SW (w.setCell ⟨X, o, none⟩ v) base X M s' ml sv := by
 obtain ⟨D, hD, hm⟩ := h.mp
 refine ⟨(h.xb.set o v).congr e, ?_, ⟨D, ?_, hm⟩, h.bX, h.bM, by simpa using h.bw⟩
 ·rw [hl]; exact owns_keep h.o fun g hg => blk_other (h.ow hg).1 v
 ·exact own_map_keep hD (blk_other (fun e => h.neXM e.symm) v)
theorem below_drewN {B : Nat} {w w' : World} (h : Below B w w') (n : Nat) : Below B w (w'.drewN n) := h.trans ⟨rfl, rfl, rfl, Nat.le_refl _, fun _ _ => rfl⟩
theorem lay_any (base X M : Nat) (s : SE) (ml : List ON) (sv : Value) (o : ON) (w : World) (hS : SW w base X M s ml sv) (hlen : s.l.length < 100000) :
  Calls Try.prog 174 #[.pointer (some ⟨X, 0, none⟩), .agg #[.int .i64 o.kd, .int .i64 o.w, .int .i64 o.a, .int .i64 o.b, .int .i64 o.c, .int .u32 o.k, .int .i64 o.n]] w fun e w' => e = .returned (.int .i64 s.l.length) ∧ ∃ sv', SW w' base X M { s with l := s.l ++ [o] } ml sv' ∧ Kz base X M sv w sv' w' := by
 have c0 : w.cell? ⟨X, 0, none⟩ = some sv := hS.xb.cell (i := 0) (by omega)
 have f0 := hS.xb.frozen
 have lX := hS.xb.lt
 have lX1 := Nat.lt_succ_of_lt lX
 obtain ⟨sa, sn, sc, rfl⟩ := owns_sl hS.o
 obtain ⟨i0, hi, hz0, hz1, hz2⟩ := info_parts info160
 have HS : Hid _ := hS
 have HLL : Hid (s.l.length < 100000) := hlen
 have ll : (s.l.length : Int) < 100000 := by omega
 have l0 : (0 : Int) ≤ (s.l.length : Int) := by omega
 have b1 : Below w.heap.size w (w.alloc (.cells #[.int .i64 o.kd, .int .i64 o.w, .int .i64 o.a, .int .i64 o.b, .int .i64 o.c, .int .u32 o.k, .int .i64 o.n] 67)) := (Below.refl _ _).alloc (Nat.le_refl _) _
 have b2 : Below w.heap.size w ((w.alloc (.cells #[.int .i64 o.kd, .int .i64 o.w, .int .i64 o.a, .int .i64 o.b, .int .i64 o.c, .int .u32 o.k, .int .i64 o.n] 67)).drew.alloc (.cells #[.int .i64 o.kd, .int .i64 o.w, .int .i64 o.a, .int .i64 o.b, .int .i64 o.c, .int .u32 o.k, .int .i64 o.n] 67)) := b1.drew.alloc (by simp) _
 have HB2 : Hid _ := b2
 have HS2 : Hid _ := hS.below b2
 have HNW : Hid (∀ j u, (onL o)[j]? = some u → ((w.alloc (.cells #[.int .i64 o.kd, .int .i64 o.w, .int .i64 o.a, .int .i64 o.b, .int .i64 o.c, .int .u32 o.k, .int .i64 o.n] 67)).drew.alloc (.cells #[.int .i64 o.kd, .int .i64 o.w, .int .i64 o.a, .int .i64 o.b, .int .i64 o.c, .int .u32 o.k, .int .i64 o.n] 67)).cell? ((⟨w.heap.size + 1, 0, none⟩ : Addr).add j) = some u) := show ∀ j u, _ from fun j u hu => by
  rw [Addr.add_mid, Nat.zero_add]
  have hl := heap_alloc_last (w.alloc (.cells #[.int .i64 o.kd, .int .i64 o.w, .int .i64 o.a, .int .i64 o.b, .int .i64 o.c, .int .u32 o.k, .int .i64 o.n] 67)).drew (.cells #[.int .i64 o.kd, .int .i64 o.w, .int .i64 o.a, .int .i64 o.b, .int .i64 o.c, .int .u32 o.k, .int .i64 o.n] 67)
  rw [show (w.alloc (.cells #[.int .i64 o.kd, .int .i64 o.w, .int .i64 o.a, .int .i64 o.b, .int .i64 o.c, .int .u32 o.k, .int .i64 o.n] 67)).drew.heap.size = w.heap.size + 1 by simp] at hl
  rw [row_cell hl]
  simpa [onL] using hu
 have HONE : Hid (∀ u ∈ onL o, u.oneCell' = true) := show ∀ u ∈ onL o, _ from fun u hu => by
  simp only [onL, List.mem_cons, List.not_mem_nil, or_false] at hu
  rcases hu with rfl | rfl | rfl | rfl | rfl | rfl | rfl <;> rfl
 have H63 : Hid (s.l.length + 1 ≤ maxLen) := show _ ≤ maxLen by unfold maxLen; omega
 have HBY : Hid ((s.l.length + 1) * 56 ≤ 140737488355328) := show _ ≤ _ by omega
 have HBS : Hid (base ≤ ((w.alloc (.cells #[.int .i64 o.kd, .int .i64 o.w, .int .i64 o.a, .int .i64 o.b, .int .i64 o.c, .int .u32 o.k, .int .i64 o.n] 67)).drew.alloc (.cells #[.int .i64 o.kd, .int .i64 o.w, .int .i64 o.a, .int .i64 o.b, .int .i64 o.c, .int .u32 o.k, .int .i64 o.n] 67)).heap.size) := show base ≤ _ by have := hS.bw; simp; omega
 clear hS hlen b1 b2
 go_enter Try.func174, Try.ntmps174
 go_upto_region 1 with fail
 go_region_law (refine step_append_lies _ rfl (.tmp 9) (.tmp 11) 23 rfl base 67 i0 _ 7 56 Try.underlying23 hi hz0 hz1 hz2 rfl (by decide) (.slice sa sn sc) s.l.length (onsV s.l) rfl HS2.out.o ⟨w.heap.size + 1, 0, none⟩ 1 1 (onL o) rfl rfl HNW.out HONE.out (by decide) H63.out HBY.out HBS.out (w.heap.size + 1 + 1) (by simp) ?_; intro g cap2 w2 hown hgr hgg hlt; have HOW : Hid _ := hown; have HGR : Hid _ := hgr; have HGG : Hid _ := hgg; have HXB : Hid (w2.rowIs X 211 16 _) := HS2.out.xb.of_block (hgr.block X HS2.out.xb.lt (fun e => (HS2.out.ow e.symm).1 rfl)); have d3 : w2.cell? ⟨X, 0, none⟩ = some (.slice sa sn sc) := HXB.out.cell (i := 0) (by omega); have df := HXB.out.frozen; have dl := HXB.out.lt; clear hown hgr hgg)
 all_goals
  have hgX : g ≠ X := fun e => by
   rcases HGG.out with h | h
   ·exact (HS2.out.ow h).1 e
   ·have := HS.out.xb.lt; omega
  have hgM : g ≠ M := fun e => by
   rcases HGG.out with h | h
   ·exact (HS2.out.ow h).2.1 e
   ·have := HS.out.ltM; omega
  have HXS : Hid (SW (w2.setCell ⟨X, 0, none⟩ (.slice (some ⟨g, 0, none⟩) (s.l.length + 1) cap2)) base X M { s with l := s.l ++ [o] } ml (.slice (some ⟨g, 0, none⟩) (s.l.length + 1) cap2)) := by
   obtain ⟨D, hD, hm⟩ := HS2.out.mp
   refine ⟨(HXB.out.set 0 _).congr (fun j hj => ?_), ?_, ⟨D, ?_, hm⟩, HS2.out.bX, HS2.out.bM, ?_⟩
   ·unfold seF; by_cases e : j = 0 <;> simp [e]
   ·rw [show ({ s with l := s.l ++ [o] } : SE).l = s.l ++ [o] from rfl, onsV_app, List.length_append]
    exact owns_keep HOW.out (fun g' hg' => by cases hg'; exact blk_other hgX _)
   ·exact own_map_keep hD ((blk_other (fun e => HS2.out.neXM e.symm) _).trans (HGR.out.block M HS2.out.ltM (fun e => (HS2.out.ow e.symm).2.1 rfl)))
   ·have h1 : base ≤ w2.heap.size := Nat.le_trans HS.out.bw (Nat.le_trans HB2.out.size HGR.out.size)
    simpa using h1
  have HKZ : Hid (Kz base X M (.slice sa sn sc) w (.slice (some ⟨g, 0, none⟩) (s.l.length + 1) cap2) (w2.setCell ⟨X, 0, none⟩ (.slice (some ⟨g, 0, none⟩) (s.l.length + 1) cap2))) := by
   have hk : Kz base X M (.slice sa sn sc) w (.slice (some ⟨g, 0, none⟩) (s.l.length + 1) cap2) w2 := by
    refine ⟨Below.grown (HB2.out.mono HS.out.bw) HGR.out HBS.out (fun k hk => (owns_blk HS2.out.o hk).1), fun i h1 h2 h3 h4 => ?_, ?_⟩
    ·exact (HGR.out.block i (Nat.lt_of_lt_of_le h1 HB2.out.size) (fun e => h4 e.symm)).trans (HB2.out.block i h1)
    ·rcases HGG.out with h | h
     ·exact .inl h.symm
     ·exact .inr fun i hi => by have e : g = i := Option.some.inj hi; omega
   exact hk.setIn (.inl rfl) HS.out.bX _ _
  have n0 : w2.cell? ⟨X, 0, none⟩ = some (.slice sa sn sc) := d3
  clear HXB HOW HGR HGG
  go_wp2
  go_ret
  exact ⟨by first | rfl | (simp; done) | (congr 2; omega), _, HXS.out, HKZ.out⟩
end Go.Proofs.Ytkgbjpdoigdjnab
