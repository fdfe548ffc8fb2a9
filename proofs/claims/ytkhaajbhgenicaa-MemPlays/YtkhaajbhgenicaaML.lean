import Derived.Test.YtkhaajbhgenicaaMK
import Derived.Lib.SliceRun
namespace Go.Proofs.Ytkhaajbhgenicaa
open Go.RowKit
set_option maxRecDepth 100000
set_option linter.unusedVariables false

/-! ## An array as a value -/
def toldA (T : Nat → Bool) : Array Value := ((List.range 256).map fun p => Value.bool (T p)).toArray
theorem toldA_at (T : Nat → Bool) (j : Nat) (h : j < 256) : (toldA T)[j]? = some (.bool (T j)) := by simp [toldA, h]
theorem wpList_load_agg {P : Program} {w : World} {ops : Array Oper} {rest : List Oper} {o : Oper} {a : Act} {Q : Exit → Act → World → Prop} (hg : o.guard = none) (t : TypeId) (x : Operand) (ho : o.op = .load t x)
    (ad : Addr) (hx : a.eval x = .pointer (some ad)) (n : Nat) (hagg : ∀ w, (isAgg t).run P w = .ok true w) (hsz : ∀ w, (sizeOf t).run P w = .ok n w) (cs : List Value) (hn : cs.length = n)
    (hc : ∀ j v, cs[j]? = some v → w.cell? (ad.add j) = some v) (h : wpList P ops Q rest (a.put o.dst (.agg cs.toArray)) w) : wpList P ops Q (o :: rest) a w := by
  refine wpList_plain hg fun K hK => ?_
  have hl := run_loadCells_list (P := P) w ad cs hc
  rw [hn] at hl
  have hrun : (Instr.loadAt t (.pointer (some ad))).run P w = .ok (.agg cs.toArray) w := by
    simp [Instr.loadAt, Instr.sureAddr, loadVar, hagg, hsz, hl]
  unfold Oper.wp
  simp only [execOp, ho, hx, Sem.run_bind, hrun, Result.andThen_ok, Sem.run_pure]
  exact hK _ _ h
theorem wpList_index_as {P : Program} {w : World} {ops : Array Oper} {rest : List Oper} {o : Oper} {a : Act} {Q : Exit → Act → World → Prop} (hg : o.guard = none) (t : TypeId) (x i : Operand) (ho : o.op = .index t x i)
    (xv iv v : Value) (hx : a.eval x = xv) (hi : a.eval i = iv) (hr : ∀ w, (Instr.index t xv iv).run P w = .ok v w) (h : wpList P ops Q rest (a.put o.dst v) w) : wpList P ops Q (o :: rest) a w := by
  refine wpList_plain hg fun K hK => ?_
  unfold Oper.wp
  simp only [execOp, ho, hx, hi, Sem.run_bind, hr, Result.andThen_ok, Sem.run_pure]
  exact hK _ _ h
theorem told_index (T : Nat → Bool) (j : Nat) (h : j < 256) (w : World) : (Instr.index 65 (.agg (toldA T)) (.int .i64 j)).run Try.prog w = .ok (.bool (T j)) w := by
  have h0 : (0 : Int) ≤ j := by omega
  have h1 : (j : Int) < 256 := by omega
  have e := toldA_at T j h
  simp [Instr.index, asIntOf, h0, part, e]
  intro hh
  omega

/-! ## A list that grows by one -/
def OL (w : World) (base : Nat) (v : Value) (l : List Int) : Prop := w.ownsRow base 3 1 v l.length (l.map (Value.int .i64))
theorem OL.slice {w : World} {base : Nat} {v : Value} {l : List Int} (h : OL w base v l) : ∃ p c, v = .slice p l.length c ∧ (0 < l.length → ∃ g, p = some ⟨g, 0, none⟩ ∧ base ≤ g ∧ ∀ i y, l[i]? = some y → w.cell? ⟨g, i, none⟩ = some (.int .i64 y)) := by
  rcases h.2 with ⟨rfl, h0⟩ | ⟨g, c, cur, rfl, hb, hh, h1, h2, h3, h4⟩
  · exact ⟨none, 0, by rw [h0], fun h => by omega⟩
  · refine ⟨_, c, rfl, fun _ => ⟨g, rfl, hb, fun i y hy => ?_⟩⟩
    have hi : i < l.length := (List.getElem?_eq_some_iff.1 hy).1
    rw [cell_of_row _ _ i _ _ _ hh]
    have h5 : (cur.toList.take (l.length * 1))[i]? = some (.int .i64 y) := by rw [h4]; simp [hy]
    rw [List.getElem?_take, if_pos (by omega)] at h5
    simpa using h5
theorem info3 : (Try.prog.info? 3).map (fun i => (i.zero, i.size, i.bytes)) = some (some (.int .i64 0), 1, 8) := by kernel_rfl
theorem OL.below {w w' : World} {base : Nat} {v : Value} {l : List Int} (h : OL w base v l) (hb : ∀ g, base ≤ g → g < w.heap.size → w'.heap[g]? = w.heap[g]?) : OL w' base v l := by
  refine ⟨h.1, ?_⟩
  rcases h.2 with h | ⟨g, c, cur, rfl, hg, hh, r⟩
  · exact .inl h
  · exact .inr ⟨g, c, cur, rfl, hg, (hb g hg (Array.getElem?_eq_some_iff.1 hh).1).trans hh, r⟩
theorem wpList_push {w : World} {ops : Array Oper} {rest : List Oper} {o : Oper} {a : Act} {Q : Exit → Act → World → Prop} (hgd : o.guard = none) (s x : Operand)
    (ho : o.op = .call { callee := .builtin .append, args := #[s, x], argTypes := #[68, 68] }) (base : Nat) (v : Value) (l : List Int) (hs : a.eval s = v) (hown : OL w base v l)
    (g0 : Nat) (y : Int) (hx : a.eval x = .slice (some ⟨g0, 0, none⟩) 1 1) (hc : w.cell? ⟨g0, 0, none⟩ = some (.int .i64 y)) (hl : l.length < 65536) (hbase : base ≤ w.heap.size)
    (h : ∀ v' w', OL w' base v' (l ++ [y]) → Below base w w' → wpList Try.prog ops Q rest (a.put o.dst v') w') : wpList Try.prog ops Q (o :: rest) a w := by
  obtain ⟨i0, hi, hz0, hz1, hz2⟩ := info_parts info3
  refine wpList_append_lies _ hgd s x 68 ho base 3 i0 (.int .i64 0) 1 8 Try.underlying68 hi hz0 hz1 hz2 rfl (by decide) v l.length (l.map (Value.int .i64)) hs hown ⟨g0, 0, none⟩ 1 1 [.int .i64 y] hx rfl
    (fun j u hj => ?_) (by simp [Value.oneCell']) (by decide) (by unfold maxLen; omega) (by omega) hbase w.heap.size rfl ?_
  · have : j = 0 := by have := (List.getElem?_eq_some_iff.1 hj).1; simpa using this
    subst this
    simp at hj
    subst hj
    rw [Addr.add_mid]; exact hc
  · intro g cap w1 hown1 hgrow hat hlt
    refine h _ w1 ?_ ?_
    · unfold OL; simpa using hown1
    · refine (Below.refl _ _).grown hgrow hbase (fun k hk => ?_)
      rcases hown.2 with ⟨rfl, -⟩ | ⟨g, c, cur, rfl, hg, -⟩
      · simp [Value.ownBlock] at hk
      · simp [Value.ownBlock] at hk; omega

/-- The pages among the first n that are told. -/
def toldL (T : Nat → Bool) : Nat → List Int
  | 0 => []
  | n + 1 => toldL T n ++ (if T n then [(n : Int)] else [])
theorem toldL_len (T : Nat → Bool) : ∀ n, (toldL T n).length = cnt T n
  | 0 => rfl
  | n + 1 => by simp only [toldL, cnt, List.length_append, toldL_len T n]; split <;> simp
def chS (s : MS) : MS := { s with T := fun _ => false }

structure ClrPre (w : World) (b off n : Nat) : Prop where
  hc : ∀ j, j < n → (w.cell? ⟨b, off + j, none⟩).isSome = true
  hf : ∀ j, j < n → w.frozen? ⟨b, off + j, none⟩ = false
theorem wpList_clear {P : Program} {w : World} {ops : Array Oper} {rest : List Oper} {o : Oper} {a : Act} {Q : Exit → Act → World → Prop} (hgd : o.guard = none) (hd : o.dst = none) (x : Operand) (t : TypeId)
    (ho : o.op = .call { callee := .builtin .clear, args := #[x], argTypes := #[t] }) (e : TypeId) (z : Value) (ht : P.underlying t = some (.slice e)) (hv : ∀ w, (zeroValue e).run P w = .ok z w) (hz : z.cells = #[z]) (h1 : z.oneCell' = true)
    (b off n c : Nat) (hn : 0 < n) (hx : a.eval x = .slice (some ⟨b, off, none⟩) n c) (hp : ClrPre w b off n)
    (L : List Value) (hL : L = List.replicate n z) (h' : ∀ w', w' = w.setCells b off L → wpList P ops Q rest a w') : wpList P ops Q (o :: rest) a w := by
  have h := h' _ rfl
  clear h'
  subst hL
  refine wpList_plain hgd fun K hK => ?_
  have hrun := Go.Lib.run_clear_slice (P := P) w t e o.type z ht hv hz h1 b off n c hn hp.hc hp.hf
  unfold Oper.wp
  simp only [execOp, ho, resolve, invoke, builtin, hx, Sem.run_bind, Sem.run_pure, Result.andThen_ok, List.map_toArray, List.map_cons, List.map_nil, hrun]
  have := hK _ _ h
  show K (a.put o.dst (.tuple #[])) _
  rw [hd]
  exact this
def noTold : List Value := List.replicate 256 (.bool false)
theorem noTold_eq : noTold = List.replicate 256 (.bool false) := by unfold noTold; exact Eq.refl _
theorem pos256 : 0 < 256 := by omega
theorem bfalse_cells : (Value.bool false).cells = #[.bool false] := rfl
theorem bfalse_one : (Value.bool false).oneCell' = true := rfl
theorem noTold_len : noTold.length = 256 := List.length_replicate
theorem noTold_at (j : Nat) (h : j < noTold.length) : noTold[j] = .bool false := List.getElem_replicate _
theorem PM.clear {w : World} {X : Nat} {s : MS} (h : PM w X s) : PM ((w.setCells X 66048 noTold).setCell ⟨X, 66304, none⟩ (.int .i64 0)) X (chS s) := by
  have hout : ∀ o, (o < 66048 ∨ 66304 ≤ o) → (w.setCells X 66048 noTold).cell? ⟨X, o, none⟩ = w.cell? ⟨X, o, none⟩ := fun o ho =>
    World.cell?_setCells_out X _ 66048 w ⟨X, o, none⟩ (fun _ _ => by rw [noTold_len]; exact ho)
  have hd := cell_setCell (w := w.setCells X 66048 noTold) (.int .i64 0) ((hout 66304 (by omega)).trans h.te)
  refine ⟨fun j hj => ?_, fun j hj => ?_, fun j hj => ?_, fun j hj => ?_, ?_, fun o => ?_⟩
  · rw [hd, if_neg (by omega), hout _ (by omega)]; exact h.by_ j hj
  · rw [hd, if_neg (by omega), hout _ (by omega)]; exact h.ri j hj
  · rw [hd, if_neg (by omega), hout _ (by omega)]; exact h.wa j hj
  · rw [hd, if_neg (by omega), World.cell?_setCells_in X _ 66048 w (fun q hq => by rw [noTold_len] at hq; rw [h.to _ hq]; rfl) j (by rw [noTold_len]; exact hj), noTold_at]
    rfl
  · rw [hd, if_pos rfl, chS, cnt_none _ _ (fun _ _ => rfl)]; rfl
  · rw [World.frozen?_setCell, World.frozen?_setCells]; exact h.fr o

theorem told_cells {w : World} {X : Nat} {s : MS} (h : PM w X s) : ∀ j v, ((List.range 256).map fun p => Value.bool (s.T p))[j]? = some v → w.cell? ((⟨X, 66048, none⟩ : Addr).add j) = some v := by
  intro j v hv
  simp only [List.getElem?_map, Option.map_eq_some_iff] at hv
  obtain ⟨i, hij, rfl⟩ := hv
  obtain ⟨hlt, rfl⟩ := List.getElem?_eq_some_iff.1 hij
  rw [List.length_range] at hlt
  rw [List.getElem_range, Addr.add_mid]
  exact h.to j hlt

theorem one_new (w : World) (v : Value) (t : TypeId) : (w.alloc (.cells #[v] t)).cell? ⟨w.heap.size, 0, none⟩ = some v := by
  rw [cell_of_row _ _ 0 _ t (0, 0) (heap_alloc_last w _)]; rfl

structure ChRel (s : MS) (base : Nat) (w : World) (j : Nat) (v : Value) (wr : World) : Prop where
  le : j ≤ 256
  ol : OL wr base v (toldL s.T j)
  bel : Below base w wr
  size : base ≤ wr.heap.size

theorem OL.alloc {w : World} {base : Nat} {v : Value} {l : List Int} (h : OL w base v l) (o : Obj) : OL (w.alloc o) base v l :=
  h.below fun g _ hg => Below.heap_alloc w o g hg

set_option maxHeartbeats 1000000 in
theorem changed_any (X : Nat) (s : MS) (w : World) (h : PM w X s) :
    Calls Try.prog 43 #[.pointer (some ⟨X, 0, none⟩)] w fun e w' => ∃ v, e = .returned v ∧ OL w' w.heap.size v (toldL s.T 256) ∧ PM w' X (chS s) ∧ Chg [X] w w' := by
  obtain ⟨i0, hi, hz0, hz1, hz2⟩ := info_parts info3
  have HI : Hid (Try.prog.info? 3 = some i0 ∧ i0.zero = some (.int .i64 0) ∧ i0.size = 1 ∧ i0.bytes = 8) := ⟨hi, hz0, hz1, hz2⟩
  have c0 := h.te
  have hn := cnt_le s.T 256
  have HP : Hid (PM w X s) := h
  have hb2 : i0.bytes * cnt s.T 256 ≤ 281474976710656 := by rw [hz2]; omega
  have HB2 : Hid (i0.bytes * cnt s.T 256 ≤ 281474976710656 ∧ cnt s.T 256 ≤ maxLen) := ⟨hb2, by unfold maxLen; omega⟩
  clear hi hz0 hz1 hz2 hb2 h
  go_enter Try.func43, Try.ntmps43
  go_wp2_with first
    | (refine wpList_make_own _ rfl (.const (.int .i64 0)) (.tmp 9) 68 rfl w.heap.size 3 i0 (.int .i64 0) 1 Try.underlying68 HI.out.1 HI.out.2.1 HI.out.2.2.1 .i64 .i64 _ (cnt s.T 256) rfl rfl rfl HB2.out.1 HB2.out.2 (Nat.le_refl _) ?_; intro w1 hown1 hgrow1; have hB1 : Below w.heap.size w w1 := (Below.refl _ _).grown hgrow1 (Nat.le_refl _) (fun k hk => by simp at hk); have HP1 : Hid (PM w1 X s) := HP.out.below hB1 HP.out.lt; have HO1 : Hid (OL w1 w.heap.size (.slice (some ⟨w.heap.size, 0, none⟩) 0 (cnt s.T 256)) []) := hown1; have HB1 : Hid (Below w.heap.size w w1) := hB1; clear hown1 hgrow1 hB1)
    | (refine wpList_load_agg rfl 65 (.tmp 13) rfl ⟨X, 66048, none⟩ rfl 256 Try.isAgg65 Try.sizeOf65 ((List.range 256).map fun p => Value.bool (s.T p)) (by rw [List.length_map, List.length_range]) (told_cells HP1.out) ?_; rw [← toldA])
  go_loopw [3, 15] (fun vv i wr => ∃ (j : Nat) (p : Option Addr) (n c : Nat), i = .int .i64 j ∧ vv = .slice p n c ∧ ChRel s w.heap.size w j (.slice p n c) wr) (fun _ i _ => 256 - (intOf i).toNat)
  case atStart => exact ⟨0, _, _, _, rfl, rfl, ⟨by omega, HO1.out, HB1.out, HB1.out.size⟩⟩
  case round =>
    obtain ⟨j, p, n, c, rfl, rfl, hj, hol, hbel, hsz⟩ := hrel
    have HOL : Hid (OL wr w.heap.size (.slice p n c) (toldL s.T j)) := hol
    have HBL : Hid (Below w.heap.size w wr) := hbel
    have HSZ : Hid (w.heap.size ≤ wr.heap.size) := hsz
    clear hol hbel hsz
    by_cases hlt : j < 256
    · have hji : (j : Int) < 256 := by omega
      have hj0 : (0 : Int) ≤ j := by omega
      have HLT : Hid (j < 256) := hlt
      cases hT : s.T j
      · have HE : Hid (toldL s.T (j + 1) = toldL s.T j) := show _ = _ by simp [toldL, hT]
        have HIX : Hid (∀ w, (Instr.index 65 (.agg (toldA s.T)) (.int .i64 j)).run Try.prog w = .ok (.bool false) w) := fun w => by rw [told_index s.T j hlt w, hT]
        clear hT hj
        go_wp2_with (refine wpList_index_as rfl 65 (.tmp 14) (.tmp 15) rfl _ _ (.bool false) rfl rfl HIX.out ?_)
        go_roundw
        case rel => exact ⟨j + 1, p, n, c, by go_num, rfl, ⟨by omega, by rw [HE.out]; exact HOL.out, HBL.out, HSZ.out⟩⟩
        case measure => simp [intOf]; omega
      · have HE : Hid (toldL s.T (j + 1) = toldL s.T j ++ [(j : Int)]) := show _ = _ by simp [toldL, hT]
        have HIX : Hid (∀ w, (Instr.index 65 (.agg (toldA s.T)) (.int .i64 j)).run Try.prog w = .ok (.bool true) w) := fun w => by rw [told_index s.T j hlt w, hT]
        have HLL : Hid ((toldL s.T j).length < 65536) := show _ < _ by rw [toldL_len]; have := cnt_le s.T j; omega
        clear hT hj
        go_wp2_with first
          | (refine wpList_index_as rfl 65 (.tmp 14) (.tmp 15) rfl _ _ (.bool true) rfl rfl HIX.out ?_)
          | (refine wpList_push rfl (.tmp 20) (.tmp 22) rfl w.heap.size (.slice p n c) (toldL s.T j) rfl (HOL.out.alloc _) wr.heap.size j rfl (one_new _ _ _) HLL.out (by rw [World.size_alloc]; exact Nat.le_succ_of_le HSZ.out) ?_; intro v' w2 hol2 hbel2; obtain ⟨p', c', rfl, -⟩ := hol2.slice; have HO2 : Hid (OL w2 w.heap.size (.slice p' ((toldL s.T j).length + 1) c') (toldL s.T j ++ [(j : Int)])) := (by rw [List.length_append] at hol2; exact hol2); have HB2 : Hid _ := hbel2; clear hol2 hbel2)
        go_roundw
        case rel =>
          have hb3 : Below w.heap.size w w2 := (HBL.out.alloc HSZ.out _).trans HB2.out
          exact ⟨j + 1, p', _, c', by go_num, rfl, ⟨by omega, by rw [HE.out]; exact HO2.out, hb3, hb3.size⟩⟩
        case measure => simp [intOf]; omega
    · have hjn : j = 256 := by omega
      subst hjn
      have hP' : PM wr X s := HP.out.below HBL.out HP.out.lt
      have hte := hP'.te
      have hfr := hP'.fr
      have HP' : Hid (PM wr X s) := hP'
      have HCP : ClrPre wr X 66048 256 := ⟨fun j hj => by rw [hP'.to j hj]; rfl, fun j _ => hP'.fr _⟩
      have HX : Hid (X < w.heap.size) := HP.out.lt
      have te2 : Hid ((wr.setCells X 66048 noTold).cell? ⟨X, 66304, none⟩ = some (.int .i64 (cnt s.T 256))) := show _ = _ by
        rw [World.cell?_setCells_out X _ 66048 wr ⟨X, 66304, none⟩ (fun _ _ => by rw [noTold_len]; exact .inr (by show 66048 + 256 ≤ 66304; omega))]; exact hte
      have fr2 : Hid ((wr.setCells X 66048 noTold).frozen? ⟨X, 66304, none⟩ = false) := show _ = _ by rw [World.frozen?_setCells]; exact hfr _
      clear hP' hfr hte hj
      go_wp2_with (refine wpList_clear rfl rfl (.tmp 28) 40 rfl 4 (.bool false) Try.underlying40 Try.zeroValue4 bfalse_cells bfalse_one X 66048 256 256 pos256 rfl HCP noTold noTold_eq ?_; intro w2 hw2; have te3 := te2.out; have fr3 := fr2.out; rw [← hw2] at te3 fr3; have HW2 : Hid (w2 = wr.setCells X 66048 noTold) := hw2; clear hw2)
      go_ret
      have ho : Only X wr (w2.setCell ⟨X, 66304, none⟩ (.int .i64 0)) := by rw [HW2.out]; exact (Only.setCells _ _ _ (Only.refl _ _)).setCell _ _
      have hq : PM (w2.setCell ⟨X, 66304, none⟩ (.int .i64 0)) X (chS s) := by rw [HW2.out]; exact HP'.out.clear
      refine ⟨_, rfl, OL.below (w := wr) HOL.out fun g hg _ => ho.block g (by have := HX.out; omega), hq, ?_⟩
      exact (Chg.of_below [X] HBL.out).trans (Chg.of_only ho)

/-- Behind j pages: the first are told no longer. -/
def chJ (s : MS) (j : Nat) : MS := { s with T := fun p => if p < j then false else s.T p }
theorem chJ_zero (s : MS) : chJ s 0 = s := by simp [chJ]
theorem chJ_no (s : MS) (j : Nat) (h : s.T j = false) : chJ s (j + 1) = chJ s j := by
  have : (fun p => if p < j + 1 then false else s.T p) = fun p => if p < j then false else s.T p := by
    funext p
    by_cases e : p = j
    · subst e; simp [h]
    · by_cases h1 : p < j
      · rw [if_pos h1, if_pos (by omega)]
      · rw [if_neg h1, if_neg (by omega)]
  simp only [chJ, this]
theorem chJ_next (s : MS) (j : Nat) : ({ chJ s j with T := upd (chJ s j).T j false } : MS) = chJ s (j + 1) := by
  have : upd (chJ s j).T j false = fun p => if p < j + 1 then false else s.T p := by
    funext p
    simp only [upd, chJ]
    by_cases e : p = j
    · subst e; simp
    · rw [if_neg e]
      by_cases h1 : p < j
      · rw [if_pos h1, if_pos (by omega)]
      · rw [if_neg h1, if_neg (by omega)]
  simp only [chJ] at this ⊢
  rw [this]
theorem RM.congr {w : World} {k : RB} {s s' : MS} (h : RM w k s) (hB : ∀ i, i < 65536 → s'.B i = s.B i) (hR : ∀ i, i < 256 → s'.R i = s.R i) (hM : ∀ i, i < 256 → s'.M i = s.M i) (hT : ∀ i, i < 256 → s'.T i = s.T i) : RM w k s' :=
  { h with by_ := fun i hi => by rw [hB i hi]; exact h.by_ i hi, ri := fun i hi => by rw [hR i hi]; exact h.ri i hi, wa := fun i hi => by rw [hM i hi]; exact h.wa i hi, to := fun i hi => by rw [hT i hi]; exact h.to i hi }

theorem Chg.old {S : List Nat} {w w1 w2 : World} (h : Chg S w w1) (hb : Below w.heap.size w1 w2) : Chg S w w2 :=
  ⟨hb.os.trans h.os, hb.tape.trans h.tape, hb.output.trans h.output, Nat.le_trans h.size hb.size, fun k hk hs => (hb.block k hk).trans (h.block k hk hs)⟩
theorem rm_old {w w1 w2 : World} {k : RB} {s s' : MS} (h : RM w k s) (h1 : RM w1 k s') (hb : Below w.heap.size w1 w2) : RM w2 k s' :=
  h1.of_blocks fun x hx => hb.block x (h.lt x hx)

structure RcRel (s : MS) (k : RB) (base : Nat) (w : World) (j : Nat) (v : Value) (wr : World) : Prop where
  le : j ≤ 256
  ol : OL wr base v (toldL s.T j)
  rm : RM wr k (chJ s j)
  chg : Chg k.all w wr

set_option maxHeartbeats 1000000 in
theorem rchanged_any (k : RB) (s : MS) (w : World) (h : RM w k s) :
    Calls Try.prog 44 #[.pointer (some ⟨k.y, 0, none⟩)] w fun e w' => ∃ v, e = .returned v ∧ OL w' w.heap.size v (toldL s.T 256) ∧ RM w' k (chS s) ∧ Chg k.all w w' := by
  have d3 := h.c3
  have HP : Hid (RM w k s) := h
  clear h
  go_enter Try.func44, Try.ntmps44
  go_wp2
  go_loopw [3, 10] (fun vv i wr => ∃ (j : Nat) (p : Option Addr) (n c : Nat), i = .int .i64 j ∧ vv = .slice p n c ∧ RcRel s k w.heap.size w j (.slice p n c) wr) (fun _ i _ => 256 - (intOf i).toNat)
  case atStart => exact ⟨0, _, _, _, rfl, rfl, ⟨by omega, World.ownsRow_nil _ _ _ _, by rw [chJ_zero]; exact HP.out, Chg.refl _ _⟩⟩
  case round =>
    obtain ⟨j, p, n, c, rfl, rfl, hj, hol, hrm, hchg⟩ := hrel
    have HOL : Hid (OL wr w.heap.size (.slice p n c) (toldL s.T j)) := hol
    have HRM : Hid (RM wr k (chJ s j)) := hrm
    have HCH : Hid (Chg k.all w wr) := hchg
    have HSZ : Hid (w.heap.size ≤ wr.heap.size) := hchg.size
    by_cases hlt : j < 256
    · have hji : (j : Int) < 256 := by omega
      have hj0 : (0 : Int) ≤ j := by omega
      have e3 := hrm.c3
      have et := hrm.to j hlt
      have etT : (chJ s j).T j = s.T j := by simp [chJ]
      rw [etT] at et
      clear hol hchg hrm etT
      cases hT : s.T j
      · rw [hT] at et
        have HE : Hid (toldL s.T (j + 1) = toldL s.T j ∧ chJ s (j + 1) = chJ s j) := ⟨by simp [toldL, hT], chJ_no s j hT⟩
        clear hT hj
        go_wp2
        go_roundw
        case rel => exact ⟨j + 1, p, n, c, by go_num, rfl, ⟨by omega, by rw [HE.out.1]; exact HOL.out, by rw [HE.out.2]; exact HRM.out, HCH.out⟩⟩
        case measure => simp [intOf]; omega
      · rw [hT] at et
        have HE : Hid (toldL s.T (j + 1) = toldL s.T j ++ [(j : Int)]) := show _ = _ by simp [toldL, hT]
        have HLL : Hid ((toldL s.T j).length < 65536) := show _ < _ by rw [toldL_len]; have := cnt_le s.T j; omega
        clear hT hj
        go_wp2_with (refine wpList_push rfl (.tmp 20) (.tmp 22) rfl w.heap.size (.slice p n c) (toldL s.T j) rfl (OL.alloc (w := wr) HOL.out _) wr.heap.size j rfl (one_new _ _ _) HLL.out (by rw [World.size_alloc]; exact Nat.le_succ_of_le HSZ.out) ?_; intro v' w2 hol2 hbel2; obtain ⟨p', c', rfl, -⟩ := hol2.slice; have HO2 : Hid (OL w2 w.heap.size (.slice p' ((toldL s.T j).length + 1) c') (toldL s.T j ++ [(j : Int)])) := (by rw [List.length_append] at hol2; exact hol2); have hrm2 : RM w2 k (chJ s j) := rm_old HP.out (HRM.out.alloc _) hbel2; have e32 := hrm2.c3; have et2 := hrm2.to j (by omega); have ef2 := hrm2.ft j; have HRM2 : Hid (RM w2 k (chJ s j)) := hrm2; have HB2 : Hid _ := hbel2; clear hol2 hbel2 hrm2)
        go_roundw
        case rel =>
          have hold : Chg k.all w w2 := (HCH.out.trans (Chg.of_below _ ((Below.refl wr.heap.size wr).alloc (Nat.le_refl _) _))).old HB2.out
          refine ⟨j + 1, p', _, c', by go_num, rfl, ⟨by omega, ?_, ?_, hold.setIn (by simp [RB.all])⟩⟩
          · rw [HE.out]
            refine OL.below (w := w2) HO2.out fun g hg _ => Below.heap_setCell _ _ _ _ ?_
            have := HP.out.ltt
            show g ≠ k.t
            omega
          · rw [← chJ_next]; exact HRM2.out.setTold j hlt false
        case measure => simp [intOf]; omega
    · have hjn : j = 256 := by omega
      subst hjn
      clear hol hchg hrm hj
      go_wp2
      go_ret
      exact ⟨_, rfl, HOL.out, HRM.out.congr (fun _ _ => rfl) (fun _ _ => rfl) (fun _ _ => rfl) (fun i hi => by simp [chS, chJ, hi]), HCH.out⟩

end Go.Proofs.Ytkhaajbhgenicaa
