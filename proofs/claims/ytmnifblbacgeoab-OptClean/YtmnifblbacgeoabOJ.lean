import Derived.Test.YtmnifblbacgeoabOG
import Derived.Test.YtmnifblbacgeoabOH
import Derived.Test.YtmnifblbacgeoabOI
namespace Go.Proofs.Ytmnifblbacgeoab
open Go.RowKit
open Go.Maps
set_option maxRecDepth 100000
set_option linter.unusedVariables false
set_option linter.unusedSimpArgs false

/-! ## opt: what is reckoned -/
theorem fnd_app_other {l : List ON} {x o : ON} (h : x ≠ o) : fnd (l ++ [x]) o = fnd l o := by
  unfold fnd
  rw [List.findIdx?_append]
  have e : onEq x o = false := by
    cases hq : onEq x o
    · rfl
    · exact absurd ((onEq_iff x o).1 hq) h
  simp [List.findIdx?_cons, e]
theorem fnd_app_same {l : List ON} {o : ON} (h : fnd l o = none) : fnd (l ++ [o]) o = some l.length := by
  unfold fnd at *
  rw [List.findIdx?_append, h]
  have e : onEq o o = true := (onEq_iff o o).2 rfl
  simp [List.findIdx?_cons, e]
theorem fnd_some {l : List ON} {o : ON} {j : Nat} (h : fnd l o = some j) : j < l.length ∧ l.getD j onD = o := by
  unfold fnd at h
  rw [List.findIdx?_eq_some_iff_getElem] at h
  obtain ⟨h1, h2, -⟩ := h
  exact ⟨h1, by rw [List.getD_eq_getElem?_getD, List.getElem?_eq_getElem h1]; exact (onEq_iff _ _).1 h2⟩
theorem MapOk.other {D : DataW Unit} {l : List ON} (h : MapOk D l) {x : ON} (hx : isP x.kd = false) : MapOk D (l ++ [x]) := by
  have ne : ∀ o : ON, isP o.kd = true → x ≠ o := fun o ho e => by rw [e, ho] at hx; cases hx
  exact ⟨fun o h1 h2 => by rw [fnd_app_other (ne o h2)]; exact h.hs o h1 h2, fun o j h1 h2 h3 => h.at_ o j h1 h2 (by rwa [fnd_app_other (ne o h2)] at h3)⟩
theorem MapOk.put {D : DataW Unit} {l : List ON} (h : MapOk D l) (im : Maps.IsMap D) {x : ON} (hx : OnW x) (hn : fnd l x = none) : MapOk (D.put (klO x) (.lit (.int .i64 (l.length : Int)))) (l ++ [x]) := by
  have hk := key_law.key (key_on x hx)
  refine ⟨fun o h1 h2 => ?_, fun o j h1 h2 h3 => ?_⟩
  · by_cases e : x = o
    · subst e; rw [fnd_app_same hn, has_put_same im hk]; rfl
    · rw [fnd_app_other e, has_put_other (fun q => e (kl_inj hx h1 q.symm))]; exact h.hs o h1 h2
  · by_cases e : x = o
    · subst e; rw [fnd_app_same hn] at h3; cases h3; exact atKey_put_same im hk _ _
    · rw [fnd_app_other e] at h3; rw [atKey_put_other (fun q => e (kl_inj hx h1 q.symm))]; exact h.at_ o j h1 h2 h3
/-- What reckon answers, and leaves. -/
def cstO (k : Nat) : ON := ⟨1, 0, 0, 0, 0, k, 0⟩
def recO (s : SE) (o : ON) : ON := if ofC s.l o then cstO (vOf o (s.l.getD o.a onD).k (s.l.getD o.b onD).k (s.l.getD o.c onD).k) else o
def recS (s : SE) (o : ON) : SE × Option Nat :=
  if o.kd = 6 ∧ isC s.l o.a = true then (s, some (chO s.l o))
  else match fnd s.l (recO s o) with
    | some j => (s, some j)
    | none => ({ s with l := s.l ++ [recO s o] }, some s.l.length)
/-- What is asked of an operation that is reckoned. -/
structure RecOk (s : SE) (o : ON) : Prop where
  p : isP o.kd = true
  wf : OnW o
  tk : ∀ q, q < tkN o.kd → arg o q < s.l.length
  b0 : tkN o.kd < 2 → o.b = 0
  c0 : tkN o.kd < 3 → o.c = 0
  h4 : o.kd = 4 ∨ o.kd = 8 → o.w ≤ 15
  h5 : o.kd = 5 → o.w ≤ 6
  ks : ∀ i, (s.l.getD i onD).k < 4294967296
end Go.Proofs.Ytmnifblbacgeoab
namespace Go.Proofs.Ytmnifblbacgeoab
open Go.RowKit
open Go.Maps
set_option maxRecDepth 100000
set_option linter.unusedVariables false
set_option linter.unusedSimpArgs false

/-- The operation at hand becomes another. -/
abbrev bxSet (W : World) (B : Nat) (x : ON) : World := (((((((W.setCell ⟨B, 0, none⟩ (.int .i64 x.kd)).setCell ⟨B, 1, none⟩ (.int .i64 x.w)).setCell ⟨B, 2, none⟩ (.int .i64 x.a)).setCell ⟨B, 3, none⟩ (.int .i64 x.b)).setCell ⟨B, 4, none⟩ (.int .i64 x.c)).setCell ⟨B, 5, none⟩ (.int .u32 x.k)).setCell ⟨B, 6, none⟩ (.int .i64 x.n))
theorem bx_blk (W : World) (B : Nat) (x o : ON) (h : W.heap[B]? = some (.cells #[.int .i64 o.kd, .int .i64 o.w, .int .i64 o.a, .int .i64 o.b, .int .i64 o.c, .int .u32 o.k, .int .i64 o.n] 67)) : (bxSet W B x).heap[B]? = some (.cells #[.int .i64 x.kd, .int .i64 x.w, .int .i64 x.a, .int .i64 x.b, .int .i64 x.c, .int .u32 x.k, .int .i64 x.n] 67) := by
  have e0 := heap_setCell_same W B 0 _ _ (.int .i64 x.kd) h
  have e1 := heap_setCell_same _ B 1 _ _ (.int .i64 x.w) e0
  have e2 := heap_setCell_same _ B 2 _ _ (.int .i64 x.a) e1
  have e3 := heap_setCell_same _ B 3 _ _ (.int .i64 x.b) e2
  have e4 := heap_setCell_same _ B 4 _ _ (.int .i64 x.c) e3
  have e5 := heap_setCell_same _ B 5 _ _ (.int .u32 x.k) e4
  have e6 := heap_setCell_same _ B 6 _ _ (.int .i64 x.n) e5
  exact e6.trans (by simp [List.setIfInBounds_toArray])
theorem bx_other (W : World) (B : Nat) (x : ON) (i : Nat) (h : i ≠ B) : (bxSet W B x).heap[i]? = W.heap[i]? := by
  unfold bxSet
  rw [blk_other h, blk_other h, blk_other h, blk_other h, blk_other h, blk_other h, blk_other h]
theorem bx_size (W : World) (B : Nat) (x : ON) : (bxSet W B x).heap.size = W.heap.size := by simp [bxSet]
theorem SX.boxed {w W : World} {base X M : Nat} {s s0 : SE} {ml ml0 : List ON} {sv : Value} {o : ON} (h : SX w W base X M s ml sv sv o) (hS : SW w base X M s0 ml0 sv) (x : ON) : SX w (bxSet W w.heap.size x) base X M s ml sv sv x :=
  ⟨h.sw.keep (bx_other _ _ _ _ (by have := hS.xb.lt; omega)) (bx_other _ _ _ _ (by have := hS.ltM; omega)) (fun g hg => bx_other _ _ _ _ (by have := (hS.ow hg).2.2; omega)) (by rw [bx_size]; exact Nat.le_refl _), bx_blk _ _ _ _ h.bx,
   (((((((h.kz.setIn (.inr (Nat.le_refl _)) hS.bw _ _).setIn (.inr (Nat.le_refl _)) hS.bw _ _).setIn (.inr (Nat.le_refl _)) hS.bw _ _).setIn (.inr (Nat.le_refl _)) hS.bw _ _).setIn (.inr (Nat.le_refl _)) hS.bw _ _).setIn (.inr (Nat.le_refl _)) hS.bw _ _).setIn (.inr (Nat.le_refl _)) hS.bw _ _)⟩
theorem zero_int (w : World) : (zeroValue 3).run Try.prog w = .ok (.int .i64 0) w := by kernel_rfl
/-- From where the operation is looked up. -/
theorem look_yes {W : World} {base X M : Nat} {s : SE} {sv : Value} (h : SW W base X M s s.l sv) (o : ON) (hw : OnW o) (hp : isP o.kd = true) (j : Nat) (hj : fnd s.l o = some j) : Sem.run Try.prog (Instr.lookup 209 (.map (some M)) (.agg #[.int .i64 o.kd, .int .i64 o.w, .int .i64 o.a, .int .i64 o.b, .int .i64 o.c, .int .u32 o.k, .int .i64 o.n]) true) W.drew = .ok (.tuple #[.int .i64 j, .bool true]) W.drew := by
  obtain ⟨D, hD, hm⟩ := h.mp
  have hD' : W.drew.ownsMap Try.prog 67 (plainElem Try.prog 3) M s.l.length D := own_map_keep hD rfl
  obtain ⟨v, ps, hr, hv⟩ := hD'.look_ok key_law Try.underlying209 (zero_int _) (plainElem_int Try.underlying3 (by decide)) (key_on o hw)
  rw [hm.hs o hw hp, hj] at hr
  rw [hm.at_ o j hw hp hj] at hv
  obtain ⟨c, rfl, hc, -⟩ := plainElem_int_inv Try.underlying3 hv
  cases hc
  exact hr
theorem look_no {W : World} {base X M : Nat} {s : SE} {sv : Value} (h : SW W base X M s s.l sv) (o : ON) (hw : OnW o) (hp : isP o.kd = true) (hj : fnd s.l o = none) : ∃ c : Int, Sem.run Try.prog (Instr.lookup 209 (.map (some M)) (.agg #[.int .i64 o.kd, .int .i64 o.w, .int .i64 o.a, .int .i64 o.b, .int .i64 o.c, .int .u32 o.k, .int .i64 o.n]) true) W.drew = .ok (.tuple #[.int .i64 c, .bool false]) W.drew := by
  obtain ⟨D, hD, hm⟩ := h.mp
  have hD' : W.drew.ownsMap Try.prog 67 (plainElem Try.prog 3) M s.l.length D := own_map_keep hD rfl
  obtain ⟨v, ps, hr, hv⟩ := hD'.look_ok key_law Try.underlying209 (zero_int _) (plainElem_int Try.underlying3 (by decide)) (key_on o hw)
  rw [hm.hs o hw hp, hj] at hr
  obtain ⟨c, rfl, hc, -⟩ := plainElem_int_inv Try.underlying3 hv
  exact ⟨c, hr⟩
/-- Where it is laid, and kept in mind. -/
theorem store_yes {w W : World} {base X M : Nat} {s : SE} {sv0 sv : Value} (o : ON) (h : SX w W base X M { s with l := s.l ++ [o] } s.l sv0 sv o) (hw : OnW o) (hn : fnd s.l o = none) (hl : s.l.length < 100000) (hb : base ≤ w.heap.size) : ∃ w', Sem.run Try.prog (Instr.mapUpdate 209 (.map (some M)) (.agg #[.int .i64 o.kd, .int .i64 o.w, .int .i64 o.a, .int .i64 o.b, .int .i64 o.c, .int .u32 o.k, .int .i64 o.n]) (.int .i64 s.l.length)) W.drew = .ok () w' ∧ SW w' base X M { s with l := s.l ++ [o] } (s.l ++ [o]) sv ∧ Kz base X M sv0 w sv w' := by
  obtain ⟨D, hD, hm⟩ := h.sw.mp
  have hD' : W.drew.ownsMap Try.prog 67 (plainElem Try.prog 3) M s.l.length D := own_map_keep hD rfl
  have im := hD.isMap
  obtain ⟨w', hr, h1, h2⟩ := hD'.store key_law Try.underlying209 (by unfold maxLen; omega) (key_on o hw) (plainElem_int Try.underlying3 (wf_i s.l.length (by omega)))
  have hg := h2.grown
  have hX : w'.heap[X]? = W.heap[X]? := hg.block X h.sw.xb.lt (fun e => h.sw.neXM (Option.some.inj e))
  have hO : ∀ g, sv.ownBlock = some g → w'.heap[g]? = W.heap[g]? := fun g e => hg.block g (h.sw.ow e).2.2 (fun q => (h.sw.ow e).2.1 (Option.some.inj q))
  refine ⟨w', hr, ⟨h.sw.xb.of_block hX, owns_keep h.sw.o hO, ⟨_, by rw [List.length_append]; exact h1, hm.put im hw hn⟩, h.sw.bX, h.sw.bM, Nat.le_trans h.sw.bw hg.size⟩, h.kz.trans ⟨?_, fun i e1 e2 e3 e4 => hg.block i e1 (fun q => e3 (Option.some.inj q)), .inl rfl⟩⟩
  exact (Below.grown (Below.refl base W) (⟨hg.os, hg.tape, hg.output, hg.size, hg.block⟩ : W.grownBy w' (some M)) h.sw.bw (fun k hk => by cases hk; exact h.sw.bM))
end Go.Proofs.Ytmnifblbacgeoab
