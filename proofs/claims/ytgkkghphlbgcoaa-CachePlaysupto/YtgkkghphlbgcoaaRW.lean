import Derived.Test.YtgkkghphlbgcoaaRU
import Derived.Test.YtgkkghphlbgcoaaLM
import Derived.Deep.AppendLies
import Derived.Deep.RegionHeld3
import Derived.OrdersHeld
namespace Go.Proofs.Ytgkkghphlbgcoaa.Ca
open Go.RowKit Go.Maps Ho
set_option maxRecDepth 100000
set_option linter.unusedVariables false
set_option linter.unusedSimpArgs false
theorem infoI : (Try.prog.info? 3).map (fun i => (i.zero, i.size, i.bytes)) = some (some (.int .i64 0), 1, 8) := by kernel_rfl
theorem infoBk : (Try.prog.info? 100).map (fun i => (i.zero, i.size, i.bytes)) = some (some (.agg #[.int .u32 0, .slice none 0 0, .slice none 0 0, .int .i64 0, .slice none 0 0, .slice none 0 0]), 6, 112) := by kernel_rfl
theorem copy_u (a : Option Addr) (n cap : Nat) (xs : List Value) (W : World) (hs : n = 0 ∧ (a = none ∨ ∃ ad, a = some ad) ∨ ∃ ad, a = some ad ∧ ∀ j u, xs[j]? = some u → W.cell? (ad.add j) = some u) (hl : xs.length = n) (h1 : ∀ u ∈ xs, u.oneCell' = true) (hn : n ≤ 1048576) :
    ∃ v' W', (Builtin.append_ #[32, 32] 32 #[.slice none 0 0, .slice a n cap]).run Try.prog W = .ok v' W' ∧ W'.ownsRow W.heap.size 30 1 v' n xs ∧ Below W.heap.size W W' := by
  obtain ⟨i0, hi, hz0, hz1, hz2⟩ := info_parts infoU
  have key : ∀ ad, a = some ad → (∀ j u, xs[j]? = some u → W.cell? (ad.add j) = some u) → ∃ v' W', (Builtin.append_ #[32, 32] 32 #[.slice none 0 0, .slice a n cap]).run Try.prog W = .ok v' W' ∧ W'.ownsRow W.heap.size 30 1 v' n xs ∧ Below W.heap.size W W' := by
    rintro ad rfl hx
    obtain ⟨v', W', hr, h2, h3, _, h5⟩ := run_append_own_at (P := Try.prog) W W.heap.size 32 32 30 i0 (.int .u32 0) 1 4 Try.underlying32 hi hz0 hz1 hz2 rfl (by decide) (.slice none 0 0) 0 [] (World.ownsRow_nil _ _ _ _) ad n cap xs (by omega) hx h1 (by rw [show maxLen = 9223372036854775807 by decide]; omega) (by omega) (Nat.le_refl _)
    refine ⟨v', W', hr, by simpa using h2, ⟨h3.os, h3.tape, h3.output, h3.size, fun k hk => h3.block k hk (by simp [Value.ownBlock])⟩⟩
  rcases hs with ⟨rfl, rfl | ⟨ad, rfl⟩⟩ | ⟨ad, e, hx⟩
  · obtain rfl : xs = [] := List.length_eq_zero_iff.1 hl
    exact ⟨.slice none 0 0, W, rfl, World.ownsRow_nil _ _ _ _, Below.refl _ _⟩
  · obtain rfl : xs = [] := List.length_eq_zero_iff.1 hl
    exact key ad rfl (by simp)
  · exact key ad e hx
theorem copy_i (a : Option Addr) (n cap : Nat) (xs : List Value) (W : World) (hs : n = 0 ∧ (a = none ∨ ∃ ad, a = some ad) ∨ ∃ ad, a = some ad ∧ ∀ j u, xs[j]? = some u → W.cell? (ad.add j) = some u) (hl : xs.length = n) (h1 : ∀ u ∈ xs, u.oneCell' = true) (hn : n ≤ 1048576) :
    ∃ v' W', (Builtin.append_ #[31, 31] 31 #[.slice none 0 0, .slice a n cap]).run Try.prog W = .ok v' W' ∧ W'.ownsRow W.heap.size 3 1 v' n xs ∧ Below W.heap.size W W' := by
  obtain ⟨i0, hi, hz0, hz1, hz2⟩ := info_parts infoI
  have key : ∀ ad, a = some ad → (∀ j u, xs[j]? = some u → W.cell? (ad.add j) = some u) → ∃ v' W', (Builtin.append_ #[31, 31] 31 #[.slice none 0 0, .slice a n cap]).run Try.prog W = .ok v' W' ∧ W'.ownsRow W.heap.size 3 1 v' n xs ∧ Below W.heap.size W W' := by
    rintro ad rfl hx
    obtain ⟨v', W', hr, h2, h3, _, h5⟩ := run_append_own_at (P := Try.prog) W W.heap.size 31 31 3 i0 (.int .i64 0) 1 8 Try.underlying31 hi hz0 hz1 hz2 rfl (by decide) (.slice none 0 0) 0 [] (World.ownsRow_nil _ _ _ _) ad n cap xs (by omega) hx h1 (by rw [show maxLen = 9223372036854775807 by decide]; omega) (by omega) (Nat.le_refl _)
    refine ⟨v', W', hr, by simpa using h2, ⟨h3.os, h3.tape, h3.output, h3.size, fun k hk => h3.block k hk (by simp [Value.ownBlock])⟩⟩
  rcases hs with ⟨rfl, rfl | ⟨ad, rfl⟩⟩ | ⟨ad, e, hx⟩
  · obtain rfl : xs = [] := List.length_eq_zero_iff.1 hl
    exact ⟨.slice none 0 0, W, rfl, World.ownsRow_nil _ _ _ _, Below.refl _ _⟩
  · obtain rfl : xs = [] := List.length_eq_zero_iff.1 hl
    exact key ad rfl (by simp)
  · exact key ad e hx

/-- append at a step of a region that draws, by its run. -/
theorem step_app {P : Program} {w : World} {ops : Array Oper} {o : Oper} {a : Act} {K : Act → World → Prop} {Q : Exit → Act → World → Prop} {E : Prop} (hgd : o.guard = none) (s x : Operand) (t ty : TypeId)
    (ho : o.op = .call { callee := .builtin .append, args := #[s, x], argTypes := #[t, t] }) (hty : o.type = ty) (v y : Value) (hs : a.eval s = v) (hx : a.eval x = y) (R : Value → World → Prop)
    (hr : ∃ v' w', (Builtin.append_ #[t, t] ty #[v, y]).run P w = .ok v' w' ∧ R v' w') (h : ∀ v' w', R v' w' → K (a.put o.dst v') w') :
    if Region.wanted o (yielded ops a.tmps) = true then Oper.wp P o a w K Q else E := by
  have hw : Region.wanted o (yielded ops a.tmps) = true := by simp [Region.wanted, hgd]
  rw [if_pos hw]
  obtain ⟨v', w', hr, h2⟩ := hr
  subst hty
  unfold Oper.wp execOp
  simp only [ho, resolve, invoke, builtin, Sem.run_bind, Sem.run_pure, Result.andThen_ok, List.map_toArray, List.map_cons, List.map_nil, hs, hx, hr]
  exact h v' w' h2
end Go.Proofs.Ytgkkghphlbgcoaa.Ca
namespace Go.Proofs.Ytgkkghphlbgcoaa.Ca
open Go.RowKit Go.Maps Ho
set_option maxRecDepth 100000
set_option linter.unusedVariables false
set_option linter.unusedSimpArgs false
theorem add_off (b off j : Nat) : (⟨b, off, none⟩ : Addr).add j = ⟨b, off + j, none⟩ := by unfold Addr.add; split <;> simp_all
theorem row_base {w : World} {b b' e sz n : Nat} {v : Value} {xs : List Value} (h : w.ownsRow b e sz v n xs) (hb : b' ≤ b) : w.ownsRow b' e sz v n xs := by
  refine ⟨h.1, ?_⟩
  rcases h.2 with h1 | ⟨g, cap, cur, rfl, h2, r⟩
  · exact .inl h1
  · exact .inr ⟨g, cap, cur, rfl, Nat.le_trans hb h2, r⟩
theorem pL_len (pg : Nat → Int) (n : Nat) : (pL pg n).length = n := by simp [pL]
theorem pL_get (pg : Nat → Int) (n i : Nat) (h : i < n) : (pL pg n)[i]? = some (.int .i64 (pg i)) := by simp [pL, h]
theorem pL_one (pg : Nat → Int) (n : Nat) : ∀ u ∈ pL pg n, u.oneCell' = true := by
  intro u hu
  simp only [pL, List.mem_map] at hu
  obtain ⟨_, _, rfl⟩ := hu
  rfl
theorem src_u {W : World} {a : Option Addr} {len cap : Nat} {cw : Nat → Nat} (h : Ho.Wds W a len cap cw) (hlen : len ≤ 1048576) : ∃ v' W', (Builtin.append_ #[32, 32] 32 #[.slice none 0 0, .slice a len cap]).run Try.prog W = .ok v' W' ∧ W'.ownsRow W.heap.size 30 1 v' len (wL cw len) ∧ Below W.heap.size W W' := by
  refine copy_u a len cap (wL cw len) W ?_ (wL_len _ _) (wL_one _ _) hlen
  rcases h with h | ⟨b, off, rfl, _, _, h3⟩
  · exact .inl ⟨h, by cases a with | none => exact .inl rfl | some x => exact .inr ⟨x, rfl⟩⟩
  · refine .inr ⟨_, rfl, fun j u hj => ?_⟩
    have hjl : j < len := by have := (List.getElem?_eq_some_iff.1 hj).1; rwa [wL_len] at this
    rw [wL_get _ _ _ hjl] at hj
    cases hj
    rw [add_off]
    exact h3.cell j hjl
theorem src_i {W : World} {a : Option Addr} {n cap : Nat} {pg : Nat → Int} (h : Pg W a n pg) (hn : n ≤ 1048576) : ∃ v' W', (Builtin.append_ #[31, 31] 31 #[.slice none 0 0, .slice a n cap]).run Try.prog W = .ok v' W' ∧ W'.ownsRow W.heap.size 3 1 v' n (pL pg n) ∧ Below W.heap.size W W' := by
  refine copy_i a n cap (pL pg n) W ?_ (pL_len _ _) (pL_one _ _) hn
  rcases h with h | ⟨b, off, rfl, h3, _, _⟩
  · exact .inl ⟨h, by cases a with | none => exact .inl rfl | some x => exact .inr ⟨x, rfl⟩⟩
  · refine .inr ⟨_, rfl, fun j u hj => ?_⟩
    have hjl : j < n := by have := (List.getElem?_eq_some_iff.1 hj).1; rwa [pL_len] at this
    rw [pL_get _ _ _ hjl] at hj
    cases hj
    rw [add_off]
    exact h3 j hjl
theorem pg_ch {p : Nat → Prop} {w w' : World} {a : Option Addr} {n : Nat} {pg : Nat → Int} (h : Pg w a n pg) (hc : Ch p w w') (hp : 0 < n → ∀ g off, a = some ⟨g, off, none⟩ → ¬ p g) : Pg w' a n pg := by
  by_cases h0 : n = 0
  · exact .inl h0
  rcases h with h | ⟨b, off, rfl, h1, h2, h3⟩
  · exact .inl h
  · have hb := hc.block b h2 (hp (by omega) b off rfl)
    exact .inr ⟨b, off, rfl, fun i hi => by rw [World.cell?_of_block (a := ⟨b, off + i, none⟩) hb]; exact h1 i hi, Nat.lt_of_lt_of_le h2 hc.size, h3⟩
theorem encK_app (bs : List Rk) (k : Rk) : encB (bs ++ [k]) = encB bs ++ encK k := by simp [encB]
theorem app_b (W : World) (B : Nat) (v : Value) (bs : List Rk) (k : Rk) (hcv : k.cv.oneCell' = true) (hpv : k.pv.oneCell' = true) (hlv : k.lv.oneCell' = true) (htv : k.tv.oneCell' = true) (hB : W.heap[B]? = some (.cells #[.int .u32 k.pc, k.cv, k.pv, .int .i64 k.at', k.lv, k.tv] 100)) (hrow : W.ownsRow 0 100 6 v bs.length (encB bs)) (hn : bs.length ≤ 1048576) :
    ∃ v' W', (Builtin.append_ #[59, 59] 59 #[v, .slice (some ⟨B, 0, none⟩) 1 1]).run Try.prog W = .ok v' W' ∧ W'.ownsRow 0 100 6 v' (bs.length + 1) (encB bs ++ encK k) ∧ W.grownBy W' v.ownBlock ∧ (v'.ownBlock = v.ownBlock ∨ v'.ownBlock = some W.heap.size) := by
  obtain ⟨i0, hi, hz0, hz1, hz2⟩ := info_parts infoBk
  obtain ⟨v', W', hr, h2, h3, _, h5⟩ := run_append_own_at (P := Try.prog) W 0 59 59 100 i0 _ 6 112 Try.underlying59 hi hz0 hz1 hz2 rfl (by decide) v bs.length (encB bs) hrow ⟨B, 0, none⟩ 1 1 (encK k) rfl (fun j u hu => World.news_of_block hB j u (by simpa [encK] using hu)) (by
    intro u hu
    simp only [encK, List.mem_cons, List.not_mem_nil, or_false] at hu
    rcases hu with rfl | rfl | rfl | rfl | rfl | rfl
    · rfl
    · exact hcv
    · exact hpv
    · rfl
    · exact hlv
    · exact htv) (by rw [show maxLen = 9223372036854775807 by decide]; omega) (by omega) (Nat.zero_le _)
  exact ⟨v', W', hr, h2, h3, h5⟩
theorem nodup_swap {P A L : List Nat} (h : (P ++ (A ++ L)).Nodup) (x : Nat) (hx : ∀ y ∈ P ++ L, y ≠ x) : (P ++ ([x] ++ L)).Nodup := by
  have h1 : (P ++ L).Nodup := h.sublist (List.Sublist.append (List.Sublist.refl P) (List.sublist_append_right A L))
  exact (List.perm_middle (a := x) (l₁ := P) (l₂ := L)).nodup_iff.2 (List.nodup_cons.2 ⟨fun hm => hx x hm rfl, h1⟩)
/-- The document's cache with one block more. -/
theorem Rw.ins {wc w6 wA w7 : World} {D : Nat} {J : Rd} {d : Rs} (h : Rw wc D J d) (k : Rk) (nv : Value) (fl : Nat) (hk : Rkw w6 k) (h5 : ∀ j, k.cv.ownBlock = some j ∨ k.pv.ownBlock = some j → wc.heap.size ≤ j) (hlv : k.lv = .slice none 0 0) (htv : k.tv = .slice none 0 0)
    (hb5 : Below wc.heap.size wc w6) (hbA : Below w6.heap.size w6 wA)
    (hnv : w7.ownsRow 0 100 6 nv (d.bs.length + 1) (encB d.bs ++ encK k)) (hg7 : wA.grownBy w7 J.bv.ownBlock) (ho7 : nv.ownBlock = J.bv.ownBlock ∨ nv.ownBlock = some wA.heap.size) (hfl : fl ≤ d.room) (hbl : d.bs.length + 1 ≤ 1048576) :
    Rw ((w7.setCell ⟨D, 2, none⟩ nv).setCell ⟨D, 1, none⟩ (.int .i64 fl)) D { J with bv := nv } { d with filled := fl, bs := d.bs ++ [k] } ∧ Ch (fun j => j ∈ wrB D J d.bs) wc ((w7.setCell ⟨D, 2, none⟩ nv).setCell ⟨D, 1, none⟩ (.int .i64 fl)) := by
  obtain ⟨n1, n2, n3, n4, n5⟩ := h.ne
  have s1 := hb5.size
  have s2 := hbA.size
  have lD := h.lt D (.inl (mem_wr.2 (.inl rfl)))
  have k7 : ∀ j, j < wc.heap.size → J.bv.ownBlock ≠ some j → w7.heap[j]? = wc.heap[j]? := fun j hj hne => (hg7.block j (by omega) (Ne.symm hne)).trans ((hbA.block j (by omega)).trans (hb5.block j hj))
  have k6 : ∀ j, wc.heap.size ≤ j → j < w6.heap.size → w7.heap[j]? = w6.heap[j]? := fun j h1 h2 => (hg7.block j (by omega) (fun e => by have := (h.row.lt j e.symm).2; omega)).trans (hbA.block j h2)
  have hF : ∀ j, j ≠ D → ((w7.setCell ⟨D, 2, none⟩ nv).setCell ⟨D, 1, none⟩ (.int .i64 fl)).heap[j]? = w7.heap[j]? := fun j hj => (So.blk_other hj _).trans (So.blk_other hj _)
  have hnD : ∀ j, nv.ownBlock = some j → j ≠ D ∧ j ≠ J.sb ∧ j ≠ J.hb := fun j hj => by
    have lS := h.lt J.sb (.inl (mem_wr.2 (.inr (.inl rfl))))
    have lH := h.lt J.hb (.inl (mem_wr.2 (.inr (.inr (.inl rfl)))))
    rcases ho7 with e | e
    · exact n4 j (e ▸ hj)
    · rw [e] at hj; cases hj; omega
  have bD : J.bv.ownBlock ≠ some D := fun e => (n4 D e).1 rfl
  have bS : J.bv.ownBlock ≠ some J.sb := fun e => (n4 _ e).2.1 rfl
  have bH : J.bv.ownBlock ≠ some J.hb := fun e => (n4 _ e).2.2 rfl
  have lS := h.lt J.sb (.inl (mem_wr.2 (.inr (.inl rfl))))
  have lH := h.lt J.hb (.inl (mem_wr.2 (.inr (.inr (.inl rfl)))))
  have hkv : k.lv.ownBlock = none ∧ k.tv.ownBlock = none := by rw [hlv, htv]; exact ⟨rfl, rfl⟩
  have ew : wrB D { J with bv := nv } (d.bs ++ [k]) = [D, J.sb, J.hb] ++ (nv.ownBlock.toList ++ d.bs.flatMap fun k => k.lv.ownBlock.toList ++ k.tv.ownBlock.toList) := by simp [wrB, hkv.1, hkv.2]
  have hold : ∀ j, nv.ownBlock ≠ some j → j ∈ wrB D { J with bv := nv } (d.bs ++ [k]) → j ∈ wrB D J d.bs := fun j hj hm => by
    rcases mem_wr.1 hm with e | e | e | e | ⟨q, hq, e⟩
    · exact mem_wr.2 (.inl e)
    · exact mem_wr.2 (.inr (.inl e))
    · exact mem_wr.2 (.inr (.inr (.inl e)))
    · exact absurd e hj
    · rcases List.mem_append.1 hq with hq | hq
      · exact mem_wr.2 (.inr (.inr (.inr (.inr ⟨q, hq, e⟩))))
      · obtain rfl : q = k := by simpa using hq
        rw [hkv.1, hkv.2] at e
        rcases e with e | e <;> cases e
  refine ⟨⟨So.blk_set (So.blk_set ((k7 D lD bD).trans h.c0) _) _, ?_, ?_, ?_, ?_, ?_, ?_, ⟨h.rm.1, h.rm.2.1, hfl, h.rm.2.2.2.1, h.rm.2.2.2.2.1, ?_⟩⟩, ?_⟩
  · show World.ownsRow _ 0 100 6 nv (d.bs ++ [k]).length (encB (d.bs ++ [k]))
    rw [encK_app, List.length_append]
    exact row_keep hnv fun j e => hF j (hnD j e).1
  · obtain ⟨A, a1, a2⟩ := h.sl
    exact ⟨A, (hF _ (Ne.symm n1)).trans ((k7 _ lS bS).trans a1), a2⟩
  · obtain ⟨A, a1, a2⟩ := h.hs
    exact ⟨A, (hF _ (Ne.symm n2)).trans ((k7 _ lH bH).trans a1), a2⟩
  · intro q hq
    rcases List.mem_append.1 hq with hq | hq
    · refine (h.kb q hq).keep fun j e => ?_
      have key : j < wc.heap.size ∧ j ≠ D ∧ J.bv.ownBlock ≠ some j := by
        rcases e with e | e | e | e
        · have hm := mem_rd.2 ⟨q, hq, .inl e⟩
          exact ⟨h.lt j (.inr hm), fun e2 => h.ap j hm (mem_wr.2 (.inl e2)), fun e2 => h.ap j hm (mem_wr.2 (.inr (.inr (.inr (.inl e2)))))⟩
        · have hm := mem_rd.2 ⟨q, hq, .inr e⟩
          exact ⟨h.lt j (.inr hm), fun e2 => h.ap j hm (mem_wr.2 (.inl e2)), fun e2 => h.ap j hm (mem_wr.2 (.inr (.inr (.inr (.inl e2)))))⟩
        · exact ⟨h.lt j (.inl (mem_wr.2 (.inr (.inr (.inr (.inr ⟨q, hq, .inl e⟩)))))), (n5 q hq j (.inl e)).1, (n5 q hq j (.inl e)).2.2.2⟩
        · exact ⟨h.lt j (.inl (mem_wr.2 (.inr (.inr (.inr (.inr ⟨q, hq, .inr e⟩)))))), (n5 q hq j (.inr e)).1, (n5 q hq j (.inr e)).2.2.2⟩
      exact (hF j key.2.1).trans (k7 j key.1 key.2.2)
    · obtain rfl : q = k := by simpa using hq
      refine hk.keep fun j e => ?_
      have hj : wc.heap.size ≤ j ∧ j < w6.heap.size := by
        rcases e with e | e | e | e
        · exact ⟨h5 j (.inl e), (hk.cv.lt j e).2⟩
        · exact ⟨h5 j (.inr e), (hk.pv.lt j e).2⟩
        · rw [hkv.1] at e; cases e
        · rw [hkv.2] at e; cases e
      exact (hF j (by omega)).trans (k6 j hj.1 hj.2)
  · show (wrB D { J with bv := nv } (d.bs ++ [k])).Nodup
    rw [ew]
    rcases ho7 with e | e
    · rw [e]; exact h.nd
    · rw [e]
      refine nodup_swap h.nd wA.heap.size fun y hy e2 => ?_
      have hy' : y ∈ wrB D J d.bs := by
        rcases List.mem_append.1 hy with hy | hy
        · exact List.mem_append.2 (.inl hy)
        · exact List.mem_append.2 (.inr (List.mem_append.2 (.inr hy)))
      have := h.lt y (.inl hy')
      omega
  · intro j hj hm
    have hj' : j < wc.heap.size ∧ j ∉ wrB D J d.bs ∨ wc.heap.size ≤ j ∧ j < w6.heap.size := by
      obtain ⟨q, hq, e⟩ := mem_rd.1 hj
      rcases List.mem_append.1 hq with hq | hq
      · have hm := mem_rd.2 ⟨q, hq, e⟩
        exact .inl ⟨h.lt j (.inr hm), h.ap j hm⟩
      · obtain rfl : q = k := by simpa using hq
        refine .inr ⟨h5 j e, ?_⟩
        rcases e with e | e
        · exact (hk.cv.lt j e).2
        · exact (hk.pv.lt j e).2
    by_cases e : nv.ownBlock = some j
    · rcases ho7 with e2 | e2
      · rw [e2] at e
        rcases hj' with ⟨_, h2⟩ | ⟨h1, _⟩
        · exact h2 (mem_wr.2 (.inr (.inr (.inr (.inl e)))))
        · have := (h.row.lt j e).2; omega
      · rw [e2] at e; cases e; omega
    · have hm' := hold j e hm
      rcases hj' with ⟨_, h2⟩ | ⟨h1, _⟩
      · exact h2 hm'
      · have := h.lt j (.inl hm'); omega
  · show (d.bs ++ [k]).length ≤ 1048576
    rw [List.length_append]; exact hbl
  · have hA : Ch (fun j => j ∈ wrB D J d.bs) wc wA := (Ch.of_below _ hb5).trans (Ch.of_below _ hbA)
    have h7 : Ch (fun j => j ∈ wrB D J d.bs) wc w7 := by
      refine hA.trans ⟨hg7.os, hg7.tape, hg7.output, hg7.size, fun j hj hp => hg7.block j hj (fun e => hp (mem_wr.2 (.inr (.inr (.inr (.inl e.symm))))))⟩
    exact (h7.set (mem_wr.2 (.inl rfl)) _ _).set (mem_wr.2 (.inl rfl)) _ _
end Go.Proofs.Ytgkkghphlbgcoaa.Ca
namespace Go.Proofs.Ytgkkghphlbgcoaa.Ca
open Go.RowKit Go.Maps Ho
set_option linter.unusedVariables false
/-- Every order of a region, S to be shown behind those operations alone of which T speaks. -/
def anyT (P : Program) (md : Region.Mode) (ops : Array Oper) (Q : Exit → Act → World → Prop) (S : World → Prop) (T : Nat → Prop) : Nat → Array Bool → Act → World → Prop
  | 0, listed, a, w => Region.ready md ops listed = [] ∧ Q .normal a w
  | fuel + 1, listed, a, w => (Region.ready md ops listed = [] → Q .normal a w) ∧
    ∀ i ∈ Region.ready md ops listed, wpOp P ops Q i (fun a' w' => (T i → S w') ∧ anyT P md ops Q S T fuel (listed.setIfInBounds i true) a' w') a w
variable {P : Program} {md : Region.Mode} {ops : Array Oper} {Q : Exit → Act → World → Prop} {S : World → Prop} {T : Nat → Prop}
theorem any_of_T : ∀ (fuel : Nat) (listed : Array Bool) (a : Act) (w : World), anyT P md ops Q S T fuel listed a w → wpAny P md ops Q fuel listed a w
  | 0, _, _, _, h => h
  | fuel + 1, _, _, _, h => ⟨h.1, fun i hi => wpOp_mono (fun a' w' h' => any_of_T fuel _ a' w' h'.2) (h.2 i hi)⟩
theorem anyT_first {i : Nat} {oi : Oper} {v : Value} (hi : ops[i]? = some oi) (hsel : ∀ (j : Nat) (o : Oper) cs b, ops[j]? = some o → o.op ≠ .select cs b)
    (hQ : ∀ c a w, Q (.panic c) (a.put oi.dst v) w → Q (.panic c) a w) (hT : ∀ j oj, ops[j]? = some oj → (∀ e ∈ oj.after, Region.binds md e = true → e.on ≠ i) → T j) (fuel : Nat) :
    ∀ (listed : Array Bool) (a : Act) (w : World),
      (∀ j oj, ops[j]? = some oj → j ≠ i → listed.getD j true = false → (∀ e ∈ oj.after, Region.binds md e = true → e.on ≠ i) → oi.apart ops oj = true) →
      i ∈ Region.ready md ops listed → YieldsIf P ops S oi v a → S w →
      anyT P md ops Q S T fuel (listed.setIfInBounds i true) (a.put oi.dst v) w → anyT P md ops Q S T (fuel + 1) listed a w := by
  induction fuel with
  | zero =>
    intro listed a w _ hr hy hS H
    refine ⟨fun h => (by rw [h] at hr; cases hr), fun j hj => ?_⟩
    by_cases hji : j = i
    · subst hji; exact hy.wpOp hi hS ⟨fun _ => hS, H⟩
    · have := ready_mono hj hji
      rw [H.1] at this
      cases this
  | succ fuel ih =>
    intro listed a w hfree hr hy hS H
    refine ⟨fun h => (by rw [h] at hr; cases hr), fun j hj => ?_⟩
    by_cases hji : j = i
    · subst hji; exact hy.wpOp hi hS ⟨fun _ => hS, H⟩
    · have h1 := H.2 j (ready_mono hj hji)
      obtain ⟨hjun, oj, hoj, hall⟩ := mem_ready.1 hj
      have hnot : ∀ e ∈ oj.after, Region.binds md e = true → e.on ≠ i := fun e he hb heq => by
        have h1 := hall e he hb
        have h0 := (mem_ready.1 hr).1
        rw [heq] at h1
        rcases Nat.lt_or_ge i listed.size with h' | h'
        · simp [h'] at h0 h1; rw [h0] at h1; cases h1
        · simp [Array.getElem?_eq_none h'] at h1
      have h2 := wpOp_putIf hoj (hfree j oj hoj hji hjun hnot) (fun cs b => hsel i oi cs b hi) (fun cs b => hsel j oj cs b hoj) hQ hy h1
      have hfree' : ∀ k ok, ops[k]? = some ok → k ≠ i → (listed.setIfInBounds j true).getD k true = false →
          (∀ e ∈ ok.after, Region.binds md e = true → e.on ≠ i) → oi.apart ops ok = true := fun k ok hk hki hun hno => by
        refine hfree k ok hk hki ?_ hno
        by_cases hjk : j = k
        · subst hjk; exact hjun
        · rw [getD_set_ne true hjk] at hun; exact hun
      refine wpOp_mono (fun a' w' h3 => ⟨h3.2.1, ih (listed.setIfInBounds j true) a' w' hfree' (ready_mono hr (Ne.symm hji)) h3.1 (h3.2.1 (hT j oj hoj hnot)) ?_⟩) h2
      rw [Array.setIfInBounds_comm _ _ hji]
      exact h3.2.2
/-- Does each operation but number t that may come ahead of number i speak? -/
def freeT (md : Region.Mode) (ops : Array Oper) (i t : Nat) : Bool := (List.range ops.size).all fun j => j != t || ((ops[j]?).map fun o => o.after.any fun e => Region.binds md e && e.on == i).getD false
theorem freeT_spec {i t : Nat} (h : freeT md ops i t = true) : ∀ j oj, ops[j]? = some oj → (∀ e ∈ oj.after, Region.binds md e = true → e.on ≠ i) → j ≠ t := by
  rintro j oj hj hno rfl
  have hlt : j < ops.size := (Array.getElem?_eq_some_iff.1 hj).1
  have := List.all_eq_true.1 h j (List.mem_range.2 hlt)
  simp only [bne_self_eq_false, Bool.false_or, hj, Option.map_some, Option.getD_some, Array.any_eq_true'] at this
  obtain ⟨e, he, h2⟩ := this
  simp only [Bool.and_eq_true, beq_iff_eq] at h2
  exact hno e he h2.1 h2.2
theorem anyT_take {t i : Nat} {oi : Oper} {v : Value} {fuel : Nat} {listed : Array Bool} {a : Act} {w : World} (hi : ops[i]? = some oi)
    (hs : Region.noSelect ops = true) (hf : Region.free md ops listed i = true) (hr : (Region.ready md ops listed).contains i = true) (hT : freeT md ops i t = true)
    (hQ : ∀ c a w, Q (.panic c) (a.put oi.dst v) w → Q (.panic c) a w) (hy : YieldsIf P ops S oi v a) (hS : S w)
    (h : anyT P md ops Q S (· ≠ t) fuel (listed.setIfInBounds i true) (a.put oi.dst v) w) : anyT P md ops Q S (· ≠ t) (fuel + 1) listed a w :=
  anyT_first hi (Region.noSelect_spec hs) hQ (freeT_spec hT) fuel listed a w (Region.free_spec hi hf) (by simpa using hr) hy hS h
/-- One that comes up alone. -/
theorem anyT_one {t i : Nat} {fuel : Nat} {listed : Array Bool} {a : Act} {w : World} (hr : Region.ready md ops listed = [i])
    (h : wpOp P ops Q i (fun a' w' => (i ≠ t → S w') ∧ anyT P md ops Q S (· ≠ t) fuel (listed.setIfInBounds i true) a' w') a w) : anyT P md ops Q S (· ≠ t) (fuel + 1) listed a w :=
  ⟨fun h0 => (by rw [hr] at h0; cases h0), fun j hj => (by rw [hr] at hj; obtain rfl := List.mem_singleton.1 hj; exact h)⟩
theorem anyT_done {t : Nat} {listed : Array Bool} {a : Act} {w : World} (hr : Region.ready md ops listed = []) (h : Q .normal a w) : ∀ fuel, anyT P md ops Q S (· ≠ t) fuel listed a w
  | 0 => ⟨hr, h⟩
  | _ + 1 => ⟨fun _ => h, by rw [hr]; simp⟩
/-- The same, at the operation. -/
theorem anyT_step {t i : Nat} {o : Oper} {fuel : Nat} {listed : Array Bool} {a : Act} {w : World} (hr : Region.ready md ops listed = [i]) (ho : ops[i]? = some o) (hg : o.guard = none)
    (h : ∀ K : Act → World → Prop, (∀ a' w', (i ≠ t → S w') → anyT P md ops Q S (· ≠ t) fuel (listed.setIfInBounds i true) a' w' → K a' w') → o.wp P a w K Q) : anyT P md ops Q S (· ≠ t) (fuel + 1) listed a w := by
  refine anyT_one hr ?_
  unfold wpOp
  have hw : Region.wanted o (yielded ops a.tmps) = true := by simp [Region.wanted, hg]
  simp only [ho, hw, if_true]
  exact .inl (h _ fun a' w' h1 h2 => ⟨h1, h2⟩)
theorem wp_app {o : Oper} {a : Act} {w : World} {K : Act → World → Prop} (s x : Operand) (t ty : TypeId)
    (ho : o.op = .call { callee := .builtin .append, args := #[s, x], argTypes := #[t, t] }) (hty : o.type = ty) (v y : Value) (hs : a.eval s = v) (hx : a.eval x = y) (R : Value → World → Prop)
    (hr : ∃ v' w', (Builtin.append_ #[t, t] ty #[v, y]).run P w = .ok v' w' ∧ R v' w') (h : ∀ v' w', R v' w' → K (a.put o.dst v') w') : o.wp P a w K Q := by
  obtain ⟨v', w', hr, h2⟩ := hr
  subst hty
  unfold Oper.wp execOp
  simp only [ho, resolve, invoke, builtin, Sem.run_bind, Sem.run_pure, Result.andThen_ok, List.map_toArray, List.map_cons, List.map_nil, hs, hx, hr]
  exact h v' w' h2
theorem region_T (t : Nat) {id : Nat} {a : Act} {w : World} (S : World → Prop) (hm : P.follows .mixedOrders = true)
    (h : anyT P .any ops Q S (· ≠ t) ops.size (Array.replicate ops.size false) a { w with drawn := w.drawn + 1 }) : (Code.region id ops true).wp P Q a w :=
  wp_region_any hm (any_of_T _ _ _ _ h)
end Go.Proofs.Ytgkkghphlbgcoaa.Ca
