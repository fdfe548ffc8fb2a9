import Derived.Test.YtgkkghphlbgcoaaIN
import Derived.Test.YtgkkghphlbgcoaaNW
import Derived.Test.YtgkkghphlbgcoaaKD
namespace Go.Proofs.Ytgkkghphlbgcoaa.Ca
open Go.RowKit Go.Maps Ho
set_option maxRecDepth 100000
set_option linter.unusedVariables false
set_option linter.unusedSimpArgs false
theorem has_keys {q : IntKind} {D : DataW Value} {l : List Int} {es : List (Lit × DataW Value)} (hD : D = .map es) (hl : es.map Prod.fst = l.map (Lit.int q)) (k : Int) : has D (.int q k) = true ↔ k ∈ l := by
  rw [hD, has_eq]
  have e : es.any (fun p => p.1.sameKey (.int q k)) = (es.map Prod.fst).any (fun p => p.sameKey (.int q k)) := by simp [List.any_map]; rfl
  rw [e, hl, List.any_map, List.any_eq_true]
  constructor
  · rintro ⟨x, hx, he⟩
    have := WideAt.sameKey_eq (a := .int q x) (b := .int q k) he
    injection this with _ e2
    exact e2 ▸ hx
  · intro hk
    exact ⟨k, hk, by simp [Lit.sameKey]⟩
/-- How many keys there are, at most. -/
theorem own_card {w : World} {K : TypeId} {b n : Nat} {D : DataW Value} (hK : Try.prog.underlying K = some (.int .u32)) (h : w.ownsMap Try.prog K RV b n D) :
    Maps.size D ≤ 4294967296 ∧ ∀ l : List Int, l.Nodup → (∀ x, x ∈ l ↔ has D (.int .u32 x) = true) → l.length = Maps.size D := by
  obtain ⟨l, es, hD, hl, hp, ho', hs⟩ := own_keys hK h
  have hn' : l.Nodup := hp.imp (fun h => by omega)
  refine ⟨?_, fun l' hn hl' => ?_⟩
  · rw [hs]
    by_cases h0 : l = []
    · rw [h0]; decide
    · have := rise_len l 0 4294967296 hp (fun x hx => by
        obtain ⟨es0, _, _, F, _, hD0⟩ := h
        have hx' : Lit.int .u32 x ∈ es.map Prod.fst := by rw [hl]; exact List.mem_map.2 ⟨x, hx, rfl⟩
        obtain ⟨p, hp1, hp2⟩ := List.mem_map.1 hx'
        rw [hD] at hD0
        injection hD0 with hD0
        rw [hD0] at hp1
        obtain ⟨v, hv⟩ := fit_keys F p (mem_sorted.1 hp1)
        obtain ⟨y, _, h2, hwf⟩ := keyOf_int_inv hK hv
        rw [hp2] at h2
        injection h2 with _ h2
        subst h2
        have e1 : IntKind.min .u32 = 0 := by decide
        have e2 : IntKind.max .u32 = 4294967295 := by decide
        simp [Lit.wf, e1, e2] at hwf
        omega) h0
      omega
  · rw [hs]
    exact ((List.perm_ext_iff_of_nodup hn hn').2 (fun k => (hl' k).trans (has_keys hD hl k))).length_eq
set_option maxHeartbeats 2000000 in
theorem clone_u (g n cap : Nat) (xs : List Value) (w : World) (hl : xs.length = n * 1) (hx : ∀ j u, xs[j]? = some u → w.cell? ⟨g, j, none⟩ = some u) (h1 : ∀ u ∈ xs, u.oneCell' = true) (hn : n ≤ 1048576) :
    Calls Try.prog 49 #[.slice (some ⟨g, 0, none⟩) n cap] w fun e w' => ∃ v, e = .returned v ∧ w'.ownsRow w.heap.size 30 1 v n xs ∧ Below w.heap.size w w' := by
  obtain ⟨i0, hi, hz0, hz1, hz2⟩ := info_parts infoU
  have hmade : (w.alloc (.cells #[] 30)).ownsRow w.heap.size 30 1 (.slice (some ⟨w.heap.size, 0, none⟩) 0 0) 0 [] := World.ownsRow_made w #[] 0 (Nat.le_refl _) (Nat.zero_le _) rfl
  have HM : Hid ((w.alloc (.cells #[] 30)).ownsRow w.heap.size 30 1 (.slice (some ⟨w.heap.size, 0, none⟩) 0 0) 0 []) := hmade
  have hnews : ∀ j u, xs[j]? = some u → (w.alloc (.cells #[] 30)).cell? ((⟨g, 0, none⟩ : Addr).add j) = some u := fun j u hj => by
    have h2 := hx j u hj
    have hg : g < w.heap.size := by
      rcases Nat.lt_or_ge g w.heap.size with h | h
      · exact h
      · simp [World.cell?, h] at h2
    rw [show (⟨g, 0, none⟩ : Addr).add j = ⟨g, j, none⟩ by unfold Addr.add; split <;> simp_all]
    exact (((Below.refl w.heap.size w).alloc (Nat.le_refl _) _).cell (p := ⟨g, j, none⟩) hg).trans h2
  have HN : Hid _ := hnews
  have HL : Hid _ := hl
  have H1 : Hid _ := h1
  have hnil : ∀ W : World, (binOp .eql 32 (.slice (some ⟨g, 0, none⟩) n cap) (.slice none 0 0)).run Try.prog W = .ok (.bool false) W := fun _ => rfl
  clear hmade hnews hl h1 hx
  go_enter Try.func49, Try.ntmps49
  go_wp2_with (at_builtin; refine wpList_append_own_at _ rfl _ _ 32 rfl w.heap.size 30 i0 (.int .u32 0) 1 4 Try.underlying32 hi hz0 hz1 hz2 rfl (by decide) _ _ _ rfl HM.out ⟨g, 0, none⟩ n cap xs rfl HL.out HN.out H1.out (by rw [show maxLen = 9223372036854775807 by decide]; omega) (by omega) (by simp) ?_; intro v' w1 hown hgrow hnil hat)
  go_ret
  refine ⟨v', rfl, by simpa using hown, ?_⟩
  exact ⟨hgrow.os, hgrow.tape, hgrow.output, by have := hgrow.size; simp at this; omega, fun k hk => (hgrow.block k (by simp; omega) (fun e => by cases e; exact absurd hk (Nat.lt_irrefl _))).trans (((Below.refl w.heap.size w).alloc (Nat.le_refl _) _).block k hk)⟩
set_option maxHeartbeats 2000000 in
theorem clone_t (g n cap : Nat) (xs : List Value) (w : World) (hl : xs.length = n * 2) (hx : ∀ j u, xs[j]? = some u → w.cell? ⟨g, j, none⟩ = some u) (h1 : ∀ u ∈ xs, u.oneCell' = true) (hn : n ≤ 1048576) :
    Calls Try.prog 52 #[.slice (some ⟨g, 0, none⟩) n cap] w fun e w' => ∃ v, e = .returned v ∧ w'.ownsRow w.heap.size 56 2 v n xs ∧ Below w.heap.size w w' := by
  obtain ⟨i0, hi, hz0, hz1, hz2⟩ := info_parts infoT
  have hmade : (w.alloc (.cells #[] 56)).ownsRow w.heap.size 56 2 (.slice (some ⟨w.heap.size, 0, none⟩) 0 0) 0 [] := World.ownsRow_made w #[] 0 (Nat.le_refl _) (Nat.zero_le _) rfl
  have HM : Hid ((w.alloc (.cells #[] 56)).ownsRow w.heap.size 56 2 (.slice (some ⟨w.heap.size, 0, none⟩) 0 0) 0 []) := hmade
  have hnews : ∀ j u, xs[j]? = some u → (w.alloc (.cells #[] 56)).cell? ((⟨g, 0, none⟩ : Addr).add j) = some u := fun j u hj => by
    have h2 := hx j u hj
    have hg : g < w.heap.size := by
      rcases Nat.lt_or_ge g w.heap.size with h | h
      · exact h
      · simp [World.cell?, h] at h2
    rw [show (⟨g, 0, none⟩ : Addr).add j = ⟨g, j, none⟩ by unfold Addr.add; split <;> simp_all]
    exact (((Below.refl w.heap.size w).alloc (Nat.le_refl _) _).cell (p := ⟨g, j, none⟩) hg).trans h2
  have HN : Hid _ := hnews
  have HL : Hid _ := hl
  have H1 : Hid _ := h1
  have hnil : ∀ W : World, (binOp .eql 50 (.slice (some ⟨g, 0, none⟩) n cap) (.slice none 0 0)).run Try.prog W = .ok (.bool false) W := fun _ => rfl
  clear hmade hnews hl h1 hx
  go_enter Try.func52, Try.ntmps52
  go_wp2_with (at_builtin; refine wpList_append_own_at _ rfl _ _ 50 rfl w.heap.size 56 i0 (.agg #[.int .u32 0, .int .i64 0]) 2 16 Try.underlying50 hi hz0 hz1 hz2 rfl (by decide) _ _ _ rfl HM.out ⟨g, 0, none⟩ n cap xs rfl HL.out HN.out H1.out (by rw [show maxLen = 9223372036854775807 by decide]; omega) (by omega) (by simp) ?_; intro v' w1 hown hgrow hnil hat)
  go_ret
  refine ⟨v', rfl, by simpa using hown, ?_⟩
  exact ⟨hgrow.os, hgrow.tape, hgrow.output, by have := hgrow.size; simp at this; omega, fun k hk => (hgrow.block k (by simp; omega) (fun e => by cases e; exact absurd hk (Nat.lt_irrefl _))).trans (((Below.refl w.heap.size w).alloc (Nat.le_refl _) _).block k hk)⟩

set_option maxHeartbeats 2000000 in
theorem clone_nil (w : World) : Calls Try.prog 49 #[.slice none 0 0] w fun e w' => e = .returned (.slice none 0 0) ∧ w' = w := by
  have hnil : ∀ W : World, (binOp .eql 32 (.slice none 0 0) (.slice none 0 0)).run Try.prog W = .ok (.bool true) W := fun _ => rfl
  go_enter Try.func49, Try.ntmps49
  go_wp2
  go_ret
  exact ⟨rfl, rfl⟩
theorem words_any (C : Nat) (I : Ids) (c : Cs) (w : World) (h : Cw w C I c) :
    Calls Try.prog 28 #[.pointer (some ⟨C, 0, none⟩)] w fun e w' => ∃ v, e = .returned v ∧ w'.ownsRow w.heap.size 30 1 v c.fill (wL c.ws c.fill) ∧ Below w.heap.size w w' := by
  obtain ⟨_, c1, _, _, _⟩ := h.cell
  obtain ⟨_, rm1, rm2⟩ := h.rm
  rcases h.wb.row with ⟨e, h0⟩ | ⟨g, cap, cur, e, hg, h1, h2, h3, h4⟩
  · rw [e] at c1
    have H0 : Hid _ := h0
    clear h e h0
    go_enter Try.func28, Try.ntmps28
    go_wp2_with (go_at_call 49; refine Calls.mono (clone_nil _) ?_; rintro _ _ ⟨rfl, rfl⟩; dsimp only)
    go_ret
    exact ⟨_, rfl, by rw [H0.out]; exact World.ownsRow_nil _ _ _ _, Below.refl _ _⟩
  · rw [e] at c1
    have HX : Hid (∀ j u, (wL c.ws c.fill)[j]? = some u → w.cell? ⟨g, j, none⟩ = some u) := (fun j u hj => by
      have hjl : j < c.fill := by
        rcases Nat.lt_or_ge j c.fill with h | h
        · exact h
        · rw [List.getElem?_eq_none (by rw [wL_len]; exact h)] at hj; cases hj
      rw [wL_get _ _ _ hjl] at hj
      cases hj
      rw [So.row_cell hg]
      exact h4 j hjl)
    clear h e h4 hg
    go_enter Try.func28, Try.ntmps28
    go_wp2_with (go_at_call 49; refine Calls.mono (clone_u g c.fill cap (wL c.ws c.fill) _ (by rw [wL_len]; omega) HX.out (wL_one _ _) (by omega)) ?_; rintro _ w1 ⟨v, rfl, hr, hb⟩; dsimp only)
    go_ret
    exact ⟨v, rfl, hr, hb⟩
/-- The table, as cells. -/
def tL (tp : Nat → Nat) (ta : Nat → Int) (n : Nat) : List Value := (List.range n).flatMap fun k => [Value.int .u32 (tp k), .int .i64 (ta k)]
theorem tL_succ (tp : Nat → Nat) (ta : Nat → Int) (n : Nat) : tL tp ta (n + 1) = tL tp ta n ++ [Value.int .u32 (tp n), .int .i64 (ta n)] := by simp [tL, List.range_succ]
theorem tL_len (tp : Nat → Nat) (ta : Nat → Int) : ∀ n, (tL tp ta n).length = n * 2
  | 0 => rfl
  | n + 1 => by rw [tL_succ, List.length_append, tL_len tp ta n]; simp; omega
theorem tL_get (tp : Nat → Nat) (ta : Nat → Int) : ∀ n k, k < n → (tL tp ta n)[k * 2]? = some (.int .u32 (tp k)) ∧ (tL tp ta n)[k * 2 + 1]? = some (.int .i64 (ta k))
  | 0, k, h => by omega
  | n + 1, k, h => by
    rw [tL_succ]
    have hl := tL_len tp ta n
    by_cases e : k = n
    · subst e
      rw [List.getElem?_append_right (by omega), List.getElem?_append_right (by omega), hl]
      simp
    · have := tL_get tp ta n k (by omega)
      rw [List.getElem?_append_left (by omega), List.getElem?_append_left (by omega)]
      exact this
theorem table_any (C : Nat) (I : Ids) (c : Cs) (w : World) (h : Cw w C I c) :
    Calls Try.prog 30 #[.pointer (some ⟨C, 0, none⟩)] w fun e w' => ∃ v, e = .returned v ∧ w'.ownsRow w.heap.size 56 2 v c.slots (tL c.tp c.ta c.slots) ∧ Below w.heap.size w w' := by
  obtain ⟨_, _, c2, _, _⟩ := h.cell
  obtain ⟨s0, s1, s2⟩ := h.st
  obtain ⟨A, hA, hs, hc⟩ := h.tb.c
  have HX : Hid (∀ j u, (tL c.tp c.ta c.slots)[j]? = some u → w.cell? ⟨I.tb, j, none⟩ = some u) := (fun j u hj => by
    have hjl : j < c.slots * 2 := by
      rcases Nat.lt_or_ge j (c.slots * 2) with h | h
      · exact h
      · rw [List.getElem?_eq_none (by rw [tL_len]; exact h)] at hj; cases hj
    rw [So.row_cell hA]
    obtain ⟨k, rfl | rfl⟩ : ∃ k, j = k * 2 ∨ j = k * 2 + 1 := ⟨j / 2, by omega⟩
    · rw [(tL_get _ _ _ k (by omega)).1] at hj
      rw [← hj]; exact (hc k (by omega)).1
    · rw [(tL_get _ _ _ k (by omega)).2] at hj
      rw [← hj]; exact (hc k (by omega)).2)
  have HO : Hid (∀ u ∈ tL c.tp c.ta c.slots, u.oneCell' = true) := (fun u hu => by
    obtain ⟨k, _, hk⟩ := List.mem_flatMap.1 hu
    simp at hk
    rcases hk with rfl | rfl <;> rfl)
  clear h hA hs hc
  go_enter Try.func30, Try.ntmps30
  go_wp2_with (go_at_call 52; refine Calls.mono (clone_t I.tb c.slots I.tc (tL c.tp c.ta c.slots) _ (tL_len _ _ _) HX.out HO.out (by omega)) ?_; rintro _ w1 ⟨v, rfl, hr, hb⟩; dsimp only)
  go_ret
  exact ⟨v, rfl, hr, hb⟩
end Go.Proofs.Ytgkkghphlbgcoaa.Ca
