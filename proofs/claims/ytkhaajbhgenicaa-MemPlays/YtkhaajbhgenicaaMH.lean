import Derived.Test.YtkhaajbhgenicaaMG
namespace Go.Proofs.Ytkhaajbhgenicaa
open Go.RowKit
set_option maxRecDepth 100000
set_option linter.unusedVariables false

theorem peek_no (X : Nat) (a n : Int) (w : World) (ha : -9223372036854775808 ≤ a ∧ a ≤ 9223372036854775807) (h : ¬ (0 ≤ a ∧ a ≤ 65536 ∧ 0 ≤ n ∧ n ≤ 65536 - a)) :
    Calls Try.prog 33 #[.pointer (some ⟨X, 0, none⟩), .int .i64 a, .int .i64 n] w fun e w' => e = .returned (.tuple #[.slice none 0 0, .int .i64 4]) ∧ w = w' := by
  have HA : Hid (-9223372036854775808 ≤ a ∧ a ≤ 9223372036854775807) := ha
  have HB : Hid (¬ (0 ≤ a ∧ a ≤ 65536 ∧ 0 ≤ n ∧ n ≤ 65536 - a)) := h
  clear ha h
  go_enter Try.func33, Try.ntmps33
  go_wp2_with (go_at_call 58; refine (lies_no _ _ _ HA.out HB.out).mono ?_; rintro e w' ⟨rfl, rfl⟩)
  go_ret2
  exact ⟨rfl, rfl⟩
theorem peek_yes (X at' n : Nat) (s : MS) (w : World) (hl : at' + n ≤ 65536) (h : PM w X s) :
    Calls Try.prog 33 #[.pointer (some ⟨X, 0, none⟩), .int .i64 at', .int .i64 n] w fun e w' => e = .returned (.tuple #[.slice (some ⟨w.heap.size, 0, none⟩) n n, .int .i64 0]) ∧ NR w' w.heap.size n (fun i => s.B (at' + i)) ∧ Below w.heap.size w w' ∧ w.heap.size < w'.heap.size := by
  have HP : Hid (PM w X s) := h
  have HL : Hid (at' + n ≤ 65536) := hl
  clear h hl
  go_enter Try.func33, Try.ntmps33
  go_wp2_with first
    | (go_at_call 58; refine (lies_yes _ _ _ HL.out).mono ?_; rintro e w' ⟨rfl, rfl⟩)
    | (go_at_call 60; refine (cut_any X at' n s _ HL.out HP.out).mono ?_; rintro e w' ⟨rfl, hN, hB, hS⟩)
  go_ret2
  exact ⟨rfl, hN, hB, hS⟩

theorem rpeek_no (k : RB) (a n : Int) (w : World) (ha : -9223372036854775808 ≤ a ∧ a ≤ 9223372036854775807) (h : ¬ (0 ≤ a ∧ a ≤ 65536 ∧ 0 ≤ n ∧ n ≤ 65536 - a)) :
    Calls Try.prog 34 #[.pointer (some ⟨k.y, 0, none⟩), .int .i64 a, .int .i64 n] w fun e w' => e = .returned (.tuple #[.slice none 0 0, .int .i64 4]) ∧ w = w' := by
  by_cases h0 : a < 0
  · have d0 : decide (a < 0) = true := decide_eq_true h0
    clear h ha
    go_enter Try.func34, Try.ntmps34; go_wp2; go_ret2; exact ⟨rfl, rfl⟩
  · have d0 : decide (a < 0) = false := decide_eq_false h0
    by_cases h1 : 65536 < a
    · have d1 : decide (65536 < a) = true := decide_eq_true h1
      clear h ha
      go_enter Try.func34, Try.ntmps34; go_wp2; go_ret2; exact ⟨rfl, rfl⟩
    · have d1 : decide (65536 < a) = false := decide_eq_false h1
      by_cases hn : n < 0
      · have d2 : decide (n < 0) = true := decide_eq_true hn
        clear h ha
        go_enter Try.func34, Try.ntmps34; go_wp2; go_ret2; exact ⟨rfl, rfl⟩
      · have d2 : decide (n < 0) = false := decide_eq_false hn
        have d3 : decide (65536 - a < n) = true := decide_eq_true (by omega)
        have h2 : 65536 - a < n := by omega
        have h3 : 0 ≤ a := by omega
        have h4 : a ≤ 65536 := by omega
        clear h ha h0 h1
        go_enter Try.func34, Try.ntmps34; go_wp2; go_ret2; exact ⟨rfl, rfl⟩

structure TwinPre (w : World) (ad : Addr) (m : Nat) (z : Nat → Int) : Prop where
  row : ∀ j u, (byteCs z m)[j]? = some u → w.cell? (ad.add j) = some u
  pos : 0 < m
  le : m ≤ 140737488355328

theorem twin_grown {w w1 : World} {g cap' m : Nat} {z : Nat → Int} (hown : w1.ownsRow w.heap.size 5 1 (.slice (some ⟨g, 0, none⟩) (0 + m) cap') (0 + m) ([] ++ byteCs z m)) (hgrow : w.grownBy w1 (Value.slice none 0 0).ownBlock)
    (hat : (Value.slice none 0 0).ownBlock = some g ∨ g = w.heap.size) : g = w.heap.size ∧ NR w1 w.heap.size m z ∧ Below w.heap.size w w1 ∧ m ≤ cap' ∧ cap' ≤ maxLen := by
  have hg : g = w.heap.size := by
    rcases hat with h | h
    · simp [Value.ownBlock] at h
    · exact h
  subst hg
  have hown' := hown
  have hbel : Below w.heap.size w w1 := (Below.refl _ _).grown hgrow (Nat.le_refl _) (fun k hk => by simp [Value.ownBlock] at hk)
  obtain ⟨hcap, hfz⟩ : (m ≤ cap' ∧ cap' ≤ maxLen) ∧ ∀ i, w1.frozen? ⟨w.heap.size, i, none⟩ = false := by
    rcases hown'.2 with ⟨h, -⟩ | ⟨g, c, cur, h, -, hcur, h1, h2, -⟩
    · cases h
    · simp only [Value.slice.injEq, Option.some.injEq, Addr.mk.injEq] at h
      obtain ⟨⟨rfl, -, -⟩, -, rfl⟩ := h
      exact ⟨⟨by omega, h2⟩, fun i => by simp only [World.frozen?, hcur]; simp⟩
  exact ⟨rfl, ⟨fun i hi => by
    rw [hown'.cellAt i (by simpa using hi)]
    simp only [List.nil_append]
    rw [List.getElem?_eq_getElem (by rw [byteCs_length]; exact hi), byteCs_get], hfz⟩, hbel, hcap⟩

theorem wpList_twin {w : World} {ops : Array Oper} {rest : List Oper} {o : Oper} {a : Act} {Q : Exit → Act → World → Prop} (hgd : o.guard = none) (s x : Operand)
    (ho : o.op = .call { callee := .builtin .append, args := #[s, x], argTypes := #[22, 22] }) (hs : a.eval s = .slice none 0 0) (ad : Addr) (m' m c : Nat) (hx : a.eval x = .slice (some ad) m' c) (hm : m' = m) (z : Nat → Int) (hp : TwinPre w ad m z) (H : Nat) (hH : w.heap.size = H)
    (h : ∀ cap w', NR w' H m z → Below H w w' → H < w'.heap.size → m ≤ cap → cap ≤ maxLen → wpList Try.prog ops Q rest (a.put o.dst (.slice (some ⟨H, 0, none⟩) m cap)) w') : wpList Try.prog ops Q (o :: rest) a w := by
  subst hH hm
  obtain ⟨i0, hi, hz0, hz1, hz2⟩ := info_parts info5
  refine wpList_append_lies _ hgd s x 22 ho w.heap.size 5 i0 (.int .u8 0) 1 1 Try.underlying22 hi hz0 hz1 hz2 rfl (by decide) (.slice none 0 0) 0 [] hs (World.ownsRow_nil _ _ _ _) ad m' c (byteCs z m') hx (by rw [byteCs_length]; omega) hp.row (byteCs_one _ _) hp.pos
    (by have := hp.le; unfold maxLen; omega) (by have := hp.le; omega) (Nat.le_refl _) w.heap.size rfl ?_
  intro g cap w1 hown hgrow hat hlt
  obtain ⟨rfl, hN, hB, hc, hc2⟩ := twin_grown hown hgrow hat
  have := h cap w1 hN hB hlt hc hc2
  rw [Nat.zero_add]
  exact this

set_option maxHeartbeats 400000 in
theorem rpeek_yes (k : RB) (at' n : Nat) (s : MS) (w : World) (hl : at' + n ≤ 65536) (h : RM w k s) :
    Calls Try.prog 34 #[.pointer (some ⟨k.y, 0, none⟩), .int .i64 at', .int .i64 n] w fun e w' => ∃ p c, e = .returned (.tuple #[.slice p n c, .int .i64 0]) ∧ SR w' p n (fun i => s.B (at' + i)) ∧ Below w.heap.size w w' := by
  have hn0 : (0 : Int) ≤ n := by omega
  have hn1 : (n : Int) ≤ 65536 := by omega
  have ha0 : (0 : Int) ≤ at' := by omega
  have ha1 : (at' : Int) ≤ 65536 := by omega
  have hs1 : (at' : Int) + n ≤ 65536 := by omega
  have d0 : decide ((at' : Int) < 0) = false := decide_eq_false (by omega)
  have d1 : decide (65536 < (at' : Int)) = false := decide_eq_false (by omega)
  have d2 : decide ((n : Int) < 0) = false := decide_eq_false (by omega)
  have d3 : decide (65536 - (at' : Int) < (n : Int)) = false := decide_eq_false (by omega)
  have c0 := h.c0
  by_cases hn : n = 0
  · subst hn
    clear h hl
    go_enter Try.func34, Try.ntmps34
    go_wp2
    all_goals
      go_ret2
      exact ⟨_, _, rfl, fun h => by omega, Below.refl _ _⟩
  · have hne : ¬ 65536 = at' := by omega
    have HX : TwinPre w ⟨k.b, at', none⟩ n (fun i => s.B (at' + i)) :=
      ⟨fun j u hv => by obtain ⟨hj, rfl⟩ := byteCs_at _ _ _ _ hv; rw [Addr.add_mid]; exact h.by_ _ (by omega), by omega, by omega⟩
    clear h hl hn
    go_enter Try.func34, Try.ntmps34
    go_wp2_with (refine wpList_twin rfl (.const (.slice none 0 0)) (.tmp 32) rfl rfl ⟨k.b, at', none⟩ _ n _ rfl (Nat.add_sub_cancel_left ..) (fun i => s.B (at' + i)) HX w.heap.size rfl ?_; intro cap' w1 hN hB hlt _ _)
    go_ret2
    exact ⟨_, _, rfl, hN.sr, hB⟩
end Go.Proofs.Ytkhaajbhgenicaa
