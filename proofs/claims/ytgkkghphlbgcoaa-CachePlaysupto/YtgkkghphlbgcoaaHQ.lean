import Derived.Test.YtgkkghphlbgcoaaHL
import Derived.Test.YtgkkghphlbgcoaaHP
import Derived.Deep.AppendLies
namespace Go.Proofs.Ytgkkghphlbgcoaa.Ho
open Go.RowKit
set_option maxRecDepth 100000
set_option linter.unusedVariables false
set_option linter.unusedSimpArgs false
def wdCs (ws : Nat → Nat) (m : Nat) : List Value := (List.range m).map (fun i => .int .u32 (ws i))
theorem wdCs_len (ws : Nat → Nat) (m : Nat) : (wdCs ws m).length = m := by simp [wdCs]
theorem wdCs_get (ws : Nat → Nat) (m i : Nat) (h : i < m) : (wdCs ws m)[i]? = some (.int .u32 (ws i)) := by simp [wdCs, h]
theorem wdCs_one (ws : Nat → Nat) (m : Nat) : ∀ u ∈ wdCs ws m, u.oneCell' = true := by
  intro u hu
  simp only [wdCs, List.mem_map] at hu
  obtain ⟨i, -, rfl⟩ := hu
  rfl
/-- A copy of words, by append to nothing. -/
theorem wpList_words {w : World} {ops : Array Oper} {rest : List Oper} {o : Oper} {a : Act} {Q : Exit → Act → World → Prop} (hgd : o.guard = none) (s x : Operand)
    (ho : o.op = .call { callee := .builtin .append, args := #[s, x], argTypes := #[32, 32] }) (hs : a.eval s = .slice none 0 0) (b off m c : Nat) (hx : a.eval x = .slice (some ⟨b, off, none⟩) m c) (ws : Nat → Nat) (hr : WR w b off m ws) (hm : 0 < m) (hl : m ≤ 35184372088832) (H : Nat) (hH : w.heap.size = H)
    (h : ∀ cap w', WR w' H 0 m ws → Below H w w' → m ≤ cap → wpList Try.prog ops Q rest (a.put o.dst (.slice (some ⟨H, 0, none⟩) m cap)) w') : wpList Try.prog ops Q (o :: rest) a w := by
  subst hH
  obtain ⟨i0, hi, hz0, hz1, hz2⟩ := info_parts info24
  refine wpList_append_lies _ hgd s x 32 ho w.heap.size 30 i0 (.int .u32 0) 1 4 Try.underlying32 hi hz0 hz1 hz2 rfl (by decide) (.slice none 0 0) 0 [] hs (World.ownsRow_nil _ _ _ _) ⟨b, off, none⟩ m c (wdCs ws m) hx (by rw [wdCs_len]; omega) (fun j u hu => ?_) (wdCs_one _ _) hm
    (by unfold maxLen; omega) (by omega) (Nat.le_refl _) w.heap.size rfl ?_
  · rw [Addr.add_mid]
    have hj : j < m := by
      rcases Nat.lt_or_ge j m with g | g
      · exact g
      · rw [List.getElem?_eq_none (by rw [wdCs_len]; exact g)] at hu; cases hu
    rw [hr.cell j hj, ← hu, wdCs_get _ _ _ hj]
  intro g cap w1 hown hgrow hat hlt
  have hg : g = w.heap.size := by
    rcases hat with h | h
    · simp [Value.ownBlock] at h
    · exact h
  subst hg
  have hbel : Below w.heap.size w w1 := (Below.refl _ _).grown hgrow (Nat.le_refl _) (fun k hk => by simp [Value.ownBlock] at hk)
  rw [Nat.zero_add] at *
  have hcap : m ≤ cap := by
    rcases hown.2 with ⟨h, -⟩ | ⟨g, c, cur, h, -, hcur, h1, h2, -⟩
    · cases h
    · simp only [Value.slice.injEq, Option.some.injEq, Addr.mk.injEq] at h
      obtain ⟨⟨rfl, -, -⟩, -, rfl⟩ := h
      omega
  exact h cap w1 ⟨fun i hi => by
    rw [Nat.zero_add, hown.cellAt i (by simpa using hi)]
    simp only [List.nil_append]
    exact wdCs_get _ _ _ hi, hr.lt, hlt⟩ hbel hcap
theorem words_zero (a : Option Addr) (cap : Nat) (w : World) : Calls Try.prog 17 #[.slice a 0 cap] w fun e w' => e = .returned (.slice none 0 0) ∧ Below w.heap.size w w' := by
  cases a
  all_goals
    go_enter Try.func17, Try.ntmps17
    go_wp2
    go_ret
    exact ⟨rfl, Below.refl _ _⟩
theorem words_some (b off len cap : Nat) (ws : Nat → Nat) (w : World) (hr : WR w b off len ws) (h0 : 0 < len) (hl : len ≤ 35184372088832) :
    Calls Try.prog 17 #[.slice (some ⟨b, off, none⟩) len cap] w fun e w' => ∃ c, e = .returned (.slice (some ⟨w.heap.size, 0, none⟩) len c) ∧ WR w' w.heap.size 0 len ws ∧ Below w.heap.size w w' ∧ len ≤ c := by
  have HR : Hid _ := hr
  have H0 : Hid _ := h0
  have HL : Hid _ := hl
  clear hr h0 hl
  go_enter Try.func17, Try.ntmps17
  go_wp2_with (at_builtin; refine wpList_words rfl _ _ rfl rfl b off len cap rfl ws HR.out H0.out HL.out w.heap.size rfl ?_; intro c w2 hr2 hb2 hc2; have HR2 : Hid _ := hr2; have HB2 : Hid _ := hb2; have HC2 : Hid _ := hc2; clear hr2 hb2 hc2)
  go_ret
  exact ⟨_, rfl, HR2.out, HB2.out, HC2.out⟩
/-- The same words are the same. -/
theorem same_true (a1 a2 : Option Addr) (len c1 c2 : Nat) (ws : Nat → Nat) (w : World) (h1 : Wds w a1 len c1 ws) (h2 : Wds w a2 len c2 ws) :
    Calls Try.prog 19 #[.slice a1 len c1, .slice a2 len c2] w fun e w' => e = .returned (.bool true) ∧ Below w.heap.size w w' := by
  by_cases h0 : len = 0
  · subst h0
    go_enter Try.func19, Try.ntmps19
    go_wp2
    refine wp_loop_rounds 1 ?_
    rw [rounds_succ]
    go_wp2
    go_ret
    exact ⟨rfl, Below.refl _ _⟩
  · rcases h1 with h | ⟨b1, o1, rfl, -, hl, r1⟩
    · exact absurd h h0
    rcases h2 with h | ⟨b2, o2, rfl, -, -, r2⟩
    · exact absurd h h0
    have ln0 : (0 : Int) ≤ len := by omega
    have ln1 : (len : Int) ≤ 140737488355328 := by omega
    go_enter Try.func19, Try.ntmps19
    go_wp2
    go_loopw [13] (fun i wr => ∃ k : Nat, k ≤ len ∧ i = .int .i64 k ∧ Below w.heap.size w wr) (fun i _ => len - (intOf i).toNat)
    case atStart => exact ⟨0, by omega, rfl, Below.refl _ _⟩
    case round =>
      obtain ⟨k, hk, rfl, hbel⟩ := hrel
      by_cases hlt : k < len
      · have z1 : wr.cell? ⟨b1, o1 + k, none⟩ = some (.int .u32 (ws k)) := (hbel.cell (p := ⟨b1, o1 + k, none⟩) r1.lb).trans (r1.cell k hlt)
        have z2 : wr.cell? ⟨b2, o2 + k, none⟩ = some (.int .u32 (ws k)) := (hbel.cell (p := ⟨b2, o2 + k, none⟩) r2.lb).trans (r2.cell k hlt)
        have lb1 : b1 < wr.heap.size := Nat.lt_of_lt_of_le r1.lb hbel.size
        have lb2 : b2 < wr.heap.size := Nat.lt_of_lt_of_le r2.lb hbel.size
        have k0 : (0 : Int) ≤ k := by omega
        have k1 : (k : Int) < len := by omega
        go_upto_region 6 with fail
        go_quiet (fail)
        go_wp2
        go_roundw
        case rel => exact ⟨k + 1, by omega, by go_num, hbel.trans ⟨rfl, rfl, rfl, Nat.le_refl _, fun _ _ => rfl⟩⟩
        case measure => simp [intOf]; omega
      · have hk2 : k = len := by omega
        subst hk2
        go_wp2
        go_ret
        exact ⟨rfl, hbel⟩
end Go.Proofs.Ytgkkghphlbgcoaa.Ho
