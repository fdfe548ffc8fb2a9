import Derived.Test.YtnnnmhpbdkalaaaA
import Derived.Deep.AppendLies
import Derived.Deep.MidRow
import Derived.LoopN
namespace Go.Proofs.Ytnnnmhpbdkalaaa
open Go.RowKit

/-- sameBytes of two rows that hold the same. -/
theorem same_yes (b1 o1 c1 b2 o2 c2 n : Nat) (z : Nat → Int) (w : World) (hn : (n : Int) ≤ 9223372036854775807)
    (h1 : ∀ i, i < n → w.cell? ⟨b1, o1 + i, none⟩ = some (.int .u8 (z i))) (h2 : ∀ i, i < n → w.cell? ⟨b2, o2 + i, none⟩ = some (.int .u8 (z i))) :
    Calls Try.prog 9 #[.slice (some ⟨b1, o1, none⟩) n c1, .slice (some ⟨b2, o2, none⟩) n c2] w fun e w' => e = .returned (.bool true) ∧ Below w.heap.size w w' := by
  have H1 : Hid (∀ i, i < n → w.cell? ⟨b1, o1 + i, none⟩ = some (.int .u8 (z i))) := h1
  have H2 : Hid (∀ i, i < n → w.cell? ⟨b2, o2 + i, none⟩ = some (.int .u8 (z i))) := h2
  clear h1 h2
  go_enter Try.func9, Try.ntmps9
  go_wp2
  go_loopw [13] (fun i wr => ∃ k m : Nat, k ≤ n ∧ i = .int .i64 k ∧ wr = w.drewN m) (fun i _ => n - (intOf i).toNat)
  case atStart => exact ⟨0, 0, by omega, rfl, rfl⟩
  case round =>
    obtain ⟨k, m, hk, rfl, rfl⟩ := hrel
    by_cases hlt : k < n
    · have c1' := H1.out k hlt
      have c2' := H2.out k hlt
      have hki : (k : Int) < n := by omega
      have hk0 : (0 : Int) ≤ k := by omega
      go_wp2
      go_quiet (fail)
      go_wp2
      go_roundw
      case rel => exact ⟨k + 1, _, by omega, by go_num, rfl⟩
      case measure => simp [intOf]; omega
    · go_wp2
      go_ret
      exact ⟨rfl, below_drewN (Below.refl _ _) _⟩

theorem same_zero (a1 a2 : Option Addr) (c1 c2 : Nat) (w : World) :
    Calls Try.prog 9 #[.slice a1 0 c1, .slice a2 0 c2] w fun e w' => e = .returned (.bool true) ∧ Below w.heap.size w w' := by
  go_enter Try.func9, Try.ntmps9
  go_wp2
  refine wp_loop_rounds 1 ?_
  rw [rounds_succ]
  go_wp2
  go_ret
  exact ⟨rfl, Below.refl _ _⟩

theorem info5 : (Try.prog.info? 5).map (fun i => (i.zero, i.size, i.bytes)) = some (some (.int .u8 0), 1, 1) := by kernel_rfl

set_option maxHeartbeats 400000 in
/-- twin: a new row of the same bytes. -/
theorem twin_any (b off len cap : Nat) (z : Nat → Int) (w : World) (hl : 0 < len) (hm : len ≤ 140737488355328)
    (hc : ∀ i, i < len → w.cell? ⟨b, off + i, none⟩ = some (.int .u8 (z i))) :
    Calls Try.prog 6 #[.slice (some ⟨b, off, none⟩) len cap] w fun e w' => ∃ c, e = .returned (.slice (some ⟨w.heap.size, 0, none⟩) len c) ∧ len ≤ c ∧ c ≤ maxLen ∧ Below w.heap.size w w' ∧ w.heap.size < w'.heap.size ∧
      ∀ i, i < len → w'.cell? ⟨w.heap.size, i, none⟩ = some (.int .u8 (z i)) := by
  obtain ⟨i0, hi, hz0, hz1, hz2⟩ := info_parts info5
  have HC : Hid (∀ i, i < len → w.cell? ⟨b, off + i, none⟩ = some (.int .u8 (z i))) := hc
  clear hc
  go_enter Try.func6, Try.ntmps6
  go_wp2_with (at_builtin; refine wpList_append_lies _ rfl _ _ _ rfl w.heap.size 5 i0 (.int .u8 0) 1 1 Try.underlying22 hi hz0 hz1 hz2 rfl (by decide) (.slice none 0 0) 0 [] (by rfl) (World.ownsRow_nil _ _ _ _) ⟨b, off, none⟩ len cap ((List.range len).map fun i => Value.int .u8 (z i)) (by rfl) (by simp) ?c1 ?c2 hl ?c3 ?c4 (Nat.le_refl _) w.heap.size rfl ?_)
  case c1 =>
    intro j u hj
    simp only [List.getElem?_map, Option.map_eq_some_iff] at hj
    obtain ⟨i, hij, rfl⟩ := hj
    obtain ⟨hlt, rfl⟩ := List.getElem?_eq_some_iff.1 hij
    simp only [List.getElem_range]
    have := HC.out j (by simpa using hlt)
    rw [Addr.add_mid]; exact this
  case c2 =>
    intro u hu
    simp only [List.mem_map] at hu
    obtain ⟨i, -, rfl⟩ := hu
    rfl
  case c3 => unfold maxLen; omega
  case c4 => omega
  intro g cap' w1 hown hgrow hat hlt
  have hg : g = w.heap.size := by
    rcases hat with h | h
    · simp [Value.ownBlock] at h
    · exact h
  subst hg
  have hown' := hown
  have hbel : Below w.heap.size w w1 := (Below.refl _ _).grown hgrow (Nat.le_refl _) (fun k hk => by simp [Value.ownBlock] at hk)
  have hcap : len ≤ cap' ∧ cap' ≤ maxLen := by
    rcases hown'.2 with ⟨h, -⟩ | ⟨g, c, cur, h, -, -, h1, h2, -⟩
    · cases h
    · simp only [Value.slice.injEq] at h; obtain ⟨-, -, rfl⟩ := h; exact ⟨h1, h2⟩
  have hcells : ∀ i, i < len → w1.cell? ⟨w.heap.size, i, none⟩ = some (.int .u8 (z i)) := fun i hi => by
    rw [hown'.cellAt i (by omega)]
    simp [hi]
  have HF : Hid ((len ≤ cap' ∧ cap' ≤ maxLen) ∧ Below w.heap.size w w1 ∧ w.heap.size < w1.heap.size ∧ ∀ i, i < len → w1.cell? ⟨w.heap.size, i, none⟩ = some (.int .u8 (z i))) := ⟨hcap, hbel, hlt, hcells⟩
  clear hown hown' hgrow hat hcap hcells hbel
  go_wp2
  go_ret
  refine ⟨cap', ?_, HF.out.1.1, HF.out.1.2, HF.out.2⟩
  rfl

theorem twin_nil (a : Option Addr) (cap : Nat) (w : World) :
    Calls Try.prog 6 #[.slice a 0 cap] w fun e w' => e = .returned (.slice none 0 0) ∧ Below w.heap.size w w' := by
  cases a
  all_goals
    go_enter Try.func6, Try.ntmps6
    go_wp2
    go_ret
    exact ⟨rfl, Below.refl _ _⟩

end Go.Proofs.Ytnnnmhpbdkalaaa
