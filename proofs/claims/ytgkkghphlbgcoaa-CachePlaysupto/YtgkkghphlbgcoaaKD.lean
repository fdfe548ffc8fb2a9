import Derived.Test.YtgkkghphlbgcoaaKB
import Derived.Test.YtgkkghphlbgcoaaSP
namespace Go.Proofs.Ytgkkghphlbgcoaa.Ke
open Go.RowKit Go.Maps Go.Shelf
set_option maxRecDepth 100000
set_option linter.unusedVariables false
set_option linter.unusedSimpArgs false
theorem has_nat {H : Type} {R : Value → Option (DataW H × List MemPlace)} {w : World} {b n : Nat} {D0 : DataW H} (hown : w.ownsMap Try.prog 30 R b n D0) {x : Int} (hx : has D0 (.int .u32 x) = true) : 0 ≤ x ∧ x < 4294967296 := by
  obtain ⟨es, rfl, hk⟩ := hown.keysOf
  rw [has_eq, List.any_eq_true] at hx
  obtain ⟨p, hp, hs⟩ := hx
  obtain ⟨v, hv⟩ := hk p hp
  obtain ⟨y, _, hy, hw⟩ := keyOf_int Try.underlying30 hv
  rw [hy] at hs
  obtain rfl : y = x := by simpa [Lit.sameKey] using hs
  have e1 : IntKind.min .u32 = 0 := by decide
  have e2 : IntKind.max .u32 = 4294967295 := by decide
  unfold Lit.wf at hw
  rw [Bool.and_eq_true, decide_eq_true_eq, decide_eq_true_eq, e1, e2] at hw
  omega
/-- The words of a row that a call owns, for the sort. -/
theorem row_sr {W : World} {g cap : Nat} {cur : Array Value} {ss : List Int} (hb : W.heap[g]? = some (.cells cur 30 (0, 0))) (ht : cur.toList.take (ss.length * 1) = ss.map encU) (hn : ∀ x ∈ ss, 0 ≤ x) : So.SR W g (ss.map Int.toNat).toArray := by
  have hg : g < W.heap.size := (Array.getElem?_eq_some_iff.1 hb).1
  refine ⟨fun i hi => ?_, fun i => by simp [World.frozen?, hb], hg⟩
  have hi' : i < ss.length := by simpa using hi
  have h1 : (cur.toList.take (ss.length * 1))[i]? = (ss.map encU)[i]? := by rw [ht]
  rw [List.getElem?_take_of_lt (by omega)] at h1
  simp only [World.cell?, hb]
  have hx := hn ss[i] (List.getElem_mem hi')
  have e : (((ss.map Int.toNat).toArray[i]! : Nat) : Int) = ss[i] := by
    rw [getElem!_pos _ i (by simpa using hi')]
    simp
    omega
  rw [e]
  simp only [Option.isSome_none, Bool.false_eq_true, if_false]
  rw [← Array.getElem?_toList, h1]
  simp [hi', encU]
set_option maxHeartbeats 1000000 in
theorem col_any {H : Type} (Bm b nn : Nat) (D0 : DataW H) {R : Value → Option (DataW H × List MemPlace)} (w : World) (hBm : Bm < w.heap.size)
    (hm : w.cell? ⟨Bm, 0, none⟩ = some (.map (some b))) (hown : w.ownsMap Try.prog 30 R b nn D0) (hlen : Maps.size D0 ≤ maxLen) (hbytes : Maps.size D0 * 4 ≤ 140737488355328) :
    Calls Try.prog 61 #[.func (.func 63) #[] #[.pointer (some ⟨Bm, 0, none⟩)]] w fun e W' => ∃ v, e = .returned v ∧ ∃ ss : List Int, (ss.Nodup ∧ ∀ x, x ∈ ss ↔ has D0 (.int .u32 x) = true) ∧ W'.ownsRow w.heap.size 30 1 v ss.length (ss.map encU) ∧ (v = .slice none 0 0 ↔ ss = []) ∧ Below w.heap.size w W' := by
  have HA : Hid _ := callsIn_wide.1 (app_any Fence.wide 3 trivial trivial rfl (Nat.le_refl _) Bm b nn D0 w hBm hm hown hlen hbytes)
  clear hown hm hBm hlen hbytes
  go_enter Try.func61, Try.ntmps61
  go_wp2_with (go_at_call 67; fail)
  refine Calls.mono HA.out ?_
  rintro e w1 ⟨v, rfl, h⟩
  have HH : Hid _ := h
  clear h HA
  dsimp only
  go_wp2
  go_ret
  exact ⟨v, rfl, HH.out⟩
set_option maxHeartbeats 1000000 in
theorem sorted_any {H : Type} (Bm b nn : Nat) (D0 : DataW H) {R : Value → Option (DataW H × List MemPlace)} (w : World) (hBm : Bm < w.heap.size)
    (hm : w.cell? ⟨Bm, 0, none⟩ = some (.map (some b))) (hown : w.ownsMap Try.prog 30 R b nn D0) (hlen : Maps.size D0 ≤ maxLen) (hbytes : Maps.size D0 * 4 ≤ 140737488355328) (hcard : ∀ l : List Int, l.Nodup → (∀ x, x ∈ l ↔ has D0 (.int .u32 x) = true) → l.length ≤ 140737488355328) :
    Calls Try.prog 50 #[.func (.func 63) #[] #[.pointer (some ⟨Bm, 0, none⟩)]] w fun e W' => ∃ v, e = .returned v ∧ ∃ d : Array Nat, (d.toList.Nodup ∧ ∀ x : Nat, x ∈ d.toList ↔ has D0 (.int .u32 x) = true) ∧ ((d = #[] ∧ v = .slice none 0 0) ∨ ∃ g cap, v = .slice (some ⟨g, 0, none⟩) d.size cap ∧ w.heap.size ≤ g ∧ So.SR W' g (Sort.sort So.lt d)) ∧ Below w.heap.size w W' := by
  have hN : ∀ x : Int, has D0 (.int .u32 x) = true → 0 ≤ x ∧ x < 4294967296 := fun x hx => has_nat hown hx
  have HN : Hid _ := hN
  have HCD : Hid _ := hcard
  have HA : Hid _ := col_any Bm b nn D0 w hBm hm hown hlen hbytes
  clear hown hm hBm hlen hbytes hN hcard
  go_enter Try.func50, Try.ntmps50
  go_wp2_with (go_at_call 61; fail)
  refine Calls.mono HA.out ?_
  rintro e w1 ⟨v, rfl, ss, hs, hrow, hnil, hB⟩
  have hss : ∀ x ∈ ss, 0 ≤ x := fun x hx => (HN.out x ((hs.2 x).1 hx)).1
  have hd : (ss.map Int.toNat).Nodup ∧ ∀ x : Nat, x ∈ ss.map Int.toNat ↔ has D0 (.int .u32 x) = true := by
    refine ⟨?_, fun x => ?_⟩
    · refine List.pairwise_map.2 (hs.1.imp_of_mem fun {p q} hp hq hne e => hne ?_)
      have := hss p hp
      have := hss q hq
      omega
    · rw [List.mem_map]
      constructor
      · rintro ⟨y, hy, rfl⟩
        have h0 := hss y hy
        rw [show ((y.toNat : Nat) : Int) = y by omega]
        exact (hs.2 y).1 hy
      · intro h
        exact ⟨x, (hs.2 _).2 h, by simp⟩
  have HD : Hid _ := hd
  rcases hrow.2 with ⟨rfl, h0⟩ | ⟨g, cap, cur, rfl, hg, hb, hc1, hc2, hc3, ht⟩
  · obtain rfl : ss = [] := List.length_eq_zero_iff.1 h0
    have HB : Hid _ := hB
    clear hB hrow hd hss hs hnil HA h0
    dsimp only
    go_wp2_with (go_at_call 62; fail)
    refine Calls.mono (So.sort_nil _) ?_
    rintro e w2 ⟨rfl, rfl⟩
    dsimp only
    go_wp2
    go_ret
    exact ⟨_, rfl, #[], HD.out, .inl ⟨rfl, rfl⟩, HB.out⟩
  · have hsr := row_sr (cap := cap) hb ht hss
    obtain ⟨d, hde⟩ : ∃ d, (ss.map Int.toNat).toArray = d := ⟨_, rfl⟩
    have hz : d.size = ss.length := by rw [← hde]; simp
    rw [hde] at hsr
    have HW : Hid (So.SW w1 w1 g d ss.length) := (⟨hsr, hz, So.Chg.refl _ _⟩ : So.SW w1 w1 g d ss.length)
    have HB : Hid _ := hB
    have hn : ss.length ≤ 140737488355328 := HCD.out ss hs.1 hs.2
    have HG : Hid _ := And.intro hg (And.intro hz hde)
    clear hB hrow hd hss hs hnil HA hb ht hsr hg hc3 hz hde
    dsimp only
    go_wp2_with (go_at_call 62; fail)
    refine Calls.mono (So.sort_any g ss.length cap d w1 _ HW.out hn) ?_
    rintro e w2 ⟨rfl, hS⟩
    have HS : Hid _ := hS
    clear hS
    dsimp only
    go_wp2
    go_ret
    refine ⟨_, rfl, d, ?_, .inr ⟨g, cap, by rw [HG.out.2.1]; rfl, HG.out.1, HS.out.r⟩, HB.out.trans (HS.out.ch.below HB.out.size (fun k hk => by rw [List.mem_singleton.1 hk]; exact HG.out.1))⟩
    rw [← HG.out.2.2]
    exact HD.out
end Go.Proofs.Ytgkkghphlbgcoaa.Ke
namespace Go.Proofs.Ytgkkghphlbgcoaa.Ke
open Go.RowKit Go.Maps Go.Shelf
set_option maxRecDepth 100000
set_option linter.unusedVariables false
set_option linter.unusedSimpArgs false
set_option maxHeartbeats 1000000 in
/-- Places: the keys of the map of blocks, rising. -/
theorem places_any {H : Type} (C b nn : Nat) (D0 : DataW H) {R : Value → Option (DataW H × List MemPlace)} (w : World) (hC : C < w.heap.size)
    (hm : w.cell? ⟨C, 3, none⟩ = some (.map (some b))) (hown : w.ownsMap Try.prog 30 R b nn D0) (hlen : Maps.size D0 ≤ maxLen) (hbytes : Maps.size D0 * 4 ≤ 140737488355328) (hcard : ∀ l : List Int, l.Nodup → (∀ x, x ∈ l ↔ has D0 (.int .u32 x) = true) → l.length ≤ 140737488355328) :
    Calls Try.prog 29 #[.pointer (some ⟨C, 0, none⟩)] w fun e W' => ∃ v, e = .returned v ∧ ∃ d : Array Nat, (d.toList.Nodup ∧ ∀ x : Nat, x ∈ d.toList ↔ has D0 (.int .u32 x) = true) ∧ ((d = #[] ∧ v = .slice none 0 0) ∨ ∃ g cap, v = .slice (some ⟨g, 0, none⟩) d.size cap ∧ w.heap.size ≤ g ∧ So.SR W' g (Sort.sort So.lt d)) ∧ Below w.heap.size w W' := by
  have hbl := hown.lt
  have hB0 : Below w.heap.size w (w.alloc (.cells #[.map (some b)] 51)) := (Below.refl _ w).alloc (Nat.le_refl _) _
  have hown' : (w.alloc (.cells #[.map (some b)] 51)).ownsMap Try.prog 30 R b nn D0 := by
    obtain ⟨es, clock, hb, Ft, hs, hD⟩ := hown
    exact ⟨es, clock, (hB0.block b hbl).trans hb, Ft, hs, hD⟩
  have HK : Hid _ := callsIn_wide.1 (keys_any Fence.wide 3 trivial rfl (some b) w)
  have HS : Hid _ := sorted_any w.heap.size b nn D0 (w.alloc (.cells #[.map (some b)] 51)) (by simp) (by simp) hown' hlen hbytes hcard
  have HB : Hid _ := hB0
  clear hown hown' hbl hlen hbytes hcard hB0
  go_enter Try.func29, Try.ntmps29
  go_wp2_with (go_at_call 51; fail)
  refine Calls.mono HK.out ?_
  rintro e w1 ⟨rfl, rfl⟩
  dsimp only
  go_wp2_with (go_at_call 50; fail)
  refine Calls.mono HS.out ?_
  rintro e w2 ⟨v, rfl, d, hd, hv, hB⟩
  have HD : Hid _ := And.intro hd (And.intro hv hB)
  clear hd hv hB HS HK
  dsimp only
  go_wp2
  go_ret
  refine ⟨v, rfl, d, HD.out.1, ?_, HB.out.trans (HD.out.2.2.mono HB.out.size)⟩
  rcases HD.out.2.1 with h | ⟨g, cap, hv, hg, hs⟩
  · exact .inl h
  · exact .inr ⟨g, cap, hv, Nat.le_trans HB.out.size hg, hs⟩
theorem used_any (C : Nat) (w : World) (p : Option Addr) (n cap : Nat) (hm : w.cell? ⟨C, 1, none⟩ = some (.slice p n cap)) :
    Calls Try.prog 13 #[.pointer (some ⟨C, 0, none⟩)] w fun e w' => e = .returned (.int .i64 n) ∧ w' = w := by
  go_enter Try.func13, Try.ntmps13
  go_wp2
  go_ret
  exact ⟨rfl, rfl⟩
end Go.Proofs.Ytgkkghphlbgcoaa.Ke
