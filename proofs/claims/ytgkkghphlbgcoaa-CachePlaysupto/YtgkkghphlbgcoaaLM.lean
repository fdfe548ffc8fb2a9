import Derived.Test.YtgkkghphlbgcoaaPJ
import Derived.Test.YtgkkghphlbgcoaaWT
import Derived.Test.YtgkkghphlbgcoaaHL
namespace Go.Proofs.Ytgkkghphlbgcoaa.Ca
open Go.RowKit Go.Maps Ho
set_option maxRecDepth 100000
set_option linter.unusedVariables false
set_option linter.unusedSimpArgs false
theorem row_wds {w : World} {b n : Nat} {v : Value} {ws : Nat → Nat} (h : w.ownsRow b 30 1 v n (wL ws n)) (hn : n ≤ 1048576) (hlt : ∀ i, ws i < 4294967296) : ∃ a cap, v = .slice a n cap ∧ Ho.Wds w a n cap ws ∧ ∀ g off, a = some ⟨g, off, none⟩ → b ≤ g ∧ g < w.heap.size := by
  rcases h.2 with ⟨rfl, h0⟩ | ⟨g, cap, cur, rfl, h2, h3, h4, h5, h6, h7⟩
  · exact ⟨none, 0, by rw [h0], .inl h0, fun _ _ e => by cases e⟩
  · refine ⟨_, cap, rfl, .inr ⟨g, 0, rfl, h4, by omega, fun i hi => ?_, hlt, So.row_lt h3⟩, fun g' off e => by cases e; exact ⟨h2, So.row_lt h3⟩⟩
    have e : (cur.toList.take (n * 1))[i]? = (wL ws n)[i]? := by rw [h7]
    rw [List.getElem?_take_of_lt (by omega), wL_get ws n i hi] at e
    rw [Nat.zero_add, So.row_cell h3]
    simpa using e
theorem wds_ch {p : Nat → Prop} {w w' : World} {a : Option Addr} {len cap : Nat} {ws : Nat → Nat} (h : Ho.Wds w a len cap ws) (hc : Ch p w w') (hp : ∀ g off, a = some ⟨g, off, none⟩ → ¬ p g) : Ho.Wds w' a len cap ws := by
  rcases h with h | ⟨b, off, rfl, h1, h2, h3⟩
  · exact .inl h
  · have hb := hc.block b h3.lb (hp b off rfl)
    exact .inr ⟨b, off, rfl, h1, h2, fun i hi => by rw [World.cell?_of_block (a := ⟨b, off + i, none⟩) hb]; exact h3.cell i hi, h3.lt, by have := hc.size; have := h3.lb; omega⟩
/-- The map of begins. -/
def fN (g : Int → Option Nat) : Int → Option Value := fun k => (g k).map fun (x : Nat) => Value.int .u32 x
theorem fN_put (g : Int → Option Nat) (s : Int) (x : Nat) : upd (fN g) s (some (.int .u32 x)) = fN (fun z => if z = s then some x else g z) := by
  funext z
  unfold upd fN
  by_cases e : z = s <;> simp [e]
theorem fN_of {g : Int → Option Nat} {i : Int} {v : Value} (h : fN g i = some v) : ∃ x, g i = some x ∧ v = .int .u32 x := by
  unfold fN at h
  cases e : g i with
  | none => rw [e] at h; cases h
  | some b => rw [e] at h; cases h; exact ⟨b, rfl, rfl⟩
theorem zeroU (w : World) : (zeroValue 30).run Try.prog w = .ok (.int .u32 0) w := Try.zeroValue30 w
/-- Begins of the first k places. -/
structure Bg (c : Cs) (pl : Array Nat) (k : Nat) (g : Int → Option Nat) : Prop where
  hit : ∀ i, i < k → ∀ b, c.bl ((pl[i]! : Nat) : Int) = some b → g b.bg = some pl[i]!
  of : ∀ z v, g z = some v → ∃ i, i < k ∧ v = pl[i]! ∧ ∃ b, c.bl (v : Int) = some b ∧ z = (b.bg : Int)
theorem Bg.zero (c : Cs) (pl : Array Nat) : Bg c pl 0 (fun _ => none) := ⟨fun i hi => absurd hi (Nat.not_lt_zero _), fun _ _ h => by cases h⟩
theorem bg_ne {c : Cs} {L : Int → List Nat} (h : Iv c L) {p1 p2 : Int} {b1 b2 : Bl} (h1 : c.bl p1 = some b1) (h2 : c.bl p2 = some b2) (hne : p1 ≠ p2) : b1.bg ≠ b2.bg := by
  have s1 := (h.bo.ok _ _ h1).2.1
  have s2 := (h.bo.ok _ _ h2).2.1
  rcases h.apart _ _ _ _ h1 h2 hne with h3 | h3 <;> omega
theorem nodup_get {pl : Array Nat} (hn : pl.toList.Nodup) {i j : Nat} (hi : i < pl.size) (hj : j < pl.size) (hne : i ≠ j) : pl[i]! ≠ pl[j]! := by
  rw [getElem!_pos pl i hi, getElem!_pos pl j hj]
  have hp := List.pairwise_iff_getElem.1 hn
  rcases Nat.lt_or_gt_of_ne hne with h | h
  · have := hp i j (by simpa using hi) (by simpa using hj) h
    simpa using this
  · have := hp j i (by simpa using hj) (by simpa using hi) h
    intro e
    exact this (by simpa using e.symm)
theorem Bg.none {c : Cs} {L : Int → List Nat} (h : Iv c L) {pl : Array Nat} {k : Nat} {g : Int → Option Nat} (hB : Bg c pl k g) (hn : pl.toList.Nodup) (hk : k < pl.size) {b : Bl} (hb : c.bl ((pl[k]! : Nat) : Int) = some b) : g b.bg = none := by
  cases e : g b.bg with
  | none => rfl
  | some v =>
    obtain ⟨i, hi, rfl, b', h1, h2⟩ := hB.of _ v e
    have hne := nodup_get hn (by omega : i < pl.size) hk (by omega)
    exact absurd (by omega) (bg_ne h h1 hb (by omega))
theorem Bg.step {c : Cs} {L : Int → List Nat} (h : Iv c L) {pl : Array Nat} {k : Nat} {g : Int → Option Nat} (hB : Bg c pl k g) (hn : pl.toList.Nodup) (hk : k < pl.size) {b : Bl} (hb : c.bl ((pl[k]! : Nat) : Int) = some b) : Bg c pl (k + 1) (fun z => if z = (b.bg : Int) then some pl[k]! else g z) := by
  refine ⟨fun i hi b' hb' => ?_, fun z v hz => ?_⟩
  · by_cases e : i = k
    · subst e
      rw [hb] at hb'; cases hb'
      rw [if_pos rfl]
    · have hne := nodup_get hn (by omega : i < pl.size) hk e
      rw [if_neg (by have := bg_ne h hb' hb (by omega); omega)]
      exact hB.hit i (by omega) b' hb'
  · (try dsimp only at hz)
    split at hz
    · next e => cases hz; exact ⟨k, by omega, rfl, b, hb, e⟩
    · obtain ⟨i, hi, r⟩ := hB.of z v hz
      exact ⟨i, by omega, r⟩
/-- All begins. -/
structure Bn (c : Cs) (g : Int → Option Nat) : Prop where
  hit : ∀ pc b, c.bl pc = some b → (g b.bg).isSome = true
  of : ∀ z v, g z = some v → ∃ b, c.bl (v : Int) = some b ∧ z = (b.bg : Int)
theorem Bg.all {c : Cs} {L : Int → List Nat} (h : Iv c L) {pl : Array Nat} {g : Int → Option Nat} (hB : Bg c pl pl.size g) (hm : ∀ x : Nat, x ∈ pl.toList ↔ (c.bl x).isSome = true) : Bn c g := by
  refine ⟨fun pc b hb => ?_, fun z v hz => ?_⟩
  · obtain ⟨k1, k2⟩ := h.key pc b hb
    obtain ⟨x, rfl⟩ : ∃ x : Nat, pc = (x : Int) := ⟨pc.toNat, by omega⟩
    obtain ⟨i, hi, e⟩ := List.getElem_of_mem ((hm x).2 (by rw [hb]; rfl))
    have hi' : i < pl.size := by simpa using hi
    have ep : pl[i]! = x := by rw [getElem!_pos pl i hi']; simpa using e
    rw [hB.hit i hi' b (by rw [ep]; exact hb)]
    rfl
  · obtain ⟨_, _, _, r⟩ := hB.of z v hz
    exact r
/-- Behind a block's end no instruction is read but where a block begins. -/
theorem Iv.behind {c : Cs} {L : Int → List Nat} (h : Iv c L) {pc : Int} {b : Bl} (hb : c.bl pc = some b) (hf : b.bg + b.sz < c.fill) (he : (decP c.ws c.fill ((b.bg + b.sz : Nat) : Int)).e = 0) : ∃ p2 b2, c.bl p2 = some b2 ∧ b2.bg = b.bg + b.sz := by
  have hz : ¬ c.ws (b.bg + b.sz) = 0 := fun e => dec_zero e he
  have hc : ∃ p2 b2, c.bl p2 = some b2 ∧ b2.bg ≤ b.bg + b.sz ∧ b.bg + b.sz < b2.bg + b2.sz := Classical.byContradiction fun hh => hz (h.zero _ hf fun p2 b2 h2 h3 => hh ⟨p2, b2, h2, h3⟩)
  obtain ⟨p2, b2, h2, h3, h4⟩ := hc
  have hne : pc ≠ p2 := fun e => by subst e; rw [hb] at h2; cases h2; omega
  refine ⟨p2, b2, h2, ?_⟩
  rcases h.apart _ _ _ _ hb h2 hne with h5 | h5 <;> omega
theorem Iv.leads {c : Cs} {L : Int → List Nat} (h : Iv c L) {g : Int → Option Nat} (hg : Bn c g) {pc : Int} {b : Bl} {k : Nat} (hb : c.bl pc = some b) (hk : k ∈ L pc) (ho : ldOp (decP c.ws c.fill k).x.op) : (g ((decP c.ws c.fill k).x.k : Int)).isSome = true := by
  have hx : exOp (decP c.ws c.fill k).x.op := by rcases ho with e | e <;> rw [e] <;> decide
  obtain ⟨p, hp⟩ := h.exb pc b k hb hk hx
  obtain ⟨n, b1, e1, g1, g2, g3, _, _, _, g5⟩ := h.exs _ p hp
  obtain rfl : k = n := by omega
  obtain ⟨b', h1, h2⟩ := g5 ho
  rw [h2]
  exact hg.hit _ b' h1
theorem Iv.table {c : Cs} {L : Int → List Nat} (h : Iv c L) {g : Int → Option Nat} (hg : Bn c g) {k : Nat} (hk : k < c.slots) (hfl : c.fill ≤ 1048576) : (-1 ≤ c.ta k ∧ c.ta k ≤ 9223372036854775807) ∧ (0 ≤ c.ta k → (g (c.ta k)).isSome = true) := by
  rcases h.tb k hk with h1 | ⟨pc, b, h1, h2, h3⟩
  · rw [h1]; exact ⟨by omega, fun hh => by omega⟩
  · have hx := h.bg_mem h1
    rw [h3]
    refine ⟨?_, fun _ => hg.hit pc b h1⟩
    have := (h.bo.ok pc b h1).1
    exact ⟨by omega, by omega⟩
theorem sort_perm (d : Array Nat) : (Sort.sort So.lt d).size = d.size ∧ (Sort.sort So.lt d).toList.Perm d.toList := by
  obtain ⟨⟨h1, _, h3⟩, _⟩ := So.sort_is d
  refine ⟨h1, ?_⟩
  have e1 : ((Sort.sort So.lt d).extract 0 d.size) = Sort.sort So.lt d := by rw [← h1]; simp
  have e2 : (d.extract 0 d.size) = d := by simp
  rw [e1, e2] at h3
  exact h3
end Go.Proofs.Ytgkkghphlbgcoaa.Ca
