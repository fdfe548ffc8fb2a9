import Derived.Test.YtgkkghphlbgcoaaLS
import Derived.Test.YtgkkghphlbgcoaaWT
import Derived.Test.YtgkkghphlbgcoaaHL
namespace Go.Proofs.Ytgkkghphlbgcoaa.Ca
open Go.RowKit Go.Maps Ho
set_option maxRecDepth 100000
set_option linter.unusedVariables false
set_option linter.unusedSimpArgs false
theorem row_wds {w : World} {b n : Nat} {v : Value} {ws : Nat → Nat} (h : w.ownsRow b 30 1 v n (wL ws n)) (hn : n ≤ 1048576) (hlt : ∀ i, ws i < 4294967296) : ∃ a cap, v = .slice a n cap ∧ Ho.Wds w a n cap ws ∧ ∀ g off, a = some ⟨g, off, none⟩ → b ≤ g ∧ g < w.heap.size := by
  rcases h.2 with ⟨rfl, h0⟩ | ⟨g, cap, cur, rfl, h2, h3, h4, h5, h6, h7⟩
  · exact ⟨none, 0, by rw [h0], .inl h0, fun _ _ e => by cases e⟩
  · refine ⟨_, cap, rfl, .inr ⟨g, 0, rfl, h4, by omega, fun i hi => ?_, hlt, So.row_lt h3⟩, fun g' off e => by cases e; exact ⟨h2, So.row_lt h3⟩⟩
    have e : (cur.toList.take (n * 1))[i]? = (wL ws n)[i]? := by rw [h7]
    rw [List.getElem?_take_of_lt (by omega), wL_get ws n i hi] at e
    rw [Nat.zero_add, So.row_cell h3]
    simpa using e
theorem wds_ch {p : Nat → Prop} {w w' : World} {a : Option Addr} {len cap : Nat} {ws : Nat → Nat} (h : Ho.Wds w a len cap ws) (hc : Ch p w w') (hp : ∀ g off, a = some ⟨g, off, none⟩ → ¬ p g) : Ho.Wds w' a len cap ws := by
  rcases h with h | ⟨b, off, rfl, h1, h2, h3⟩
  · exact .inl h
  · have hb := hc.block b h3.lb (hp b off rfl)
    exact .inr ⟨b, off, rfl, h1, h2, fun i hi => by rw [World.cell?_of_block (a := ⟨b, off + i, none⟩) hb]; exact h3.cell i hi, h3.lt, by have := hc.size; have := h3.lb; omega⟩
/-- The map of begins. -/
def fN (g : Int → Option Nat) : Int → Option Value := fun k => (g k).map fun (x : Nat) => Value.int .u32 x
theorem fN_put (g : Int → Option Nat) (s : Int) (x : Nat) : upd (fN g) s (some (.int .u32 x)) = fN (fun z => if z = s then some x else g z) := by
  funext z
  unfold upd fN
  by_cases e : z = s <;> simp [e]
theorem fN_of {g : Int → Option Nat} {i : Int} {v : Value} (h : fN g i = some v) : ∃ x, g i = some x ∧ v = .int .u32 x := by
  unfold fN at h
  cases e : g i with
  | none => rw [e] at h; cases h
  | some b => rw [e] at h; cases h; exact ⟨b, rfl, rfl⟩
theorem zeroU (w : World) : (zeroValue 30).run Try.prog w = .ok (.int .u32 0) w := Try.zeroValue30 w
/-- Begins of the first k places. -/
structure Bg (c : Cs) (pl : Array Nat) (k : Nat) (g : Int → Option Nat) : Prop where
  hit : ∀ i, i < k → ∀ b, c.bl ((pl[i]! : Nat) : Int) = some b → g b.bg = some pl[i]!
  of : ∀ z v, g z = some v → ∃ i, i < k ∧ v = pl[i]! ∧ ∃ b, c.bl (v : Int) = some b ∧ z = (b.bg : Int)
theorem Bg.zero (c : Cs) (pl : Array Nat) : Bg c pl 0 (fun _ => none) := ⟨fun i hi => absurd hi (Nat.not_lt_zero _), fun _ _ h => by cases h⟩
theorem bg_ne {c : Cs} {L : Int → List Nat} (h : Iv c L) {p1 p2 : Int} {b1 b2 : Bl} (h1 : c.bl p1 = some b1) (h2 : c.bl p2 = some b2) (hne : p1 ≠ p2) : b1.bg ≠ b2.bg := by
  have s1 := (h.bo.ok _ _ h1).2.1
  have s2 := (h.bo.ok _ _ h2).2.1
  rcases h.apart _ _ _ _ h1 h2 hne with h3 | h3 <;> omega
theorem nodup_get {pl : Array Nat} (hn : pl.toList.Nodup) {i j : Nat} (hi : i < pl.size) (hj : j < pl.size) (hne : i ≠ j) : pl[i]! ≠ pl[j]! := by
  rw [getElem!_pos pl i hi, getElem!_pos pl j hj]
  have hp := List.pairwise_iff_getElem.1 hn
  rcases Nat.lt_or_gt_of_ne hne with h | h
  · have := hp i j (by simpa using hi) (by simpa using hj) h
    simpa using this
  · have := hp j i (by simpa using hj) (by simpa using hi) h
    intro e
    exact this (by simpa using e.symm)
theorem Bg.none {c : Cs} {L : Int → List Nat} (h : Iv c L) {pl : Array Nat} {k : Nat} {g : Int → Option Nat} (hB : Bg c pl k g) (hn : pl.toList.Nodup) (hk : k < pl.size) {b : Bl} (hb : c.bl ((pl[k]! : Nat) : Int) = some b) : g b.bg = none := by
  cases e : g b.bg with
  | none => rfl
  | some v =>
    obtain ⟨i, hi, rfl, b', h1, h2⟩ := hB.of _ v e
    have hne := nodup_get hn (by omega : i < pl.size) hk (by omega)
    exact absurd (by omega) (bg_ne h h1 hb (by omega))
theorem Bg.step {c : Cs} {L : Int → List Nat} (h : Iv c L) {pl : Array Nat} {k : Nat} {g : Int → Option Nat} (hB : Bg c pl k g) (hn : pl.toList.Nodup) (hk : k < pl.size) {b : Bl} (hb : c.bl ((pl[k]! : Nat) : Int) = some b) : Bg c pl (k + 1) (fun z => if z = (b.bg : Int) then some pl[k]! else g z) := by
  refine ⟨fun i hi b' hb' => ?_, fun z v hz => ?_⟩
  · by_cases e : i = k
    · subst e
      rw [hb] at hb'; cases hb'
      rw [if_pos rfl]
    · have hne := nodup_get hn (by omega : i < pl.size) hk e
      rw [if_neg (by have := bg_ne h hb' hb (by omega); omega)]
      exact hB.hit i (by omega) b' hb'
  · (try dsimp only at hz)
    split at hz
    · next e => cases hz; exact ⟨k, by omega, rfl, b, hb, e⟩
    · obtain ⟨i, hi, r⟩ := hB.of z v hz
      exact ⟨i, by omega, r⟩
/-- All begins. -/
structure Bn (c : Cs) (g : Int → Option Nat) : Prop where
  hit : ∀ pc b, c.bl pc = some b → (g b.bg).isSome = true
  of : ∀ z v, g z = some v → ∃ b, c.bl (v : Int) = some b ∧ z = (b.bg : Int)
theorem Bg.all {c : Cs} {L : Int → List Nat} (h : Iv c L) {pl : Array Nat} {g : Int → Option Nat} (hB : Bg c pl pl.size g) (hm : ∀ x : Nat, x ∈ pl.toList ↔ (c.bl x).isSome = true) : Bn c g := by
  refine ⟨fun pc b hb => ?_, fun z v hz => ?_⟩
  · obtain ⟨k1, k2⟩ := h.key pc b hb
    obtain ⟨x, rfl⟩ : ∃ x : Nat, pc = (x : Int) := ⟨pc.toNat, by omega⟩
    obtain ⟨i, hi, e⟩ := List.getElem_of_mem ((hm x).2 (by rw [hb]; rfl))
    have hi' : i < pl.size := by simpa using hi
    have ep : pl[i]! = x := by rw [getElem!_pos pl i hi']; simpa using e
    rw [hB.hit i hi' b (by rw [ep]; exact hb)]
    rfl
  · obtain ⟨_, _, _, r⟩ := hB.of z v hz
    exact r
/-- Behind a block's end no instruction is read but where a block begins. -/
theorem Iv.behind {c : Cs} {L : Int → List Nat} (h : Iv c L) {pc : Int} {b : Bl} (hb : c.bl pc = some b) (hf : b.bg + b.sz < c.fill) (he : (decP c.ws c.fill ((b.bg + b.sz : Nat) : Int)).e = 0) : ∃ p2 b2, c.bl p2 = some b2 ∧ b2.bg = b.bg + b.sz := by
  have hz : ¬ c.ws (b.bg + b.sz) = 0 := fun e => dec_zero e he
  have hc : ∃ p2 b2, c.bl p2 = some b2 ∧ b2.bg ≤ b.bg + b.sz ∧ b.bg + b.sz < b2.bg + b2.sz := Classical.byContradiction fun hh => hz (h.zero _ hf fun p2 b2 h2 h3 => hh ⟨p2, b2, h2, h3⟩)
  obtain ⟨p2, b2, h2, h3, h4⟩ := hc
  have hne : pc ≠ p2 := fun e => by subst e; rw [hb] at h2; cases h2; omega
  refine ⟨p2, b2, h2, ?_⟩
  rcases h.apart _ _ _ _ hb h2 hne with h5 | h5 <;> omega
theorem Iv.leads {c : Cs} {L : Int → List Nat} (h : Iv c L) {g : Int → Option Nat} (hg : Bn c g) {pc : Int} {b : Bl} {k : Nat} (hb : c.bl pc = some b) (hk : k ∈ L pc) (ho : ldOp (decP c.ws c.fill k).x.op) : (g ((decP c.ws c.fill k).x.k : Int)).isSome = true := by
  have hx : exOp (decP c.ws c.fill k).x.op := by rcases ho with e | e <;> rw [e] <;> decide
  obtain ⟨p, hp⟩ := h.exb pc b k hb hk hx
  obtain ⟨n, b1, e1, g1, g2, g3, _, _, _, g5⟩ := h.exs _ p hp
  obtain rfl : k = n := by omega
  obtain ⟨b', h1, h2⟩ := g5 ho
  rw [h2]
  exact hg.hit _ b' h1
theorem Iv.table {c : Cs} {L : Int → List Nat} (h : Iv c L) {g : Int → Option Nat} (hg : Bn c g) {k : Nat} (hk : k < c.slots) (hfl : c.fill ≤ 1048576) : (-1 ≤ c.ta k ∧ c.ta k ≤ 9223372036854775807) ∧ (0 ≤ c.ta k → (g (c.ta k)).isSome = true) := by
  rcases h.tb k hk with h1 | ⟨pc, b, h1, h2, h3⟩
  · rw [h1]; exact ⟨by omega, fun hh => by omega⟩
  · have hx := h.bg_mem h1
    rw [h3]
    refine ⟨?_, fun _ => hg.hit pc b h1⟩
    have := (h.bo.ok pc b h1).1
    exact ⟨by omega, by omega⟩
theorem sort_perm (d : Array Nat) : (Sort.sort So.lt d).size = d.size ∧ (Sort.sort So.lt d).toList.Perm d.toList := by
  obtain ⟨⟨h1, _, h3⟩, _⟩ := So.sort_is d
  refine ⟨h1, ?_⟩
  have e1 : ((Sort.sort So.lt d).extract 0 d.size) = Sort.sort So.lt d := by rw [← h1]; simp
  have e2 : (d.extract 0 d.size) = d := by simp
  rw [e1, e2] at h3
  exact h3
end Go.Proofs.Ytgkkghphlbgcoaa.Ca
namespace Go.Proofs.Ytgkkghphlbgcoaa.Ca
open Go.RowKit Go.Maps Ho
set_option maxRecDepth 100000
set_option linter.unusedVariables false
set_option linter.unusedSimpArgs false
/-- The world of the law's look: where the words, the places and the begins lie. -/
structure Lw (w W : World) (C gb : Nat) (I : Ids) (c : Cs) (wa : Option Addr) (wcap : Nat) : Prop where
  cw : Cw W C I c
  wd : Ho.Wds W wa c.fill wcap c.ws
  b : Below w.heap.size w W
  gl : w.heap.size ≤ gb ∧ gb < W.heap.size
  wn : ∀ g off, wa = some ⟨g, off, none⟩ → g ≠ gb ∧ g < W.heap.size
  no : ∀ k, Own C I k → k < w.heap.size
theorem Lw.ch {w W W' : World} {C gb : Nat} {I : Ids} {c : Cs} {wa : Option Addr} {wcap : Nat} (h : Lw w W C gb I c wa wcap) (p : Nat → Prop) (hc : Ch p W W') (hp : ∀ k, (k < w.heap.size ∨ ∃ off, wa = some ⟨k, off, none⟩) → ¬ p k) : Lw w W' C gb I c wa wcap := by
  obtain ⟨g1, g2⟩ := h.gl
  have hs := hc.size
  have hsb := h.b.size
  refine ⟨h.cw.ch hc fun k hk => hp k (.inl (h.no k hk)), wds_ch h.wd hc fun g off e => hp g (.inr ⟨off, e⟩), h.b.trans ⟨hc.os, hc.tape, hc.output, hc.size, fun k hk => hc.block k (by omega) (hp k (.inl hk))⟩, ⟨g1, by omega⟩, fun g off e => ⟨(h.wn g off e).1, by have := (h.wn g off e).2; omega⟩, h.no⟩
theorem Lw.below {w W W' : World} {C gb : Nat} {I : Ids} {c : Cs} {wa : Option Addr} {wcap : Nat} (h : Lw w W C gb I c wa wcap) (hb : Below W.heap.size W W') : Lw w W' C gb I c wa wcap := h.ch (fun _ => False) (Ch.of_below _ hb) fun _ _ e => e
structure LoA (w W3 : World) (C gb : Nat) (I : Ids) (c : Cs) (wa : Option Addr) (wcap : Nat) (pl : Array Nat) (v : Value) (wr : World) : Prop where
  ex : ∃ (k : Nat) (g : Int → Option Nat), v = .int .i64 k ∧ k ≤ pl.size ∧ Lw w wr C gb I c wa wcap ∧ MW wr 3 .i64 gb (fN g) ∧ Bg c pl k g ∧ Ch (· = gb) W3 wr
structure LoB (w : World) (C gb r : Nat) (I : Ids) (c : Cs) (wa : Option Addr) (wcap : Nat) (g : Int → Option Nat) (wr : World) : Prop where
  ex : ∃ (lf : Int → Bool) (cnt : Nat), RG wr 3 .i64 gb r (fN g) lf cnt ∧ Lw w wr C gb I c wa wcap
structure LoK (w : World) (C gb : Nat) (I : Ids) (c : Cs) (wa : Option Addr) (wcap : Nat) (g : Int → Option Nat) (W5 : World) (R0 : List Nat) (e : Nat) (v : Value) (wr : World) : Prop where
  ex : ∃ (k : Nat) (P R : List Nat), v = .int .i64 k ∧ P ++ R = R0 ∧ Til c.ws c.fill k R e ∧ Lw w wr C gb I c wa wcap ∧ Below W5.heap.size W5 wr
structure LoT (w : World) (C gb tg : Nat) (I : Ids) (c : Cs) (wa : Option Addr) (wcap : Nat) (g : Int → Option Nat) (W6 : World) (v : Value) (wr : World) : Prop where
  ex : ∃ (k : Nat), v = .int .i64 k ∧ k ≤ c.slots ∧ Lw w wr C gb I c wa wcap ∧ MW wr 3 .i64 gb (fN g) ∧ Below W6.heap.size W6 wr
theorem row_tab {w : World} {b n : Nat} {v : Value} {tp : Nat → Nat} {ta : Nat → Int} (h : w.ownsRow b 56 2 v n (tL tp ta n)) (hn : 1 ≤ n) : ∃ tg cap, v = .slice (some ⟨tg, 0, none⟩) n cap ∧ (∀ k, k < n → w.cell? ⟨tg, k * 2, none⟩ = some (.int .u32 (tp k)) ∧ w.cell? ⟨tg, k * 2 + 1, none⟩ = some (.int .i64 (ta k))) ∧ tg < w.heap.size := by
  rcases h.2 with ⟨rfl, h0⟩ | ⟨g, cap, cur, rfl, h2, h3, h4, h5, h6, h7⟩
  · omega
  · refine ⟨g, cap, rfl, fun k hk => ?_, So.row_lt h3⟩
    obtain ⟨e1, e2⟩ := tL_get tp ta n k hk
    rw [← h7] at e1 e2
    rw [List.getElem?_take_of_lt (by omega)] at e1 e2
    rw [So.row_cell h3, So.row_cell h3]
    exact ⟨by simpa using e1, by simpa using e2⟩
set_option maxHeartbeats 16000000 in
theorem leads_law (C : Nat) (I : Ids) (c : Cs) (L : Int → List Nat) (w : World) (h : Cw w C I c) (V : Iv c L) :
    Calls Try.prog 15 #[.pointer (some ⟨C, 0, none⟩)] w fun e w' => e = .returned (.bool true) ∧ Below w.heap.size w w' := by
  have HC : Hid _ := h
  have HV : Hid _ := V
  obtain ⟨rm0, rm1, rm2⟩ := h.rm
  have hmk : ∀ W : World, (Instr.makeMap 95 Option.none).run Try.prog W = .ok (.map (some W.heap.size)) (W.alloc (.map #[] 0)) := fun W => run_makeMap _ W
  have hown := h.own_lt
  clear h V
  go_enter Try.func15, Try.ntmps15
  go_wp2_with (go_at_call 28; fail)
  refine Calls.mono (words_any C I c w HC.out) ?_
  rintro _ w1 ⟨wv, rfl, hrow, hb1⟩
  dsimp only
  obtain ⟨wa, wcap, rfl, hwd, hwg⟩ := row_wds hrow (by omega) HV.out.lt
  have HWD : Hid (Ho.Wds w1 wa c.fill wcap c.ws) := hwd
  have HWG : Hid _ := hwg
  have HB1 : Hid _ := hb1
  have lw1 := hb1.size
  obtain ⟨W2, hW2⟩ : ∃ W, w1.alloc (.map #[] 0) = W := ⟨_, rfl⟩
  have hb2 : Below w1.heap.size w1 W2 := by rw [← hW2]; exact (Below.refl _ _).alloc (Nat.le_refl _) _
  have hs2 : W2.heap.size = w1.heap.size + 1 := by rw [← hW2]; simp
  have hm2 : MW W2 3 .i64 w1.heap.size (fN fun _ => Option.none) := by rw [← hW2]; exact MW.made w1 3 .i64
  have HM2 : Hid _ := hm2
  have HS2 : Hid _ := hs2
  have hlw2 : Lw w W2 C w1.heap.size I c wa wcap := ⟨(HC.out.below hb1).below hb2, Ho.wds_keep hwd hb2, hb1.trans (hb2.mono lw1), ⟨lw1, by omega⟩, fun g off e => by have := hwg g off e; omega, hown⟩
  have HL2 : Hid _ := hlw2
  have HW2 : Hid _ := hW2
  obtain ⟨gb, hgb⟩ : ∃ gb, w1.heap.size = gb := ⟨_, rfl⟩
  have HGB : Hid _ := hgb
  rw [hgb] at HL2 HM2 HS2
  clear hrow hb1 hwd hwg hb2 hs2 hm2 hlw2
  go_upto_region 3 with fail
  (try simp only [hW2, hgb])
  clear hW2 hgb hmk
  obtain ⟨nn, D, ho, hmp⟩ := HL2.out.cw.m1.ex
  obtain ⟨cd1, cd2⟩ := own_card Try.underlying30 ho
  have HP : Hid _ := Ke.places_any C I.b1 nn D W2 (HL2.out.cw.own_lt C (.inl rfl)) HL2.out.cw.cell.2.2.2.1 ho (by rw [show maxLen = 9223372036854775807 by decide]; omega) (by omega) (fun l hn hl => by rw [cd2 l hn hl]; omega)
  have HMP : Hid _ := hmp
  clear ho hmp cd1 cd2
  go_wp2_with (go_at_call 29; fail)
  refine Calls.mono HP.out ?_
  rintro _ w3 ⟨pv, rfl, d, ⟨hdn, hdm⟩, hpv, hb3⟩
  dsimp only
  have hL3 := HL2.out.below hb3
  have hm3 : MW w3 3 .i64 gb (fN fun _ => Option.none) := HM2.out.keep (hb3.block gb HL2.out.gl.2)
  obtain ⟨sz1, sp1⟩ := sort_perm d
  obtain ⟨pl, hpl⟩ : ∃ pl, Sort.sort So.lt d = pl := ⟨_, rfl⟩
  rw [hpl] at sz1 sp1 hpv
  have hpn : pl.toList.Nodup := sp1.nodup_iff.2 hdn
  have hpm : ∀ x : Nat, x ∈ pl.toList ↔ (c.bl x).isSome = true := fun x => by
    rw [sp1.mem_iff, hdm x, HMP.out.has_eq]
    simp [fB]
  obtain ⟨pa, pcap, rfl, hpc⟩ : ∃ pa pcap, pv = .slice pa pl.size pcap ∧ (0 < pl.size → ∃ pg, pa = some ⟨pg, 0, none⟩ ∧ pg ≠ gb ∧ pg < w3.heap.size ∧ ∀ i, i < pl.size → w3.cell? ⟨pg, i, none⟩ = some (.int .u32 ((pl[i]! : Nat) : Int))) := by
    rcases hpv with ⟨e1, e2⟩ | ⟨g, cap, e1, e2, e3⟩
    · have : pl.size = 0 := by rw [sz1, e1]; rfl
      exact ⟨none, 0, by rw [e2, this], fun h0 => by omega⟩
    · exact ⟨_, cap, by rw [e1, sz1], fun _ => ⟨g, rfl, by have := HS2.out; omega, e3.lt, fun i hi => e3.c i hi⟩⟩
  have HPC : Hid _ := hpc
  have HPN : Hid _ := hpn
  have HPM : Hid _ := hpm
  have HL3 : Hid _ := hL3
  have HM3 : Hid _ := hm3
  have hplb : pl.size ≤ 4294967296 := by
    obtain ⟨nn, D, ho, hmp⟩ := HL3.out.cw.m1.ex
    obtain ⟨cd1, cd2⟩ := own_card Try.underlying30 ho
    have := cd2 (pl.toList.map Int.ofNat) (by
      refine List.pairwise_map.2 (hpn.imp fun hne e => hne ?_)
      exact Int.ofNat.inj e) (fun x => by
        rw [hmp.has_eq, List.mem_map]
        constructor
        · rintro ⟨y, hy, rfl⟩
          have := (hpm y).1 hy
          simpa [fB] using this
        · intro hx
          have hx' : (c.bl x).isSome = true := by simpa [fB] using hx
          obtain ⟨b, hb⟩ := Option.isSome_iff_exists.1 hx'
          have := HV.out.key x b hb
          exact ⟨x.toNat, (hpm _).2 (by rw [show ((x.toNat : Nat) : Int) = x by omega]; exact hx'), by show ((x.toNat : Nat) : Int) = x; omega⟩)
    simp at this
    omega
  clear hpc hpn hpm hL3 hm3 hpv hdn hdm hb3 sz1 sp1 hpl HMP HP
  go_wp2
  go_loopw [33] (fun v wr => LoA w w3 C gb I c wa wcap pl v wr) (fun v _ => pl.size - (intOf v).toNat)
  case atStart => exact ⟨0, _, rfl, Nat.zero_le _, HL3.out, HM3.out, Bg.zero c pl, Ch.refl _ _⟩
  case round =>
    obtain ⟨k, g, rfl, hk, hL, hM, hB, hch⟩ := hrel
    have HL : Hid _ := hL
    have HM : Hid _ := hM
    have HBg : Hid _ := hB
    have HCh : Hid _ := hch
    clear hL hM hB hch
    by_cases hkn : k < pl.size
    · obtain ⟨pg, rfl, pn1, pn2, hcel⟩ := HPC.out (by omega)
      have y0 : wr.cell? ⟨pg, k, none⟩ = some (.int .u32 ((pl[k]! : Nat) : Int)) := (World.cell?_of_block (a := ⟨pg, k, none⟩) (HCh.out.block pg pn2 pn1)).trans (hcel k hkn)
      obtain ⟨pc, hpce⟩ : ∃ pc, pl[k]! = pc := ⟨_, rfl⟩
      have HPCE : Hid _ := hpce
      rw [hpce] at y0
      have hmem : pc ∈ pl.toList := by rw [← hpce, getElem!_pos pl k hkn]; simp
      obtain ⟨b, hb⟩ := Option.isSome_iff_exists.1 ((HPM.out pc).1 hmem)
      have hkey := HV.out.key _ b hb
      have hent := HV.out.ent _ b hb
      have hst := HV.out.start hb (HV.out.bg_mem hb)
      have hfnd : fndF c pc = ((b.bg : Int), true) := by unfold fndF; rw [hb]
      have hgn : g b.bg = Option.none := HBg.out.none HV.out HPN.out hkn (by rw [hpce]; exact hb)
      obtain ⟨Dd, hD⟩ : ∃ D, decP c.ws c.fill b.bg = D := ⟨_, rfl⟩
      rw [hD] at hent hst
      obtain ⟨de, ⟨xo, xd, xa, xb, xc, xn, xk, xx⟩, df, dn⟩ := Dd
      dsimp only at hent hst
      obtain ⟨rfl, hxk⟩ := hent
      obtain ⟨rfl, _⟩ := hst
      obtain rfl : xk = pc := by omega
      have HD : Hid (decP c.ws c.fill b.bg = _) := hD
      have HBB : Hid _ := hb
      have HFN : Hid _ := hfnd
      have HGN : Hid _ := hgn
      have hbgl : b.bg ≤ 1048576 := by have := (HV.out.bo.ok _ _ hb).1; omega
      have g0 : (k : Int) < (pl.size : Int) := by omega
      have g1 : decide ((k : Int) < (pl.size : Int)) = true := decide_eq_true g0
      have g2 : (0 : Int) ≤ (k : Int) := by omega
      obtain ⟨k1, hk1⟩ : ∃ k1, k + 1 = k1 := ⟨_, rfl⟩
      have t2 : IntKind.i64.wrap ((k : Int) + 1) = (k1 : Int) := So.wr_one hk1 (by omega)
      have HK1 : Hid _ := hk1
      have hpc32 : xk < 4294967296 := by omega
      clear hcel hpce hmem hb hkey hfnd hgn hD hk1
      go_wp2_with (go_at_call 20; fail)
      refine Calls.mono (find_any C xk I c _ hpc32 HL.out.cw) ?_
      rw [HFN.out]
      rintro _ w4 ⟨rfl, hb4⟩
      dsimp only
      have hL4 := HL.out.below hb4
      have HL4 : Hid _ := hL4
      have HM4 : Hid _ := HM.out.keep (hb4.block gb HL.out.gl.2)
      have HB4 : Hid _ := hb4
      clear hL4 hb4
      go_wp2_with (go_at_call 37; fail)
      refine Calls.mono (Ho.rDecode_any wa c.fill wcap b.bg c.ws _ HL4.out.wd) ?_
      rw [HD.out]
      rintro _ w5 ⟨rfl, hb5⟩
      dsimp only [cdV]
      have hL5 := HL4.out.below hb5
      have HL5 : Hid _ := hL5
      have hal : Below w5.heap.size w5 (w5.alloc (.cells #[.int .i64 1, .int .i64 xd, .int .i64 xa, .int .i64 xb, .int .i64 xc, .int .i64 xn, .int .u32 xk, .int .u32 xx] 41)) := (Below.refl _ _).alloc (Nat.le_refl _) _
      have hm5 : MW (w5.alloc (.cells #[.int .i64 1, .int .i64 xd, .int .i64 xa, .int .i64 xb, .int .i64 xc, .int .i64 xn, .int .u32 xk, .int .u32 xx] 41)) 3 .i64 gb (fN g) := (HM4.out.keep (hb5.block gb HL4.out.gl.2)).keep (hal.block gb HL5.out.gl.2)
      have HM5 : Hid _ := hm5
      have HAL : Hid _ := hal
      have HB5 : Hid _ := hb5
      have HVv : Hid ((fN g b.bg).getD (.int .u32 0) = .int .u32 0) := (by unfold fN; rw [HGN.out]; rfl)
      have HVs : Hid ((fN g b.bg).isSome = false) := (by unfold fN; rw [HGN.out]; rfl)
      have hwfb : (Lit.int .i64 (b.bg : Int)).wf = true := wfI _ (by omega) (by omega)
      clear hL5 hb5 hal hm5
      go_wp2_with (first
        | (at_lookup; refine wpList_look _ rfl _ _ 95 rfl 3 30 .i64 Try.underlying3 Try.underlying95 (zeroU _) gb _ rfl HM5.out b.bg rfl hwfb (.int .u32 0) false HVv.out HVs.out ?_)
        | (at_mapUpdate; refine wpList_put _ rfl _ _ _ 95 rfl 3 30 .i64 Try.underlying3 Try.underlying95 gb _ rfl HM5.out (fun z v hz => by obtain ⟨x, hx, _⟩ := fN_of hz; obtain ⟨_, _, _, b', h1, h2⟩ := HBg.out.of z x hx; have := (HV.out.bo.ok _ _ h1).1; omega) b.bg rfl hwfb (.int .u32 xk) rfl ?_; intro w6 hm6 hg6 hs6))
      rw [fN_put] at hm6
      have hL6 := (HL5.out.below HAL.out).ch (· = gb) (Ch.grown (· = gb) hg6 rfl) fun k hk e => hk.elim (fun h1 => by have := HL5.out.gl; omega) fun ⟨off, h1⟩ => (HL5.out.wn k off h1).1 e
      have hB6 := HBg.out.step HV.out HPN.out hkn (by rw [HPCE.out]; exact HBB.out)
      rw [HPCE.out, HK1.out] at hB6
      refine ⟨⟨k1, _, rfl, by have := HK1.out; omega, hL6, hm6, hB6, ?_⟩, by have := HK1.out; simp [intOf]; omega⟩
      exact (HCh.out.trans (Ch.of_below _ ((HB4.out.trans (HB5.out.mono HB4.out.size)).trans (HAL.out.mono (by have := HB4.out.size; have := HB5.out.size; omega))))).trans (Ch.grown (· = gb) hg6 rfl)
    · obtain rfl : k = pl.size := by omega
      have g1 : decide ((pl.size : Int) < (pl.size : Int)) = false := decide_eq_false (by omega)
      have HBN : Hid _ := HBg.out.all HV.out HPM.out
      clear HBg hkn hk HPC HPN HPM
      go_wp2_with (at_range; refine wpList_rng _ rfl _ 95 rfl 3 30 .i64 Try.underlying3 Try.underlying95 gb _ rfl HM.out ?_; intro w4 cnt4 hrg4 hg4 hs4)
      obtain ⟨r2, hr2⟩ : ∃ r2, wr.heap.size = r2 := ⟨_, rfl⟩
      rw [hr2] at hrg4 hs4
      simp only [hr2]
      have hL4 := HL.out.ch (fun _ => False) (Ch.grown0 _ hg4) fun _ _ e => e
      have HL4 : Hid _ := hL4
      have HRG4 : Hid _ := hrg4
      have hr2g : gb < r2 ∧ w.heap.size ≤ r2 ∧ (∀ g off, wa = some ⟨g, off, none⟩ → g < r2) := ⟨by rw [← hr2]; exact HL.out.gl.2, by rw [← hr2]; exact HL.out.b.size, fun g off e => by rw [← hr2]; exact (HL.out.wn g off e).2⟩
      have HR2 : Hid _ := hr2g
      clear hr2 hL4 hrg4 hg4 hr2g HM HL HCh
      go_frame
      go_loopw [14] (fun _ wr => LoB w C gb r2 I c wa wcap g wr) (fun _ wr => wr.rangeLeft gb r2)
      case atStart => exact ⟨_, _, HRG4.out, HL4.out⟩
      case round =>
        obtain ⟨lf, cnt, hrg, hL⟩ := hrel
        have HRG : Hid _ := hrg
        have HL : Hid _ := hL
        clear hrg hL HRG4 HL4
        go_wp2_with (at_next; refine wpList_nxt _ rfl _ rfl 3 .i64 Try.underlying3 gb r2 _ lf cnt rfl HRG.out ?_ ?_)
        · intro hl0
          clear hl0
          have HM : Hid _ := HRG.out.mw
          clear HRG
          go_wp2_with (go_at_call 30; fail)
          refine Calls.mono (table_any C I c _ HL.out.cw) ?_
          rintro _ w4 ⟨tv, rfl, htr, hb4⟩
          dsimp only
          obtain ⟨sl0, sl1, sl2⟩ := HL.out.cw.st
          obtain ⟨tg, tcap, rfl, htc, htl⟩ := row_tab htr sl0
          have HTC : Hid _ := htc
          have hL4 := HL.out.below hb4
          have HL4 : Hid _ := hL4
          have HM4 : Hid _ := HM.out.keep (hb4.block gb HL.out.gl.2)
          clear htr htc hb4 hL4 HM HL
          go_wp2
          go_loopw [136] (fun v wr => LoT w C gb tg I c wa wcap g w4 v wr) (fun v _ => c.slots - (intOf v).toNat)
          case atStart => exact ⟨0, rfl, Nat.zero_le _, HL4.out, HM4.out, Below.refl _ _⟩
          case round =>
            obtain ⟨k, rfl, hk, hL, hM, hb⟩ := hrel
            have HL : Hid _ := hL
            have HM : Hid _ := hM
            have HB : Hid _ := hb
            by_cases hkn : k < c.slots
            · have f1 : (k : Int) < (c.slots : Int) := by omega
              have f2 : decide ((k : Int) < (c.slots : Int)) = true := decide_eq_true f1
              have f3 : (0 : Int) ≤ (k : Int) := by omega
              obtain ⟨x0, x1⟩ := HTC.out k hkn
              have y0 := (hb.cell (p := ⟨tg, k * 2, none⟩) htl).trans x0
              have y1 := (hb.cell (p := ⟨tg, k * 2 + 1, none⟩) htl).trans x1
              obtain ⟨tb1, tb2⟩ := HV.out.table HBN.out hkn (by omega)
              obtain ⟨tp, htp⟩ : ∃ t, c.tp k = t := ⟨_, rfl⟩
              obtain ⟨ta, hta⟩ : ∃ t, c.ta k = t := ⟨_, rfl⟩
              rw [htp] at y0
              rw [hta] at y1 tb1 tb2
              obtain ⟨W7, hW7⟩ : ∃ W, wr.alloc (.cells #[.int .u32 tp, .int .i64 ta] 56) = W := ⟨_, rfl⟩
              have hb67 : Below wr.heap.size wr W7 := by rw [← hW7]; exact (Below.refl _ _).alloc (Nat.le_refl _) _
              have HB7 : Hid _ := hb67
              have hB7 : W7.heap[wr.heap.size]? = some (.cells #[.int .u32 tp, .int .i64 ta] 56) := by rw [← hW7]; exact World.alloc_heap_new _ _
              have q1 := So.row_cell hB7 1
              simp at q1
              have HM7 : Hid _ := HM.out.keep (hb67.block gb HL.out.gl.2)
              have hwft : (Lit.int .i64 ta).wf = true := wfI _ (by omega) (by omega)
              obtain ⟨vk, hvk⟩ : ∃ v, (fN g ta).getD (.int .u32 0) = v := ⟨_, rfl⟩
              obtain ⟨oth, hoth⟩ : ∃ o, (fN g ta).isSome = o := ⟨_, rfl⟩
              have HVK : Hid _ := hvk
              have HOT : Hid _ := hoth
              obtain ⟨k1, hk1⟩ : ∃ k1, k + 1 = k1 := ⟨_, rfl⟩
              have t2 : IntKind.i64.wrap ((k : Int) + 1) = (k1 : Int) := So.wr_one hk1 (by omega)
              have HK1 : Hid _ := hk1
              have l67 : wr.heap.size < W7.heap.size := by rw [← hW7]; simp
              have hot : 0 ≤ ta → oth = true := fun h0 => by
                have := tb2 h0
                rw [← hoth]; unfold fN; simpa using this
              have HOO : Hid _ := hot
              clear hL hM hb x0 x1 htp hta hb67 hB7 hvk hoth hk1 tb2 hot
              by_cases h0 : 0 ≤ ta
              · have h0' : decide (0 ≤ ta) = true := decide_eq_true h0
                have e := HOO.out h0
                subst e
                go_wp2_with (at_lookup; refine wpList_look _ rfl _ _ 95 rfl 3 30 .i64 Try.underlying3 Try.underlying95 (zeroU _) gb _ rfl HM7.out ta rfl hwft vk true HVK.out HOT.out ?_)
                exact ⟨⟨k1, rfl, by have := HK1.out; omega, HL.out.below HB7.out, HM7.out, HB.out.trans (HB7.out.mono HB.out.size)⟩, by have := HK1.out; simp [intOf]; omega⟩
              · have h0' : decide (0 ≤ ta) = false := decide_eq_false h0
                go_wp2_with (at_lookup; refine wpList_look _ rfl _ _ 95 rfl 3 30 .i64 Try.underlying3 Try.underlying95 (zeroU _) gb _ rfl HM7.out ta rfl hwft vk oth HVK.out HOT.out ?_)
                exact ⟨⟨k1, rfl, by have := HK1.out; omega, HL.out.below HB7.out, HM7.out, HB.out.trans (HB7.out.mono HB.out.size)⟩, by have := HK1.out; simp [intOf]; omega⟩
            · have f1 : ¬ (k : Int) < (c.slots : Int) := by omega
              have f2 : decide ((k : Int) < (c.slots : Int)) = false := decide_eq_false f1
              obtain ⟨ua, ucap, husl, _⟩ := HL.out.cw.sl
              have hu1 := HL.out.cw.cell.2.1
              rw [husl] at hu1
              have HU : Hid _ := hu1
              clear hL hM hb husl hu1
              go_wp2_with (go_at_call 13; refine Calls.mono (Ke.used_any C _ ua c.fill ucap HU.out) ?_; rintro _ _ ⟨rfl, rfl⟩; dsimp only)
              go_ret
              refine ⟨?_, HL.out.b⟩
              simp
        · intro i v w5 cnt5 hlf hf hwf hrg5 hlt hg5 hs5 hen
          obtain ⟨x, hx, rfl⟩ := fN_of hf
          obtain ⟨b, hb, rfl⟩ := HBN.out.of i x hx
          obtain ⟨r2a, r2b, r2c⟩ := HR2.out
          have hL5 := HL.out.ch (· = r2) (Ch.grown (· = r2) hg5 rfl) (fun k hk e => hk.elim (fun h1 => by omega) fun ⟨off, h1⟩ => by have := r2c k off h1; omega)
          have HL5 : Hid _ := hL5
          have HRG5 : Hid _ := hrg5
          have HBB : Hid _ := hb
          have HLT : Hid _ := hlt
          clear hL5 hrg5 hg5 hs5 hf hwf hlf hlt hb hx
          go_wp2
          go_loopw [15] (fun v wr => LoK w C gb I c wa wcap g w5 (L x) (b.bg + b.sz) v wr) (fun v _ => c.fill - (intOf v).toNat)
          case atStart => exact ⟨b.bg, [], L x, rfl, rfl, HV.out.til _ b HBB.out, HL5.out, Below.refl _ _⟩
          case round =>
            obtain ⟨k, P, R, rfl, hPR, hT, hLk, hbk⟩ := hrel
            have HPR : Hid _ := hPR
            have HT : Hid (Til c.ws c.fill k R (b.bg + b.sz)) := hT
            have HLk : Hid _ := hLk
            have HBk : Hid _ := hbk
            have hke : k ≤ b.bg + b.sz := til_le hT
            have hbf := (HV.out.bo.ok _ b HBB.out)
            have hbf1 : b.bg + b.sz ≤ c.fill := hbf.1
            have hbf2 : 0 < b.sz := hbf.2.1
            clear hPR hT hLk hbk hbf
            by_cases hkf : k < c.fill
            · have f1 : (k : Int) < (c.fill : Int) := by omega
              have f2 : decide ((k : Int) < (c.fill : Int)) = true := decide_eq_true f1
              obtain ⟨Dd, hD⟩ : ∃ D, decP c.ws c.fill k = D := ⟨_, rfl⟩
              obtain ⟨de, ⟨xo, xd, xa, xb, xc, xn, xk, xx⟩, df, dn⟩ := Dd
              have HD : Hid (decP c.ws c.fill k = _) := hD
              clear hD
              go_wp2_with (go_at_call 37; fail)
              refine Calls.mono (Ho.rDecode_any wa c.fill wcap k c.ws _ HLk.out.wd) ?_
              rw [HD.out]
              rintro _ w6 ⟨rfl, hb6⟩
              dsimp only [cdV]
              obtain ⟨W7, hW7⟩ : ∃ W, w6.alloc (.cells #[.int .i64 xo, .int .i64 xd, .int .i64 xa, .int .i64 xb, .int .i64 xc, .int .i64 xn, .int .u32 xk, .int .u32 xx] 41) = W := ⟨_, rfl⟩
              have hb67 : Below w6.heap.size w6 W7 := by rw [← hW7]; exact (Below.refl _ _).alloc (Nat.le_refl _) _
              have hkB : Below wr.heap.size wr W7 := hb6.trans (hb67.mono hb6.size)
              have hb57 : Below w5.heap.size w5 W7 := HBk.out.trans (hkB.mono HBk.out.size)
              have hL7 := HLk.out.below hkB
              have hB7 : W7.heap[w6.heap.size]? = some (.cells #[.int .i64 xo, .int .i64 xd, .int .i64 xa, .int .i64 xb, .int .i64 xc, .int .i64 xn, .int .u32 xk, .int .u32 xx] 41) := by rw [← hW7]; exact World.alloc_heap_new _ _
              have q0 := So.row_cell hB7 0
              have q6 := So.row_cell hB7 6
              simp at q0 q6
              have hm7 : MW W7 3 .i64 gb (fN g) := HRG5.out.mw.keep (hb57.block gb HRG5.out.mw.lt)
              have HM7 : Hid _ := hm7
              have HL7 : Hid _ := hL7
              have HB57 : Hid _ := hb57
              have hrgE := HRG5.out.keep (w' := W7) (hb57.block gb HRG5.out.mw.lt) (hb57.block r2 HRG5.out.lt)
              have HRE : Hid _ := hrgE
              have hwfk : (Lit.int .i64 (k : Int)).wf = true := wfI _ (by omega) (by omega)
              obtain ⟨vk, hvk⟩ : ∃ v, (fN g k).getD (.int .u32 0) = v := ⟨_, rfl⟩
              obtain ⟨oth, hoth⟩ : ∃ o, (fN g k).isSome = o := ⟨_, rfl⟩
              have HVK : Hid _ := hvk
              have HOT : Hid _ := hoth
              have l67 : w6.heap.size < W7.heap.size := by rw [← hW7]; simp
              clear hb67 hkB hb57 hL7 hB7 hm7 hrgE hvk hoth hb6
              by_cases he : de = 0
              · subst he
                have hd0 : (decP c.ws c.fill k).e = 0 := by rw [HD.out]
                obtain ⟨z1, z2, z3⟩ := dec_size HV.out.lt hd0
                rw [HD.out] at z1 z2 z3
                dsimp only at z1 z2 z3
                cases R with
                | nil =>
                  have hk : k = b.bg + b.sz := HT.out
                  have hbeh := HV.out.behind HBB.out (by omega) (by rw [← hk]; exact hd0)
                  obtain ⟨p2, b2, hb2, hb2e⟩ := hbeh
                  have ho : oth = true := by
                    have h1 := HBN.out.hit p2 b2 hb2
                    rw [hb2e, ← hk] at h1
                    rw [← HOT.out]; unfold fN; simpa using h1
                  subst ho
                  have gk : (b.bg : Int) < (k : Int) := by omega
                  have gk2 : decide ((b.bg : Int) < (k : Int)) = true := decide_eq_true gk
                  clear hd0 hb2 hb2e hk
                  go_wp2_with (at_lookup; refine wpList_look _ rfl _ _ 95 rfl 3 30 .i64 Try.underlying3 Try.underlying95 (zeroU _) gb _ rfl HM7.out k rfl hwfk vk true HVK.out HOT.out ?_)
                  exact ⟨⟨_, cnt5, HRE.out, HL7.out⟩, by rw [HRE.out.left_eq, HRG.out.left_eq]; exact HLT.out⟩
                | cons s R' =>
                  obtain ⟨hs, _, hT2⟩ := HT.out
                  have hs2 := hs.symm
                  clear hs
                  subst hs2
                  have hT2' : Til c.ws c.fill (k + dn) R' (b.bg + b.sz) := by rw [HD.out] at hT2; exact hT2
                  have HT2 : Hid (Til c.ws c.fill (k + dn) R' (b.bg + b.sz)) := hT2'
                  have hkm : k ∈ L x := by rw [← HPR.out]; simp
                  have hxk : (xo = 15 ∨ xo = 96) → xk < 4294967296 := fun hl => by
                    have E := exd HV.out.lt hd0 (by rw [HD.out]; dsimp only; unfold exOp; omega)
                    have := E.k
                    rw [HD.out] at this
                    dsimp only at this
                    rw [this]; exact HV.out.lt _
                  clear hT2 hT2' hd0
                  by_cases hgt : b.bg < k
                  · have gk : (b.bg : Int) < (k : Int) := by omega
                    have gk2 : decide ((b.bg : Int) < (k : Int)) = true := decide_eq_true gk
                    cases oth with
                    | true =>
                      go_wp2_with (at_lookup; refine wpList_look _ rfl _ _ 95 rfl 3 30 .i64 Try.underlying3 Try.underlying95 (zeroU _) gb _ rfl HM7.out k rfl hwfk vk true HVK.out HOT.out ?_)
                      exact ⟨⟨_, cnt5, HRE.out, HL7.out⟩, by rw [HRE.out.left_eq, HRG.out.left_eq]; exact HLT.out⟩
                    | false =>
                      obtain ⟨k2, hk2⟩ : ∃ k2, k + dn = k2 := ⟨_, rfl⟩
                      have t4 : IntKind.i64.wrap ((k : Int) + (dn : Int)) = (k2 : Int) := So.wr_add hk2 (by omega)
                      have HK2 : Hid _ := hk2
                      clear hk2
                      by_cases hld : xo = 15 ∨ xo = 96
                      · have hxs := HV.out.leads HBN.out HBB.out hkm (by rw [HD.out]; exact hld)
                        rw [HD.out] at hxs
                        dsimp only at hxs
                        have HVX0 := hxs
                        obtain ⟨vx, hvx⟩ : ∃ v, (fN g xk).getD (.int .u32 0) = v := ⟨_, rfl⟩
                        have HVX : Hid _ := hvx
                        have hox : (fN g xk).isSome = true := by unfold fN; simpa using hxs
                        have HOX : Hid _ := hox
                        clear hox
                        have hwfx : (Lit.int .i64 (xk : Int)).wf = true := wfI _ (by omega) (by omega)
                        have t5 : IntKind.i64.wrap (xk : Int) = (xk : Int) := IntWalk.i64_in _ (by omega)
                        clear hvx hxs HVX0
                        rcases hld with rfl | rfl
                        all_goals (go_wp2_with (first | (at_lookup; refine wpList_look _ rfl _ _ 95 rfl 3 30 .i64 Try.underlying3 Try.underlying95 (zeroU _) gb _ rfl HM7.out k rfl hwfk vk false HVK.out HOT.out ?_) | (at_lookup; refine wpList_look _ rfl _ _ 95 rfl 3 30 .i64 Try.underlying3 Try.underlying95 (zeroU _) gb _ rfl HM7.out xk rfl hwfx vx true HVX.out HOX.out ?_)))
                        all_goals refine ⟨⟨k2, P ++ [k], R', rfl, by rw [List.append_assoc]; exact HPR.out, by have := HT2.out; rw [HK2.out] at this; exact this, HL7.out, HB57.out⟩, by have := HK2.out; simp [intOf]; omega⟩
                      · have h15 : ¬ xo = 15 := fun e => hld (.inl e)
                        have h96 : ¬ xo = 96 := fun e => hld (.inr e)
                        have b15 : (xo == 15) = false := by simpa using h15
                        have b96 : (xo == 96) = false := by simpa using h96
                        have d15 : decide (xo = 15) = false := decide_eq_false h15
                        have d96 : decide (xo = 96) = false := decide_eq_false h96
                        clear hld
                        go_wp2_with (at_lookup; refine wpList_look _ rfl _ _ 95 rfl 3 30 .i64 Try.underlying3 Try.underlying95 (zeroU _) gb _ rfl HM7.out k rfl hwfk vk false HVK.out HOT.out ?_)
                        refine ⟨⟨k2, P ++ [k], R', rfl, by rw [List.append_assoc]; exact HPR.out, by have := HT2.out; rw [HK2.out] at this; exact this, HL7.out, HB57.out⟩, by have := HK2.out; simp [intOf]; omega⟩
                  · have gk : ¬ (b.bg : Int) < (k : Int) := by omega
                    have gk2 : decide ((b.bg : Int) < (k : Int)) = false := decide_eq_false gk
                    obtain ⟨k2, hk2⟩ : ∃ k2, k + dn = k2 := ⟨_, rfl⟩
                    have t4 : IntKind.i64.wrap ((k : Int) + (dn : Int)) = (k2 : Int) := So.wr_add hk2 (by omega)
                    have HK2 : Hid _ := hk2
                    clear hk2
                    by_cases hld : xo = 15 ∨ xo = 96
                    · have hxs := HV.out.leads HBN.out HBB.out hkm (by rw [HD.out]; exact hld)
                      rw [HD.out] at hxs
                      dsimp only at hxs
                      have HVX0 := hxs
                      obtain ⟨vx, hvx⟩ : ∃ v, (fN g xk).getD (.int .u32 0) = v := ⟨_, rfl⟩
                      have HVX : Hid _ := hvx
                      have hox : (fN g xk).isSome = true := by unfold fN; simpa using hxs
                      have HOX : Hid _ := hox
                      clear hox
                      have hwfx : (Lit.int .i64 (xk : Int)).wf = true := wfI _ (by omega) (by omega)
                      have t5 : IntKind.i64.wrap (xk : Int) = (xk : Int) := IntWalk.i64_in _ (by omega)
                      clear hvx hxs HVX0
                      rcases hld with rfl | rfl
                      all_goals (go_wp2_with (first | (at_lookup; refine wpList_look _ rfl _ _ 95 rfl 3 30 .i64 Try.underlying3 Try.underlying95 (zeroU _) gb _ rfl HM7.out k rfl hwfk vk oth HVK.out HOT.out ?_) | (at_lookup; refine wpList_look _ rfl _ _ 95 rfl 3 30 .i64 Try.underlying3 Try.underlying95 (zeroU _) gb _ rfl HM7.out xk rfl hwfx vx true HVX.out HOX.out ?_)))
                      all_goals refine ⟨⟨k2, P ++ [k], R', rfl, by rw [List.append_assoc]; exact HPR.out, by have := HT2.out; rw [HK2.out] at this; exact this, HL7.out, HB57.out⟩, by have := HK2.out; simp [intOf]; omega⟩
                    · have h15 : ¬ xo = 15 := fun e => hld (.inl e)
                      have h96 : ¬ xo = 96 := fun e => hld (.inr e)
                      have b15 : (xo == 15) = false := by simpa using h15
                      have b96 : (xo == 96) = false := by simpa using h96
                      have d15 : decide (xo = 15) = false := decide_eq_false h15
                      have d96 : decide (xo = 96) = false := decide_eq_false h96
                      clear hld
                      go_wp2_with (at_lookup; refine wpList_look _ rfl _ _ 95 rfl 3 30 .i64 Try.underlying3 Try.underlying95 (zeroU _) gb _ rfl HM7.out k rfl hwfk vk oth HVK.out HOT.out ?_)
                      refine ⟨⟨k2, P ++ [k], R', rfl, by rw [List.append_assoc]; exact HPR.out, by have := HT2.out; rw [HK2.out] at this; exact this, HL7.out, HB57.out⟩, by have := HK2.out; simp [intOf]; omega⟩
              · have he1 : decide (de = 0) = false := decide_eq_false he
                have he2 : (de == 0) = false := by simpa using he
                have he3 : (de != 0) = true := by simp [he]
                go_wp2_with (at_lookup; refine wpList_look _ rfl _ _ 95 rfl 3 30 .i64 Try.underlying3 Try.underlying95 (zeroU _) gb _ rfl HM7.out k rfl hwfk vk oth HVK.out HOT.out ?_)
                exact ⟨⟨_, cnt5, HRE.out, HL7.out⟩, by rw [HRE.out.left_eq, HRG.out.left_eq]; exact HLT.out⟩
            · have f1 : ¬ (k : Int) < (c.fill : Int) := by omega
              have f2 : decide ((k : Int) < (c.fill : Int)) = false := decide_eq_false f1
              have hrgE := HRG5.out.keep (w' := wr) (HBk.out.block gb HRG5.out.mw.lt) (HBk.out.block r2 HRG5.out.lt)
              have HRE : Hid _ := hrgE
              clear hrgE
              go_wp2
              exact ⟨⟨_, cnt5, HRE.out, HLk.out⟩, by rw [HRE.out.left_eq, HRG.out.left_eq]; exact HLT.out⟩
end Go.Proofs.Ytgkkghphlbgcoaa.Ca
