import Derived.Test.YtgkkghphlbgcoaaIN
import Derived.Test.YtgkkghphlbgcoaaNW
namespace Go.Proofs.Ytgkkghphlbgcoaa.Ca
open Go.RowKit Go.Maps Ho
set_option maxRecDepth 100000
set_option linter.unusedVariables false
set_option linter.unusedSimpArgs false
theorem til_disj {ws : Nat → Nat} {len : Nat} (hlt : ∀ i, ws i < 4294967296) : ∀ {L : List Nat} {a e : Nat}, Til ws len a L e → ∀ s ∈ L, ∀ t ∈ L, s ≠ t → s + (decP ws len s).n ≤ t ∨ t + (decP ws len t).n ≤ s
  | [], _, _, _, s, hs, _, _, _ => by cases hs
  | x :: r, a, e, h, s, hs, t, ht, hne => by
    obtain ⟨rfl, h0, h1⟩ := h
    rcases List.mem_cons.1 hs with e1 | hs'
    · rcases List.mem_cons.1 ht with e2 | ht'
      · exact absurd (e1.trans e2.symm) hne
      · subst e1; exact .inl (til_mem hlt h1 t ht').1
    · rcases List.mem_cons.1 ht with e2 | ht'
      · subst e2; exact .inr (til_mem hlt h1 s hs').1
      · exact til_disj hlt h1 s hs' t ht' hne
theorem til_upd {ws ws' : Nat → Nat} {len len' : Nat} : ∀ {L : List Nat} {a e : Nat}, Til ws len a L e → (∀ s ∈ L, (decP ws' len' s).e = 0 ∧ (decP ws' len' s).n = (decP ws len s).n) → Til ws' len' a L e
  | [], _, _, h, _ => h
  | x :: r, a, e, h, hs => by
    obtain ⟨rfl, h0, h1⟩ := h
    obtain ⟨e1, e2⟩ := hs x List.mem_cons_self
    refine ⟨rfl, e1, ?_⟩
    rw [e2]
    exact til_upd h1 fun s hm => hs s (List.mem_cons_of_mem _ hm)
theorem til_shift {ws ws' : Nat → Nat} {len len' b : Nat} : ∀ {L : List Nat} {a e : Nat}, Til ws len a L e → (∀ s ∈ L, decP ws' len' ((b + s : Nat) : Int) = decP ws len s) → Til ws' len' (b + a) (L.map (b + ·)) (b + e)
  | [], _, _, h, _ => by cases h; rfl
  | x :: r, a, e, h, hs => by
    obtain ⟨rfl, h0, h1⟩ := h
    have e1 := hs x List.mem_cons_self
    refine ⟨rfl, by rw [e1]; exact h0, ?_⟩
    rw [e1, Nat.add_assoc]
    exact til_shift h1 fun s hm => hs s (List.mem_cons_of_mem _ hm)
theorem til_head {ws : Nat → Nat} {len : Nat} {L : List Nat} {a e : Nat} (h : Til ws len a L e) (hl : a < e) : a ∈ L := by
  cases L with
  | nil => exact absurd h (by unfold Til; omega)
  | cons x r => obtain ⟨rfl, _⟩ := h; exact List.mem_cons_self
/-- What holds of a cache: L: where its blocks' instructions begin. -/
structure Iv (c : Cs) (L : Int → List Nat) : Prop where
  lt : ∀ i, c.ws i < 4294967296
  key : ∀ pc b, c.bl pc = some b → 0 ≤ pc ∧ pc < 4294967296
  bo : Bo c
  apart : ∀ p1 b1 p2 b2, c.bl p1 = some b1 → c.bl p2 = some b2 → p1 ≠ p2 → b1.bg + b1.sz ≤ b2.bg ∨ b2.bg + b2.sz ≤ b1.bg
  til : ∀ pc b, c.bl pc = some b → Til c.ws c.fill b.bg (L pc) (b.bg + b.sz)
  ent : ∀ pc b, c.bl pc = some b → (decP c.ws c.fill b.bg).x.op = 1 ∧ ((decP c.ws c.fill b.bg).x.k : Int) = pc
  zero : ∀ j, j < c.fill → (∀ pc b, c.bl pc = some b → ¬ (b.bg ≤ j ∧ j < b.bg + b.sz)) → c.ws j = 0
  exs : ∀ s p, c.ex s = some p → ∃ (n : Nat) (b : Bl), s = (n : Int) ∧ c.bl p.1 = some b ∧ n ∈ L p.1 ∧ exOp (decP c.ws c.fill n).x.op ∧ p.1 < 4294967296 ∧ p.2 < 4294967296 ∧ (¬ ldOp (decP c.ws c.fill n).x.op → (decP c.ws c.fill n).x.k = p.2) ∧ (ldOp (decP c.ws c.fill n).x.op → ∃ b', c.bl p.2 = some b' ∧ (decP c.ws c.fill n).x.k = b'.bg)
  exb : ∀ pc b (n : Nat), c.bl pc = some b → n ∈ L pc → exOp (decP c.ws c.fill n).x.op → ∃ p, c.ex n = some p
  tb : ∀ k, k < c.slots → c.ta k = -1 ∨ ∃ pc b, c.bl pc = some b ∧ pc.toNat % c.slots = k ∧ c.ta k = b.bg
theorem Iv.start {c : Cs} {L : Int → List Nat} (h : Iv c L) {pc : Int} {b : Bl} {s : Nat} (hb : c.bl pc = some b) (hs : s ∈ L pc) : (decP c.ws c.fill s).e = 0 ∧ b.bg ≤ s ∧ s + (decP c.ws c.fill s).n ≤ b.bg + b.sz ∧ 1 ≤ (decP c.ws c.fill s).n := by
  obtain ⟨h1, h2, h3, h4⟩ := til_mem h.lt (h.til pc b hb) s hs
  exact ⟨h2, h1, h3, h4⟩
/-- Instructions of blocks lie apart. -/
theorem Iv.disj {c : Cs} {L : Int → List Nat} (h : Iv c L) {p1 p2 : Int} {b1 b2 : Bl} {s t : Nat} (h1 : c.bl p1 = some b1) (h2 : c.bl p2 = some b2) (hs : s ∈ L p1) (ht : t ∈ L p2) (hne : s ≠ t) : s + (decP c.ws c.fill s).n ≤ t ∨ t + (decP c.ws c.fill t).n ≤ s := by
  by_cases e : p1 = p2
  · subst e
    exact til_disj h.lt (h.til p1 b1 h1) s hs t ht hne
  · obtain ⟨_, a1, a2, _⟩ := h.start h1 hs
    obtain ⟨_, a3, a4, _⟩ := h.start h2 ht
    rcases h.apart p1 b1 p2 b2 h1 h2 e with h3 | h3 <;> omega
theorem Iv.exd {c : Cs} {L : Int → List Nat} (h : Iv c L) {s : Int} {p : Nat × Nat} (hs : c.ex s = some p) : ∃ (n : Nat) (b : Bl), s = (n : Int) ∧ c.bl p.1 = some b ∧ n ∈ L p.1 ∧ exOp (decP c.ws c.fill n).x.op ∧ (decP c.ws c.fill n).e = 0 ∧ Exd c.ws c.fill n := by
  obtain ⟨n, b, e, h1, h2, h3, _⟩ := h.exs s p hs
  obtain ⟨h4, _⟩ := h.start h1 h2
  exact ⟨n, b, e, h1, h2, h3, h4, Ca.exd h.lt h4 h3⟩
theorem Iv.xo {c : Cs} {L : Int → List Nat} (h : Iv c L) : Xo c := by
  refine ⟨fun s p hs => ?_, fun n m hn hm hne => ?_⟩
  · obtain ⟨n, b, e, h1, h2, h3, p1, p2, _⟩ := h.exs s p hs
    exact ⟨n, e, (h.start h1 h2).1, h3, p1, p2⟩
  · cases e1 : c.ex n with
    | none => exact absurd e1 hn
    | some p =>
      cases e2 : c.ex m with
      | none => exact absurd e2 hm
      | some q =>
        obtain ⟨n', b1, e3, h1, h2, _, _, E1⟩ := h.exd e1
        obtain ⟨m', b2, e4, h3, h4, _, _, E2⟩ := h.exd e2
        obtain rfl : n = n' := by omega
        obtain rfl : m = m' := by omega
        have := h.disj h1 h3 h2 h4 hne
        rw [E1.n, E2.n] at this
        exact this
/-- Words that changed at exits alone: t: which are turned. -/
structure Wc (c : Cs) (ws' : Nat → Nat) (t : Nat → Bool) : Prop where
  lt : ∀ i, ws' i < 4294967296
  far : ∀ j : Nat, (∀ s : Nat, c.ex s ≠ none → j ≠ s ∧ j ≠ s + 1) → ws' j = c.ws j
  at' : ∀ (s : Nat) (p : Nat × Nat), c.ex s = some p → (t s = true → ws' s = othN (c.ws s)) ∧ (t s = false → ws' s = c.ws s ∧ ws' (s + 1) = c.ws (s + 1))
theorem Wc.same {c : Cs} {L : Int → List Nat} {ws' : Nat → Nat} {t : Nat → Bool} (h : Iv c L) (W : Wc c ws' t) {pc : Int} {b : Bl} {s : Nat} (hb : c.bl pc = some b) (hs : s ∈ L pc) (hn : c.ex s = none ∨ t s = false) : decP ws' c.fill s = decP c.ws c.fill s := by
  obtain ⟨h0, h1, h2, h3⟩ := h.start hb hs
  obtain ⟨_, _, z3⟩ := dec_size h.lt h0
  refine dec_loc h0 (fun i hi => ?_) z3
  by_cases hx : ∀ z : Nat, c.ex z ≠ none → s + i ≠ z ∧ s + i ≠ z + 1
  · exact W.far _ hx
  · have : ∃ z : Nat, c.ex z ≠ none ∧ (s + i = z ∨ s + i = z + 1) := Classical.byContradiction fun hh => hx fun z hz => ⟨fun e => hh ⟨z, hz, .inl e⟩, fun e => hh ⟨z, hz, .inr e⟩⟩
    obtain ⟨z, hz, hzi⟩ := this
    cases e1 : c.ex z with
    | none => exact absurd e1 hz
    | some p =>
      obtain ⟨n', b1, e3, g1, g2, _, _, E1⟩ := h.exd e1
      obtain rfl : z = n' := by omega
      have hsz : s = z := Classical.byContradiction fun hne => by
        have := h.disj hb g1 hs g2 hne
        rw [E1.n] at this
        omega
      subst hsz
      rw [e1] at hn
      obtain ⟨w1, w2⟩ := (W.at' s p e1).2 (hn.elim (fun e => by cases e) id)
      rcases hzi with e | e
      · obtain rfl : i = 0 := by omega
        exact w1
      · obtain rfl : i = 1 := by omega
        exact w2
theorem Wc.turned {c : Cs} {L : Int → List Nat} {ws' : Nat → Nat} {t : Nat → Bool} (h : Iv c L) (W : Wc c ws' t) {s : Nat} {p : Nat × Nat} (hs : c.ex s = some p) (ht : t s = true) : (decP ws' c.fill s).e = 0 ∧ (decP ws' c.fill s).n = (decP c.ws c.fill s).n ∧ (decP ws' c.fill s).x.op = othF (decP c.ws c.fill s).x.op ∧ (decP ws' c.fill s).x.k = ws' (s + 1) := by
  obtain ⟨n', b1, e3, g1, g2, _, _, E1⟩ := h.exd hs
  obtain rfl : s = n' := by omega
  obtain ⟨a1, a2, a3, a4⟩ := E1.dec ws' c.fill W.lt ((W.at' s p hs).1 ht) E1.le
  exact ⟨a1, by rw [a2, E1.n], a3, a4⟩
theorem Wc.til {c : Cs} {L : Int → List Nat} {ws' : Nat → Nat} {t : Nat → Bool} (h : Iv c L) (W : Wc c ws' t) {pc : Int} {b : Bl} (hb : c.bl pc = some b) : Til ws' c.fill b.bg (L pc) (b.bg + b.sz) := by
  refine til_upd (h.til pc b hb) fun s hs => ?_
  by_cases hn : c.ex s = none ∨ t s = false
  · have := W.same h hb hs hn
    rw [this]
    exact ⟨(h.start hb hs).1, rfl⟩
  · cases e : c.ex s with
    | none => exact absurd (.inl e) hn
    | some p =>
      have ht : t s = true := by cases e2 : t s with | true => rfl | false => exact absurd (.inr e2) hn
      obtain ⟨a1, a2, _⟩ := W.turned h e ht
      exact ⟨a1, a2⟩
theorem Iv.bg_mem {c : Cs} {L : Int → List Nat} (h : Iv c L) {pc : Int} {b : Bl} (hb : c.bl pc = some b) : b.bg ∈ L pc := til_head (h.til pc b hb) (by have := (h.bo.ok pc b hb).2.1; omega)
theorem not_ex1 : ¬ exOp 1 := by decide
theorem Iv.bg_ex {c : Cs} {L : Int → List Nat} (h : Iv c L) {pc : Int} {b : Bl} (hb : c.bl pc = some b) : c.ex b.bg = none := by
  cases e : c.ex b.bg with
  | none => rfl
  | some p =>
    obtain ⟨n', b1, e3, g1, g2, g3, _, E1⟩ := h.exd e
    obtain rfl : b.bg = n' := by omega
    rw [(h.ent pc b hb).1] at g3
    exact absurd g3 not_ex1
theorem Wc.ent {c : Cs} {L : Int → List Nat} {ws' : Nat → Nat} {t : Nat → Bool} (h : Iv c L) (W : Wc c ws' t) {pc : Int} {b : Bl} (hb : c.bl pc = some b) : (decP ws' c.fill b.bg).x.op = 1 ∧ ((decP ws' c.fill b.bg).x.k : Int) = pc := by
  rw [W.same h hb (h.bg_mem hb) (.inl (h.bg_ex hb))]
  exact h.ent pc b hb
/-- A word that no block has is none of an exit. -/
theorem Iv.far {c : Cs} {L : Int → List Nat} (h : Iv c L) {j : Nat} (hj : ∀ pc b, c.bl pc = some b → ¬ (b.bg ≤ j ∧ j < b.bg + b.sz)) : ∀ s : Nat, c.ex s ≠ none → j ≠ s ∧ j ≠ s + 1 := fun s hs => by
  cases e : c.ex s with
  | none => exact absurd e hs
  | some p =>
    obtain ⟨n', b1, e3, g1, g2, g3, _, E1⟩ := h.exd e
    obtain rfl : s = n' := by omega
    obtain ⟨_, a1, a2, _⟩ := h.start g1 g2
    rw [E1.n] at a2
    have := hj p.1 b1 g1
    constructor
    · intro e; subst e; exact this ⟨by omega, by omega⟩
    · intro e; subst e; exact this ⟨by omega, by omega⟩
theorem iv_new (room n : Nat) : Iv (newC room n n) (fun _ => []) :=
  ⟨fun _ => by show 0 < 4294967296; decide, fun _ _ h => (by cases h), ⟨fun _ _ h => (by cases h)⟩, fun _ _ _ _ h => (by cases h), fun _ _ h => (by cases h), fun _ _ h => (by cases h), fun _ _ _ => rfl, fun _ _ h => (by cases h), fun _ _ _ h => (by cases h), fun k hk => .inl (by show (if k < n then (-1 : Int) else 0) = -1; rw [if_pos (show k < n from hk)])⟩
theorem iv_note {c : Cs} {L : Int → List Nat} (h : Iv c L) (pc : Nat) (b : Bl) (hb : c.bl pc = some b) : Iv (noteC c pc b) L := by
  refine ⟨h.lt, h.key, ⟨h.bo.ok⟩, h.apart, h.til, h.ent, h.zero, h.exs, h.exb, fun k hk => ?_⟩
  show setF c.ta (pc % c.slots) b.bg k = -1 ∨ _
  by_cases e : k = pc % c.slots
  · right
    refine ⟨pc, b, hb, by rw [Int.toNat_natCast]; exact e.symm, ?_⟩
    show setF c.ta (pc % c.slots) b.bg k = _
    simp [setF, e]
  · have : setF c.ta (pc % c.slots) b.bg k = c.ta k := by simp [setF, e]
    rw [this]
    rcases h.tb k hk with h1 | ⟨p, b', h1, h2, h3⟩
    · exact .inl h1
    · exact .inr ⟨p, b', h1, h2, by show setF c.ta (pc % c.slots) b.bg k = _; rw [this]; exact h3⟩
theorem ex_oth {o : Int} (h : exOp o) : exOp (othF o) ∧ (ldOp o ↔ ¬ ldOp (othF o)) := by
  rcases h with rfl | rfl | rfl | rfl <;> decide
theorem iv_link {c : Cs} {L : Int → List Nat} (h : Iv c L) (s : Nat) (of tt : Nat) (b' : Bl) (he : c.ex s = some (of, tt)) (hl : ¬ ldOp (decP c.ws c.fill s).x.op) (hb' : c.bl tt = some b') (hlt : b'.bg < 4294967296) : Iv (turC c s (othN (c.ws s)) b'.bg) L := by
  obtain ⟨o1, o2, o3⟩ := over_at c.ws s (othN (c.ws s)) b'.bg
  obtain ⟨s', b0, e0, g1, g2, g3, g4, E⟩ := h.exd he
  obtain rfl : s = s' := by omega
  have X := h.xo
  have W : Wc c (over c.ws s [othN (c.ws s), b'.bg]) (fun z => decide (z = s)) := by
    refine ⟨fun i => ?_, fun j hj => ?_, fun z p hz => ⟨fun ht => ?_, fun ht => ?_⟩⟩
    · by_cases e1 : i = s
      · subst e1; rw [o1]; exact E.lt
      · by_cases e2 : i = s + 1
        · subst e2; rw [o2]; exact hlt
        · rw [o3 i e1 e2]; exact h.lt i
    · obtain ⟨a1, a2⟩ := hj s (by rw [he]; simp)
      exact o3 j a1 a2
    · simp at ht; subst ht; exact o1
    · have hne : z ≠ s := by simpa using ht
      have := X.apart z s (by rw [hz]; simp) (by rw [he]; simp) hne
      exact ⟨o3 z (by omega) (by omega), o3 (z + 1) (by omega) (by omega)⟩
  obtain ⟨t1, t2, t3, t4⟩ := W.turned h he (by simp)
  rw [o2] at t4
  refine ⟨W.lt, h.key, ⟨h.bo.ok⟩, h.apart, fun pc b hb => W.til h hb, fun pc b hb => W.ent h hb, fun j hj hu => ?_, fun z p hz => ?_, fun pc b n hb hn ho => ?_, h.tb⟩
  · exact (W.far j (h.far hu)).trans (h.zero j hj hu)
  · obtain ⟨n, b, e, h1, h2, h3, p1, p2, h4, h5⟩ := h.exs z p hz
    subst e
    by_cases e : n = s
    · subst e
      have hz' : c.ex (n : Int) = some p := hz
      rw [he] at hz'; cases hz'
      have t3' : (decP (over c.ws n [othN (c.ws n), b'.bg]) c.fill n).x.op = othF (decP c.ws c.fill n).x.op := t3
      refine ⟨n, b, rfl, h1, h2, ?_, p1, p2, fun hnl => ?_, fun _ => ⟨b', hb', t4⟩⟩
      · show exOp (decP (over c.ws n [othN (c.ws n), b'.bg]) c.fill n).x.op
        rw [t3']; exact (ex_oth h3).1
      · exact absurd (by show ldOp (decP (over c.ws n [othN (c.ws n), b'.bg]) c.fill n).x.op; rw [t3']; exact Classical.byContradiction fun hh => hl ((ex_oth h3).2.2 hh)) hnl
    · have hs := W.same h h1 h2 (.inr (by simp [e]))
      have hs' : decP (turC c s (othN (c.ws s)) b'.bg).ws (turC c s (othN (c.ws s)) b'.bg).fill n = decP c.ws c.fill n := hs
      exact ⟨n, b, rfl, h1, h2, by rw [hs']; exact h3, p1, p2, by rw [hs']; exact h4, by rw [hs']; exact h5⟩
  · by_cases e : n = s
    · subst e; exact ⟨_, he⟩
    · have hs := W.same h hb hn (.inr (by simp [e]))
      have hs' : decP (turC c s (othN (c.ws s)) b'.bg).ws (turC c s (othN (c.ws s)) b'.bg).fill n = decP c.ws c.fill n := hs
      rw [hs'] at ho
      exact h.exb pc b n hb hn ho
theorem iv_flush {c : Cs} {L : Int → List Nat} (h : Iv c L) (tp' : Nat → Nat) (ta' : Nat → Int) (hf : Fg c c.bl tp' ta' (fun _ => false)) : Iv { c with fill := 0, tp := tp', ta := ta', bl := fun _ => none, ex := fun _ => none } (fun _ => []) := by
  refine ⟨h.lt, fun _ _ h => (by cases h), ⟨fun _ _ h => (by cases h)⟩, fun _ _ _ _ h => (by cases h), fun _ _ h => (by cases h), fun _ _ h => (by cases h), fun j hj _ => absurd hj (Nat.not_lt_zero _), fun _ _ h => (by cases h), fun _ _ _ h => (by cases h), fun k hk => .inl ?_⟩
  rcases hf k hk with ⟨h1, _⟩ | ⟨h1, _, h3⟩
  · exact h1
  · rcases h.tb k hk with h4 | ⟨pc, b, h4, h5, h6⟩
    · exact h1.trans h4
    · exact absurd h6 (h3 pc b h4 rfl h5)
end Go.Proofs.Ytgkkghphlbgcoaa.Ca
namespace Go.Proofs.Ytgkkghphlbgcoaa.Ca
open Go.RowKit Go.Maps Ho
set_option maxRecDepth 100000
set_option linter.unusedVariables false
set_option linter.unusedSimpArgs false
theorem setN_lt (ps : Nat → Int) : ∀ k i, setN ps k i < 18446744073709551616
  | 0, i => by show 0 < 18446744073709551616; decide
  | k + 1, i => by
    unfold setN addP
    split
    · exact or_lt (setN_lt ps k i) (by have : (ps k).toNat % 64 < 64 := Nat.mod_lt _ (by decide); exact Nat.lt_of_lt_of_le (Nat.pow_lt_pow_right (by decide) this) (by decide))
    · exact setN_lt ps k i
theorem insX_other (bg pc : Nat) : ∀ (ps : List (Nat × Nat)) (ex : Int → Option (Nat × Nat)) (z : Int), (∀ p ∈ ps, z ≠ ((bg + p.1 : Nat) : Int)) → insX ex bg pc ps z = ex z
  | [], ex, z, _ => rfl
  | p :: r, ex, z, h => by
    have := insX_other bg pc r (fun z => if z = ((bg + p.1 : Nat) : Int) then some (pc, p.2) else ex z) z (fun q hq => h q (List.mem_cons_of_mem _ hq))
    refine this.trans ?_
    (try dsimp only)
    rw [if_neg (h p List.mem_cons_self)]
theorem insX_hit (bg pc : Nat) : ∀ (ps : List (Nat × Nat)) (ex : Int → Option (Nat × Nat)) (z : Int), (∃ p ∈ ps, z = ((bg + p.1 : Nat) : Int)) → ∃ q, insX ex bg pc ps z = some q
  | [], ex, z, h => by obtain ⟨p, hp, _⟩ := h; cases hp
  | p :: r, ex, z, h => by
    by_cases hr : ∃ q ∈ r, z = ((bg + q.1 : Nat) : Int)
    · exact insX_hit bg pc r _ z hr
    · obtain ⟨q, hq, hz⟩ := h
      rcases List.mem_cons.1 hq with rfl | hq
      · refine ⟨(pc, q.2), (insX_other bg pc r (fun z => if z = ((bg + q.1 : Nat) : Int) then some (pc, q.2) else ex z) z fun q' hq' e => hr ⟨q', hq', e⟩).trans ?_⟩
        (try dsimp only)
        rw [if_pos hz]
      · exact absurd ⟨q, hq, hz⟩ hr
theorem isx_ex {o : Int} (h : isX o = true) : exOp o ∧ ¬ ldOp o := by
  simp [isX] at h
  rcases h with rfl | rfl <;> decide
theorem thr_ex {pc s : Nat} {x : Cd} (h : thr pc s x = true) (he : exOp x.op) : isX x.op = true := by
  unfold thr at h
  rcases he with e | e | e | e
  · rw [e]; rfl
  · rw [e]; rfl
  · rw [e] at h; split at h <;> simp at h
  · rw [e] at h; split at h <;> simp at h
theorem iv_insert {c : Cs} {L : Int → List Nat} (h : Iv c L) (pc len : Nat) (hpc : pc < 4294967296) (cw : Nat → Nat) (hcw : ∀ i, cw i < 4294967296) (S : List Nat) (hl : 0 < len) (hg : Good cw len pc S) (hb : c.bl pc = none) (q0 q1 q2 q3 : Nat) (hq : q0 < 18446744073709551616 ∧ q1 < 18446744073709551616 ∧ q2 < 18446744073709551616 ∧ q3 < 18446744073709551616) :
    Iv (insC c pc ⟨c.fill, len, q0, q1, q2, q3⟩ cw (partsOf cw len S)) (fun z => if z = (pc : Int) then S.map (c.fill + ·) else L z) := by
  have hws : ∀ i, (if i < c.fill then c.ws i else cw (i - c.fill)) < 4294967296 := fun i => by split <;> first | exact h.lt i | exact hcw _
  have old : ∀ p b (s : Nat), c.bl p = some b → s ∈ L p → decP (fun i => if i < c.fill then c.ws i else cw (i - c.fill)) (c.fill + len) s = decP c.ws c.fill s := fun p b s hp hs => by
    obtain ⟨h0, h1, h2, h3⟩ := h.start hp hs
    obtain ⟨_, _, z3⟩ := dec_size h.lt h0
    refine dec_loc h0 (fun i hi => ?_) (by omega)
    (try dsimp only)
    rw [if_pos (by omega)]
  have new : ∀ s ∈ S, decP (fun i => if i < c.fill then c.ws i else cw (i - c.fill)) (c.fill + len) ((c.fill + s : Nat) : Int) = decP cw len s := fun s hs => by
    obtain ⟨u1, u2, u3, u4⟩ := til_mem hcw hg.t s hs
    refine dec_loc u2 (fun i hi => ?_) (by omega)
    (try dsimp only)
    rw [if_neg (by omega), show c.fill + s + i - c.fill = s + i by omega]
  have nb : ∀ p b, (if p = (pc : Int) then some (⟨c.fill, len, q0, q1, q2, q3⟩ : Bl) else c.bl p) = some b → (p = (pc : Int) ∧ b = ⟨c.fill, len, q0, q1, q2, q3⟩) ∨ (p ≠ (pc : Int) ∧ c.bl p = some b) := fun p b hp => by
    split at hp
    · next e => cases hp; exact .inl ⟨e, rfl⟩
    · next e => exact .inr ⟨e, hp⟩
  have h0S : 0 ∈ S := til_head hg.t hl
  have th0 := hg.o 0 h0S
  refine ⟨hws, fun p b hp => ?_, ⟨fun p b hp => ?_⟩, fun p1 b1 p2 b2 h1 h2 hne => ?_, fun p b hp => ?_, fun p b hp => ?_, fun j hj hu => ?_, fun z q hz => ?_, fun p b n hp hn ho => ?_, fun k hk => ?_⟩
  · rcases nb p b hp with ⟨rfl, _⟩ | ⟨_, hp⟩
    · omega
    · exact h.key p b hp
  · rcases nb p b hp with ⟨_, rfl⟩ | ⟨_, hp⟩
    · exact ⟨Nat.le_refl _, hl, hq⟩
    · obtain ⟨a1, a2⟩ := h.bo.ok p b hp
      exact ⟨by show b.bg + b.sz ≤ c.fill + len; omega, a2⟩
  · rcases nb p1 b1 h1 with ⟨rfl, rfl⟩ | ⟨_, h1⟩
    · rcases nb p2 b2 h2 with ⟨rfl, rfl⟩ | ⟨_, h2⟩
      · exact absurd rfl hne
      · exact .inr (h.bo.ok p2 b2 h2).1
    · rcases nb p2 b2 h2 with ⟨rfl, rfl⟩ | ⟨_, h2⟩
      · exact .inl (h.bo.ok p1 b1 h1).1
      · exact h.apart p1 b1 p2 b2 h1 h2 hne
  · rcases nb p b hp with ⟨rfl, rfl⟩ | ⟨hne, hp⟩
    · (try dsimp only)
      rw [if_pos rfl]
      exact til_shift (a := 0) hg.t new
    · (try dsimp only)
      rw [if_neg hne]
      exact til_upd (h.til p b hp) fun s hs => by
        have := old p b s hp hs
        show (decP (fun i => if i < c.fill then c.ws i else cw (i - c.fill)) (c.fill + len) s).e = 0 ∧ _
        rw [this]; exact ⟨(h.start hp hs).1, by show (decP (fun i => if i < c.fill then c.ws i else cw (i - c.fill)) (c.fill + len) s).n = _; rw [this]⟩
  · rcases nb p b hp with ⟨rfl, rfl⟩ | ⟨hne, hp⟩
    · have e := new 0 h0S
      rw [Nat.add_zero] at e
      show (decP (fun i => if i < c.fill then c.ws i else cw (i - c.fill)) (c.fill + len) c.fill).x.op = 1 ∧ ((decP (fun i => if i < c.fill then c.ws i else cw (i - c.fill)) (c.fill + len) c.fill).x.k : Int) = _
      rw [e]
      simp [thr] at th0
      exact ⟨th0.1, congrArg Int.ofNat th0.2⟩
    · have e := old p b b.bg hp (h.bg_mem hp)
      show (decP (fun i => if i < c.fill then c.ws i else cw (i - c.fill)) (c.fill + len) b.bg).x.op = 1 ∧ ((decP (fun i => if i < c.fill then c.ws i else cw (i - c.fill)) (c.fill + len) b.bg).x.k : Int) = _
      rw [e]
      exact h.ent p b hp
  · have h1 := hu pc ⟨c.fill, len, q0, q1, q2, q3⟩ (by show (if (pc : Int) = pc then _ else _) = _; rw [if_pos rfl])
    have hj' : j < c.fill + len := hj
    (try dsimp only at h1)
    have hjf : j < c.fill := by omega
    show (if j < c.fill then c.ws j else cw (j - c.fill)) = 0
    rw [if_pos hjf]
    refine h.zero j hjf fun p b hp => hu p b ?_
    show (if p = (pc : Int) then _ else c.bl p) = some b
    rw [if_neg (fun e => by subst e; rw [hb] at hp; cases hp)]
    exact hp
  · rcases insX_of c.fill pc _ _ _ _ hz with h1 | ⟨q', hq', e, rfl⟩
    · obtain ⟨n, b, e, g1, g2, g3, p1, p2, g4, g5⟩ := h.exs z q h1
      have hne : (q.1 : Int) ≠ (pc : Int) := fun e => by rw [e, hb] at g1; cases g1
      have eo := old _ b n g1 g2
      refine ⟨n, b, e, ?_, ?_, ?_, p1, p2, ?_, ?_⟩
      · show (if (q.1 : Int) = (pc : Int) then _ else c.bl q.1) = some b
        rw [if_neg hne]; exact g1
      · (try dsimp only); rw [if_neg hne]; exact g2
      · show exOp (decP (fun i => if i < c.fill then c.ws i else cw (i - c.fill)) (c.fill + len) n).x.op
        rw [eo]; exact g3
      · show ¬ ldOp (decP (fun i => if i < c.fill then c.ws i else cw (i - c.fill)) (c.fill + len) n).x.op → (decP (fun i => if i < c.fill then c.ws i else cw (i - c.fill)) (c.fill + len) n).x.k = q.2
        rw [eo]; exact g4
      · show ldOp (decP (fun i => if i < c.fill then c.ws i else cw (i - c.fill)) (c.fill + len) n).x.op → ∃ b', (if (q.2 : Int) = (pc : Int) then _ else c.bl q.2) = some b' ∧ (decP (fun i => if i < c.fill then c.ws i else cw (i - c.fill)) (c.fill + len) n).x.k = b'.bg
        rw [eo]
        intro hl'
        obtain ⟨b', k1, k2⟩ := g5 hl'
        exact ⟨b', by rw [if_neg (fun e => by rw [e, hb] at k1; cases k1)]; exact k1, k2⟩
    · obtain ⟨m1, m2, m3⟩ := partsOf_mem.1 hq'
      obtain ⟨u1, u2, u3, u4⟩ := til_mem hcw hg.t q'.1 m1
      obtain ⟨x1, x2⟩ := isx_ex m2
      have en := new q'.1 m1
      have E0 := exd hcw u2 x1
      refine ⟨c.fill + q'.1, ⟨c.fill, len, q0, q1, q2, q3⟩, e, ?_, ?_, ?_, hpc, ?_, ?_, ?_⟩
      · show (if (pc : Int) = (pc : Int) then _ else c.bl pc) = some _
        rw [if_pos rfl]
      · (try dsimp only); rw [if_pos rfl]; exact List.mem_map.2 ⟨q'.1, m1, rfl⟩
      · show exOp (decP (fun i => if i < c.fill then c.ws i else cw (i - c.fill)) (c.fill + len) ((c.fill + q'.1 : Nat) : Int)).x.op
        rw [en]; exact x1
      · show q'.2 < 4294967296
        rw [m3, E0.k]; exact hcw _
      · intro _
        show (decP (fun i => if i < c.fill then c.ws i else cw (i - c.fill)) (c.fill + len) ((c.fill + q'.1 : Nat) : Int)).x.k = q'.2
        rw [en, m3]
      · show ldOp (decP (fun i => if i < c.fill then c.ws i else cw (i - c.fill)) (c.fill + len) ((c.fill + q'.1 : Nat) : Int)).x.op → _
        rw [en]
        exact fun hh => absurd hh x2
  · rcases nb p b hp with ⟨rfl, rfl⟩ | ⟨hne, hp⟩
    · (try dsimp only at hn)
      rw [if_pos rfl] at hn
      obtain ⟨s, hs, rfl⟩ := List.mem_map.1 hn
      have ho' : exOp (decP (fun i => if i < c.fill then c.ws i else cw (i - c.fill)) (c.fill + len) ((c.fill + s : Nat) : Int)).x.op := ho
      rw [new s hs] at ho'
      exact insX_hit c.fill pc _ _ _ ⟨(s, (decP cw len s).x.k), partsOf_mem.2 ⟨hs, thr_ex (hg.o s hs) ho', rfl⟩, rfl⟩
    · (try dsimp only at hn)
      rw [if_neg hne] at hn
      have ho' : exOp (decP (fun i => if i < c.fill then c.ws i else cw (i - c.fill)) (c.fill + len) n).x.op := ho
      rw [old p b n hp hn] at ho'
      obtain ⟨q, hq'⟩ := h.exb p b n hp hn ho'
      refine ⟨q, (insX_other c.fill pc _ _ _ fun p' hp' e => ?_).trans hq'⟩
      have := (h.start hp hn)
      have := (h.bo.ok p b hp).1
      omega
  · rcases h.tb k hk with h1 | ⟨p, b, h1, h2, h3⟩
    · exact .inl h1
    · refine .inr ⟨p, b, ?_, h2, h3⟩
      show (if p = (pc : Int) then _ else c.bl p) = some b
      rw [if_neg (fun e => by subst e; rw [hb] at h1; cases h1)]
      exact h1
theorem ldb_iff (o : Int) : ldB o = true ↔ ldOp o := by simp [ldB, ldOp]
theorem iv_drop {c c' : Cs} {L : Int → List Nat} (h : Iv c L) (p : Int) (D : Dp c p c') (hlt : ∀ i, c'.ws i < 4294967296) : Iv c' L := by
  obtain ⟨⟨ws1, R, Z⟩, FG, BLK, rm1, rm2, rm3⟩ := D
  have X := h.xo
  have w1lt : ∀ i, ws1 i < 4294967296 := fun i => by
    by_cases hx : ∀ s : Nat, c.ex s ≠ none → i ≠ s ∧ i ≠ s + 1
    · rw [R.far i hx]; exact h.lt i
    · have : ∃ s : Nat, c.ex s ≠ none ∧ (i = s ∨ i = s + 1) := Classical.byContradiction fun hh => hx fun z hz => ⟨fun e => hh ⟨z, hz, .inl e⟩, fun e => hh ⟨z, hz, .inr e⟩⟩
      obtain ⟨s, hs, hi⟩ := this
      cases e : c.ex s with
      | none => exact absurd e hs
      | some q =>
        obtain ⟨n, b, e1, g1, g2, g3, g4, E⟩ := h.exd e
        obtain rfl : s = n := by omega
        obtain ⟨_, _, _, _, _, _, _, q2, _⟩ := h.exs _ q e
        cases et : tu c (gone c p) (fun _ => false) s q with
        | true =>
          obtain ⟨a1, a2⟩ := (R.at' s q e).1 et
          rcases hi with rfl | rfl
          · rw [a1]; exact E.lt
          · rw [a2]; exact q2
        | false =>
          obtain ⟨a1, a2⟩ := (R.at' s q e).2 et
          rcases hi with rfl | rfl
          · rw [a1]; exact h.lt _
          · rw [a2]; exact h.lt _
  have W : Wc c ws1 (fun s => match c.ex s with | some q => tu c (gone c p) (fun _ => false) s q | none => false) := by
    refine ⟨w1lt, R.far, fun s q hq => ?_⟩
    (try dsimp only)
    rw [hq]
    exact ⟨fun ht => ((R.at' s q hq).1 ht).1, (R.at' s q hq).2⟩
  have bb : ∀ pc b, c'.bl pc = some b → c.bl pc = some b ∧ gone c p pc = none := fun pc b hb => by
    rw [BLK] at hb
    cases e : gone c p pc with
    | none => rw [e] at hb; simp at hb; exact ⟨hb, rfl⟩
    | some _ => rw [e] at hb; simp at hb
  have bb' : ∀ pc b, c.bl pc = some b → gone c p pc = none → c'.bl pc = some b := fun pc b hb hg => by rw [BLK, hg]; simpa using hb
  have keep : ∀ pc b, c.bl pc = some b → gone c p pc = none → ∀ j, b.bg ≤ j → j < b.bg + b.sz → c'.ws j = ws1 j := fun pc b hb hg j h1 h2 => by
    refine Z.o j fun p2 b2 hb2 _ hh => ?_
    obtain ⟨g1, _⟩ := gone_bl hb2
    have hne : pc ≠ p2 := fun e => by subst e; rw [hg] at hb2; cases hb2
    rcases h.apart pc b p2 b2 hb g1 hne with h3 | h3 <;> omega
  have dd : ∀ pc b, c.bl pc = some b → gone c p pc = none → ∀ s ∈ L pc, decP c'.ws c'.fill s = decP ws1 c.fill s := fun pc b hb hg s hs => by
    have hT := W.til h hb
    obtain ⟨u1, u2, u3, u4⟩ := til_mem w1lt hT s hs
    have := (h.bo.ok pc b hb).1
    exact dec_loc u2 (fun i hi => keep pc b hb hg _ (by omega) (by omega)) (by rw [rm2]; omega)
  refine ⟨hlt, fun pc b hb => h.key pc b (bb pc b hb).1, ⟨fun pc b hb => by rw [rm2]; exact h.bo.ok pc b (bb pc b hb).1⟩, fun p1 b1 p2 b2 h1 h2 => h.apart p1 b1 p2 b2 (bb _ _ h1).1 (bb _ _ h2).1, fun pc b hb => ?_, fun pc b hb => ?_, fun j hj hu => ?_, fun s q hs => ?_, fun pc b n hb hn ho => ?_, fun k hk => ?_⟩
  · obtain ⟨h1, h2⟩ := bb pc b hb
    refine til_upd (W.til h h1) fun s hs => ?_
    rw [dd pc b h1 h2 s hs]
    exact ⟨(til_mem w1lt (W.til h h1) s hs).2.1, rfl⟩
  · obtain ⟨h1, h2⟩ := bb pc b hb
    rw [dd pc b h1 h2 b.bg (h.bg_mem h1)]
    exact W.ent h h1
  · by_cases hg : ∃ pc b, gone c p pc = some b ∧ b.bg ≤ j ∧ j < b.bg + b.sz
    · obtain ⟨pc, b, g1, g2, g3⟩ := hg
      exact Z.z j pc b g1 rfl g2 g3
    · have hu' : ∀ pc b, c.bl pc = some b → ¬ (b.bg ≤ j ∧ j < b.bg + b.sz) := fun pc b hb hh => by
        cases e : gone c p pc with
        | none => exact hu pc b (bb' pc b hb e) hh
        | some b' =>
          have := (gone_bl e).1
          rw [hb] at this; cases this
          exact hg ⟨pc, b, e, hh⟩
      rw [Z.o j fun pc b hb _ hh => hg ⟨pc, b, hb, hh⟩, R.far j (h.far hu')]
      exact h.zero j (by rw [← rm2]; exact hj) hu'
  · have hx := R.exs s
    rw [hs] at hx
    cases e : c.ex s with
    | none => rw [e] at hx; cases hx
    | some q' =>
      rw [e] at hx
      (try dsimp only at hx)
      split at hx
      · cases hx
      · next hng =>
        cases hx
        have hg1 : gone c p q.1 = none := by
          cases eg : gone c p q.1 with
          | none => rfl
          | some _ => exact absurd ⟨rfl, by rw [eg]; rfl⟩ hng
        obtain ⟨n, b, e1, g1, g2, g3, p1, p2, g4, g5⟩ := h.exs s q e
        subst e1
        have hd := dd _ b g1 hg1 n g2
        cases et : tu c (gone c p) (fun _ => false) n q with
        | false =>
          have hs1 := W.same h g1 g2 (.inr (by (try dsimp only); rw [e]; exact et))
          rw [hs1] at hd
          refine ⟨n, b, rfl, bb' _ b g1 hg1, g2, by rw [hd]; exact g3, p1, p2, by rw [hd]; exact g4, fun hl => ?_⟩
          rw [hd] at hl ⊢
          obtain ⟨b', k1, k2⟩ := g5 hl
          refine ⟨b', bb' _ b' k1 ?_, k2⟩
          cases eg : gone c p q.2 with
          | none => rfl
          | some _ =>
            have : tu c (gone c p) (fun _ => false) n q = true := by simp [tu, hg1, eg, (ldb_iff _).2 hl]
            rw [this] at et; cases et
        | true =>
          obtain ⟨a1, a2⟩ := (R.at' n q e).1 et
          obtain ⟨t1, t2, t3, t4⟩ := W.turned h e (by (try dsimp only); rw [e]; exact et)
          have hold : ldOp (decP c.ws c.fill n).x.op := by
            simp only [tu, Bool.and_eq_true] at et
            exact (ldb_iff _).1 et.2
          refine ⟨n, b, rfl, bb' _ b g1 hg1, g2, by rw [hd, t3]; exact (ex_oth g3).1, p1, p2, fun _ => by rw [hd, t4, a2], fun hl => ?_⟩
          rw [hd, t3] at hl
          exact absurd hl ((ex_oth g3).2.1 hold)
  · obtain ⟨h1, h2⟩ := bb pc b hb
    have hd := dd pc b h1 h2 n hn
    have hp : ∃ q, c.ex n = some q := by
      cases e : c.ex n with
      | some q => exact ⟨q, rfl⟩
      | none =>
        have hs1 := W.same h h1 hn (.inl e)
        rw [hd, hs1] at ho
        obtain ⟨q, hq⟩ := h.exb pc b n h1 hn ho
        rw [e] at hq; cases hq
    obtain ⟨q, hq⟩ := hp
    obtain ⟨n', b1, e1, g1, g2, _⟩ := h.exs _ q hq
    obtain rfl : n = n' := by omega
    have hpc : (q.1 : Int) = pc := Classical.byContradiction fun hne => by
      obtain ⟨_, a1, a2, a3⟩ := h.start g1 g2
      obtain ⟨_, a4, a5, a6⟩ := h.start h1 hn
      rcases h.apart _ b1 pc b g1 h1 hne with h3 | h3 <;> omega
    refine ⟨q, ?_⟩
    rw [R.exs, hq]
    (try dsimp only)
    rw [if_neg]
    rintro ⟨_, hh⟩
    rw [hpc, h2] at hh
    cases hh
  · rw [rm3] at hk
    rcases FG k hk with ⟨f1, _⟩ | ⟨f1, _, f3⟩
    · exact .inl f1
    · rcases h.tb k hk with h1 | ⟨pc, b, h1, h2, h3⟩
      · exact .inl (f1.trans h1)
      · refine .inr ⟨pc, b, bb' pc b h1 ?_, by rw [rm3]; exact h2, f1.trans h3⟩
        cases e : gone c p pc with
        | none => rfl
        | some b' =>
          have := (gone_bl e).1
          rw [h1] at this; cases this
          exact absurd h3 (f3 pc b e rfl h2)
end Go.Proofs.Ytgkkghphlbgcoaa.Ca
