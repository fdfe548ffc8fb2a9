import Derived.Test.YtgkkghphlbgcoaaLO
import Derived.Test.YtgkkghphlbgcoaaRQ
import Derived.Test.YtgkkghphlbgcoaaLK
import Derived.Test.YtgkkghphlbgcoaaNW
import Derived.Deep.DrawnRows
import Derived.Deep.CutRange
namespace Go.Proofs.Ytgkkghphlbgcoaa.Ca
open Go.RowKit Go.Maps Ho
set_option maxRecDepth 100000
set_option linter.unusedVariables false
set_option linter.unusedSimpArgs false
/-- Both caches in one world, apart from each other and from what came in. -/
structure Pr (Q : Nat → Prop) (wq w0 w : World) (C D : Nat) (c : Cs) (d : Rs) : Prop where
  ex : ∃ I J, Cw w C I c ∧ Rw w D J d ∧ (∀ j, Own C I j → ¬ allB D J d.bs j) ∧ (∀ j, Own C I j → w0.heap.size ≤ j) ∧ (∀ j, allB D J d.bs j → w0.heap.size ≤ j) ∧ Below w0.heap.size w0 w ∧ ∀ j, Q j → j < w.heap.size ∧ ¬ Own C I j ∧ ¬ allB D J d.bs j ∧ w.heap[j]? = wq.heap[j]?
theorem Pr.bw {Q : Nat → Prop} {wq w0 w : World} {C D : Nat} {c : Cs} {d : Rs} (h : Pr Q wq w0 w C D c d) : Below w0.heap.size w0 w := let ⟨_, _, _, _, _, _, _, hb, _⟩ := h.ex; hb
theorem Pr.q {Q : Nat → Prop} {wq w0 w : World} {C D : Nat} {c : Cs} {d : Rs} (h : Pr Q wq w0 w C D c d) (j : Nat) (hj : Q j) : w.heap[j]? = wq.heap[j]? := let ⟨_, _, _, _, _, _, _, _, hq⟩ := h.ex; (hq j hj).2.2.2
theorem Pr.below {Q : Nat → Prop} {wq w0 w w' : World} {C D : Nat} {c : Cs} {d : Rs} (h : Pr Q wq w0 w C D c d) (hb : Below w.heap.size w w') : Pr Q wq w0 w' C D c d := by
  obtain ⟨I, J, h1, h2, h3, h4, h5, h6, h7⟩ := h.ex
  exact ⟨I, J, h1.below hb, h2.below hb, h3, h4, h5, h6.trans (hb.mono h6.size), fun j hj => ⟨Nat.lt_of_lt_of_le (h7 j hj).1 hb.size, (h7 j hj).2.1, (h7 j hj).2.2.1, (hb.block j (h7 j hj).1).trans (h7 j hj).2.2.2⟩⟩
/-- Other blocks are kept: new ones. -/
theorem Pr.re {Q : Nat → Prop} {wq w0 w w' : World} {C D : Nat} {c : Cs} {d : Rs} (h : Pr Q wq w0 w C D c d) (hb : Below w.heap.size w w') (Q' : Nat → Prop) (hQ : ∀ j, Q' j → w.heap.size ≤ j ∧ j < w'.heap.size) : Pr Q' w' w0 w' C D c d := by
  obtain ⟨I, J, k1, k2, k3, k4, k5, k6, k7⟩ := h.ex
  exact ⟨I, J, k1.below hb, k2.below hb, k3, k4, k5, k6.trans (hb.mono k6.size), fun j hj => ⟨(hQ j hj).2, fun ho => by have := k1.own_lt j ho; have := (hQ j hj).1; omega, fun ha => by have := k2.lt j ha; have := (hQ j hj).1; omega, rfl⟩⟩
/-- What is kept is written over. -/
theorem Pr.set {Q : Nat → Prop} {wq w0 w : World} {C D : Nat} {c : Cs} {d : Rs} (h : Pr Q wq w0 w C D c d) {g : Nat} (hg : Q g) (hw : w0.heap.size ≤ g) (o : Nat) (v : Value) : Pr Q (w.setCell ⟨g, o, none⟩ v) w0 (w.setCell ⟨g, o, none⟩ v) C D c d := by
  obtain ⟨I, J, h1, h2, h3, h4, h5, h6, h7⟩ := h.ex
  obtain ⟨_, q2, q3, _⟩ := h7 g hg
  refine ⟨I, J, h1.keep fun j hj => So.blk_other (fun e => q2 (by rw [← e]; exact hj)) _, h2.keep fun j hj => So.blk_other (fun e => q3 (by rw [← e]; exact hj)) _, h3, h4, h5, h6.setCell hw _, fun j hj => ⟨by simpa using (h7 j hj).1, (h7 j hj).2.1, (h7 j hj).2.2.1, rfl⟩⟩
theorem pr_p {Q : Nat → Prop} {wq w0 w w' : World} {C D : Nat} {I : Ids} {J : Rd} {d : Rs} {c' : Cs} (h2 : Rw w D J d) (h3 : ∀ j, Own C I j → ¬ allB D J d.bs j) (h4 : ∀ j, Own C I j → w0.heap.size ≤ j) (h5 : ∀ j, allB D J d.bs j → w0.heap.size ≤ j) (h6 : Below w0.heap.size w0 w) (h7 : ∀ j, Q j → j < w.heap.size ∧ ¬ Own C I j ∧ ¬ allB D J d.bs j ∧ w.heap[j]? = wq.heap[j]?)
    {I' : Ids} (g1 : Cw w' C I' c') (g2 : ∀ j, Own C I' j → Own C I j ∨ w.heap.size ≤ j) (g3 : Ch (Own C I) w w') : Pr Q wq w0 w' C D c' d := by
  refine ⟨I', J, g1, h2.ch g3 fun j hj ho => h3 j ho hj, fun j hj ha => ?_, fun j hj => ?_, h5, h6.trans (g3.below h6.size h4), fun j hj => ⟨Nat.lt_of_lt_of_le (h7 j hj).1 g3.size, fun ho => ?_, (h7 j hj).2.2.1, (g3.block j (h7 j hj).1 (h7 j hj).2.1).trans (h7 j hj).2.2.2⟩⟩
  · rcases g2 j hj with h | h
    · exact h3 j h ha
    · have := h2.lt j ha; omega
  · rcases g2 j hj with h | h
    · exact h4 j h
    · have := h6.size; omega
  · rcases g2 j ho with h | h
    · exact (h7 j hj).2.1 h
    · have := (h7 j hj).1; omega
theorem pr_d {Q : Nat → Prop} {wq w0 w w' : World} {C D : Nat} {I : Ids} {J : Rd} {c : Cs} {d : Rs} {d' : Rs} (h1 : Cw w C I c) (h3 : ∀ j, Own C I j → ¬ allB D J d.bs j) (h4 : ∀ j, Own C I j → w0.heap.size ≤ j) (h5 : ∀ j, allB D J d.bs j → w0.heap.size ≤ j) (h6 : Below w0.heap.size w0 w) (h7 : ∀ j, Q j → j < w.heap.size ∧ ¬ Own C I j ∧ ¬ allB D J d.bs j ∧ w.heap[j]? = wq.heap[j]?)
    {J' : Rd} (g1 : Rw w' D J' d') (g2 : ∀ j, allB D J' d'.bs j → allB D J d.bs j ∨ w.heap.size ≤ j) (g3 : Ch (fun j => j ∈ wrB D J d.bs) w w') : Pr Q wq w0 w' C D c d' := by
  refine ⟨I, J', h1.ch g3 fun j ho hj => h3 j ho (.inl hj), g1, fun j hj ha => ?_, h4, fun j hj => ?_, h6.trans (g3.below h6.size fun j hj => h5 j (.inl hj)), fun j hj => ⟨Nat.lt_of_lt_of_le (h7 j hj).1 g3.size, (h7 j hj).2.1, fun ha => ?_, (g3.block j (h7 j hj).1 fun hh => (h7 j hj).2.2.1 (.inl hh)).trans (h7 j hj).2.2.2⟩⟩
  · rcases g2 j ha with h | h
    · exact h3 j hj h
    · have := h1.own_lt j hj; omega
  · rcases g2 j hj with h | h
    · exact h5 j h
    · have := h6.size; omega
  · rcases g2 j ha with h | h
    · exact (h7 j hj).2.2.1 h
    · have := (h7 j hj).1; omega
theorem own_sl {C : Nat} {I : Ids} {sl' : Value} {n : Nat} (h : sl'.ownBlock = I.sl.ownBlock ∨ ∃ k, sl'.ownBlock = some k ∧ n ≤ k) (j : Nat) (hj : Own C { I with sl := sl' } j) : Own C I j ∨ n ≤ j := by
  rcases hj with e | e | e | e | e
  · exact .inl (.inl e)
  · exact .inl (.inr (.inl e))
  · exact .inl (.inr (.inr (.inl e)))
  · exact .inl (.inr (.inr (.inr (.inl e))))
  · have e' : sl'.ownBlock = some j := e
    rcases h with h | ⟨k, h1, h2⟩
    · exact .inl (.inr (.inr (.inr (.inr (by rw [← h]; exact e')))))
    · rw [h1] at e'; cases e'; exact .inr h2
/-- Link, plain. -/
def PLk (c : Cs) (nn x : Int) (c' : Cs) : Prop :=
  (x = 4 ∧ c' = c ∧ (c.ex nn = none ∨ ∃ p, c.ex nn = some p ∧ ldB (decP c.ws c.fill nn).x.op = true)) ∨
    ∃ s of tt : Nat, nn = (s : Int) ∧ c.ex (s : Int) = some (of, tt) ∧ ldB (decP c.ws c.fill (s : Int)).x.op = false ∧ ((c.bl (tt : Int) = none ∧ x = 9 ∧ c' = c) ∨ ∃ b, c.bl (tt : Int) = some b ∧ x = 0 ∧ c' = turC c s (othN (c.ws s)) b.bg)
def DLk (d : Rs) (nn y : Int) (d' : Rs) : Prop :=
  (y = 4 ∧ d' = d ∧ ∀ k ∈ d.bs, ∀ s : Nat, s < k.len → nn = ((k.at' + s : Nat) : Int) → ¬ LkAt k s) ∨
    (y = 9 ∧ d' = d ∧ ∃ k s, k ∈ d.bs ∧ s < k.len ∧ nn = ((k.at' + s : Nat) : Int) ∧ LkAt k s ∧ fdK d.bs (toK k s) = none) ∨
    (y = 0 ∧ ∃ l1 k l2 s k2 lv tv, d.bs = l1 ++ k :: l2 ∧ s < k.len ∧ nn = ((k.at' + s : Nat) : Int) ∧ LkAt k s ∧ fdK d.bs (toK k s) = some k2 ∧ d' = { d with bs := l1 ++ { k with ls := k.ls ++ [(s, toK k s)], lv := lv, tv := tv } :: l2 })
theorem link_join {c c' : Cs} {d d' : Rs} {nn x y : Int} (r : Rel c d) (hfl : d.filled ≤ 1048576) (hp : PLk c nn x c') (hd : DLk d nn y d') : x = y ∧ Rel c' d' := by
  have key : ∀ k s, k ∈ d.bs → LkAt k s → nn = ((k.at' + s : Nat) : Int) → c.ex nn = some (k.pc, toK k s) ∧ ldB (decP c.ws c.fill nn).x.op = false := fun k s hk hl e => by
    obtain ⟨hsx, hnl⟩ := lk_sx hl
    rw [e]
    refine ⟨r.ex2 k hk s hsx, ?_⟩
    cases hb : ldB (decP c.ws c.fill ((k.at' + s : Nat) : Int)).x.op with
    | false => rfl
    | true =>
      obtain ⟨p, hp, e⟩ := (r.ldb hk hsx).1 hb
      exact absurd e (hnl p hp)
  rcases hd with ⟨rfl, rfl, hno⟩ | ⟨rfl, rfl, k, s, hk, hs, e, hl, hf⟩ | ⟨rfl, l1, k, l2, s, k2, lv, tv, hbs, hs, e, hl, hf, rfl⟩
  · rcases hp with ⟨rfl, rfl, _⟩ | ⟨s, of, tt, e, hex, hld, _⟩
    · exact ⟨rfl, r⟩
    · exfalso
      obtain ⟨k, hk, s', g1, g2, g3⟩ := r.ex1 _ _ hex
      have hlt := g2.lt (r.kp k hk).2.2.2.1
      refine hno k hk s' (by omega) (by rw [e, g1]) (sx_lk g2 fun p hp e2 => ?_)
      have := (r.ldb hk g2).2 ⟨p, hp, e2⟩
      rw [← g1, hld] at this
      cases this
  · obtain ⟨h1, h2⟩ := key k s hk hl e
    rcases hp with ⟨_, _, h3 | ⟨p, _, h4⟩⟩ | ⟨s1, of, tt, e1, hex, _, h3⟩
    · rw [h1] at h3; cases h3
    · rw [h2] at h4; cases h4
    · rw [← e1, h1] at hex
      cases hex
      have hb : c.bl ((toK k s : Nat) : Int) = none := by rw [r.bl, hf]; rfl
      rcases h3 with ⟨_, rfl, rfl⟩ | ⟨b, h4, _⟩
      · exact ⟨rfl, r⟩
      · rw [hb] at h4; cases h4
  · have hk : k ∈ d.bs := by rw [hbs]; simp
    obtain ⟨h1, h2⟩ := key k s hk hl e
    rcases hp with ⟨_, _, h3 | ⟨p, _, h4⟩⟩ | ⟨s1, of, tt, e1, hex, _, h3⟩
    · rw [h1] at h3; cases h3
    · rw [h2] at h4; cases h4
    · rw [← e1, h1] at hex
      cases hex
      have hb : c.bl ((toK k s : Nat) : Int) = some (blK k2) := by rw [r.bl, hf]; rfl
      obtain rfl : s1 = k.at' + s := by omega
      rcases h3 with ⟨h4, _, _⟩ | ⟨b, h4, rfl, rfl⟩
      · rw [hb] at h4; cases h4
      · rw [hb] at h4
        cases h4
        exact ⟨rfl, rel_link r hbs hl hf lv tv hfl⟩
theorem p_link {Q : Nat → Prop} {wq w0 w : World} {C D : Nat} {c : Cs} {d : Rs} (h : Pr Q wq w0 w C D c d) (r : Rel c d) (nn : Int) (hwf : (Lit.int .i64 nn).wf = true) :
    Calls Try.prog 11 #[.pointer (some ⟨C, 0, none⟩), .int .i64 nn] w fun e w' => ∃ x c', e = .returned (.int .i64 x) ∧ PLk c nn x c' ∧ Pr Q wq w0 w' C D c' d := by
  obtain ⟨I, J, h1, h2, h3, h4, h5, h6, h7⟩ := h.ex
  have pb : ∀ w', Below w.heap.size w w' → Pr Q wq w0 w' C D c d := fun w' hb => h.below hb
  cases hex : c.ex nn with
  | none =>
    refine Calls.mono (Ca.link_none C nn I c w h1 hwf hex) ?_
    rintro _ w' ⟨rfl, hb⟩
    exact ⟨4, c, rfl, .inl ⟨rfl, rfl, .inl hex⟩, pb w' hb⟩
  | some p =>
    obtain ⟨of, tt⟩ := p
    cases hl : ldB (decP c.ws c.fill nn).x.op with
    | true =>
      refine Calls.mono (link_led C nn of tt I c w h1 hwf hex hl) ?_
      rintro _ w' ⟨rfl, hb⟩
      exact ⟨4, c, rfl, .inl ⟨rfl, rfl, .inr ⟨_, hex, hl⟩⟩, pb w' hb⟩
    | false =>
      obtain ⟨L, V⟩ := r.iv
      obtain ⟨k, hk, s, e, _⟩ := r.ex1 nn _ hex
      subst e
      refine Calls.mono (link_go C (k.at' + s) of tt I c w h1 V.xo hex hl (fun b hb => by have := (V.bo.ok _ b hb).1; have := h1.rm; omega)) ?_
      rintro e w' (⟨hb, rfl, hbw⟩ | ⟨b, hb, _, rfl, g1, g2⟩)
      · exact ⟨9, c, rfl, .inr ⟨_, of, tt, rfl, hex, hl, .inl ⟨hb, rfl, rfl⟩⟩, pb w' hbw⟩
      · refine ⟨0, _, rfl, .inr ⟨_, of, tt, rfl, hex, hl, .inr ⟨b, hb, rfl, rfl⟩⟩, pr_p h2 h3 h4 h5 h6 h7 g1 (fun j hj => .inl hj) (g2.mono fun j _ hj => .inr (.inr (.inr (.inr hj))))⟩
theorem d_link {Q : Nat → Prop} {wq w0 w : World} {C D : Nat} {c c' : Cs} {d : Rs} (h : Pr Q wq w0 w C D c' d) (r : Rel c d) (nn : Int) (hwf : (Lit.int .i64 nn).wf = true) :
    Calls Try.prog 22 #[.pointer (some ⟨D, 0, none⟩), .int .i64 nn] w fun e w' => ∃ y d', e = .returned (.int .i64 y) ∧ DLk d nn y d' ∧ Pr Q wq w0 w' C D c' d' := by
  obtain ⟨I, J, h1, h2, h3, h4, h5, h6, h7⟩ := h.ex
  have hb : -9223372036854775808 ≤ nn ∧ nn ≤ 9223372036854775807 := by
    have e1 : IntKind.min .i64 = -9223372036854775808 := by decide
    have e2 : IntKind.max .i64 = 9223372036854775807 := by decide
    simp [Lit.wf, e1, e2] at hwf
    omega
  refine Calls.mono (rLink_any D nn J d w h2 r.rg hb) ?_
  rintro e w' ⟨⟨rfl, hbw, hno⟩ | ⟨k, s, hk, hs, e1, hl, hf, rfl, hbw⟩ | ⟨l1, k, l2, s, k2, lv, tv, hbs, hs, e1, hl, hf, rfl, hrw, hnew, hch⟩⟩
  · exact ⟨4, d, rfl, .inl ⟨rfl, rfl, hno⟩, h.below hbw⟩
  · exact ⟨9, d, rfl, .inr (.inl ⟨rfl, rfl, k, s, hk, hs, e1, hl, hf⟩), h.below hbw⟩
  · refine ⟨0, _, rfl, .inr (.inr ⟨rfl, l1, k, l2, s, k2, lv, tv, hbs, hs, e1, hl, hf, rfl⟩), pr_d h1 h3 h4 h5 h6 h7 hrw (fun j hj => ?_) hch⟩
    have hkd : ∀ q, q ∈ l1 ∨ q ∈ l2 → q ∈ d.bs := fun q hq => by rw [hbs]; simp; rcases hq with hq | hq; exact .inl hq; exact .inr (.inr hq)
    rcases hj with hj | hj
    · rcases mem_wr.1 hj with e | e | e | e | ⟨q, hq, e⟩
      · exact .inl (.inl (mem_wr.2 (.inl e)))
      · exact .inl (.inl (mem_wr.2 (.inr (.inl e))))
      · exact .inl (.inl (mem_wr.2 (.inr (.inr (.inl e)))))
      · exact .inl (.inl (mem_wr.2 (.inr (.inr (.inr (.inl e))))))
      · simp only [List.mem_append, List.mem_cons] at hq
        rcases hq with hq | rfl | hq
        · exact .inl (.inl (mem_wr.2 (.inr (.inr (.inr (.inr ⟨q, hkd q (.inl hq), e⟩))))))
        · rcases hnew j e with h | h
          · exact .inl (.inl h)
          · exact .inr h
        · exact .inl (.inl (mem_wr.2 (.inr (.inr (.inr (.inr ⟨q, hkd q (.inr hq), e⟩))))))
    · refine .inl (.inr ?_)
      rw [hbs]
      simpa [rdB] using hj
/-- Insert, plain. -/
def PIn (c : Cs) (pc n : Nat) (pg : Nat → Int) (cw : Nat → Nat) (len : Nat) (x r : Int) (c' : Cs) : Prop :=
  (x = 0 ∧ c' = c ∧ ((r = 4 ∧ ∃ i, i < n ∧ isP (pg i) = false) ∨ (∀ i, i < n → isP (pg i) = true) ∧ ((r = 7 ∧ (len = 0 ∨ Bad cw len pc)) ∨ 0 < len ∧ (∃ S, Good cw len pc S) ∧ ((r = 8 ∧ c.bl (pc : Int) ≠ none) ∨ c.bl (pc : Int) = none ∧ r = 5 ∧ c.room < len)))) ∨
    ∃ c1 S, x = (c1.fill : Int) ∧ r = 0 ∧ (∀ i, i < n → isP (pg i) = true) ∧ 0 < len ∧ Good cw len pc S ∧ c.bl (pc : Int) = none ∧ len ≤ c.room ∧
      ((len ≤ c.room - c.fill ∧ c1 = c) ∨ (c.room - c.fill < len ∧ ∃ tp' ta', c1 = { c with fill := 0, tp := tp', ta := ta', bl := fun _ => none, ex := fun _ => none } ∧ Fg c c.bl tp' ta' (fun _ => false))) ∧
      c' = insC c1 pc ⟨c1.fill, len, setN pg n 0, setN pg n 1, setN pg n 2, setN pg n 3⟩ cw (partsOf cw len S)
def DIn (d : Rs) (pc n : Nat) (pg : Nat → Int) (cw : Nat → Nat) (len : Nat) (x r : Int) (d' : Rs) : Prop :=
  (x = 0 ∧ d' = d ∧ ((r = 4 ∧ ∃ i, i < n ∧ isP (pg i) = false) ∨ (∀ i, i < n → isP (pg i) = true) ∧ ((r = 7 ∧ (len = 0 ∨ Bad cw len pc)) ∨ 0 < len ∧ (∃ S, Good cw len pc S) ∧ ((r = 8 ∧ fdK d.bs pc ≠ none) ∨ fdK d.bs pc = none ∧ r = 5 ∧ d.room < len)))) ∨
    ∃ d1 cv pv, x = (d1.filled : Int) ∧ r = 0 ∧ (∀ i, i < n → isP (pg i) = true) ∧ 0 < len ∧ (∃ S, Good cw len pc S) ∧ fdK d.bs pc = none ∧ len ≤ d.room ∧
      ((d.filled + len ≤ d.room ∧ d1 = d) ∨ (d.room < d.filled + len ∧ d1 = { d with filled := 0, bs := [], hs := offF d.n d.hs })) ∧
      d' = { d1 with filled := d1.filled + len, bs := d1.bs ++ [⟨pc, len, cw, n, pg, d1.filled, [], cv, pv, .slice none 0 0, .slice none 0 0⟩] }
theorem insert_join {c c' : Cs} {d d' : Rs} {pc n : Nat} {pg : Nat → Int} {cw : Nat → Nat} {len : Nat} {x y r s : Int} (R : Rel c d) (hroom : d.filled ≤ d.room) (hpc : pc < 4294967296) (hlt : ∀ i, cw i < 4294967296) (hlen : len ≤ 1048576) (hpn : n ≤ 1048576)
    (hp : PIn c pc n pg cw len x r c') (hd : DIn d pc n pg cw len y s d') : x = y ∧ r = s ∧ Rel c' d' := by
  have hbf : c.bl (pc : Int) = none ↔ fdK d.bs pc = none := by
    rw [R.bl]
    cases fdK d.bs pc <;> simp
  have hgb : ∀ S, Good cw len pc S → ¬ Bad cw len pc := fun S h => good_bad hlt h
  have two : (∃ i, i < n ∧ isP (pg i) = false) → (∀ i, i < n → isP (pg i) = true) → False := fun ⟨i, h1, h2⟩ h3 => by rw [h3 i h1] at h2; cases h2
  rcases hp with ⟨rfl, rfl, hp⟩ | ⟨c1, S, rfl, rfl, hg, hl, hgd, hb, hr, hor, rfl⟩
  · rcases hd with ⟨rfl, rfl, hd⟩ | ⟨d1, cv, pv, rfl, rfl, hg, hl, ⟨S, hgd⟩, hf, hr, _, _⟩
    · refine ⟨rfl, ?_, R⟩
      rcases hp with ⟨rfl, hb⟩ | ⟨hg, hp⟩
      · rcases hd with ⟨rfl, _⟩ | ⟨hg, _⟩
        · rfl
        · exact (two hb hg).elim
      · rcases hd with ⟨_, hb⟩ | ⟨_, hd⟩
        · exact (two hb hg).elim
        · rcases hp with ⟨rfl, h1⟩ | ⟨h1, ⟨S, h2⟩, hp⟩
          · rcases hd with ⟨rfl, _⟩ | ⟨h3, ⟨S, h4⟩, _⟩
            · rfl
            · rcases h1 with h1 | h1
              · omega
              · exact absurd h1 (hgb S h4)
          · rcases hd with ⟨_, h3⟩ | ⟨_, _, hd⟩
            · rcases h3 with h3 | h3
              · omega
              · exact absurd h3 (hgb S h2)
            · rcases hp with ⟨rfl, h5⟩ | ⟨h5, rfl, _⟩
              · rcases hd with ⟨rfl, _⟩ | ⟨h6, _, _⟩
                · rfl
                · exact absurd (hbf.2 h6) h5
              · rcases hd with ⟨_, h6⟩ | ⟨_, rfl, _⟩
                · exact absurd (hbf.1 h5) h6
                · rfl
    · exfalso
      rcases hp with ⟨_, hb⟩ | ⟨_, hp⟩
      · exact two hb hg
      · rcases hp with ⟨_, h1⟩ | ⟨_, _, hp⟩
        · rcases h1 with h1 | h1
          · omega
          · exact hgb S hgd h1
        · rcases hp with ⟨_, h5⟩ | ⟨_, _, h5⟩
          · exact h5 (hbf.2 hf)
          · rw [R.rm] at h5; omega
  · rcases hd with ⟨rfl, rfl, hd⟩ | ⟨d1, cv, pv, rfl, rfl, _, _, _, hf, hr', hor', rfl⟩
    · exfalso
      rcases hd with ⟨_, hb⟩ | ⟨_, hd⟩
      · exact two hb hg
      · rcases hd with ⟨_, h1⟩ | ⟨_, _, hd⟩
        · rcases h1 with h1 | h1
          · omega
          · exact hgb S hgd h1
        · rcases hd with ⟨_, h5⟩ | ⟨_, _, h5⟩
          · exact h5 (hbf.1 hb)
          · rw [R.rm] at hr; omega
    · have h1 : Rel c1 d1 ∧ fdK d1.bs pc = none := by
        have e1 := R.rm
        have e2 := R.fl
        rcases hor with ⟨h1, rfl⟩ | ⟨h1, tp', ta', rfl, hfg⟩
        · rcases hor' with ⟨h2, rfl⟩ | ⟨h2, rfl⟩
          · exact ⟨R, hf⟩
          · omega
        · rcases hor' with ⟨h2, rfl⟩ | ⟨h2, rfl⟩
          · omega
          · exact ⟨rel_flush R tp' ta' hfg, rfl⟩
      refine ⟨by rw [h1.1.fl], rfl, ?_⟩
      exact rel_insert h1.1 pc len n cw pg S hpc hlt hl hlen hgd h1.2 hpn hg cv pv
theorem p_insert {Q : Nat → Prop} {wq w0 w : World} {C D : Nat} {c : Cs} {d : Rs} (h : Pr Q wq w0 w C D c d) (r : Rel c d) (pc : Nat) (pa a : Option Addr) (pn pcap len cap : Nat) (pg : Nat → Int) (cw : Nat → Nat) (hpc : pc < 4294967296) (hpg : Pg w pa pn pg) (hw : Ho.Wds w a len cap cw) (hlt : ∀ i, cw i < 4294967296) (hlen : len ≤ 1048576)
    (hao : 0 < len → ∀ b off, a = some ⟨b, off, none⟩ → Q b) :
    Calls Try.prog 10 #[.pointer (some ⟨C, 0, none⟩), .int .u32 pc, .slice pa pn pcap, .slice a len cap] w fun e w' => ∃ x y c', e = .returned (.tuple #[.int .i64 x, .int .i64 y]) ∧ PIn c pc pn pg cw len x y c' ∧ Pr Q wq w0 w' C D c' d := by
  obtain ⟨I, J, h1, h2, h3, h4, h5, h6, h7⟩ := h.ex
  obtain ⟨L, V⟩ := r.iv
  refine Calls.mono (insert_any C pc pa a pn pcap len cap pg cw I c w h1 V.xo hpc hpg hw hlt hlen fun h0 b off e => (h7 b (hao h0 b off e)).2.1) ?_
  rintro e w' ⟨⟨x, rfl, _, _, hb, _, hc⟩ | ⟨c1, S, sl', rfl, hg, hl, hgd, hbn, hr, hor, hcw, hsl, hch⟩⟩
  · exact ⟨0, x, c, rfl, .inl ⟨rfl, rfl, hc⟩, h.below hb⟩
  · exact ⟨_, 0, _, rfl, .inr ⟨c1, S, rfl, rfl, hg, hl, hgd, hbn, hr, hor, rfl⟩, pr_p h2 h3 h4 h5 h6 h7 hcw (fun j hj => own_sl hsl j hj) hch⟩
theorem d_insert {Q : Nat → Prop} {wq w0 w : World} {C D : Nat} {c c' : Cs} {d : Rs} (h : Pr Q wq w0 w C D c' d) (r : Rel c d) (pc : Nat) (pa a : Option Addr) (pn pcap len cap : Nat) (pg : Nat → Int) (cw : Nat → Nat) (hpc : pc < 4294967296) (hpg : Pg w0 pa pn pg) (hw : Ho.Wds w0 a len cap cw) (hlt : ∀ i, cw i < 4294967296) (hlen : len ≤ 1048576) (hpn : pn ≤ 1048576) :
    Calls Try.prog 18 #[.pointer (some ⟨D, 0, none⟩), .int .u32 pc, .slice pa pn pcap, .slice a len cap] w fun e w' => ∃ x y d', e = .returned (.tuple #[.int .i64 x, .int .i64 y]) ∧ DIn d pc pn pg cw len x y d' ∧ Pr Q wq w0 w' C D c' d' := by
  obtain ⟨I, J, h1, h2, h3, h4, h5, h6, h7⟩ := h.ex
  have hpg' : Pg w pa pn pg := by
    rcases hpg with e | ⟨b, off, e, g1, g2, g3⟩
    · exact .inl e
    · exact .inr ⟨b, off, e, fun i hi => (h6.cell (p := ⟨b, off + i, none⟩) g2).trans (g1 i hi), by have := h6.size; omega, g3⟩
  refine Calls.mono (rInsert_any D pc pa a pn pcap len cap pg cw J d w h2 hpc hpg' (Ho.wds_keep hw h6) hlt hlen hpn r.bsl (fun h0 b off e hj => ?_) (fun h0 b off e hj => ?_)) ?_
  · rcases hw with e2 | ⟨b2, o2, e2, _, _, g5⟩
    · omega
    · rw [e] at e2; cases e2; have := g5.lb; have := h5 b (.inl hj); omega
  · rcases hpg with e2 | ⟨b2, o2, e2, _, g2, _⟩
    · omega
    · rw [e] at e2; cases e2; have := h5 b (.inl hj); omega
  rintro e w' ⟨⟨x, rfl, hb, hc⟩ | ⟨d1, J', cv, pv, rfl, hg, hl, hgd, hf, hr, hor, hrw, hsb, hhb, hbv, hcp, hch⟩⟩
  · exact ⟨0, x, d, rfl, .inl ⟨rfl, rfl, hc⟩, h.below hb⟩
  · refine ⟨_, 0, _, rfl, .inr ⟨d1, cv, pv, rfl, rfl, hg, hl, hgd, hf, hr, hor, rfl⟩, pr_d h1 h3 h4 h5 h6 h7 hrw (fun j hj => ?_) hch⟩
    have hsub : ∀ q, q ∈ d1.bs → q ∈ d.bs := fun q hq => by
      rcases hor with ⟨_, rfl⟩ | ⟨_, rfl⟩
      · exact hq
      · cases hq
    rcases hj with hj | hj
    · rcases mem_wr.1 hj with e | e | e | e | ⟨q, hq, e⟩
      · exact .inl (.inl (mem_wr.2 (.inl e)))
      · exact .inl (.inl (mem_wr.2 (.inr (.inl (by rw [e, hsb])))))
      · exact .inl (.inl (mem_wr.2 (.inr (.inr (.inl (by rw [e, hhb]))))))
      · rcases hbv j e with h | h
        · exact .inl (.inl (mem_wr.2 (.inr (.inr (.inr (.inl h))))))
        · exact .inr h
      · simp only [List.mem_append, List.mem_singleton] at hq
        rcases hq with hq | rfl
        · exact .inl (.inl (mem_wr.2 (.inr (.inr (.inr (.inr ⟨q, hsub q hq, e⟩))))))
        · rcases e with e | e <;> cases e
    · obtain ⟨q, hq, e⟩ := mem_rd.1 hj
      simp only [List.mem_append, List.mem_singleton] at hq
      rcases hq with hq | rfl
      · exact .inl (.inr (mem_rd.2 ⟨q, hsub q hq, e⟩))
      · exact .inr (hcp j e)
theorem p_note {Q : Nat → Prop} {wq w0 w : World} {C D : Nat} {c : Cs} {d : Rs} (h : Pr Q wq w0 w C D c d) (r : Rel c d) (pc : Nat) (hpc : pc < 4294967296) :
    Calls Try.prog 23 #[.pointer (some ⟨C, 0, none⟩), .int .u32 pc] w fun e w' => ∃ x c', e = .returned (.int .i64 x) ∧ ((fdK d.bs pc = none ∧ x = 9 ∧ c' = c) ∨ ∃ k, fdK d.bs pc = some k ∧ x = 0 ∧ c' = noteC c pc (blK k)) ∧ Pr Q wq w0 w' C D c' d := by
  obtain ⟨I, J, h1, h2, h3, h4, h5, h6, h7⟩ := h.ex
  cases hf : fdK d.bs pc with
  | none =>
    refine Calls.mono (note_none C pc I c w hpc h1 (by rw [r.bl, hf]; rfl)) ?_
    rintro _ w' ⟨rfl, hb⟩
    exact ⟨9, c, rfl, .inl ⟨rfl, rfl, rfl⟩, h.below hb⟩
  | some k =>
    refine Calls.mono (note_some C pc I c (blK k) w hpc h1 (by rw [r.bl, hf]; rfl)) ?_
    rintro _ w' ⟨rfl, g1, g2⟩
    exact ⟨0, _, rfl, .inr ⟨k, rfl, rfl, rfl⟩, pr_p h2 h3 h4 h5 h6 h7 g1 (fun j hj => .inl hj) (g2.mono fun j _ hj => .inr (.inl hj))⟩
theorem d_note {Q : Nat → Prop} {wq w0 w : World} {C D : Nat} {c' : Cs} {d : Rs} (h : Pr Q wq w0 w C D c' d) (pc : Nat) (hpc : pc < 4294967296) :
    Calls Try.prog 24 #[.pointer (some ⟨D, 0, none⟩), .int .u32 pc] w fun e w' => ∃ y d', e = .returned (.int .i64 y) ∧ ((fdK d.bs pc = none ∧ y = 9 ∧ d' = d) ∨ ∃ k, fdK d.bs pc = some k ∧ y = 0 ∧ d' = { d with sl := setF d.sl (pc % d.n) pc, hs := setF d.hs (pc % d.n) true }) ∧ Pr Q wq w0 w' C D c' d' := by
  obtain ⟨I, J, h1, h2, h3, h4, h5, h6, h7⟩ := h.ex
  cases hf : fdK d.bs pc with
  | none =>
    refine Calls.mono (rNote_none D pc J d w h2 hf) ?_
    rintro _ w' ⟨rfl, hb⟩
    exact ⟨9, d, rfl, .inl ⟨rfl, rfl, rfl⟩, h.below hb⟩
  | some k =>
    refine Calls.mono (rNote_some D pc J d k w h2 hf hpc) ?_
    rintro _ w' ⟨rfl, g1, g2⟩
    refine ⟨0, _, rfl, .inr ⟨k, rfl, rfl, rfl⟩, pr_d h1 h3 h4 h5 h6 h7 g1 (fun j hj => .inl hj) (g2.mono fun j _ hj => ?_)⟩
    rcases hj with e | e
    · exact mem_wr.2 (.inr (.inl e))
    · exact mem_wr.2 (.inr (.inr (.inl e)))
theorem note_join {c c' : Cs} {d d' : Rs} {pc : Nat} {x y : Int} (r : Rel c d) (hp : (fdK d.bs pc = none ∧ x = 9 ∧ c' = c) ∨ ∃ k, fdK d.bs pc = some k ∧ x = 0 ∧ c' = noteC c pc (blK k)) (hd : (fdK d.bs pc = none ∧ y = 9 ∧ d' = d) ∨ ∃ k, fdK d.bs pc = some k ∧ y = 0 ∧ d' = { d with sl := setF d.sl (pc % d.n) pc, hs := setF d.hs (pc % d.n) true }) : x = y ∧ Rel c' d' := by
  rcases hp with ⟨h1, rfl, rfl⟩ | ⟨k, h1, rfl, rfl⟩
  · rcases hd with ⟨_, rfl, rfl⟩ | ⟨k, h2, _, _⟩
    · exact ⟨rfl, r⟩
    · rw [h1] at h2; cases h2
  · rcases hd with ⟨h2, _, _⟩ | ⟨k2, h2, rfl, rfl⟩
    · rw [h1] at h2; cases h2
    · exact ⟨rfl, rel_note r h1⟩
theorem p_drop {Q : Nat → Prop} {wq w0 w : World} {C D : Nat} {c : Cs} {d : Rs} (h : Pr Q wq w0 w C D c d) (r : Rel c d) (p : Int) :
    Calls Try.prog 12 #[.pointer (some ⟨C, 0, none⟩), .int .i64 p] w fun e w' => ∃ c', e = .returned (.int .i64 (d.bs.filter (hpg p)).length) ∧ (Dp c p c' ∧ ∀ i, c'.ws i < 4294967296) ∧ Pr Q wq w0 w' C D c' d := by
  obtain ⟨I, J, h1, h2, h3, h4, h5, h6, h7⟩ := h.ex
  obtain ⟨L, V⟩ := r.iv
  refine Calls.mono (drop_any C p I c w h1 V.xo V.bo) ?_
  rintro _ w' ⟨l, hn, hl, rfl, c', g1, g2, g3⟩
  exact ⟨c', by rw [drop_count r p l hn hl], ⟨g2, g1.wb.lt⟩, pr_p h2 h3 h4 h5 h6 h7 g1 (fun j hj => .inl hj) g3⟩
theorem d_drop {Q : Nat → Prop} {wq w0 w : World} {C D : Nat} {c c' : Cs} {d : Rs} (h : Pr Q wq w0 w C D c' d) (r : Rel c d) (p : Int) :
    Calls Try.prog 25 #[.pointer (some ⟨D, 0, none⟩), .int .i64 p] w fun e w' => ∃ bs2, e = .returned (.int .i64 (d.bs.filter (hpg p)).length) ∧ Drp (d.bs.filter fun k => !hpg p k) bs2 (d.bs.filter fun k => !hpg p k).length ∧ Pr Q wq w0 w' C D c' { d with bs := bs2, hs := hsD d (d.bs.filter fun k => !hpg p k) d.n } := by
  obtain ⟨I, J, h1, h2, h3, h4, h5, h6, h7⟩ := h.ex
  refine Calls.mono (rDrop_any D p J d w h2 r.lsl fun k hk => (r.kp k hk).2.2.2.2.1) ?_
  rintro _ w' ⟨J', bs2, rfl, hd, g1, g2, g3⟩
  exact ⟨bs2, rfl, hd, pr_d h1 h3 h4 h5 h6 h7 g1 g2 g3⟩
theorem p_flush {Q : Nat → Prop} {wq w0 w : World} {C D : Nat} {c : Cs} {d : Rs} (h : Pr Q wq w0 w C D c d) :
    Calls Try.prog 26 #[.pointer (some ⟨C, 0, none⟩)] w fun e w' => e = .returned (.tuple #[]) ∧ ∃ tp' ta', Fg c c.bl tp' ta' (fun _ => false) ∧ Pr Q wq w0 w' C D { c with fill := 0, tp := tp', ta := ta', bl := fun _ => none, ex := fun _ => none } d := by
  obtain ⟨I, J, h1, h2, h3, h4, h5, h6, h7⟩ := h.ex
  refine Calls.mono (flush_any C I c w h1) ?_
  rintro _ w' ⟨rfl, tp', ta', sl', g1, g2, g3, g4⟩
  exact ⟨rfl, tp', ta', g2, pr_p h2 h3 h4 h5 h6 h7 g1 (fun j hj => own_sl (n := w.heap.size) (.inl g3) j hj) g4⟩
theorem d_flush {Q : Nat → Prop} {wq w0 w : World} {C D : Nat} {c' : Cs} {d : Rs} (h : Pr Q wq w0 w C D c' d) :
    Calls Try.prog 27 #[.pointer (some ⟨D, 0, none⟩)] w fun e w' => e = .returned (.tuple #[]) ∧ Pr Q wq w0 w' C D c' { d with filled := 0, bs := [], hs := offF d.n d.hs } := by
  obtain ⟨I, J, h1, h2, h3, h4, h5, h6, h7⟩ := h.ex
  refine Calls.mono (rFlush_any D J d w h2) ?_
  rintro _ w' ⟨rfl, g1, g2⟩
  refine ⟨rfl, pr_d h1 h3 h4 h5 h6 h7 g1 (fun j hj => ?_) (g2.mono fun j _ hj => ?_)⟩
  · rcases hj with hj | hj
    · rcases mem_wr.1 hj with e | e | e | e | ⟨q, hq, _⟩
      · exact .inl (.inl (mem_wr.2 (.inl e)))
      · exact .inl (.inl (mem_wr.2 (.inr (.inl e))))
      · exact .inl (.inl (mem_wr.2 (.inr (.inr (.inl e)))))
      · cases e
      · cases hq
    · cases hj
  · rcases hj with e | e
    · exact mem_wr.2 (.inl e)
    · exact mem_wr.2 (.inr (.inr (.inl e)))
end Go.Proofs.Ytgkkghphlbgcoaa.Ca
namespace Go.Proofs.Ytgkkghphlbgcoaa.Ca
open Go.RowKit Go.Maps Ho
set_option maxRecDepth 100000
set_option linter.unusedVariables false
set_option linter.unusedSimpArgs false
attribute [local go_sem ↓] Go.wp_at_zero Go.wp_at_succ
theorem Pr.drop {Q : Nat → Prop} {wq w0 w : World} {C D : Nat} {c : Cs} {d : Rs} (h : Pr Q wq w0 w C D c d) : Pr (fun _ => False) w0 w0 w C D c d := by
  obtain ⟨I, J, h1, h2, h3, h4, h5, h6, h7⟩ := h.ex
  exact ⟨I, J, h1, h2, h3, h4, h5, h6, fun j hj => hj.elim⟩
structure StP (w0 : World) (C D : Nat) (e : Ending) (w' : World) : Prop where
  ex : ∃ c' d', e = .returned (.bool true) ∧ Pr (fun _ => False) w0 w0 w' C D c' d' ∧ Rel c' d'
set_option maxHeartbeats 8000000 in
theorem st_find (C D pc : Nat) (nn : Int) (pa a : Option Addr) (pn pcap len cap : Nat) (c : Cs) (d : Rs) (w0 w : World) (h : Pr (fun _ => False) w0 w0 w C D c d) (r : Rel c d) (hpc : pc < 4294967296) (hwf : (Lit.int .i64 nn).wf = true) :
    Calls Try.prog 7 #[.pointer (some ⟨C, 0, none⟩), .pointer (some ⟨D, 0, none⟩), .agg #[.int .i64 1, .int .u32 pc, .int .i64 nn, .slice pa pn pcap, .slice a len cap]] w fun e w' => StP w0 C D e w' := by
  have HPR : Hid _ := h
  have HREL : Hid _ := r
  have HFL : Hid (d.filled ≤ 1048576) := (show d.filled ≤ 1048576 by obtain ⟨I, J, _, h2, _⟩ := h.ex; have := h2.rm; omega)
  clear h r
  go_enter Try.func7, Try.ntmps7
  have hbW : Below w.heap.size w (w.alloc (.cells #[.int .i64 1, .int .u32 pc, .int .i64 nn, .slice pa pn pcap, .slice a len cap] 34)) := (Below.refl _ _).alloc (Nat.le_refl _) _
  have HBW : Hid _ := hbW
  obtain ⟨I, J, h1, h2, h3, h4, h5, h6, _⟩ := HPR.out.ex
  have HC : Hid _ := h1
  have HR : Hid _ := h2
  obtain ⟨q1, q2, hq⟩ : ∃ q1 q2, fnR d pc = (q1, q2) := ⟨_, _, rfl⟩
  have HF1 : Hid _ := find_any C pc I c _ hpc (h1.below hbW)
  rw [fnd_same HREL.out, hq] at HF1
  have HQ : Hid (fnR d pc = (q1, q2)) := hq
  clear h1 h2 h3 h4 h5 h6 hbW hq
  go_wp2_with (go_at_call 20; fail)
  refine Calls.mono HF1.out ?_
  rintro _ w2 ⟨rfl, hb2⟩
  dsimp only
  have hB2 : Below w.heap.size w w2 := HBW.out.trans (hb2.mono HBW.out.size)
  have hX2 : w2.heap[w.heap.size]? = some (.cells #[.int .i64 1, .int .u32 pc, .int .i64 nn, .slice pa pn pcap, .slice a len cap] 34) := (hb2.block _ (by simp)).trans (World.alloc_heap_new w _)
  have z1 : w2.cell? ⟨w.heap.size, 1, none⟩ = some (.int .u32 pc) := (So.row_cell hX2 1).trans rfl
  have HB2 : Hid _ := hB2
  have HF2 : Hid _ := rFind_any D pc J d w2 (HR.out.below hB2)
  rw [HQ.out] at HF2
  clear hb2 hB2 hX2
  go_wp2_with (go_at_call 21; fail)
  refine Calls.mono HF2.out ?_
  rintro _ w3 ⟨rfl, hb3⟩
  dsimp only
  cases q2
  all_goals
    go_wp2
    go_ret
    exact ⟨c, d, rfl, HPR.out.below (HB2.out.trans (hb3.mono HB2.out.size)), HREL.out⟩
set_option maxHeartbeats 8000000 in
theorem st_link (C D pc : Nat) (nn : Int) (pa a : Option Addr) (pn pcap len cap : Nat) (c : Cs) (d : Rs) (w0 w : World) (h : Pr (fun _ => False) w0 w0 w C D c d) (r : Rel c d) (hpc : pc < 4294967296) (hwf : (Lit.int .i64 nn).wf = true) :
    Calls Try.prog 7 #[.pointer (some ⟨C, 0, none⟩), .pointer (some ⟨D, 0, none⟩), .agg #[.int .i64 2, .int .u32 pc, .int .i64 nn, .slice pa pn pcap, .slice a len cap]] w fun e w' => StP w0 C D e w' := by
  have HPR : Hid _ := h
  have HREL : Hid _ := r
  have HFL : Hid (d.filled ≤ 1048576) := (show d.filled ≤ 1048576 by obtain ⟨I, J, _, h2, _⟩ := h.ex; have := h2.rm; omega)
  clear h r
  go_enter Try.func7, Try.ntmps7
  go_wp2
  refine region_T 99 (fun w' => w'.cell? ⟨w.heap.size, 2, none⟩ = some (.int .i64 nn)) (by kernel_rfl) ?_
  obtain ⟨w1, hw1⟩ : ∃ w1, ({ w.alloc (.cells #[.int .i64 2, .int .u32 pc, .int .i64 nn, .slice pa pn pcap, .slice a len cap] 34) with drawn := (w.alloc (.cells #[.int .i64 2, .int .u32 pc, .int .i64 nn, .slice pa pn pcap, .slice a len cap] 34)).drawn + 1 } : World) = w1 := ⟨_, rfl⟩
  have hbx1 : Below w.heap.size w w1 := hw1 ▸ (show Below w.heap.size w (w.alloc (.cells #[.int .i64 2, .int .u32 pc, .int .i64 nn, .slice pa pn pcap, .slice a len cap] 34)).drew from ((Below.refl _ w).alloc (Nat.le_refl _) _).drew)
  have hX1 : w1.heap[w.heap.size]? = some (.cells #[.int .i64 2, .int .u32 pc, .int .i64 nn, .slice pa pn pcap, .slice a len cap] 34) := hw1 ▸ World.alloc_heap_new w _
  have HP1 : Hid (Pr (fun j => j = w.heap.size) w1 w0 w1 C D c d) := HPR.out.re hbx1 (fun j => j = w.heap.size) (fun j e => by have := So.row_lt hX1; omega)
  have HX1 : Hid _ := hX1
  have gS1 : w1.cell? ⟨w.heap.size, 2, none⟩ = some (.int .i64 nn) := (So.row_cell hX1 2).trans rfl
  rw [hw1]
  clear hw1 hbx1 hX1
  refine anyT_take (t := 99) (i := 0) (oi := { dst := some 122, op := .move (.tmp 0), type := 23, pos := "law.go:274", after := #[], guard := none }) (v := .pointer (some ⟨C, 0, none⟩)) rfl (by kernel_rfl) (by kernel_rfl) (by kernel_rfl) (by kernel_rfl) (fun _ _ _ h => h) (Or.inl ⟨by kernel_rfl, ?_⟩) gS1 ?_
  · (intro w hSw; (try dsimp only at hSw); (try obtain s1 := hSw); go_simp)
  try simp only [Act.put, List.setIfInBounds_toArray, List.set_cons_zero, List.set_cons_succ]
  refine anyT_take (t := 99) (i := 1) (oi := { dst := some 123, op := .fieldAddr 34 (.tmp 5) 2, type := 0, pos := "law.go:274", after := #[], guard := none }) (v := .pointer (some ⟨w.heap.size, 2, none⟩)) rfl (by kernel_rfl) (by kernel_rfl) (by kernel_rfl) (by kernel_rfl) (fun _ _ _ h => h) (Or.inl ⟨by kernel_rfl, ?_⟩) gS1 ?_
  · (intro w hSw; (try dsimp only at hSw); (try obtain s1 := hSw); go_simp)
  try simp only [Act.put, List.setIfInBounds_toArray, List.set_cons_zero, List.set_cons_succ]
  refine anyT_take (t := 99) (i := 2) (oi := { dst := some 124, op := .load 3 (.tmp 123), type := 3, pos := "law.go:274", after := #[{ on := 1, ground := .data }], guard := none }) (v := .int .i64 nn) rfl (by kernel_rfl) (by kernel_rfl) (by kernel_rfl) (by kernel_rfl) (fun _ _ _ h => h) (Or.inl ⟨by kernel_rfl, ?_⟩) gS1 ?_
  · (intro w hSw; (try dsimp only at hSw); (try obtain s1 := hSw); go_simp)
  try simp only [Act.put, List.setIfInBounds_toArray, List.set_cons_zero, List.set_cons_succ]
  refine anyT_take (t := 99) (i := 4) (oi := { dst := some 126, op := .move (.tmp 1), type := 27, pos := "law.go:274", after := #[], guard := none }) (v := .pointer (some ⟨D, 0, none⟩)) rfl (by kernel_rfl) (by kernel_rfl) (by kernel_rfl) (by kernel_rfl) (fun _ _ _ h => h) (Or.inl ⟨by kernel_rfl, ?_⟩) gS1 ?_
  · (intro w hSw; (try dsimp only at hSw); (try obtain s1 := hSw); go_simp)
  try simp only [Act.put, List.setIfInBounds_toArray, List.set_cons_zero, List.set_cons_succ]
  refine anyT_take (t := 99) (i := 5) (oi := { dst := some 127, op := .fieldAddr 34 (.tmp 5) 2, type := 0, pos := "law.go:274", after := #[], guard := none }) (v := .pointer (some ⟨w.heap.size, 2, none⟩)) rfl (by kernel_rfl) (by kernel_rfl) (by kernel_rfl) (by kernel_rfl) (fun _ _ _ h => h) (Or.inl ⟨by kernel_rfl, ?_⟩) gS1 ?_
  · (intro w hSw; (try dsimp only at hSw); (try obtain s1 := hSw); go_simp)
  try simp only [Act.put, List.setIfInBounds_toArray, List.set_cons_zero, List.set_cons_succ]
  refine anyT_take (t := 99) (i := 6) (oi := { dst := some 128, op := .load 3 (.tmp 127), type := 3, pos := "law.go:274", after := #[{ on := 5, ground := .data }], guard := none }) (v := .int .i64 nn) rfl (by kernel_rfl) (by kernel_rfl) (by kernel_rfl) (by kernel_rfl) (fun _ _ _ h => h) (Or.inl ⟨by kernel_rfl, ?_⟩) gS1 ?_
  · (intro w hSw; (try dsimp only at hSw); (try obtain s1 := hSw); go_simp)
  try simp only [Act.put, List.setIfInBounds_toArray, List.set_cons_zero, List.set_cons_succ]
  refine anyT_stepG (i := 3) (by kernel_rfl) rfl (by kernel_rfl) (fun K hK => ?_)
  go_simp
  go_at_call 11
  refine Calls.mono (p_link HP1.out HREL.out nn hwf) ?_
  rintro _ w2 ⟨x, c2, rfl, hpl, hpr2⟩
  dsimp only
  have gS2 : w2.cell? ⟨w.heap.size, 2, none⟩ = some (.int .i64 nn) := (So.row_cell ((hpr2.q _ rfl).trans HX1.out) 2).trans rfl
  have HP2 : Hid _ := hpr2
  have HPL : Hid _ := hpl
  clear hpl
  clear hpr2
  refine hK _ _ (fun _ => gS2) ?_
  clear hK K
  try simp only [Act.put, List.setIfInBounds_toArray, List.set_cons_zero, List.set_cons_succ]
  refine anyT_stepG (i := 7) (by kernel_rfl) rfl (by kernel_rfl) (fun K hK => ?_)
  go_simp
  go_at_call 22
  refine Calls.mono (d_link HP2.out HREL.out nn hwf) ?_
  rintro _ w3 ⟨y, d3, rfl, hpl2, hpr3⟩
  dsimp only
  have gS3 : w3.cell? ⟨w.heap.size, 2, none⟩ = some (.int .i64 nn) := (So.row_cell ((hpr3.q _ rfl).trans HX1.out) 2).trans rfl
  have HP3 : Hid _ := hpr3
  obtain ⟨rfl, hrel3⟩ := link_join HREL.out HFL.out HPL.out hpl2
  have HREL3 : Hid _ := hrel3
  clear hrel3
  clear hpr3
  refine hK _ _ (fun _ => gS3) ?_
  clear hK K
  try simp only [Act.put, List.setIfInBounds_toArray, List.set_cons_zero, List.set_cons_succ]
  refine anyT_take (t := 99) (i := 8) (oi := { dst := some 130, op := .binOp .eql 24 (.tmp 125) (.tmp 129) 24, type := 4, pos := "law.go:274", after := #[{ on := 3, ground := .data }, { on := 7, ground := .data }], guard := none }) (v := .bool true) rfl (by kernel_rfl) (by kernel_rfl) (by kernel_rfl) (by kernel_rfl) (fun _ _ _ h => h) (Or.inl ⟨by kernel_rfl, ?_⟩) gS3 ?_
  · (intro w hSw; (try dsimp only at hSw); (try obtain s1 := hSw); go_simp)
  try simp only [Act.put, List.setIfInBounds_toArray, List.set_cons_zero, List.set_cons_succ]
  refine anyT_take (t := 99) (i := 9) (oi := { dst := some 6, op := .assign (.tmp 130), type := 4, pos := "law.go:274", after := #[{ on := 8, ground := .data }, { on := 7, ground := .chain }, { on := 0, ground := .phase }, { on := 1, ground := .phase }, { on := 2, ground := .phase }, { on := 3, ground := .phase }, { on := 4, ground := .phase }, { on := 5, ground := .phase }, { on := 6, ground := .phase }, { on := 7, ground := .phase }, { on := 8, ground := .phase }], guard := none }) (v := .bool true) rfl (by kernel_rfl) (by kernel_rfl) (by kernel_rfl) (by kernel_rfl) (fun _ _ _ h => h) (Or.inl ⟨by kernel_rfl, ?_⟩) gS3 ?_
  · (intro w hSw; (try dsimp only at hSw); (try obtain s1 := hSw); go_simp)
  try simp only [Act.put, List.setIfInBounds_toArray, List.set_cons_zero, List.set_cons_succ]
  refine anyT_done (by kernel_rfl) ?_ _
  go_wp2
  go_ret
  exact ⟨c2, d3, rfl, HP3.out.drop, HREL3.out⟩
set_option maxHeartbeats 8000000 in
theorem st_note (C D pc : Nat) (nn : Int) (pa a : Option Addr) (pn pcap len cap : Nat) (c : Cs) (d : Rs) (w0 w : World) (h : Pr (fun _ => False) w0 w0 w C D c d) (r : Rel c d) (hpc : pc < 4294967296) (hwf : (Lit.int .i64 nn).wf = true) :
    Calls Try.prog 7 #[.pointer (some ⟨C, 0, none⟩), .pointer (some ⟨D, 0, none⟩), .agg #[.int .i64 3, .int .u32 pc, .int .i64 nn, .slice pa pn pcap, .slice a len cap]] w fun e w' => StP w0 C D e w' := by
  have HPR : Hid _ := h
  have HREL : Hid _ := r
  have HFL : Hid (d.filled ≤ 1048576) := (show d.filled ≤ 1048576 by obtain ⟨I, J, _, h2, _⟩ := h.ex; have := h2.rm; omega)
  clear h r
  go_enter Try.func7, Try.ntmps7
  go_wp2
  refine region_T 99 (fun w' => w'.cell? ⟨w.heap.size, 1, none⟩ = some (.int .u32 pc)) (by kernel_rfl) ?_
  obtain ⟨w1, hw1⟩ : ∃ w1, ({ w.alloc (.cells #[.int .i64 3, .int .u32 pc, .int .i64 nn, .slice pa pn pcap, .slice a len cap] 34) with drawn := (w.alloc (.cells #[.int .i64 3, .int .u32 pc, .int .i64 nn, .slice pa pn pcap, .slice a len cap] 34)).drawn + 1 } : World) = w1 := ⟨_, rfl⟩
  have hbx1 : Below w.heap.size w w1 := hw1 ▸ (show Below w.heap.size w (w.alloc (.cells #[.int .i64 3, .int .u32 pc, .int .i64 nn, .slice pa pn pcap, .slice a len cap] 34)).drew from ((Below.refl _ w).alloc (Nat.le_refl _) _).drew)
  have hX1 : w1.heap[w.heap.size]? = some (.cells #[.int .i64 3, .int .u32 pc, .int .i64 nn, .slice pa pn pcap, .slice a len cap] 34) := hw1 ▸ World.alloc_heap_new w _
  have HP1 : Hid (Pr (fun j => j = w.heap.size) w1 w0 w1 C D c d) := HPR.out.re hbx1 (fun j => j = w.heap.size) (fun j e => by have := So.row_lt hX1; omega)
  have HX1 : Hid _ := hX1
  have gS1 : w1.cell? ⟨w.heap.size, 1, none⟩ = some (.int .u32 pc) := (So.row_cell hX1 1).trans rfl
  rw [hw1]
  clear hw1 hbx1 hX1
  refine anyT_take (t := 99) (i := 0) (oi := { dst := some 133, op := .move (.tmp 0), type := 23, pos := "law.go:276", after := #[], guard := none }) (v := .pointer (some ⟨C, 0, none⟩)) rfl (by kernel_rfl) (by kernel_rfl) (by kernel_rfl) (by kernel_rfl) (fun _ _ _ h => h) (Or.inl ⟨by kernel_rfl, ?_⟩) gS1 ?_
  · (intro w hSw; (try dsimp only at hSw); (try obtain s1 := hSw); go_simp)
  try simp only [Act.put, List.setIfInBounds_toArray, List.set_cons_zero, List.set_cons_succ]
  refine anyT_take (t := 99) (i := 1) (oi := { dst := some 134, op := .fieldAddr 34 (.tmp 5) 1, type := 0, pos := "law.go:276", after := #[], guard := none }) (v := .pointer (some ⟨w.heap.size, 1, none⟩)) rfl (by kernel_rfl) (by kernel_rfl) (by kernel_rfl) (by kernel_rfl) (fun _ _ _ h => h) (Or.inl ⟨by kernel_rfl, ?_⟩) gS1 ?_
  · (intro w hSw; (try dsimp only at hSw); (try obtain s1 := hSw); go_simp)
  try simp only [Act.put, List.setIfInBounds_toArray, List.set_cons_zero, List.set_cons_succ]
  refine anyT_take (t := 99) (i := 2) (oi := { dst := some 135, op := .load 30 (.tmp 134), type := 30, pos := "law.go:276", after := #[{ on := 1, ground := .data }], guard := none }) (v := .int .u32 pc) rfl (by kernel_rfl) (by kernel_rfl) (by kernel_rfl) (by kernel_rfl) (fun _ _ _ h => h) (Or.inl ⟨by kernel_rfl, ?_⟩) gS1 ?_
  · (intro w hSw; (try dsimp only at hSw); (try obtain s1 := hSw); go_simp)
  try simp only [Act.put, List.setIfInBounds_toArray, List.set_cons_zero, List.set_cons_succ]
  refine anyT_take (t := 99) (i := 4) (oi := { dst := some 137, op := .move (.tmp 1), type := 27, pos := "law.go:276", after := #[], guard := none }) (v := .pointer (some ⟨D, 0, none⟩)) rfl (by kernel_rfl) (by kernel_rfl) (by kernel_rfl) (by kernel_rfl) (fun _ _ _ h => h) (Or.inl ⟨by kernel_rfl, ?_⟩) gS1 ?_
  · (intro w hSw; (try dsimp only at hSw); (try obtain s1 := hSw); go_simp)
  try simp only [Act.put, List.setIfInBounds_toArray, List.set_cons_zero, List.set_cons_succ]
  refine anyT_take (t := 99) (i := 5) (oi := { dst := some 138, op := .fieldAddr 34 (.tmp 5) 1, type := 0, pos := "law.go:276", after := #[], guard := none }) (v := .pointer (some ⟨w.heap.size, 1, none⟩)) rfl (by kernel_rfl) (by kernel_rfl) (by kernel_rfl) (by kernel_rfl) (fun _ _ _ h => h) (Or.inl ⟨by kernel_rfl, ?_⟩) gS1 ?_
  · (intro w hSw; (try dsimp only at hSw); (try obtain s1 := hSw); go_simp)
  try simp only [Act.put, List.setIfInBounds_toArray, List.set_cons_zero, List.set_cons_succ]
  refine anyT_take (t := 99) (i := 6) (oi := { dst := some 139, op := .load 30 (.tmp 138), type := 30, pos := "law.go:276", after := #[{ on := 5, ground := .data }], guard := none }) (v := .int .u32 pc) rfl (by kernel_rfl) (by kernel_rfl) (by kernel_rfl) (by kernel_rfl) (fun _ _ _ h => h) (Or.inl ⟨by kernel_rfl, ?_⟩) gS1 ?_
  · (intro w hSw; (try dsimp only at hSw); (try obtain s1 := hSw); go_simp)
  try simp only [Act.put, List.setIfInBounds_toArray, List.set_cons_zero, List.set_cons_succ]
  refine anyT_stepG (i := 3) (by kernel_rfl) rfl (by kernel_rfl) (fun K hK => ?_)
  go_simp
  go_at_call 23
  refine Calls.mono (p_note HP1.out HREL.out pc hpc) ?_
  rintro _ w2 ⟨x, c2, rfl, hpl, hpr2⟩
  dsimp only
  have gS2 : w2.cell? ⟨w.heap.size, 1, none⟩ = some (.int .u32 pc) := (So.row_cell ((hpr2.q _ rfl).trans HX1.out) 1).trans rfl
  have HP2 : Hid _ := hpr2
  have HPL : Hid _ := hpl
  clear hpl
  clear hpr2
  refine hK _ _ (fun _ => gS2) ?_
  clear hK K
  try simp only [Act.put, List.setIfInBounds_toArray, List.set_cons_zero, List.set_cons_succ]
  refine anyT_stepG (i := 7) (by kernel_rfl) rfl (by kernel_rfl) (fun K hK => ?_)
  go_simp
  go_at_call 24
  refine Calls.mono (d_note HP2.out pc hpc) ?_
  rintro _ w3 ⟨y, d3, rfl, hpl2, hpr3⟩
  dsimp only
  have gS3 : w3.cell? ⟨w.heap.size, 1, none⟩ = some (.int .u32 pc) := (So.row_cell ((hpr3.q _ rfl).trans HX1.out) 1).trans rfl
  have HP3 : Hid _ := hpr3
  obtain ⟨rfl, hrel3⟩ := note_join HREL.out HPL.out hpl2
  have HREL3 : Hid _ := hrel3
  clear hrel3
  clear hpr3
  refine hK _ _ (fun _ => gS3) ?_
  clear hK K
  try simp only [Act.put, List.setIfInBounds_toArray, List.set_cons_zero, List.set_cons_succ]
  refine anyT_take (t := 99) (i := 8) (oi := { dst := some 141, op := .binOp .eql 24 (.tmp 136) (.tmp 140) 24, type := 4, pos := "law.go:276", after := #[{ on := 3, ground := .data }, { on := 7, ground := .data }], guard := none }) (v := .bool true) rfl (by kernel_rfl) (by kernel_rfl) (by kernel_rfl) (by kernel_rfl) (fun _ _ _ h => h) (Or.inl ⟨by kernel_rfl, ?_⟩) gS3 ?_
  · (intro w hSw; (try dsimp only at hSw); (try obtain s1 := hSw); go_simp)
  try simp only [Act.put, List.setIfInBounds_toArray, List.set_cons_zero, List.set_cons_succ]
  refine anyT_take (t := 99) (i := 9) (oi := { dst := some 6, op := .assign (.tmp 141), type := 4, pos := "law.go:276", after := #[{ on := 8, ground := .data }, { on := 7, ground := .chain }, { on := 0, ground := .phase }, { on := 1, ground := .phase }, { on := 2, ground := .phase }, { on := 3, ground := .phase }, { on := 4, ground := .phase }, { on := 5, ground := .phase }, { on := 6, ground := .phase }, { on := 7, ground := .phase }, { on := 8, ground := .phase }], guard := none }) (v := .bool true) rfl (by kernel_rfl) (by kernel_rfl) (by kernel_rfl) (by kernel_rfl) (fun _ _ _ h => h) (Or.inl ⟨by kernel_rfl, ?_⟩) gS3 ?_
  · (intro w hSw; (try dsimp only at hSw); (try obtain s1 := hSw); go_simp)
  try simp only [Act.put, List.setIfInBounds_toArray, List.set_cons_zero, List.set_cons_succ]
  refine anyT_done (by kernel_rfl) ?_ _
  go_wp2
  go_ret
  exact ⟨c2, d3, rfl, HP3.out.drop, HREL3.out⟩
set_option maxHeartbeats 8000000 in
theorem st_drop (C D pc : Nat) (nn : Int) (pa a : Option Addr) (pn pcap len cap : Nat) (c : Cs) (d : Rs) (w0 w : World) (h : Pr (fun _ => False) w0 w0 w C D c d) (r : Rel c d) (hpc : pc < 4294967296) (hwf : (Lit.int .i64 nn).wf = true) :
    Calls Try.prog 7 #[.pointer (some ⟨C, 0, none⟩), .pointer (some ⟨D, 0, none⟩), .agg #[.int .i64 4, .int .u32 pc, .int .i64 nn, .slice pa pn pcap, .slice a len cap]] w fun e w' => StP w0 C D e w' := by
  have HPR : Hid _ := h
  have HREL : Hid _ := r
  have HFL : Hid (d.filled ≤ 1048576) := (show d.filled ≤ 1048576 by obtain ⟨I, J, _, h2, _⟩ := h.ex; have := h2.rm; omega)
  clear h r
  go_enter Try.func7, Try.ntmps7
  go_wp2
  refine region_T 99 (fun w' => w'.cell? ⟨w.heap.size, 2, none⟩ = some (.int .i64 nn)) (by kernel_rfl) ?_
  obtain ⟨w1, hw1⟩ : ∃ w1, ({ w.alloc (.cells #[.int .i64 4, .int .u32 pc, .int .i64 nn, .slice pa pn pcap, .slice a len cap] 34) with drawn := (w.alloc (.cells #[.int .i64 4, .int .u32 pc, .int .i64 nn, .slice pa pn pcap, .slice a len cap] 34)).drawn + 1 } : World) = w1 := ⟨_, rfl⟩
  have hbx1 : Below w.heap.size w w1 := hw1 ▸ (show Below w.heap.size w (w.alloc (.cells #[.int .i64 4, .int .u32 pc, .int .i64 nn, .slice pa pn pcap, .slice a len cap] 34)).drew from ((Below.refl _ w).alloc (Nat.le_refl _) _).drew)
  have hX1 : w1.heap[w.heap.size]? = some (.cells #[.int .i64 4, .int .u32 pc, .int .i64 nn, .slice pa pn pcap, .slice a len cap] 34) := hw1 ▸ World.alloc_heap_new w _
  have HP1 : Hid (Pr (fun j => j = w.heap.size) w1 w0 w1 C D c d) := HPR.out.re hbx1 (fun j => j = w.heap.size) (fun j e => by have := So.row_lt hX1; omega)
  have HX1 : Hid _ := hX1
  have gS1 : w1.cell? ⟨w.heap.size, 2, none⟩ = some (.int .i64 nn) := (So.row_cell hX1 2).trans rfl
  rw [hw1]
  clear hw1 hbx1 hX1
  refine anyT_take (t := 99) (i := 0) (oi := { dst := some 144, op := .move (.tmp 0), type := 23, pos := "law.go:278", after := #[], guard := none }) (v := .pointer (some ⟨C, 0, none⟩)) rfl (by kernel_rfl) (by kernel_rfl) (by kernel_rfl) (by kernel_rfl) (fun _ _ _ h => h) (Or.inl ⟨by kernel_rfl, ?_⟩) gS1 ?_
  · (intro w hSw; (try dsimp only at hSw); (try obtain s1 := hSw); go_simp)
  try simp only [Act.put, List.setIfInBounds_toArray, List.set_cons_zero, List.set_cons_succ]
  refine anyT_take (t := 99) (i := 1) (oi := { dst := some 145, op := .fieldAddr 34 (.tmp 5) 2, type := 0, pos := "law.go:278", after := #[], guard := none }) (v := .pointer (some ⟨w.heap.size, 2, none⟩)) rfl (by kernel_rfl) (by kernel_rfl) (by kernel_rfl) (by kernel_rfl) (fun _ _ _ h => h) (Or.inl ⟨by kernel_rfl, ?_⟩) gS1 ?_
  · (intro w hSw; (try dsimp only at hSw); (try obtain s1 := hSw); go_simp)
  try simp only [Act.put, List.setIfInBounds_toArray, List.set_cons_zero, List.set_cons_succ]
  refine anyT_take (t := 99) (i := 2) (oi := { dst := some 146, op := .load 3 (.tmp 145), type := 3, pos := "law.go:278", after := #[{ on := 1, ground := .data }], guard := none }) (v := .int .i64 nn) rfl (by kernel_rfl) (by kernel_rfl) (by kernel_rfl) (by kernel_rfl) (fun _ _ _ h => h) (Or.inl ⟨by kernel_rfl, ?_⟩) gS1 ?_
  · (intro w hSw; (try dsimp only at hSw); (try obtain s1 := hSw); go_simp)
  try simp only [Act.put, List.setIfInBounds_toArray, List.set_cons_zero, List.set_cons_succ]
  refine anyT_take (t := 99) (i := 4) (oi := { dst := some 148, op := .move (.tmp 1), type := 27, pos := "law.go:278", after := #[], guard := none }) (v := .pointer (some ⟨D, 0, none⟩)) rfl (by kernel_rfl) (by kernel_rfl) (by kernel_rfl) (by kernel_rfl) (fun _ _ _ h => h) (Or.inl ⟨by kernel_rfl, ?_⟩) gS1 ?_
  · (intro w hSw; (try dsimp only at hSw); (try obtain s1 := hSw); go_simp)
  try simp only [Act.put, List.setIfInBounds_toArray, List.set_cons_zero, List.set_cons_succ]
  refine anyT_take (t := 99) (i := 5) (oi := { dst := some 149, op := .fieldAddr 34 (.tmp 5) 2, type := 0, pos := "law.go:278", after := #[], guard := none }) (v := .pointer (some ⟨w.heap.size, 2, none⟩)) rfl (by kernel_rfl) (by kernel_rfl) (by kernel_rfl) (by kernel_rfl) (fun _ _ _ h => h) (Or.inl ⟨by kernel_rfl, ?_⟩) gS1 ?_
  · (intro w hSw; (try dsimp only at hSw); (try obtain s1 := hSw); go_simp)
  try simp only [Act.put, List.setIfInBounds_toArray, List.set_cons_zero, List.set_cons_succ]
  refine anyT_take (t := 99) (i := 6) (oi := { dst := some 150, op := .load 3 (.tmp 149), type := 3, pos := "law.go:278", after := #[{ on := 5, ground := .data }], guard := none }) (v := .int .i64 nn) rfl (by kernel_rfl) (by kernel_rfl) (by kernel_rfl) (by kernel_rfl) (fun _ _ _ h => h) (Or.inl ⟨by kernel_rfl, ?_⟩) gS1 ?_
  · (intro w hSw; (try dsimp only at hSw); (try obtain s1 := hSw); go_simp)
  try simp only [Act.put, List.setIfInBounds_toArray, List.set_cons_zero, List.set_cons_succ]
  refine anyT_stepG (i := 3) (by kernel_rfl) rfl (by kernel_rfl) (fun K hK => ?_)
  go_simp
  go_at_call 12
  refine Calls.mono (p_drop HP1.out HREL.out nn) ?_
  rintro _ w2 ⟨c2, rfl, hdp, hpr2⟩
  dsimp only
  have gS2 : w2.cell? ⟨w.heap.size, 2, none⟩ = some (.int .i64 nn) := (So.row_cell ((hpr2.q _ rfl).trans HX1.out) 2).trans rfl
  have HP2 : Hid _ := hpr2
  have HDP : Hid _ := hdp
  clear hdp
  clear hpr2
  refine hK _ _ (fun _ => gS2) ?_
  clear hK K
  try simp only [Act.put, List.setIfInBounds_toArray, List.set_cons_zero, List.set_cons_succ]
  refine anyT_stepG (i := 7) (by kernel_rfl) rfl (by kernel_rfl) (fun K hK => ?_)
  go_simp
  go_at_call 25
  refine Calls.mono (d_drop HP2.out HREL.out nn) ?_
  rintro _ w3 ⟨bs2, rfl, hdr, hpr3⟩
  dsimp only
  have gS3 : w3.cell? ⟨w.heap.size, 2, none⟩ = some (.int .i64 nn) := (So.row_cell ((hpr3.q _ rfl).trans HX1.out) 2).trans rfl
  have HP3 : Hid _ := hpr3
  have HDR : Hid _ := hdr
  clear hdr
  clear hpr3
  refine hK _ _ (fun _ => gS3) ?_
  clear hK K
  try simp only [Act.put, List.setIfInBounds_toArray, List.set_cons_zero, List.set_cons_succ]
  refine anyT_take (t := 99) (i := 8) (oi := { dst := some 152, op := .binOp .eql 3 (.tmp 147) (.tmp 151) 3, type := 4, pos := "law.go:278", after := #[{ on := 3, ground := .data }, { on := 7, ground := .data }], guard := none }) (v := .bool true) rfl (by kernel_rfl) (by kernel_rfl) (by kernel_rfl) (by kernel_rfl) (fun _ _ _ h => h) (Or.inl ⟨by kernel_rfl, ?_⟩) gS3 ?_
  · (intro w hSw; (try dsimp only at hSw); (try obtain s1 := hSw); go_simp)
  try simp only [Act.put, List.setIfInBounds_toArray, List.set_cons_zero, List.set_cons_succ]
  refine anyT_take (t := 99) (i := 9) (oi := { dst := some 6, op := .assign (.tmp 152), type := 4, pos := "law.go:278", after := #[{ on := 8, ground := .data }, { on := 7, ground := .chain }, { on := 0, ground := .phase }, { on := 1, ground := .phase }, { on := 2, ground := .phase }, { on := 3, ground := .phase }, { on := 4, ground := .phase }, { on := 5, ground := .phase }, { on := 6, ground := .phase }, { on := 7, ground := .phase }, { on := 8, ground := .phase }], guard := none }) (v := .bool true) rfl (by kernel_rfl) (by kernel_rfl) (by kernel_rfl) (by kernel_rfl) (fun _ _ _ h => h) (Or.inl ⟨by kernel_rfl, ?_⟩) gS3 ?_
  · (intro w hSw; (try dsimp only at hSw); (try obtain s1 := hSw); go_simp)
  try simp only [Act.put, List.setIfInBounds_toArray, List.set_cons_zero, List.set_cons_succ]
  refine anyT_done (by kernel_rfl) ?_ _
  go_wp2
  go_ret
  exact ⟨c2, _, rfl, HP3.out.drop, rel_drop HREL.out nn HDP.out.1 HDP.out.2 bs2 HDR.out⟩
set_option maxHeartbeats 8000000 in
theorem st_flush (C D pc : Nat) (nn : Int) (pa a : Option Addr) (pn pcap len cap : Nat) (c : Cs) (d : Rs) (w0 w : World) (h : Pr (fun _ => False) w0 w0 w C D c d) (r : Rel c d) (hpc : pc < 4294967296) (hwf : (Lit.int .i64 nn).wf = true) :
    Calls Try.prog 7 #[.pointer (some ⟨C, 0, none⟩), .pointer (some ⟨D, 0, none⟩), .agg #[.int .i64 5, .int .u32 pc, .int .i64 nn, .slice pa pn pcap, .slice a len cap]] w fun e w' => StP w0 C D e w' := by
  have HPR : Hid _ := h
  have HREL : Hid _ := r
  have HFL : Hid (d.filled ≤ 1048576) := (show d.filled ≤ 1048576 by obtain ⟨I, J, _, h2, _⟩ := h.ex; have := h2.rm; omega)
  clear h r
  go_enter Try.func7, Try.ntmps7
  have hbW : Below w.heap.size w (w.alloc (.cells #[.int .i64 5, .int .u32 pc, .int .i64 nn, .slice pa pn pcap, .slice a len cap] 34)) := (Below.refl _ _).alloc (Nat.le_refl _) _
  have HP1 : Hid _ := HPR.out.below hbW
  clear hbW
  go_wp2_with (go_at_call 26; fail)
  refine Calls.mono (p_flush HP1.out) ?_
  rintro _ w2 ⟨rfl, tp', ta', hfg, hpr2⟩
  dsimp only
  have HFG : Hid (Fg c c.bl tp' ta' (fun _ => false)) := hfg
  have HP2 : Hid _ := hpr2
  clear hfg hpr2
  go_wp2_with (go_at_call 27; fail)
  refine Calls.mono (d_flush HP2.out) ?_
  rintro _ w3 ⟨rfl, hpr3⟩
  dsimp only
  have HP3 : Hid _ := hpr3
  clear hpr3
  go_wp2
  go_ret
  exact ⟨_, _, rfl, HP3.out.drop, rel_flush HREL.out tp' ta' HFG.out⟩
set_option maxHeartbeats 8000000 in
theorem st_other (C D pc : Nat) (kd nn : Int) (pa a : Option Addr) (pn pcap len cap : Nat) (c : Cs) (d : Rs) (w0 w : World) (h : Pr (fun _ => False) w0 w0 w C D c d) (r : Rel c d) (h0 : ¬ kd = 0) (h1 : ¬ kd = 1) (h2 : ¬ kd = 2) (h3 : ¬ kd = 3) (h4 : ¬ kd = 4) (h5 : ¬ kd = 5) :
    Calls Try.prog 7 #[.pointer (some ⟨C, 0, none⟩), .pointer (some ⟨D, 0, none⟩), .agg #[.int .i64 kd, .int .u32 pc, .int .i64 nn, .slice pa pn pcap, .slice a len cap]] w fun e w' => StP w0 C D e w' := by
  have HPR : Hid _ := h
  have HREL : Hid _ := r
  clear h r
  have e0 : (kd == 0) = false := by simpa using h0
  have e1 : (kd == 1) = false := by simpa using h1
  have e2 : (kd == 2) = false := by simpa using h2
  have e3 : (kd == 3) = false := by simpa using h3
  have e4 : (kd == 4) = false := by simpa using h4
  have e5 : (kd == 5) = false := by simpa using h5
  have g0 : decide (kd = 0) = false := decide_eq_false h0
  have g1 : decide (kd = 1) = false := decide_eq_false h1
  have g2 : decide (kd = 2) = false := decide_eq_false h2
  have g3 : decide (kd = 3) = false := decide_eq_false h3
  have g4 : decide (kd = 4) = false := decide_eq_false h4
  have g5 : decide (kd = 5) = false := decide_eq_false h5
  go_enter Try.func7, Try.ntmps7
  go_wp2
  go_ret
  exact ⟨c, d, rfl, HPR.out.below ((Below.refl _ _).alloc (Nat.le_refl _) _), HREL.out⟩
end Go.Proofs.Ytgkkghphlbgcoaa.Ca
namespace Go.Proofs.Ytgkkghphlbgcoaa.Ca
open Go.RowKit Go.Maps Ho
set_option maxRecDepth 100000
set_option linter.unusedVariables false
set_option linter.unusedSimpArgs false
attribute [local go_sem ↓] Go.wp_at_zero Go.wp_at_succ
set_option maxHeartbeats 4000000 in
theorem words_own (a : Option Addr) (len cap : Nat) (cw : Nat → Nat) (w : World) (hw : Ho.Wds w a len cap cw) (hlen : len ≤ 1048576) :
    Calls Try.prog 17 #[.slice a len cap] w fun e w' => ∃ v, e = .returned v ∧ w'.ownsRow w.heap.size 30 1 v len (wL cw len) ∧ Below w.heap.size w w' := by
  have HS : Hid _ := src_u hw hlen
  clear hw
  go_enter Try.func17, Try.ntmps17
  go_wp2_with (at_builtin; refine mkI ?_)
  unfold Mk
  refine wpList_plain rfl fun K hK => ?_
  refine wp_app _ _ 32 32 rfl rfl (.slice none 0 0) (.slice a len cap) rfl rfl _ HS.out ?_
  rintro v w2 ⟨h1, h2⟩
  refine hK _ _ ?_
  have H1 : Hid _ := h1
  have H2 : Hid _ := h2
  clear h1 h2 hK K
  go_wp2
  go_ret
  exact ⟨v, rfl, H1.out, H2.out⟩
theorem row_pg {w : World} {b n cap : Nat} {a : Option Addr} {pg : Nat → Int} (h : w.ownsRow b 3 1 (.slice a n cap) n (pL pg n)) (hn : n ≤ 1048576) : Pg w a n pg := by
  rcases h.2 with ⟨e, h0⟩ | ⟨g, cap', cur, e, h2, h3, h4, h5, h6, h7⟩
  · exact .inl h0
  · cases e
    refine .inr ⟨g, 0, rfl, fun i hi => ?_, So.row_lt h3, by omega⟩
    have e1 := pL_get pg n i hi
    rw [← h7, List.getElem?_take_of_lt (by omega)] at e1
    rw [So.row_cell h3, Nat.zero_add]
    simpa using e1
theorem Pr.here {Q : Nat → Prop} {wq w0 w : World} {C D : Nat} {c : Cs} {d : Rs} (h : Pr Q wq w0 w C D c d) : Pr Q w w0 w C D c d := by
  obtain ⟨I, J, h1, h2, h3, h4, h5, h6, h7⟩ := h.ex
  exact ⟨I, J, h1, h2, h3, h4, h5, h6, fun j hj => ⟨(h7 j hj).1, (h7 j hj).2.1, (h7 j hj).2.2.1, rfl⟩⟩
/-- A row that is kept, of which the places from k on are as they were. -/
structure Kr (Q : Nat → Prop) (B X : Nat) (q : IntKind) (a : Option Addr) (n k : Nat) (f : Nat → Int) (w : World) : Prop where
  ex : 0 < n → ∃ g, a = some ⟨g, 0, none⟩ ∧ Q g ∧ B ≤ g ∧ g ≠ X ∧ (∀ j, j < n → ∃ x : Int, w.cell? ⟨g, j, none⟩ = some (.int q x)) ∧ (∀ j, k ≤ j → j < n → w.cell? ⟨g, j, none⟩ = some (.int q (f j))) ∧ ∀ j, w.frozen? ⟨g, j, none⟩ = false
theorem Kr.set {Q : Nat → Prop} {B X : Nat} {q : IntKind} {a : Option Addr} {n k : Nat} {f : Nat → Int} {w : World} (h : Kr Q B X q a n k f w) {g : Nat} (ha : a = some ⟨g, 0, none⟩) (hk : k < n) (x : Int) : Kr Q B X q a n (k + 1) f (w.setCell ⟨g, k, none⟩ (.int q x)) := by
  refine ⟨fun h0 => ?_⟩
  obtain ⟨g', e, h1, h2, h3, h4, h5, h6⟩ := h.ex h0
  rw [ha] at e
  cases e
  refine ⟨g, ha, h1, h2, h3, fun j hj => ?_, fun j hj hj2 => ?_, fun j => by rw [World.frozen?_setCell]; exact h6 j⟩
  · by_cases e : k = j
    · subst e
      obtain ⟨y, hy⟩ := h4 k hk
      exact ⟨x, World.cell?_setCell_same _ _ _ hy⟩
    · obtain ⟨y, hy⟩ := h4 j hj
      exact ⟨y, by rw [World.cell?_setCell_other _ _ _ _ (fun hh => e (by injection hh))]; exact hy⟩
  · rw [World.cell?_setCell_other _ _ _ _ (fun hh => by injection hh; omega)]
    exact h5 j (by omega) hj2
theorem Kr.far {Q : Nat → Prop} {B X : Nat} {q : IntKind} {a : Option Addr} {n k : Nat} {f : Nat → Int} {w : World} (h : Kr Q B X q a n k f w) {g o : Nat} (hg : ∀ g', a = some ⟨g', 0, none⟩ → g' ≠ g) (v : Value) : Kr Q B X q a n k f (w.setCell ⟨g, o, none⟩ v) := by
  refine ⟨fun h0 => ?_⟩
  obtain ⟨g', e, h1, h2, h3, h4, h5, h6⟩ := h.ex h0
  have hne : g ≠ g' := Ne.symm (hg g' e)
  refine ⟨g', e, h1, h2, h3, fun j hj => ?_, fun j hj hj2 => ?_, fun j => by rw [World.frozen?_setCell]; exact h6 j⟩
  · obtain ⟨y, hy⟩ := h4 j hj
    exact ⟨y, by rw [World.cell?_setCell_far _ _ _ _ hne]; exact hy⟩
  · rw [World.cell?_setCell_far _ _ _ _ hne]
    exact h5 j hj hj2
theorem Kr.drew {Q : Nat → Prop} {B X : Nat} {q : IntKind} {a : Option Addr} {n k : Nat} {f : Nat → Int} {w : World} (h : Kr Q B X q a n k f w) : Kr Q B X q a n k f w.drew := ⟨h.ex⟩
theorem Pr.drew {Q : Nat → Prop} {wq w0 w : World} {C D : Nat} {c : Cs} {d : Rs} (h : Pr Q wq w0 w C D c d) : Pr Q w.drew w0 w.drew C D c d := (h.below (Below.refl _ _).drew).here
structure I1 (Q : Nat → Prop) (w0 : World) (C D : Nat) (c : Cs) (d : Rs) (X : Nat) (A : Array Value) (wa pa : Option Addr) (len pn : Nat) (cw : Nat → Nat) (pg : Nat → Int) (v : Value) (wr : World) : Prop where
  ex : ∃ k : Nat, v = .int .i64 k ∧ k ≤ len ∧ Pr Q wr w0 wr C D c d ∧ wr.heap[X]? = some (.cells A 34) ∧ Kr Q w0.heap.size X .u32 wa len k (fun i => (cw i : Int)) wr ∧ Kr Q w0.heap.size X .i64 pa pn 0 pg wr
structure I2 (Q : Nat → Prop) (w0 : World) (C D : Nat) (c : Cs) (d : Rs) (X : Nat) (A : Array Value) (pa : Option Addr) (pn : Nat) (pg : Nat → Int) (u v : Value) (wr : World) : Prop where
  ex : ∃ k : Nat, v = .int .i64 k ∧ k ≤ pn ∧ u = .bool true ∧ Pr Q wr w0 wr C D c d ∧ wr.heap[X]? = some (.cells A 34) ∧ Kr Q w0.heap.size X .i64 pa pn k pg wr
theorem row_kr {Q : Nat → Prop} {B X : Nat} {w : World} {b e n cap : Nat} {q : IntKind} {a : Option Addr} {f : Nat → Int} {xs : List Value} (h : w.ownsRow b e 1 (.slice a n cap) n xs) (hx : ∀ i, i < n → xs[i]? = some (.int q (f i))) (hQ : ∀ g, (Value.slice a n cap).ownBlock = some g → Q g ∧ B ≤ g ∧ g ≠ X) : Kr Q B X q a n 0 f w := by
  refine ⟨fun h0 => ?_⟩
  rcases h.2 with ⟨e, h1⟩ | ⟨g, cap', cur, e, h2, h3, h4, h5, h6, h7⟩
  · omega
  · cases e
    obtain ⟨q1, q2, q3⟩ := hQ g rfl
    have hc : ∀ j, j < n → w.cell? ⟨g, j, none⟩ = some (.int q (f j)) := fun j hj => by
      have e1 := hx j hj
      rw [← h7, List.getElem?_take_of_lt (by omega)] at e1
      rw [So.row_cell h3]
      simpa using e1
    exact ⟨g, rfl, q1, q2, q3, fun j hj => ⟨_, hc j hj⟩, fun j _ hj => hc j hj, fun j => So.row_fr h3 j⟩
set_option maxHeartbeats 16000000 in
theorem st_insert (C D pc : Nat) (nn : Int) (pa a : Option Addr) (pn pcap len cap : Nat) (pg : Nat → Int) (cw : Nat → Nat) (c : Cs) (d : Rs) (w0 w : World) (h : Pr (fun _ => False) w0 w0 w C D c d) (r : Rel c d) (hpc : pc < 4294967296) (hpg : Pg w0 pa pn pg) (hw : Ho.Wds w0 a len cap cw) (hlt : ∀ i, cw i < 4294967296) (hlen : len ≤ 1048576) (hpn : pn ≤ 1048576) :
    Calls Try.prog 7 #[.pointer (some ⟨C, 0, none⟩), .pointer (some ⟨D, 0, none⟩), .agg #[.int .i64 0, .int .u32 pc, .int .i64 nn, .slice pa pn pcap, .slice a len cap]] w fun e w' => StP w0 C D e w' := by
  have HPR : Hid (Pr (fun _ => False) w0 w0 w C D c d) := h
  have HREL : Hid _ := r
  have HPG : Hid (Pg w0 pa pn pg) := hpg
  have HW : Hid (Ho.Wds w0 a len cap cw) := hw
  have HLT : Hid _ := hlt
  have HROOM : Hid (d.filled ≤ d.room) := (show d.filled ≤ d.room by obtain ⟨I, J, _, h2, _⟩ := h.ex; exact h2.rm.2.2.1)
  obtain ⟨A, hA⟩ : ∃ A : Array Value, A = #[.int .i64 0, .int .u32 pc, .int .i64 nn, .slice pa pn pcap, .slice a len cap] := ⟨_, rfl⟩
  have HAA : Hid (A = #[.int .i64 0, .int .u32 pc, .int .i64 nn, .slice pa pn pcap, .slice a len cap]) := hA
  have hb1 : Below w.heap.size w (w.alloc (.cells #[.int .i64 0, .int .u32 pc, .int .i64 nn, .slice pa pn pcap, .slice a len cap] 34)) := (Below.refl _ _).alloc (Nat.le_refl _) _
  have HB1 : Hid _ := hb1
  have hbb := h.bw
  have HBB : Hid _ := hbb
  have HSI : Hid _ := src_i (cap := pcap) (pg_ch hpg (Ch.of_below (fun _ => False) (hbb.trans (hb1.mono hbb.size))) (fun _ _ _ _ h => h)) hpn
  clear h r hpg hw hlt hA hb1 hbb
  go_enter Try.func7, Try.ntmps7
  go_wp2_with (at_builtin; refine mkI ?_)
  unfold Mk
  refine wpList_plain rfl fun K hK => ?_
  refine wp_app _ _ 31 31 rfl rfl (.slice none 0 0) (.slice pa pn pcap) rfl rfl _ HSI.out ?_
  rintro pv w2 ⟨hpv, hb2⟩
  simp only [World.size_alloc] at hpv
  obtain ⟨pb, pbc, rfl⟩ := row_sl hpv
  refine hK _ _ ?_
  have hB2 : Below w.heap.size w w2 := HB1.out.trans (hb2.mono HB1.out.size)
  have hX2 : w2.heap[w.heap.size]? = some (.cells #[.int .i64 0, .int .u32 pc, .int .i64 nn, .slice pa pn pcap, .slice a len cap] 34) := (hb2.block _ (by simp)).trans (World.alloc_heap_new w _)
  have z4 : w2.cell? ⟨w.heap.size, 4, none⟩ = some (.slice a len cap) := (So.row_cell hX2 4).trans rfl
  have HB2 : Hid (Below w.heap.size w w2) := hB2
  have HX2 : Hid _ := hX2
  have HPV : Hid (w2.ownsRow (w.heap.size + 1) 3 1 (.slice pb pn pbc) pn (pL pg pn)) := hpv
  clear hK K hpv hb2 hB2 hX2
  go_wp2_with (go_at_call 17; fail)
  refine Calls.mono (words_own a len cap cw w2 (Ho.wds_keep HW.out (HBB.out.trans (HB2.out.mono HBB.out.size))) hlen) ?_
  rintro _ w3 ⟨wv, rfl, hwv, hb3⟩
  dsimp only
  obtain ⟨wb, wbc, rfl⟩ := row_sl hwv
  have hB3 : Below w.heap.size w w3 := HB2.out.trans (hb3.mono HB2.out.size)
  have hX3 := (hb3.block _ (So.row_lt HX2.out)).trans HX2.out
  have hpv3 : w3.ownsRow (w.heap.size + 1) 3 1 (.slice pb pn pbc) pn (pL pg pn) := row_keep HPV.out fun j e => hb3.block j (HPV.out.lt j e).2
  have HNE : Hid (∀ g g' : Nat, (Value.slice pb pn pbc).ownBlock = some g' → (Value.slice wb len wbc).ownBlock = some g → g' ≠ g) := (fun g g' e1 e2 => by have := (HPV.out.lt g' e1).2; have := (hwv.lt g e2).1; omega)
  have HXL : Hid (w.heap.size < w2.heap.size) := So.row_lt HX2.out
  have HP3 : Hid (Pr (fun j => j = w.heap.size ∨ (Value.slice pb pn pbc).ownBlock = some j ∨ (Value.slice wb len wbc).ownBlock = some j) w3 w0 w3 C D c d) := HPR.out.re hB3 _ (fun j hj => by
    rcases hj with e | e | e
    · have := So.row_lt hX3; omega
    · have := hpv3.lt j e; omega
    · have := hwv.lt j e; have := HXL.out; omega)
  have HWV : Hid (w3.ownsRow w2.heap.size 30 1 (.slice wb len wbc) len (wL cw len)) := hwv
  have HPV3 : Hid (w3.ownsRow (w.heap.size + 1) 3 1 (.slice pb pn pbc) pn (pL pg pn)) := hpv3
  have HX3 : Hid _ := hX3
  have z1 : w3.cell? ⟨w.heap.size, 1, none⟩ = some (.int .u32 pc) := (So.row_cell hX3 1).trans rfl
  clear hwv hb3 hB3 hX3 hpv3
  go_wp2_with (go_at_call 10; fail)
  refine Calls.mono (p_insert HP3.out HREL.out pc pb wb pn pbc len wbc pg cw hpc (row_pg HPV3.out hpn) (by obtain ⟨a0, cap0, e0, hw0, _⟩ := row_wds HWV.out hlen HLT.out; cases e0; exact hw0) HLT.out hlen (fun h0 b off e => .inr (.inr (by rw [e]; rfl)))) ?_
  rintro _ w4 ⟨x, y, c4, rfl, hpin, hpr4⟩
  dsimp only
  have hX4 := (hpr4.q _ (.inl rfl)).trans HX3.out
  have y1 : w4.cell? ⟨w.heap.size, 1, none⟩ = some (.int .u32 pc) := (So.row_cell hX4 1).trans rfl
  have y3 : w4.cell? ⟨w.heap.size, 3, none⟩ = some (.slice pa pn pcap) := (So.row_cell hX4 3).trans rfl
  have y4 : w4.cell? ⟨w.heap.size, 4, none⟩ = some (.slice a len cap) := (So.row_cell hX4 4).trans rfl
  have HPIN : Hid (PIn c pc pn pg cw len x y c4) := hpin
  have HP4 : Hid _ := hpr4
  clear hX4 hpin hpr4
  go_wp2_with (go_at_call 18; fail)
  refine Calls.mono (d_insert HP4.out HREL.out pc pa a pn pcap len cap pg cw hpc HPG.out HW.out HLT.out hlen hpn) ?_
  rintro _ w5 ⟨x', y', d5, rfl, hdin, hpr5⟩
  dsimp only
  obtain ⟨rfl, rfl, hrel5⟩ := insert_join HREL.out HROOM.out hpc HLT.out hlen hpn HPIN.out hdin
  have hX5 := (hpr5.q _ (.inl rfl)).trans HX3.out
  have x4 : w5.cell? ⟨w.heap.size, 4, none⟩ = some (.slice a len cap) := (So.row_cell hX5 4).trans rfl
  have HWV5 : Hid (w5.ownsRow w2.heap.size 30 1 (.slice wb len wbc) len (wL cw len)) := row_keep HWV.out fun j e => hpr5.q j (.inr (.inr e))
  have HPV5 : Hid (w5.ownsRow (w.heap.size + 1) 3 1 (.slice pb pn pbc) pn (pL pg pn)) := row_keep HPV3.out fun j e => hpr5.q j (.inr (.inl e))
  have HP5 : Hid _ := hpr5
  have HX5 : Hid _ := hX5
  have HREL5 : Hid _ := hrel5
  clear hX5 hdin hpr5 hrel5
  go_wp2_with (go_at_call 19; fail)
  refine Calls.mono (Ho.same_true wb a len wbc cap cw w5 (by obtain ⟨a0, cap0, e0, hw0, _⟩ := row_wds HWV5.out hlen HLT.out; cases e0; exact hw0) (Ho.wds_keep HW.out HP5.out.bw)) ?_
  rintro _ w6 ⟨rfl, hb6⟩
  dsimp only
  have sB := HBB.out.size
  have HP6 : Hid (Pr (fun j => j = w.heap.size ∨ (Value.slice pb pn pbc).ownBlock = some j ∨ (Value.slice wb len wbc).ownBlock = some j) w6 w0 w6 C D c4 d5) := (HP5.out.below hb6).here
  have HX6 : Hid (w6.heap[w.heap.size]? = some (.cells A 34)) := (show w6.heap[w.heap.size]? = some (.cells A 34) by rw [HAA.out]; exact (hb6.block _ (So.row_lt HX5.out)).trans HX5.out)
  have HKW : Hid (Kr (fun j => j = w.heap.size ∨ (Value.slice pb pn pbc).ownBlock = some j ∨ (Value.slice wb len wbc).ownBlock = some j) w0.heap.size w.heap.size .u32 wb len 0 (fun i => (cw i : Int)) w6) := row_kr (row_keep HWV5.out fun j e => hb6.block j (HWV5.out.lt j e).2) (fun i hi => wL_get cw len i hi) (fun g e => ⟨.inr (.inr e), by have := (HWV5.out.lt g e).1; have := HXL.out; omega, by have := (HWV5.out.lt g e).1; have := HXL.out; omega⟩)
  have HKP : Hid (Kr (fun j => j = w.heap.size ∨ (Value.slice pb pn pbc).ownBlock = some j ∨ (Value.slice wb len wbc).ownBlock = some j) w0.heap.size w.heap.size .i64 pb pn 0 pg w6) := row_kr (row_keep HPV5.out fun j e => hb6.block j (HPV5.out.lt j e).2) (fun i hi => pL_get pg pn i hi) (fun g e => ⟨.inr (.inl e), by have := (HPV5.out.lt g e).1; omega, by have := (HPV5.out.lt g e).1; omega⟩)
  obtain ⟨Q, hQ⟩ : ∃ Q : Nat → Prop, (fun j => j = w.heap.size ∨ (Value.slice pb pn pbc).ownBlock = some j ∨ (Value.slice wb len wbc).ownBlock = some j) = Q := ⟨_, rfl⟩
  rw [hQ] at HP6 HKW HKP
  clear hb6 hQ HP5 HP4 HP3
  go_wp2
  go_loopw [56] (fun v wr => I1 Q w0 C D c4 d5 w.heap.size A wb pb len pn cw pg v wr) (fun v _ => len - (intOf v).toNat)
  case atStart => exact ⟨0, rfl, Nat.zero_le _, HP6.out, HX6.out, HKW.out, HKP.out⟩
  case round =>
    obtain ⟨wx, rfl⟩ : ∃ wx, wx = wr := ⟨_, rfl⟩
    obtain ⟨k, rfl, hk, hpr, hX, hkw, hkp⟩ := hrel
    have HPX : Hid (Pr Q wx w0 wx C D c4 d5) := hpr
    have HXX : Hid (wx.heap[w.heap.size]? = some (.cells A 34)) := hX
    have HKWX : Hid (Kr Q w0.heap.size w.heap.size .u32 wb len k (fun i => (cw i : Int)) wx) := hkw
    have HKPX : Hid (Kr Q w0.heap.size w.heap.size .i64 pb pn 0 pg wx) := hkp
    clear hpr hX hkw hkp
    by_cases hkn : k < len
    · obtain ⟨g, hg, q1, q2, q3, q4, q5, q6⟩ := HKWX.out.ex (by omega)
      subst hg
      obtain ⟨x0, hx0⟩ := q4 k hkn
      have zf := q6 k
      have f1 : (k : Int) < (len : Int) := by omega
      have f2 : decide ((k : Int) < (len : Int)) = true := decide_eq_true f1
      have f3 : (0 : Int) ≤ (k : Int) := by omega
      obtain ⟨k1, hk1⟩ : ∃ k1, k + 1 = k1 := ⟨_, rfl⟩
      have t1 : IntKind.i64.wrap ((k : Int) + 1) = (k1 : Int) := So.wr_one hk1 (by omega)
      have HK1 : Hid (k + 1 = k1) := hk1
      have HQ1 : Hid (Q g) := q1
      have HQ2 : Hid (w0.heap.size ≤ g) := q2
      have HQ3 : Hid (g ≠ w.heap.size) := q3
      clear hk1 q1 q2 q3 q4 q5 q6
      go_wp2
      have e1 := HK1.out
      refine ⟨⟨k1, rfl, by omega, HPX.out.set HQ1.out HQ2.out _ _, (So.blk_other (Ne.symm HQ3.out) _).trans HXX.out, ?_, HKPX.out.far (fun g' e => HNE.out g g' (by rw [e]; rfl) rfl) _⟩, by simp [intOf]; omega⟩
      rw [← e1]
      exact HKWX.out.set rfl hkn _
    · have f1 : ¬ (k : Int) < (len : Int) := by omega
      have f2 : decide ((k : Int) < (len : Int)) = false := decide_eq_false f1
      go_wp2
      go_loopw [13, 65] (fun u v wr => I2 Q w0 C D c4 d5 w.heap.size A pb pn pg u v wr) (fun _ v _ => pn - (intOf v).toNat)
      case atStart => exact ⟨0, rfl, Nat.zero_le _, rfl, HPX.out, HXX.out, HKPX.out⟩
      case round =>
        obtain ⟨wy, rfl⟩ : ∃ wy, wy = wr := ⟨_, rfl⟩
        obtain ⟨k, rfl, hk, rfl, hpr, hX, hkp⟩ := hrel
        have HPY : Hid (Pr Q wy w0 wy C D c4 d5) := hpr
        have HXY : Hid (wy.heap[w.heap.size]? = some (.cells A 34)) := hX
        have HKPY : Hid (Kr Q w0.heap.size w.heap.size .i64 pb pn k pg wy) := hkp
        by_cases hkn : k < pn
        · obtain ⟨g, hg, q1, q2, q3, q4, q5, q6⟩ := hkp.ex (by omega)
          subst hg
          have hx0 := q5 k (Nat.le_refl _) hkn
          have zf := q6 k
          rw [HAA.out] at hX
          have y3 : wy.cell? ⟨w.heap.size, 3, none⟩ = some (.slice pa pn pcap) := (So.row_cell hX 3).trans rfl
          obtain ⟨b, off, rfl, hpc3⟩ : ∃ b off, pa = some ⟨b, off, none⟩ ∧ wy.cell? ⟨b, off + k, none⟩ = some (.int .i64 (pg k)) := by
            rcases HPG.out with e | ⟨b, off, e, g1, g2, _⟩
            · omega
            · exact ⟨b, off, e, (hpr.bw.cell (p := ⟨b, off + k, none⟩) g2).trans (g1 k hkn)⟩
          have f1 : (k : Int) < (pn : Int) := by omega
          have f2 : decide ((k : Int) < (pn : Int)) = true := decide_eq_true f1
          have f3 : (0 : Int) ≤ (k : Int) := by omega
          obtain ⟨k1, hk1⟩ : ∃ k1, k + 1 = k1 := ⟨_, rfl⟩
          have t1 : IntKind.i64.wrap ((k : Int) + 1) = (k1 : Int) := So.wr_one hk1 (by omega)
          have HK1 : Hid (k + 1 = k1) := hk1
          have HQ1 : Hid (Q g) := q1
          have HQ2 : Hid (w0.heap.size ≤ g) := q2
          have HQ3 : Hid (g ≠ w.heap.size) := q3
          clear hk1 q1 q2 q3 q4 q5 q6 hpr hX hkp
          go_wp2
          go_region
          go_wp2
          have e1 := HK1.out
          refine ⟨⟨k1, rfl, by omega, rfl, (HPY.out.set HQ1.out HQ2.out _ _).drew, (So.blk_other (Ne.symm HQ3.out) _).trans HXY.out, ?_⟩, by simp [intOf]; omega⟩
          rw [← e1]
          exact (HKPY.out.set rfl hkn _).drew
        · have f1 : ¬ (k : Int) < (pn : Int) := by omega
          have f2 : decide ((k : Int) < (pn : Int)) = false := decide_eq_false f1
          clear hpr hX hkp
          go_wp2
          go_ret
          exact ⟨c4, d5, rfl, HPY.out.drop, HREL5.out⟩
end Go.Proofs.Ytgkkghphlbgcoaa.Ca
