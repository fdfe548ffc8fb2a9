import Derived.Test.YtgkkghphlbgcoaaRS
import Derived.Test.YtgkkghphlbgcoaaPJ
namespace Go.Proofs.Ytgkkghphlbgcoaa.Ca
open Go.RowKit Go.Maps Ho
set_option linter.unusedVariables false
set_option linter.unusedSimpArgs false
theorem nd_len : ∀ (n : Nat) (l : List Nat), l.Nodup → (∀ x ∈ l, x < n) → l.length ≤ n
  | 0, l, _, h => by
    cases l with
    | nil => exact Nat.le_refl _
    | cons a r => exact absurd (h a List.mem_cons_self) (Nat.not_lt_zero _)
  | n + 1, l, hn, h => by
    by_cases hm : n ∈ l
    · have e := List.length_erase_of_mem hm
      have ih := nd_len n (l.erase n) (hn.erase n) fun x hx => by
        have h1 := (hn.mem_erase_iff).1 hx
        have := h x h1.2
        have := h1.1
        omega
      omega
    · have ih := nd_len n l hn fun x hx => by
        have := h x hx
        have : x ≠ n := fun e => hm (e ▸ hx)
        omega
      omega
/-- A word of a block where a leave or an if begins. -/
structure Sx (k : Rk) (s : Nat) : Prop where
  st : ∃ S, Good k.cw k.len k.pc S ∧ s ∈ S
  op : isX (decP k.cw k.len s).x.op = true
/-- Where it goes. -/
def toK (k : Rk) (s : Nat) : Nat := (decP k.cw k.len s).x.k
theorem Sx.exd {k : Rk} {s : Nat} (hlt : ∀ i, k.cw i < 4294967296) (h : Sx k s) : Exd k.cw k.len s := by
  obtain ⟨S, hg, hs⟩ := h.st
  exact Ca.exd hlt (til_mem hlt hg.t s hs).2.1 (isx_ex h.op).1
theorem Sx.pos {k : Rk} {s : Nat} (h : Sx k s) : 0 < s := by
  obtain ⟨S, hg, hs⟩ := h.st
  have ht := hg.o s hs
  rcases Nat.eq_zero_or_pos s with e | e
  · subst e
    have h1 := h.op
    simp [thr] at ht
    rw [show ((0 : Nat) : Int) = 0 from rfl, ht.1] at h1
    cases h1
  · exact e
/-- Starts and exits lie apart. -/
theorem Sx.apart {k : Rk} {s t : Nat} (hlt : ∀ i, k.cw i < 4294967296) (h : Sx k s) {S : List Nat} (hg : Good k.cw k.len k.pc S) (ht : t ∈ S) (hne : s ≠ t) : s + 2 ≤ t ∨ t + (decP k.cw k.len t).n ≤ s := by
  obtain ⟨S', hg', hs⟩ := h.st
  rw [til_uniq hlt hg'.t hg.t] at hs
  have := til_disj hlt hg.t s hs t ht hne
  rwa [(h.exd hlt).n] at this
theorem Sx.apart2 {k : Rk} {s t : Nat} (hlt : ∀ i, k.cw i < 4294967296) (h : Sx k s) (h2 : Sx k t) (hne : s ≠ t) : s + 2 ≤ t ∨ t + 2 ≤ s := by
  obtain ⟨S, hg, ht⟩ := h2.st
  have := h.apart hlt hg ht hne
  rwa [(h2.exd hlt).n] at this
theorem ledG_far (bs : List Rk) (cw : Nat → Nat) : ∀ (ls : List (Nat × Nat)) (f : Nat → Nat) (j : Nat), (∀ p ∈ ls, j ≠ p.1 ∧ j ≠ p.1 + 1) → ls.foldl (fun f p => setF (setF f p.1 (othN (cw p.1))) (p.1 + 1) (bgN bs p.2)) f j = f j
  | [], f, j, _ => rfl
  | p :: r, f, j, h => by
    rw [List.foldl_cons, ledG_far bs cw r _ j fun q hq => h q (List.mem_cons_of_mem _ hq)]
    obtain ⟨h1, h2⟩ := h p List.mem_cons_self
    rw [setF_ne _ _ _ _ h2, setF_ne _ _ _ _ h1]
theorem ledG_at (bs : List Rk) (cw : Nat → Nat) : ∀ (ls : List (Nat × Nat)) (f : Nat → Nat) (p : Nat × Nat), p ∈ ls → (ls.map (·.1)).Nodup → (∀ p ∈ ls, ∀ q ∈ ls, p.1 ≠ q.1 → p.1 + 2 ≤ q.1 ∨ q.1 + 2 ≤ p.1) →
    ls.foldl (fun f p => setF (setF f p.1 (othN (cw p.1))) (p.1 + 1) (bgN bs p.2)) f p.1 = othN (cw p.1) ∧ ls.foldl (fun f p => setF (setF f p.1 (othN (cw p.1))) (p.1 + 1) (bgN bs p.2)) f (p.1 + 1) = bgN bs p.2
  | [], f, p, h, _, _ => by cases h
  | q :: r, f, p, h, hn, ha => by
    rw [List.map_cons, List.nodup_cons] at hn
    rcases List.mem_cons.1 h with rfl | h
    · have far : ∀ x ∈ r, p.1 + 2 ≤ x.1 ∨ x.1 + 2 ≤ p.1 := fun x hx => ha p List.mem_cons_self x (List.mem_cons_of_mem _ hx) fun e => hn.1 (List.mem_map.2 ⟨x, hx, e.symm⟩)
      rw [List.foldl_cons, ledG_far bs cw r _ p.1 fun x hx => by have := far x hx; omega, ledG_far bs cw r _ (p.1 + 1) fun x hx => by have := far x hx; omega]
      rw [setF_ne _ _ _ _ (by omega), setF_at, setF_at]
      exact ⟨rfl, rfl⟩
    · rw [List.foldl_cons]
      exact ledG_at bs cw r _ p h hn.2 fun a ha' b hb => ha a (List.mem_cons_of_mem _ ha') b (List.mem_cons_of_mem _ hb)
theorem ledF_congr (bs bs' : List Rk) (cw : Nat → Nat) (ls : List (Nat × Nat)) (h : ∀ p ∈ ls, bgN bs p.2 = bgN bs' p.2) : ledF bs cw ls = ledF bs' cw ls := by
  unfold ledF
  have key : ∀ (ls : List (Nat × Nat)) (f : Nat → Nat), (∀ p ∈ ls, bgN bs p.2 = bgN bs' p.2) → ls.foldl (fun f p => setF (setF f p.1 (othN (cw p.1))) (p.1 + 1) (bgN bs p.2)) f = ls.foldl (fun f p => setF (setF f p.1 (othN (cw p.1))) (p.1 + 1) (bgN bs' p.2)) f := by
    intro ls
    induction ls with
    | nil => intro f _; rfl
    | cons p r ih =>
      intro f h
      rw [List.foldl_cons, List.foldl_cons, h p List.mem_cons_self]
      exact ih _ fun q hq => h q (List.mem_cons_of_mem _ hq)
  exact key ls cw h
def skK (k : Rk) : Nat × Nat := (k.pc, k.at')
theorem bgN_sk {bs bs' : List Rk} (h : bs.map skK = bs'.map skK) (pc : Nat) : bgN bs pc = bgN bs' pc := by
  have key : ∀ l : List Rk, bgN l pc = (((l.map skK).find? fun p => p.1 == pc).map (·.2)).getD 0 := fun l => by
    unfold bgN fdK
    induction l with
    | nil => rfl
    | cons a r ih =>
      rw [List.find?_cons, List.map_cons, List.find?_cons]
      cases e : (a.pc == pc) with
      | true => simp [skK, e]
      | false => simpa [skK, e] using ih
  rw [key, key, h]
theorem sk_pcs {bs bs' : List Rk} (h : bs.map skK = bs'.map skK) : bs.map (·.pc) = bs'.map (·.pc) := by
  have := congrArg (List.map Prod.fst) h
  simpa [skK, Function.comp_def] using this
theorem fdK_mem {bs : List Rk} {pc : Nat} {k : Rk} (h : fdK bs pc = some k) : k ∈ bs ∧ k.pc = pc := ⟨List.mem_of_find?_eq_some h, by simpa using List.find?_some h⟩
theorem fdK_no {bs : List Rk} {pc : Nat} (h : fdK bs pc = none) : ∀ k ∈ bs, k.pc ≠ pc := fun k hk e => by
  have := List.find?_eq_none.1 h k hk
  simp [e] at this
theorem fdK_of {bs : List Rk} (hn : (bs.map (·.pc)).Nodup) {k : Rk} (hk : k ∈ bs) : fdK bs k.pc = some k := by
  induction bs with
  | nil => cases hk
  | cons a r ih =>
    rw [List.map_cons, List.nodup_cons] at hn
    unfold fdK
    rw [List.find?_cons]
    rcases List.mem_cons.1 hk with rfl | hk
    · simp
    · have : (a.pc == k.pc) = false := by
        simp only [beq_eq_false_iff_ne]
        intro e
        exact hn.1 (List.mem_map.2 ⟨k, hk, e.symm⟩)
      rw [this]
      exact ih hn.2 hk
theorem fdK_some {bs : List Rk} {pc : Nat} {k : Rk} (hk : k ∈ bs) (e : k.pc = pc) : (fdK bs pc).isSome = true := by
  cases h : fdK bs pc with
  | some _ => rfl
  | none => exact absurd e (fdK_no h k hk)
theorem oth_oth {ws : Nat → Nat} {len s : Nat} (hlt : ∀ i, ws i < 4294967296) (h0 : (decP ws len s).e = 0) (ho : isX (decP ws len s).x.op = true) : othN (othN (ws s)) = ws s := by
  rw [dec_op hlt h0] at ho
  simp [isX] at ho
  rcases ho with h | h
  · have h' : ws s % 256 = 14 := by omega
    have e1 : othN (ws s) = ws s + 1 := by unfold othN; rw [if_pos h']
    rw [e1]
    unfold othN
    rw [if_neg (by omega), if_pos (by omega)]
    omega
  · have h' : ws s % 256 = 11 := by omega
    have e1 : othN (ws s) = ws s + 85 := by unfold othN; rw [if_neg (by omega), if_neg (by omega), if_pos h']
    rw [e1]
    unfold othN
    rw [if_neg (by omega), if_neg (by omega), if_neg (by omega)]
    omega
end Go.Proofs.Ytgkkghphlbgcoaa.Ca
namespace Go.Proofs.Ytgkkghphlbgcoaa.Ca
open Go.RowKit Go.Maps Ho
set_option linter.unusedVariables false
set_option linter.unusedSimpArgs false
def blK (k : Rk) : Bl := ⟨k.at', k.len, setN k.pg k.pn 0, setN k.pg k.pn 1, setN k.pg k.pn 2, setN k.pg k.pn 3⟩
/-- The program's cache and the document's are one. -/
structure Rel (c : Cs) (d : Rs) : Prop where
  iv : ∃ L, Iv c L
  rm : c.room = d.room
  fl : c.fill = d.filled
  sl : c.slots = d.n
  dn : 1 ≤ d.n
  nd : (d.bs.map (·.pc)).Nodup
  b1 : ∀ k ∈ d.bs, c.bl (k.pc : Int) = some (blK k)
  b2 : ∀ pc b, c.bl pc = some b → ∃ k ∈ d.bs, (k.pc : Int) = pc
  sr : d.bs.Pairwise fun k q => k.at' + k.len ≤ q.at'
  tp : ∀ k ∈ d.bs, k.at' + k.len ≤ d.filled
  gd : ∀ k ∈ d.bs, ∃ S, Good k.cw k.len k.pc S
  kp : ∀ k ∈ d.bs, k.pc < 4294967296 ∧ 0 < k.len ∧ k.len ≤ 1048576 ∧ (∀ i, k.cw i < 4294967296) ∧ k.pn ≤ 1048576 ∧ ∀ i, i < k.pn → isP (k.pg i) = true
  lo : ∀ k ∈ d.bs, ∀ p ∈ k.ls, Sx k p.1 ∧ p.2 = toK k p.1 ∧ (fdK d.bs p.2).isSome = true
  ln : ∀ k ∈ d.bs, (k.ls.map (·.1)).Nodup
  wd : ∀ k ∈ d.bs, ∀ j, j < k.len → c.ws (k.at' + j) = ledF d.bs k.cw k.ls j
  ex1 : ∀ z p, c.ex z = some p → ∃ k ∈ d.bs, ∃ s : Nat, z = ((k.at' + s : Nat) : Int) ∧ Sx k s ∧ p = (k.pc, toK k s)
  ex2 : ∀ k ∈ d.bs, ∀ s, Sx k s → c.ex ((k.at' + s : Nat) : Int) = some (k.pc, toK k s)
  ta : ∀ i, i < d.n → c.tp i = tpR d i ∧ c.ta i = taR d i
  hs : ∀ i, i < d.n → d.hs i = true → (fdK d.bs (d.sl i)).isSome = true ∧ d.sl i % d.n = i
theorem Rel.bl {c : Cs} {d : Rs} (h : Rel c d) (pc : Nat) : c.bl (pc : Int) = (fdK d.bs pc).map blK := by
  cases hf : fdK d.bs pc with
  | some k =>
    obtain ⟨h1, h2⟩ := fdK_mem hf
    rw [← h2]
    exact h.b1 k h1
  | none =>
    cases hb : c.bl (pc : Int) with
    | none => rfl
    | some b =>
      obtain ⟨k, hk, e⟩ := h.b2 _ b hb
      exact absurd (by omega) (fdK_no hf k hk)
theorem Sx.lt {k : Rk} {s : Nat} (hlt : ∀ i, k.cw i < 4294967296) (h : Sx k s) : s + 2 ≤ k.len := (h.exd hlt).le
theorem Rel.lsl {c : Cs} {d : Rs} (h : Rel c d) (k : Rk) (hk : k ∈ d.bs) : k.ls.length + 1 ≤ 1048576 := by
  obtain ⟨_, h1, h2, h3, _⟩ := h.kp k hk
  have := nd_len (k.len - 1) (k.ls.map (·.1)) (h.ln k hk) fun x hx => by
    obtain ⟨p, hp, rfl⟩ := List.mem_map.1 hx
    have := (h.lo k hk p hp).1.lt h3
    omega
  rw [List.length_map] at this
  omega
theorem Rel.rg {c : Cs} {d : Rs} (h : Rel c d) : Rg d := ⟨h.gd, h.sr, h.tp, h.lsl⟩
theorem Rel.lok {c : Cs} {d : Rs} (h : Rel c d) : ∀ k ∈ d.bs, Lo k := fun k hk => ⟨fun p hp => by
  obtain ⟨hs, _⟩ := h.lo k hk p hp
  obtain ⟨S, hg, hm⟩ := hs.st
  exact ⟨(til_mem (h.kp k hk).2.2.2.1 hg.t p.1 hm).2.1, hs.op⟩⟩
theorem len_sum : ∀ (bs : List Rk) (n : Nat), bs.Pairwise (fun k q => k.at' + k.len ≤ q.at') → (∀ k ∈ bs, 0 < k.len ∧ k.at' + k.len ≤ n) → bs.length ≤ n
  | [], _, _, _ => Nat.zero_le _
  | a :: r, n, hp, h => by
    obtain ⟨h1, h2⟩ := h a List.mem_cons_self
    rw [List.pairwise_cons] at hp
    have key : ∀ (l : List Rk) (m : Nat), l.Pairwise (fun k q => k.at' + k.len ≤ q.at') → (∀ k ∈ l, 0 < k.len ∧ k.at' + k.len ≤ n ∧ m ≤ k.at') → m ≤ n → l.length + m ≤ n := by
      intro l
      induction l with
      | nil => intro m _ _ hm; simpa using hm
      | cons b l ih =>
        intro m hp h hm
        rw [List.pairwise_cons] at hp
        obtain ⟨g1, g2, g3⟩ := h b List.mem_cons_self
        have := ih (b.at' + b.len) hp.2 (fun k hk => ⟨(h k (List.mem_cons_of_mem _ hk)).1, (h k (List.mem_cons_of_mem _ hk)).2.1, hp.1 k hk⟩) g2
        simp only [List.length_cons]
        omega
    have := key r (a.at' + a.len) hp.2 (fun k hk => ⟨(h k (List.mem_cons_of_mem _ hk)).1, (h k (List.mem_cons_of_mem _ hk)).2, hp.1 k hk⟩) h2
    simp only [List.length_cons]
    omega
theorem Rel.bsl {c : Cs} {d : Rs} (h : Rel c d) : d.bs.length ≤ d.filled := len_sum d.bs d.filled h.sr fun k hk => ⟨(h.kp k hk).2.1, h.tp k hk⟩
/-- A word of one block alone. -/
theorem Rel.one {c : Cs} {d : Rs} (h : Rel c d) {k q : Rk} (hk : k ∈ d.bs) (hq : q ∈ d.bs) {s t : Nat} (hs : s < k.len) (ht : t < q.len) (e : k.at' + s = q.at' + t) : k = q ∧ s = t := by
  obtain ⟨i, hi⟩ := List.getElem?_of_mem hk
  obtain ⟨j, hj⟩ := List.getElem?_of_mem hq
  have := one_only h.rg hi hj hs ht e
  subst this
  rw [hi] at hj
  cases hj
  exact ⟨rfl, by omega⟩
theorem Rel.lsa {c : Cs} {d : Rs} (h : Rel c d) {k : Rk} (hk : k ∈ d.bs) : ∀ p ∈ k.ls, ∀ q ∈ k.ls, p.1 ≠ q.1 → p.1 + 2 ≤ q.1 ∨ q.1 + 2 ≤ p.1 := fun p hp q hq hne => (h.lo k hk p hp).1.apart2 (h.kp k hk).2.2.2.1 (h.lo k hk q hq).1 hne
theorem Rel.led {c : Cs} {d : Rs} (h : Rel c d) {k : Rk} (hk : k ∈ d.bs) {p : Nat × Nat} (hp : p ∈ k.ls) : c.ws (k.at' + p.1) = othN (k.cw p.1) ∧ c.ws (k.at' + p.1 + 1) = bgN d.bs p.2 := by
  have hl := (h.lo k hk p hp).1.lt (h.kp k hk).2.2.2.1
  obtain ⟨a1, a2⟩ := ledG_at d.bs k.cw k.ls k.cw p hp (h.ln k hk) (h.lsa hk)
  rw [h.wd k hk p.1 (by omega), Nat.add_assoc, h.wd k hk (p.1 + 1) (by omega)]
  exact ⟨a1, a2⟩
theorem Rel.far {c : Cs} {d : Rs} (h : Rel c d) {k : Rk} (hk : k ∈ d.bs) {j : Nat} (hj : j < k.len) (hn : ∀ p ∈ k.ls, j ≠ p.1 ∧ j ≠ p.1 + 1) : c.ws (k.at' + j) = k.cw j := by
  rw [h.wd k hk j hj]
  exact ledG_far d.bs k.cw k.ls k.cw j hn
theorem Rel.lt {c : Cs} {d : Rs} (h : Rel c d) : ∀ i, c.ws i < 4294967296 := let ⟨_, V⟩ := h.iv; V.lt
/-- What does not lead on is as it came. -/
theorem Rel.dec1 {c : Cs} {d : Rs} (h : Rel c d) {k : Rk} (hk : k ∈ d.bs) {S : List Nat} (hg : Good k.cw k.len k.pc S) {s : Nat} (hs : s ∈ S) (hn : ∀ p ∈ k.ls, p.1 ≠ s) : decP c.ws c.fill ((k.at' + s : Nat) : Int) = decP k.cw k.len s := by
  have hlt := (h.kp k hk).2.2.2.1
  obtain ⟨u1, u2, u3, u4⟩ := til_mem hlt hg.t s hs
  have ht := h.tp k hk
  refine dec_loc u2 (fun i hi => ?_) (by rw [h.fl]; omega)
  rw [Nat.add_assoc]
  refine h.far hk (by omega) fun p hp => ?_
  have := (h.lo k hk p hp).1.apart hlt hg hs (hn p hp)
  omega
theorem Rel.dec2 {c : Cs} {d : Rs} (h : Rel c d) {k : Rk} (hk : k ∈ d.bs) {p : Nat × Nat} (hp : p ∈ k.ls) : (decP c.ws c.fill ((k.at' + p.1 : Nat) : Int)).x.op = othF (decP k.cw k.len p.1).x.op := by
  have hlt := (h.kp k hk).2.2.2.1
  have E := (h.lo k hk p hp).1.exd hlt
  have ht := h.tp k hk
  have hle := E.le
  obtain ⟨e1, e2, e3, e4⟩ := E.dec (fun i => c.ws (k.at' + i)) k.len (fun i => h.lt _) (h.led hk hp).1 E.le
  have := dec_loc (ws := fun i => c.ws (k.at' + i)) (ws' := c.ws) (len := k.len) (len' := c.fill) (a := p.1) (a' := k.at' + p.1) e1 (fun i _ => by rw [Nat.add_assoc]) (by rw [e2, h.fl]; omega)
  rw [this]
  exact e3
theorem ldb_x {o : Int} (h : isX o = true) : ldB o = false ∧ ldB (othF o) = true := by
  simp [isX] at h
  rcases h with rfl | rfl <;> decide
/-- Does a word lead on? -/
theorem Rel.ldb {c : Cs} {d : Rs} (h : Rel c d) {k : Rk} (hk : k ∈ d.bs) {s : Nat} (hs : Sx k s) : ldB (decP c.ws c.fill ((k.at' + s : Nat) : Int)).x.op = true ↔ ∃ p ∈ k.ls, p.1 = s := by
  constructor
  · intro hl
    refine Classical.byContradiction fun hn => ?_
    obtain ⟨S, hg, hm⟩ := hs.st
    rw [h.dec1 hk hg hm fun p hp e => hn ⟨p, hp, e⟩, (ldb_x hs.op).1] at hl
    cases hl
  · rintro ⟨p, hp, rfl⟩
    rw [h.dec2 hk hp]
    exact (ldb_x hs.op).2
theorem rel_new (room n : Nat) (hn : 1 ≤ n) : Rel (newC room n n) (newR room n) := by
  refine ⟨⟨_, iv_new room n⟩, rfl, rfl, rfl, hn, List.nodup_nil, fun k hk => (by cases hk), fun _ _ h => (by cases h), List.Pairwise.nil, fun k hk => (by cases hk), fun k hk => (by cases hk), fun k hk => (by cases hk), fun k hk => (by cases hk), fun k hk => (by cases hk), fun k hk => (by cases hk), fun _ _ h => (by cases h), fun k hk => (by cases hk), fun i hi => ?_, fun i hi h => ?_⟩
  · have hi' : i < n := hi
    exact ⟨rfl, by show (if i < n then (-1 : Int) else 0) = -1; rw [if_pos hi']⟩
  · cases h
theorem fnd_same {c : Cs} {d : Rs} (h : Rel c d) (pc : Nat) : fndF c pc = fnR d pc := by
  unfold fndF fnR
  rw [h.bl]
  cases fdK d.bs pc <;> rfl
theorem tp_on {d : Rs} {i : Nat} (h : d.hs i = true) : tpR d i = d.sl i ∧ taR d i = (fnR d (d.sl i)).1 := by
  unfold tpR taR
  exact ⟨if_pos h, if_pos h⟩
theorem tp_off {d : Rs} {i : Nat} (h : d.hs i = false) : tpR d i = 0 ∧ taR d i = -1 := by
  unfold tpR taR
  exact ⟨if_neg (by rw [h]; simp), if_neg (by rw [h]; simp)⟩
theorem rel_note {c : Cs} {d : Rs} (h : Rel c d) {pc : Nat} {k : Rk} (hf : fdK d.bs pc = some k) : Rel (noteC c pc (blK k)) { d with sl := setF d.sl (pc % d.n) pc, hs := setF d.hs (pc % d.n) true } := by
  obtain ⟨L, V⟩ := h.iv
  have hb : c.bl (pc : Int) = some (blK k) := by rw [h.bl, hf]; rfl
  refine ⟨⟨L, iv_note V pc (blK k) hb⟩, h.rm, h.fl, h.sl, h.dn, h.nd, h.b1, h.b2, h.sr, h.tp, h.gd, h.kp, h.lo, h.ln, h.wd, h.ex1, h.ex2, fun i hi => ?_, fun i hi hh => ?_⟩
  · show setF c.tp (pc % c.slots) pc i = _ ∧ setF c.ta (pc % c.slots) (k.at' : Int) i = _
    rw [h.sl]
    by_cases e : i = pc % d.n
    · subst e
      rw [setF_at, setF_at]
      have e1 : (fnR { d with sl := setF d.sl (pc % d.n) pc, hs := setF d.hs (pc % d.n) true } pc).1 = (k.at' : Int) := by unfold fnR; dsimp only; rw [hf]
      obtain ⟨o1, o2⟩ := tp_on (d := { d with sl := setF d.sl (pc % d.n) pc, hs := setF d.hs (pc % d.n) true }) (i := pc % d.n) (setF_at _ _ _)
      rw [o1, o2]
      dsimp only
      rw [setF_at]
      exact ⟨rfl, e1.symm⟩
    · rw [setF_ne _ _ _ _ e, setF_ne _ _ _ _ e]
      obtain ⟨t1, t2⟩ := h.ta i hi
      rw [t1, t2]
      cases hh : d.hs i with
      | false =>
        obtain ⟨o1, o2⟩ := tp_off hh
        obtain ⟨o3, o4⟩ := tp_off (d := { d with sl := setF d.sl (pc % d.n) pc, hs := setF d.hs (pc % d.n) true }) (i := i) ((setF_ne _ _ _ _ e).trans hh)
        rw [o1, o2, o3, o4]
        exact ⟨rfl, rfl⟩
      | true =>
        obtain ⟨o1, o2⟩ := tp_on hh
        obtain ⟨o3, o4⟩ := tp_on (d := { d with sl := setF d.sl (pc % d.n) pc, hs := setF d.hs (pc % d.n) true }) (i := i) ((setF_ne _ _ _ _ e).trans hh)
        rw [o1, o2, o3, o4]
        dsimp only
        rw [setF_ne _ _ _ _ e]
        exact ⟨rfl, rfl⟩
  · have hh' : setF d.hs (pc % d.n) true i = true := hh
    show (fdK d.bs (setF d.sl (pc % d.n) pc i)).isSome = true ∧ setF d.sl (pc % d.n) pc i % d.n = i
    by_cases e : i = pc % d.n
    · subst e
      rw [setF_at, hf]
      exact ⟨rfl, rfl⟩
    · rw [setF_ne _ _ _ _ e] at hh' ⊢
      exact h.hs i hi hh'
/-- A slot of the table is a block's. -/
theorem Rel.slot {c : Cs} {d : Rs} (h : Rel c d) {i : Nat} (hi : i < d.n) (hh : d.hs i = true) : ∃ k ∈ d.bs, k.pc = d.sl i ∧ c.tp i = k.pc ∧ c.ta i = (k.at' : Int) ∧ k.pc % d.n = i := by
  obtain ⟨h1, h2⟩ := h.hs i hi hh
  cases hf : fdK d.bs (d.sl i) with
  | none => rw [hf] at h1; cases h1
  | some k =>
    obtain ⟨g1, g2⟩ := fdK_mem hf
    obtain ⟨t1, t2⟩ := h.ta i hi
    refine ⟨k, g1, g2, ?_, ?_, by rw [g2]; exact h2⟩
    · rw [t1, g2]; unfold tpR; rw [if_pos hh]
    · rw [t2]; unfold taR fnR; rw [if_pos hh, hf]
theorem Rel.empty {c : Cs} {d : Rs} (h : Rel c d) {i : Nat} (hi : i < d.n) (hh : d.hs i = false) : c.tp i = 0 ∧ c.ta i = -1 := by
  obtain ⟨t1, t2⟩ := h.ta i hi
  rw [t1, t2]
  exact tp_off hh
theorem rel_flush {c : Cs} {d : Rs} (h : Rel c d) (tp' : Nat → Nat) (ta' : Nat → Int) (hf : Fg c c.bl tp' ta' (fun _ => false)) :
    Rel { c with fill := 0, tp := tp', ta := ta', bl := fun _ => none, ex := fun _ => none } { d with filled := 0, bs := [], hs := offF d.n d.hs } := by
  obtain ⟨L, V⟩ := h.iv
  have off : ∀ i, i < d.n → offF d.n d.hs i = false := fun i hi => by simp [offF, hi]
  refine ⟨⟨_, iv_flush V tp' ta' hf⟩, h.rm, rfl, h.sl, h.dn, List.nodup_nil, fun k hk => (by cases hk), fun _ _ h => (by cases h), List.Pairwise.nil, fun k hk => (by cases hk), fun k hk => (by cases hk), fun k hk => (by cases hk), fun k hk => (by cases hk), fun k hk => (by cases hk), fun k hk => (by cases hk), fun _ _ h => (by cases h), fun k hk => (by cases hk), fun i hi => ?_, fun i hi hh => ?_⟩
  · have hi' : i < d.n := hi
    have e := tp_off (d := { d with filled := 0, bs := [], hs := offF d.n d.hs }) (i := i) (off i hi')
    rw [e.1, e.2]
    show tp' i = 0 ∧ ta' i = -1
    rcases hf i (by rw [h.sl]; exact hi') with ⟨h1, h2, _⟩ | ⟨h1, h2, h3⟩
    · exact ⟨h2, h1⟩
    · cases hh : d.hs i with
      | false =>
        obtain ⟨e1, e2⟩ := h.empty hi' hh
        rw [h1, h2, e1, e2]
        exact ⟨rfl, rfl⟩
      | true =>
        obtain ⟨k, g1, g2, g3, g4, g5⟩ := h.slot hi' hh
        exact absurd g4 (h3 _ _ (h.b1 k g1) rfl (by rw [Int.toNat_natCast, h.sl]; exact g5))
  · have hh' : offF d.n d.hs i = true := hh
    rw [off i hi] at hh'
    cases hh'
end Go.Proofs.Ytgkkghphlbgcoaa.Ca
namespace Go.Proofs.Ytgkkghphlbgcoaa.Ca
open Go.RowKit Go.Maps Ho
set_option linter.unusedVariables false
set_option linter.unusedSimpArgs false
theorem fdK_app (bs : List Rk) (k : Rk) (pc : Nat) : fdK (bs ++ [k]) pc = (fdK bs pc).or (fdK [k] pc) := by unfold fdK; exact List.find?_append
theorem bgN_app {bs : List Rk} (k : Rk) {pc : Nat} (h : (fdK bs pc).isSome = true) : bgN (bs ++ [k]) pc = bgN bs pc := by
  unfold bgN
  rw [fdK_app]
  cases hf : fdK bs pc with
  | none => rw [hf] at h; cases h
  | some q => rfl
theorem some_app {bs : List Rk} (k : Rk) {pc : Nat} (h : (fdK bs pc).isSome = true) : (fdK (bs ++ [k]) pc).isSome = true := by
  rw [fdK_app]
  cases hf : fdK bs pc with
  | none => rw [hf] at h; cases h
  | some q => rfl
theorem rel_insert {c : Cs} {d : Rs} (h : Rel c d) (pc len n : Nat) (cw : Nat → Nat) (pg : Nat → Int) (S : List Nat) (hpc : pc < 4294967296) (hcw : ∀ i, cw i < 4294967296) (hl : 0 < len) (hlen : len ≤ 1048576) (hg : Good cw len pc S) (hf : fdK d.bs pc = none) (hpn : n ≤ 1048576) (hpg : ∀ i, i < n → isP (pg i) = true) (cv pv : Value) :
    Rel (insC c pc ⟨c.fill, len, setN pg n 0, setN pg n 1, setN pg n 2, setN pg n 3⟩ cw (partsOf cw len S)) { d with filled := d.filled + len, bs := d.bs ++ [⟨pc, len, cw, n, pg, d.filled, [], cv, pv, .slice none 0 0, .slice none 0 0⟩] } := by
  obtain ⟨L, V⟩ := h.iv
  have hb : c.bl (pc : Int) = none := by rw [h.bl, hf]; rfl
  have hno := fdK_no hf
  obtain ⟨k0, hk0⟩ : ∃ k0 : Rk, k0 = ⟨pc, len, cw, n, pg, d.filled, [], cv, pv, .slice none 0 0, .slice none 0 0⟩ := ⟨_, rfl⟩
  have e0 : k0.pc = pc := by rw [hk0]
  have e1 : k0.len = len := by rw [hk0]
  have e2 : k0.at' = d.filled := by rw [hk0]
  have e3 : k0.cw = cw := by rw [hk0]
  have e4 : k0.ls = [] := by rw [hk0]
  have e5 : blK k0 = ⟨c.fill, len, setN pg n 0, setN pg n 1, setN pg n 2, setN pg n 3⟩ := by rw [hk0, h.fl]; rfl
  have e6 : k0.pn = n ∧ k0.pg = pg := by rw [hk0]; exact ⟨rfl, rfl⟩
  rw [← hk0]
  have hgk : Good k0.cw k0.len k0.pc S := by rw [e0, e1, e3]; exact hg
  clear hk0
  have mem : ∀ q, q ∈ d.bs ++ [k0] → q ∈ d.bs ∨ q = k0 := fun q hq => by simpa using hq
  have bl0 : ∀ z : Int, (insC c pc ⟨c.fill, len, setN pg n 0, setN pg n 1, setN pg n 2, setN pg n 3⟩ cw (partsOf cw len S)).bl z = if z = (pc : Int) then some ⟨c.fill, len, setN pg n 0, setN pg n 1, setN pg n 2, setN pg n 3⟩ else c.bl z := fun _ => rfl
  have ws0 : ∀ i, (insC c pc ⟨c.fill, len, setN pg n 0, setN pg n 1, setN pg n 2, setN pg n 3⟩ cw (partsOf cw len S)).ws i = if i < c.fill then c.ws i else cw (i - c.fill) := fun _ => rfl
  have ex0 : (insC c pc ⟨c.fill, len, setN pg n 0, setN pg n 1, setN pg n 2, setN pg n 3⟩ cw (partsOf cw len S)).ex = insX c.ex c.fill pc (partsOf cw len S) := rfl
  refine ⟨⟨_, iv_insert V pc len hpc cw hcw S hl hg hb _ _ _ _ ⟨setN_lt _ _ _, setN_lt _ _ _, setN_lt _ _ _, setN_lt _ _ _⟩⟩, h.rm, by show c.fill + len = d.filled + len; rw [h.fl], h.sl, h.dn, ?_, fun k hk => ?_, fun z b hz => ?_, ?_, fun k hk => ?_, fun k hk => ?_, fun k hk => ?_, fun k hk p hp => ?_, fun k hk => ?_, fun k hk j hj => ?_, fun z p hz => ?_, fun k hk s hs => ?_, fun i hi => ?_, fun i hi hh => ?_⟩
  · show ((d.bs ++ [k0]).map (·.pc)).Nodup
    rw [List.map_append, List.nodup_append]
    refine ⟨h.nd, by simp, fun a ha b hb e => ?_⟩
    obtain ⟨q, hq, rfl⟩ := List.mem_map.1 ha
    simp at hb
    exact hno q hq (by rw [e, hb, e0])
  · rw [bl0]
    rcases mem k hk with hk | rfl
    · rw [if_neg (fun e => hno k hk (by omega))]; exact h.b1 k hk
    · rw [if_pos (by rw [e0]), e5]
  · rw [bl0] at hz
    split at hz
    · next e => exact ⟨k0, by simp, by rw [e0, e]⟩
    · obtain ⟨k, hk, e⟩ := h.b2 z b hz
      exact ⟨k, by simp [hk], e⟩
  · show (d.bs ++ [k0]).Pairwise _
    rw [List.pairwise_append]
    refine ⟨h.sr, by simp, fun a ha b hb => ?_⟩
    simp at hb
    rw [hb, e2]
    exact h.tp a ha
  · show k.at' + k.len ≤ d.filled + len
    rcases mem k hk with hk | rfl
    · have := h.tp k hk; omega
    · rw [e2, e1]; exact Nat.le_refl _
  · rcases mem k hk with hk | rfl
    · exact h.gd k hk
    · exact ⟨S, hgk⟩
  · rcases mem k hk with hk | rfl
    · exact h.kp k hk
    · rw [e0, e1, e3, e6.1, e6.2]; exact ⟨hpc, hl, hlen, hcw, hpn, hpg⟩
  · rcases mem k hk with hk | rfl
    · obtain ⟨g1, g2, g3⟩ := h.lo k hk p hp
      exact ⟨g1, g2, some_app k0 g3⟩
    · rw [e4] at hp; cases hp
  · rcases mem k hk with hk | rfl
    · exact h.ln k hk
    · rw [e4]; exact List.nodup_nil
  · rw [ws0]
    show _ = ledF (d.bs ++ [k0]) k.cw k.ls j
    rcases mem k hk with hk | rfl
    · have := h.tp k hk
      rw [if_pos (by rw [h.fl]; omega), h.wd k hk j hj, ledF_congr d.bs (d.bs ++ [k0]) k.cw k.ls fun p hp => (bgN_app k0 (h.lo k hk p hp).2.2).symm]
    · rw [e2, if_neg (by rw [h.fl]; omega), h.fl, show d.filled + j - d.filled = j by omega, e3, e4]; rfl
  · rw [ex0] at hz
    rcases insX_of c.fill pc _ _ _ _ hz with h1 | ⟨q, hq, e, rfl⟩
    · obtain ⟨k, hk, s, g1, g2, g3⟩ := h.ex1 z p h1
      exact ⟨k, by simp [hk], s, g1, g2, g3⟩
    · obtain ⟨m1, m2, m3⟩ := partsOf_mem.1 hq
      refine ⟨k0, by simp, q.1, ?_, ⟨⟨S, hgk, m1⟩, by rw [e3, e1]; exact m2⟩, ?_⟩
      · rw [e2, e, h.fl]
      · unfold toK; rw [e0, e3, e1, m3]
  · rw [ex0]
    rcases mem k hk with hk | rfl
    · rw [insX_other c.fill pc _ _ _ fun p hp e => ?_]
      · exact h.ex2 k hk s hs
      · have := h.tp k hk
        have := hs.lt (h.kp k hk).2.2.2.1
        rw [h.fl] at e
        omega
    · have hsS : s ∈ S := by
        obtain ⟨S', hg', hm⟩ := hs.st
        rwa [til_uniq (by rw [e3]; exact hcw) hg'.t hgk.t] at hm
      have hop : isX (decP cw len s).x.op = true := by have := hs.op; rwa [e3, e1] at this
      have hm : (s, (decP cw len s).x.k) ∈ partsOf cw len S := partsOf_mem.2 ⟨hsS, hop, rfl⟩
      obtain ⟨q, hq⟩ := insX_hit c.fill pc (partsOf cw len S) c.ex ((k.at' + s : Nat) : Int) ⟨_, hm, by rw [e2, h.fl]⟩
      rw [hq]
      rcases insX_of c.fill pc _ _ _ _ hq with h1 | ⟨p, hp, e, rfl⟩
      · exfalso
        obtain ⟨k', hk', s', g1, g2, _⟩ := h.ex1 _ q h1
        have := h.tp k' hk'
        have := g2.lt (h.kp k' hk').2.2.2.1
        rw [e2] at g1
        omega
      · obtain ⟨m1, m2, m3⟩ := partsOf_mem.1 hp
        have : p.1 = s := by rw [e2, h.fl] at e; omega
        rw [m3, this]
        unfold toK
        rw [e0, e3, e1]
  · obtain ⟨t1, t2⟩ := h.ta i hi
    show c.tp i = _ ∧ c.ta i = _
    rw [t1, t2]
    cases hh : d.hs i with
    | false =>
      obtain ⟨o1, o2⟩ := tp_off hh
      obtain ⟨o3, o4⟩ := tp_off (d := { d with filled := d.filled + len, bs := d.bs ++ [k0] }) (i := i) hh
      rw [o1, o2, o3, o4]; exact ⟨rfl, rfl⟩
    | true =>
      obtain ⟨o1, o2⟩ := tp_on hh
      obtain ⟨o3, o4⟩ := tp_on (d := { d with filled := d.filled + len, bs := d.bs ++ [k0] }) (i := i) hh
      rw [o1, o2, o3, o4, fnR_bg, fnR_bg]
      exact ⟨rfl, by rw [bgN_app k0 (h.hs i hi hh).1]⟩
  · obtain ⟨g1, g2⟩ := h.hs i hi hh
    exact ⟨some_app k0 g1, g2⟩
end Go.Proofs.Ytgkkghphlbgcoaa.Ca
namespace Go.Proofs.Ytgkkghphlbgcoaa.Ca
open Go.RowKit Go.Maps Ho
set_option linter.unusedVariables false
set_option linter.unusedSimpArgs false
theorem lk_sx {k : Rk} {s : Nat} (h : LkAt k s) : Sx k s ∧ ∀ p ∈ k.ls, p.1 ≠ s := ⟨⟨h.1, h.2.1⟩, fun p hp e => h.2.2 p hp (by omega)⟩
theorem sx_lk {k : Rk} {s : Nat} (h : Sx k s) (hn : ∀ p ∈ k.ls, p.1 ≠ s) : LkAt k s := ⟨h.st, h.op, fun p hp e => hn p hp (by omega)⟩
theorem rel_link {c : Cs} {d : Rs} (h : Rel c d) {l1 l2 : List Rk} {k : Rk} (hbs : d.bs = l1 ++ k :: l2) {s : Nat} (hl : LkAt k s) {k2 : Rk} (hf : fdK d.bs (toK k s) = some k2) (lv tv : Value) (hfl : d.filled ≤ 1048576) :
    Rel (turC c (k.at' + s) (othN (c.ws (k.at' + s))) k2.at') { d with bs := l1 ++ { k with ls := k.ls ++ [(s, toK k s)], lv := lv, tv := tv } :: l2 } := by
  obtain ⟨L, V⟩ := h.iv
  obtain ⟨hsx, hnl⟩ := lk_sx hl
  have hk : k ∈ d.bs := by rw [hbs]; simp
  have hlt := (h.kp k hk).2.2.2.1
  have hsl := hsx.lt hlt
  obtain ⟨hk2, hp2⟩ := fdK_mem hf
  have ht2 := h.tp k2 hk2
  have hb2 : c.bl ((toK k s : Nat) : Int) = some (blK k2) := by rw [h.bl, hf]; rfl
  have hld : ¬ ldOp (decP c.ws c.fill ((k.at' + s : Nat) : Int)).x.op := fun hh => by
    obtain ⟨p, hp, e⟩ := (h.ldb hk hsx).1 ((ldb_iff _).2 hh)
    exact hnl p hp e
  obtain ⟨k', hk'⟩ : ∃ k' : Rk, k' = { k with ls := k.ls ++ [(s, toK k s)], lv := lv, tv := tv } := ⟨_, rfl⟩
  have e0 : k'.pc = k.pc ∧ k'.len = k.len ∧ k'.cw = k.cw ∧ k'.at' = k.at' ∧ k'.pn = k.pn ∧ k'.pg = k.pg ∧ k'.ls = k.ls ++ [(s, toK k s)] := by rw [hk']; exact ⟨rfl, rfl, rfl, rfl, rfl, rfl, rfl⟩
  obtain ⟨a1, a2, a3, a4, a5, a6, a7⟩ := e0
  have eb : blK k' = blK k := by unfold blK; rw [a2, a4, a5, a6]
  have esx : ∀ t, Sx k' t ↔ Sx k t := fun t => by
    constructor
    · rintro ⟨h1, h2⟩; rw [a1, a2, a3] at h1; rw [a2, a3] at h2; exact ⟨h1, h2⟩
    · rintro ⟨h1, h2⟩; refine ⟨?_, ?_⟩; rw [a1, a2, a3]; exact h1; rw [a2, a3]; exact h2
  have eto : ∀ t, toK k' t = toK k t := fun t => by unfold toK; rw [a2, a3]
  rw [← hk']
  clear hk'
  have mem : ∀ q, q ∈ l1 ++ k' :: l2 → (q ∈ d.bs ∧ (q ∈ l1 ∨ q ∈ l2)) ∨ q = k' := fun q hq => by
    simp at hq
    rcases hq with hq | hq | hq
    · exact .inl ⟨by rw [hbs]; simp [hq], .inl hq⟩
    · exact .inr hq
    · exact .inl ⟨by rw [hbs]; simp [hq], .inr hq⟩
  have back : ∀ q, q ∈ d.bs → q ∈ l1 ++ k' :: l2 ∨ q = k := fun q hq => by
    rw [hbs] at hq
    simp at hq
    rcases hq with hq | hq | hq
    · left; simp [hq]
    · exact .inr hq
    · left; simp [hq]
  have mk' : k' ∈ l1 ++ k' :: l2 := by simp
  have sk : (l1 ++ k' :: l2).map skK = d.bs.map skK := by rw [hbs]; simp [skK, a1, a4]
  have pcs : (l1 ++ k' :: l2).map (·.pc) = d.bs.map (·.pc) := sk_pcs sk
  have iss : ∀ pc, (fdK (l1 ++ k' :: l2) pc).isSome = (fdK d.bs pc).isSome := fun pc => fdK_pcs pcs pc
  have hnd : ∀ q, q ∈ l1 ∨ q ∈ l2 → q ≠ k := fun q hq e => by
    have hn := h.nd
    rw [hbs, List.map_append, List.map_cons, List.nodup_append] at hn
    subst e
    rcases hq with hq | hq
    · exact hn.2.2 q.pc (List.mem_map.2 ⟨q, hq, rfl⟩) q.pc (by simp) rfl
    · have := hn.2.1
      rw [List.nodup_cons] at this
      exact this.1 (List.mem_map.2 ⟨q, hq, rfl⟩)
  obtain ⟨o1, o2, o3⟩ := over_at c.ws (k.at' + s) (othN (c.ws (k.at' + s))) k2.at'
  have wsk : c.ws (k.at' + s) = k.cw s := h.far hk (by omega) fun p hp => by
    have hne := hnl p hp
    have := (h.lo k hk p hp).1.apart2 hlt hsx hne
    omega
  refine ⟨⟨L, iv_link V (k.at' + s) k.pc (toK k s) (blK k2) (h.ex2 k hk s hsx) hld hb2 (by show k2.at' < 4294967296; omega)⟩, h.rm, h.fl, h.sl, h.dn, by show ((l1 ++ k' :: l2).map (·.pc)).Nodup; rw [pcs]; exact h.nd, fun q hq => ?_, fun z b hz => ?_, ?_, fun q hq => ?_, fun q hq => ?_, fun q hq => ?_, fun q hq p hp => ?_, fun q hq => ?_, fun q hq j hj => ?_, fun z p hz => ?_, fun q hq t ht => ?_, fun i hi => ?_, fun i hi hh => ?_⟩
  · show c.bl _ = _
    rcases mem q hq with ⟨hq, _⟩ | rfl
    · exact h.b1 q hq
    · rw [a1, eb]; exact h.b1 k hk
  · obtain ⟨q, hq, e⟩ := h.b2 z b hz
    rcases back q hq with hq | rfl
    · exact ⟨q, hq, e⟩
    · exact ⟨k', mk', by rw [a1]; exact e⟩
  · show (l1 ++ k' :: l2).Pairwise _
    have := h.sr
    rw [hbs] at this
    rw [List.pairwise_append, List.pairwise_cons] at this ⊢
    obtain ⟨g1, ⟨g2, g3⟩, g4⟩ := this
    refine ⟨g1, ⟨fun q hq => by rw [a4, a2]; exact g2 q hq, g3⟩, fun q hq r hr => ?_⟩
    rcases List.mem_cons.1 hr with rfl | hr
    · rw [a4]; exact g4 q hq k List.mem_cons_self
    · exact g4 q hq r (List.mem_cons_of_mem _ hr)
  · show q.at' + q.len ≤ d.filled
    rcases mem q hq with ⟨hq, _⟩ | rfl
    · exact h.tp q hq
    · rw [a4, a2]; exact h.tp k hk
  · rcases mem q hq with ⟨hq, _⟩ | rfl
    · exact h.gd q hq
    · rw [a1, a2, a3]; exact h.gd k hk
  · rcases mem q hq with ⟨hq, _⟩ | rfl
    · exact h.kp q hq
    · rw [a1, a2, a3, a5, a6]; exact h.kp k hk
  · rcases mem q hq with ⟨hq, _⟩ | rfl
    · obtain ⟨g1, g2, g3⟩ := h.lo q hq p hp
      exact ⟨g1, g2, by rw [iss]; exact g3⟩
    · rw [a7] at hp
      rw [esx, eto, iss]
      rcases List.mem_append.1 hp with hp | hp
      · exact h.lo k hk p hp
      · simp at hp; subst hp
        exact ⟨hsx, rfl, by rw [hf]; rfl⟩
  · rcases mem q hq with ⟨hq, _⟩ | rfl
    · exact h.ln q hq
    · rw [a7, List.map_append, List.nodup_append]
      refine ⟨h.ln k hk, by simp, fun a ha b hb e => ?_⟩
      obtain ⟨p, hp, rfl⟩ := List.mem_map.1 ha
      simp at hb
      exact hnl p hp (by rw [e, hb])
  · show over c.ws (k.at' + s) [othN (c.ws (k.at' + s)), k2.at'] (q.at' + j) = ledF (l1 ++ k' :: l2) q.cw q.ls j
    rw [ledF_congr (l1 ++ k' :: l2) d.bs q.cw q.ls fun p _ => bgN_sk sk p.2]
    rcases mem q hq with ⟨hq, hq2⟩ | rfl
    · have n1 : q.at' + j ≠ k.at' + s := fun e => hnd q hq2 (h.one hq hk hj (by omega) e).1
      have n2 : q.at' + j ≠ k.at' + s + 1 := fun e => hnd q hq2 (h.one (t := s + 1) hq hk hj (by omega) (by omega)).1
      rw [o3 _ n1 n2]
      exact h.wd q hq j hj
    · rw [a2] at hj
      rw [a4, a3, a7, ledF_snoc]
      dsimp only
      by_cases c1 : j = s + 1
      · subst c1
        rw [setF_at, ← Nat.add_assoc, o2]
        unfold bgN; rw [hf]
      · rw [setF_ne _ _ _ _ c1]
        by_cases c2 : j = s
        · subst c2; rw [setF_at, o1, wsk]
        · rw [setF_ne _ _ _ _ c2, o3 _ (by omega) (by omega)]
          exact h.wd k hk j hj
  · obtain ⟨q, hq, t, g1, g2, g3⟩ := h.ex1 z p hz
    rcases back q hq with hq | rfl
    · exact ⟨q, hq, t, g1, g2, g3⟩
    · exact ⟨k', mk', t, by rw [a4]; exact g1, (esx t).2 g2, by rw [a1, eto]; exact g3⟩
  · show c.ex _ = _
    rcases mem q hq with ⟨hq, _⟩ | rfl
    · exact h.ex2 q hq t ht
    · rw [a4, a1, eto]; exact h.ex2 k hk t ((esx t).1 ht)
  · obtain ⟨t1, t2⟩ := h.ta i hi
    show c.tp i = _ ∧ c.ta i = _
    rw [t1, t2]
    cases hh : d.hs i with
    | false =>
      obtain ⟨q1, q2⟩ := tp_off hh
      obtain ⟨q3, q4⟩ := tp_off (d := { d with bs := l1 ++ k' :: l2 }) (i := i) hh
      rw [q1, q2, q3, q4]; exact ⟨rfl, rfl⟩
    | true =>
      obtain ⟨q1, q2⟩ := tp_on hh
      obtain ⟨q3, q4⟩ := tp_on (d := { d with bs := l1 ++ k' :: l2 }) (i := i) hh
      rw [q1, q2, q3, q4, fnR_bg, fnR_bg]
      exact ⟨rfl, by rw [bgN_sk sk]⟩
  · obtain ⟨g1, g2⟩ := h.hs i hi hh
    exact ⟨by rw [iss]; exact g1, g2⟩
end Go.Proofs.Ytgkkghphlbgcoaa.Ca
namespace Go.Proofs.Ytgkkghphlbgcoaa.Ca
open Go.RowKit Go.Maps Ho
set_option linter.unusedVariables false
set_option linter.unusedSimpArgs false
theorem Drp.mem {bs1 bs2 : List Rk} (h : Drp bs1 bs2 bs1.length) {q : Rk} (hq : q ∈ bs2) : ∃ k ∈ bs1, ∃ lv tv, q = { k with ls := k.ls.filter (live bs1), lv := lv, tv := tv } := by
  obtain ⟨j, hj⟩ := List.getElem?_of_mem hq
  have hl := (List.getElem?_eq_some_iff.1 hj).1
  rw [h.len] at hl
  obtain ⟨k, hk⟩ : ∃ k, bs1[j]? = some k := ⟨_, List.getElem?_eq_getElem hl⟩
  obtain ⟨lv, tv, e⟩ := h.at' j k hl hk
  rw [hj] at e
  cases e
  exact ⟨k, List.mem_of_getElem? hk, lv, tv, rfl⟩
theorem Drp.mem' {bs1 bs2 : List Rk} (h : Drp bs1 bs2 bs1.length) {k : Rk} (hk : k ∈ bs1) : ∃ lv tv, ({ k with ls := k.ls.filter (live bs1), lv := lv, tv := tv } : Rk) ∈ bs2 := by
  obtain ⟨j, hj⟩ := List.getElem?_of_mem hk
  obtain ⟨lv, tv, e⟩ := h.at' j k (List.getElem?_eq_some_iff.1 hj).1 hj
  exact ⟨lv, tv, List.mem_of_getElem? e⟩
theorem Drp.map {β : Type} {bs1 bs2 : List Rk} (h : Drp bs1 bs2 bs1.length) (f : Rk → β) (hf : ∀ (k : Rk) ls lv tv, f { k with ls := ls, lv := lv, tv := tv } = f k) : bs2.map f = bs1.map f := by
  apply List.ext_getElem?
  intro j
  rw [List.getElem?_map, List.getElem?_map]
  by_cases hj : j < bs1.length
  · obtain ⟨k, hk⟩ : ∃ k, bs1[j]? = some k := ⟨_, List.getElem?_eq_getElem hj⟩
    obtain ⟨lv, tv, e⟩ := h.at' j k hj hk
    rw [e, hk]
    simp [hf]
  · rw [List.getElem?_eq_none (by rw [h.len]; omega), List.getElem?_eq_none (by omega)]
theorem has_blK (k : Rk) (hp : ∀ i, i < k.pn → isP (k.pg i) = true) (p : Int) : hasP (blK k).q p = hpg p k := by
  have e1 : hasP (blK k).q p = hasP (setN k.pg k.pn) p := by
    unfold hasP
    cases hi : isP p with
    | false => rfl
    | true =>
      have h4 : p.toNat / 64 < 4 := by
        unfold isP at hi
        simp at hi
        omega
      have : (blK k).q (p.toNat / 64) = setN k.pg k.pn (p.toNat / 64) := by
        rcases (by omega : p.toNat / 64 = 0 ∨ p.toNat / 64 = 1 ∨ p.toNat / 64 = 2 ∨ p.toNat / 64 = 3) with e | e | e | e <;> rw [e] <;> rfl
      rw [this]
  rw [e1, has_set _ _ hp, Bool.eq_iff_iff]
  unfold hpg
  rw [anyP_iff, decide_eq_true_eq]
theorem Rel.gone {c : Cs} {d : Rs} (h : Rel c d) (p : Int) {k : Rk} (hk : k ∈ d.bs) : Ca.gone c p (k.pc : Int) = if hpg p k = true then some (blK k) else none := by
  unfold Ca.gone
  rw [h.b1 k hk]
  dsimp only
  rw [has_blK k (h.kp k hk).2.2.2.2.2 p]
theorem pc_one {bs : List Rk} (hn : (bs.map (·.pc)).Nodup) {k q : Rk} (hk : k ∈ bs) (hq : q ∈ bs) (e : k.pc = q.pc) : k = q := by
  have h1 := fdK_of hn hk
  rw [e, fdK_of hn hq] at h1
  cases h1
  rfl
/-- What is left of a place's block. -/
theorem Rel.left {c : Cs} {d : Rs} (h : Rel c d) (p : Int) {pc : Nat} {k : Rk} (hf : fdK d.bs pc = some k) : fdK (d.bs.filter fun k => !hpg p k) pc = if hpg p k = true then none else some k := by
  obtain ⟨hk, rfl⟩ := fdK_mem hf
  have hn : ((d.bs.filter fun k => !hpg p k).map (·.pc)).Nodup := h.nd.sublist (List.filter_sublist.map _)
  cases e : hpg p k with
  | false =>
    rw [if_neg (by simp)]
    exact fdK_of hn (List.mem_filter.2 ⟨hk, by rw [e]; rfl⟩)
  | true =>
    rw [if_pos rfl]
    cases hg : fdK (d.bs.filter fun k => !hpg p k) k.pc with
    | none => rfl
    | some q =>
      obtain ⟨hq, hq2⟩ := fdK_mem hg
      obtain ⟨hq3, hq4⟩ := List.mem_filter.1 hq
      obtain rfl := pc_one h.nd hq3 hk hq2
      rw [e] at hq4
      cases hq4
theorem drop_count {c : Cs} {d : Rs} (h : Rel c d) (p : Int) (l : List Int) (hn : l.Nodup) (hl : ∀ k, k ∈ l ↔ (Ca.gone c p k).isSome = true) : l.length = (d.bs.filter (hpg p)).length := by
  have hn2 : ((d.bs.filter (hpg p)).map fun k => (k.pc : Int)).Nodup := by
    have h1 : ((d.bs.filter (hpg p)).map (·.pc)).Nodup := h.nd.sublist (List.filter_sublist.map _)
    have e : ((d.bs.filter (hpg p)).map fun k => (k.pc : Int)) = ((d.bs.filter (hpg p)).map (·.pc)).map fun (x : Nat) => (x : Int) := by simp [Function.comp_def]
    rw [e]
    exact List.Pairwise.map _ (fun a b hab hh => hab (by omega)) h1
  have hp : l.Perm ((d.bs.filter (hpg p)).map fun k => (k.pc : Int)) := by
    rw [List.perm_ext_iff_of_nodup hn hn2]
    intro z
    rw [hl z]
    constructor
    · intro hz
      cases hg : Ca.gone c p z with
      | none => rw [hg] at hz; cases hz
      | some b =>
        obtain ⟨k, hk, e⟩ := h.b2 z b (gone_bl hg).1
        subst e
        rw [h.gone p hk] at hg
        split at hg
        · next hh => exact List.mem_map.2 ⟨k, List.mem_filter.2 ⟨hk, hh⟩, rfl⟩
        · cases hg
    · intro hz
      obtain ⟨k, hk, rfl⟩ := List.mem_map.1 hz
      obtain ⟨hk1, hk2⟩ := List.mem_filter.1 hk
      rw [h.gone p hk1, if_pos hk2]
      rfl
  have := hp.length_eq
  rwa [List.length_map] at this
theorem rel_drop {c c' : Cs} {d : Rs} (h : Rel c d) (p : Int) (Dd : Dp c p c') (hlt : ∀ i, c'.ws i < 4294967296) (bs2 : List Rk) (hd : Drp (d.bs.filter fun k => !hpg p k) bs2 (d.bs.filter fun k => !hpg p k).length) :
    Rel c' { d with bs := bs2, hs := hsD d (d.bs.filter fun k => !hpg p k) d.n } := by
  obtain ⟨L, V⟩ := h.iv
  have hiv := iv_drop V p Dd hlt
  obtain ⟨⟨ws1, R, Z⟩, FG, BLK, rm1, rm2, rm3⟩ := Dd
  obtain ⟨bs1, hb1⟩ : ∃ bs1, (d.bs.filter fun k => !hpg p k) = bs1 := ⟨_, rfl⟩
  have left := fun {pc : Nat} {k : Rk} (hf : fdK d.bs pc = some k) => h.left p hf
  rw [hb1] at hd left ⊢
  have mem1 : ∀ k, k ∈ bs1 ↔ k ∈ d.bs ∧ hpg p k = false := fun k => by rw [← hb1, List.mem_filter]; simp
  have hsub : bs1.Sublist d.bs := by rw [← hb1]; exact List.filter_sublist
  clear hb1
  have gk : ∀ k, k ∈ d.bs → (hpg p k = false → Ca.gone c p (k.pc : Int) = none) ∧ (hpg p k = true → Ca.gone c p (k.pc : Int) = some (blK k)) := fun k hk => by
    rw [h.gone p hk]
    exact ⟨fun e => by rw [e]; rfl, fun e => by rw [e]; rfl⟩
  have sk : bs2.map skK = bs1.map skK := hd.map skK fun _ _ _ _ => rfl
  have pcs : bs2.map (·.pc) = bs1.map (·.pc) := sk_pcs sk
  have nd1 : (bs1.map (·.pc)).Nodup := h.nd.sublist (hsub.map _)
  have bl' : ∀ k, k ∈ bs1 → c'.bl (k.pc : Int) = some (blK k) := fun k hk => by
    obtain ⟨g1, g2⟩ := (mem1 k).1 hk
    rw [BLK, (gk k g1).1 g2]
    exact h.b1 k g1
  have bg1 : ∀ pc, (fdK bs1 pc).isSome = true → bgN bs2 pc = bgN d.bs pc := fun pc hs => by
    rw [bgN_sk sk]
    cases hf : fdK d.bs pc with
    | none =>
      cases hg : fdK bs1 pc with
      | none => rw [hg] at hs; cases hs
      | some q => exact absurd (fdK_mem hg).2 (fdK_no hf q ((mem1 q).1 (fdK_mem hg).1).1)
    | some k =>
      have := left hf
      unfold bgN
      rw [this] at hs
      rw [this, hf]
      split at hs
      · cases hs
      · next hh => rw [if_neg hh]
  have srt : bs2.Pairwise fun k q => k.at' + k.len ≤ q.at' := by
    have e := hd.map (fun k => (k.at', k.len)) fun _ _ _ _ => rfl
    have h1 : (bs1.map fun k => (k.at', k.len)).Pairwise fun a b => a.1 + a.2 ≤ b.1 := List.Pairwise.map _ (fun a b hab => hab) (h.sr.sublist hsub)
    rw [← e, List.pairwise_map] at h1
    exact h1
  refine ⟨⟨L, hiv⟩, by rw [rm1]; exact h.rm, by rw [rm2]; exact h.fl, by rw [rm3]; exact h.sl, h.dn, by show (bs2.map (·.pc)).Nodup; rw [pcs]; exact nd1, fun q hq => ?_, fun z b hz => ?_, srt, fun q hq => ?_, fun q hq => ?_, fun q hq => ?_, fun q hq p' hp => ?_, fun q hq => ?_, fun q hq j hj => ?_, fun z p' hz => ?_, fun q hq t ht => ?_, fun i hi => ?_, fun i hi hh => ?_⟩
  · obtain ⟨k, hk, lv, tv, rfl⟩ := hd.mem hq
    exact bl' k hk
  · rw [BLK] at hz
    split at hz
    · cases hz
    · next hh =>
      obtain ⟨k, hk, e⟩ := h.b2 z b hz
      have hp : hpg p k = false := by
        cases e2 : hpg p k with
        | false => rfl
        | true => exact absurd (by rw [← e, (gk k hk).2 e2]; rfl) hh
      obtain ⟨lv, tv, hm⟩ := hd.mem' ((mem1 k).2 ⟨hk, hp⟩)
      exact ⟨_, hm, e⟩
  · obtain ⟨k, hk, lv, tv, rfl⟩ := hd.mem hq
    exact h.tp k ((mem1 k).1 hk).1
  · obtain ⟨k, hk, lv, tv, rfl⟩ := hd.mem hq
    exact h.gd k ((mem1 k).1 hk).1
  · obtain ⟨k, hk, lv, tv, rfl⟩ := hd.mem hq
    exact h.kp k ((mem1 k).1 hk).1
  · obtain ⟨k, hk, lv, tv, rfl⟩ := hd.mem hq
    have hp' : p' ∈ k.ls.filter (live bs1) := hp
    obtain ⟨h1, h2⟩ := List.mem_filter.1 hp'
    obtain ⟨g1, g2, g3⟩ := h.lo k ((mem1 k).1 hk).1 p' h1
    exact ⟨⟨g1.st, g1.op⟩, g2, by show (fdK bs2 p'.2).isSome = true; rw [fdK_pcs pcs]; exact h2⟩
  · obtain ⟨k, hk, lv, tv, rfl⟩ := hd.mem hq
    exact (h.ln k ((mem1 k).1 hk).1).sublist (List.filter_sublist.map _)
  · obtain ⟨k, hk, lv, tv, rfl⟩ := hd.mem hq
    obtain ⟨hkd, hkp⟩ := (mem1 k).1 hk
    show c'.ws (k.at' + j) = ledF bs2 k.cw (k.ls.filter (live bs1)) j
    have hj' : j < k.len := hj
    have klt := (h.kp k hkd).2.2.2.1
    have hz : c'.ws (k.at' + j) = ws1 (k.at' + j) := by
      refine Z.o _ fun pc b hb _ hh => ?_
      obtain ⟨g1, g2⟩ := gone_bl hb
      obtain ⟨k2, hk2, e⟩ := h.b2 pc b g1
      subst e
      rw [h.b1 k2 hk2] at g1
      cases g1
      have hh1 : k2.at' ≤ k.at' + j ∧ k.at' + j < k2.at' + k2.len := hh
      obtain ⟨rfl, _⟩ := h.one (s := j) (t := k.at' + j - k2.at') hkd hk2 hj' (by omega) (by omega)
      rw [(gk k hkd).1 hkp] at hb
      cases hb
    rw [hz]
    have sxl : ∀ q ∈ k.ls, Sx k q.1 := fun q hq => (h.lo k hkd q hq).1
    have fsub : ∀ q, q ∈ k.ls.filter (live bs1) → q ∈ k.ls := fun q hq => (List.mem_filter.1 hq).1
    have far2 : (∀ q ∈ k.ls.filter (live bs1), j ≠ q.1 ∧ j ≠ q.1 + 1) → ledF bs2 k.cw (k.ls.filter (live bs1)) j = k.cw j := fun hh => ledG_far bs2 k.cw _ k.cw j hh
    by_cases hA : ∃ q ∈ k.ls, j = q.1 ∨ j = q.1 + 1
    · obtain ⟨q, hq, hjq⟩ := hA
      obtain ⟨s1, s2, s3⟩ := h.lo k hkd q hq
      have hex := h.ex2 k hkd q.1 s1
      have hld : ldB (decP c.ws c.fill ((k.at' + q.1 : Nat) : Int)).x.op = true := (h.ldb hkd s1).2 ⟨q, hq, rfl⟩
      obtain ⟨w1, w2⟩ := h.led hkd hq
      obtain ⟨k2, hf2⟩ : ∃ k2, fdK d.bs q.2 = some k2 := by
        cases e : fdK d.bs q.2 with
        | none => rw [e] at s3; cases s3
        | some k2 => exact ⟨k2, rfl⟩
      obtain ⟨hk2, e2⟩ := fdK_mem hf2
      have hl2 := left hf2
      have htu : tu c (Ca.gone c p) (fun _ => false) (k.at' + q.1) (k.pc, toK k q.1) = hpg p k2 := by
        unfold tu
        rw [(gk k hkd).1 hkp, hld, ← s2, ← e2]
        cases e3 : hpg p k2 with
        | false => rw [(gk k2 hk2).1 e3]; rfl
        | true => rw [(gk k2 hk2).2 e3]; rfl
      cases e3 : hpg p k2 with
      | false =>
        rw [e3] at htu hl2
        have hlive : live bs1 q = true := by unfold live; rw [hl2]; rfl
        obtain ⟨x1, x2⟩ := (R.at' _ _ hex).2 htu
        obtain ⟨y1, y2⟩ := ledG_at bs2 k.cw (k.ls.filter (live bs1)) k.cw q (List.mem_filter.2 ⟨hq, hlive⟩) ((h.ln k hkd).sublist (List.filter_sublist.map _)) (fun a ha b hb => h.lsa hkd a (fsub a ha) b (fsub b hb))
        rcases hjq with rfl | rfl
        · rw [x1, w1]; exact y1.symm
        · rw [← Nat.add_assoc, x2, w2, ← bg1 q.2 hlive]; exact y2.symm
      | true =>
        rw [e3] at htu hl2
        have hlive : live bs1 q = false := by unfold live; rw [hl2]; rfl
        obtain ⟨x1, x2⟩ := (R.at' _ _ hex).1 htu
        have E := s1.exd klt
        have hne : ∀ a ∈ k.ls.filter (live bs1), a.1 ≠ q.1 := fun a ha e => by
          obtain ⟨ha1, ha2⟩ := List.mem_filter.1 ha
          have hfst : a = q := by
            have g1 := (h.lo k hkd a ha1).2.1
            rw [e, ← s2] at g1
            exact Prod.ext e g1
          rw [hfst, hlive] at ha2
          cases ha2
        rw [far2 fun a ha => by
          have := (sxl a (fsub a ha)).apart2 klt s1 (hne a ha)
          omega]
        rcases hjq with rfl | rfl
        · obtain ⟨S, hg, hm⟩ := s1.st
          rw [x1, w1, oth_oth klt (til_mem klt hg.t _ hm).2.1 s1.op]
        · rw [← Nat.add_assoc, x2]
          exact E.k
    · have hA' : ∀ q ∈ k.ls, j ≠ q.1 ∧ j ≠ q.1 + 1 := fun q hq => ⟨fun e => hA ⟨q, hq, .inl e⟩, fun e => hA ⟨q, hq, .inr e⟩⟩
      rw [far2 fun q hq => hA' q (fsub q hq)]
      have hcw : c.ws (k.at' + j) = k.cw j := h.far hkd hj' hA'
      rw [← hcw]
      by_cases hx : ∀ s : Nat, c.ex s ≠ none → k.at' + j ≠ s ∧ k.at' + j ≠ s + 1
      · exact R.far _ hx
      · have : ∃ s : Nat, c.ex s ≠ none ∧ (k.at' + j = s ∨ k.at' + j = s + 1) := Classical.byContradiction fun hh => hx fun z hz => ⟨fun e => hh ⟨z, hz, .inl e⟩, fun e => hh ⟨z, hz, .inr e⟩⟩
        obtain ⟨s, hs, hjs⟩ := this
        cases e : c.ex s with
        | none => exact absurd e hs
        | some q =>
          obtain ⟨k2, hk2, s2, g1, g2, g3⟩ := h.ex1 _ q e
          have hs2 := g2.lt (h.kp k2 hk2).2.2.2.1
          have g1' : s = k2.at' + s2 := by omega
          obtain ⟨rfl, hj2⟩ := h.one (s := j) (t := k.at' + j - k2.at') hkd hk2 hj' (by omega) (by omega)
          have hnl : ldB (decP c.ws c.fill ((k.at' + s2 : Nat) : Int)).x.op = false := by
            cases e5 : ldB (decP c.ws c.fill ((k.at' + s2 : Nat) : Int)).x.op with
            | false => rfl
            | true =>
              obtain ⟨q', hq', e6⟩ := (h.ldb hkd g2).1 e5
              have := hA' q' hq'
              omega
          have htu : tu c (Ca.gone c p) (fun _ => false) s q = false := by
            unfold tu
            rw [g1', hnl]
            simp
          obtain ⟨x1, x2⟩ := (R.at' _ _ e).2 htu
          rcases hjs with e6 | e6
          · rw [e6]; exact x1
          · rw [e6]; exact x2
  · rw [R.exs] at hz
    cases e : c.ex z with
    | none => rw [e] at hz; cases hz
    | some q =>
      rw [e] at hz
      dsimp only at hz
      split at hz
      · cases hz
      · next hh =>
        have hz' : q = p' := by simpa using hz
        subst hz'
        obtain ⟨k, hk, s, g1, g2, g3⟩ := h.ex1 z _ e
        have hp : hpg p k = false := by
          cases e2 : hpg p k with
          | false => rfl
          | true => exact absurd ⟨rfl, by rw [g3]; show (Ca.gone c p (k.pc : Int)).isSome = true; rw [(gk k hk).2 e2]; rfl⟩ hh
        obtain ⟨lv, tv, hm⟩ := hd.mem' ((mem1 k).2 ⟨hk, hp⟩)
        exact ⟨_, hm, s, g1, ⟨g2.st, g2.op⟩, g3⟩
  · obtain ⟨k, hk, lv, tv, rfl⟩ := hd.mem hq
    obtain ⟨hkd, hkp⟩ := (mem1 k).1 hk
    have h2 := h.ex2 k hkd t ⟨ht.st, ht.op⟩
    have h3 := R.exs ((k.at' + t : Nat) : Int)
    rw [h2] at h3
    dsimp only at h3
    rw [(gk k hkd).1 hkp] at h3
    exact h3.trans (if_neg (by simp))
  · have hi' : i < d.n := hi
    have hs' : hsD d bs1 d.n i = (d.hs i && (fdK bs1 (d.sl i)).isSome) := by unfold hsD; rw [if_pos hi']
    have fg := FG i (by rw [h.sl]; exact hi')
    cases hh : d.hs i with
    | false =>
      obtain ⟨e1, e2⟩ := h.empty hi' hh
      obtain ⟨o1, o2⟩ := tp_off (d := { d with bs := bs2, hs := hsD d bs1 d.n }) (i := i) (by show hsD d bs1 d.n i = false; rw [hs', hh]; rfl)
      rw [o1, o2]
      rcases fg with ⟨f1, f2, _⟩ | ⟨f1, f2, _⟩
      · exact ⟨f2, f1⟩
      · exact ⟨f2.trans e1, f1.trans e2⟩
    | true =>
      obtain ⟨k, g1, g2, g3, g4, g5⟩ := h.slot hi' hh
      have hfk : fdK d.bs (d.sl i) = some k := by rw [← g2]; exact fdK_of h.nd g1
      have hl2 := left hfk
      cases e3 : hpg p k with
      | true =>
        rw [e3] at hl2
        obtain ⟨o1, o2⟩ := tp_off (d := { d with bs := bs2, hs := hsD d bs1 d.n }) (i := i) (by show hsD d bs1 d.n i = false; rw [hs', hl2]; simp)
        rw [o1, o2]
        rcases fg with ⟨f1, f2, _⟩ | ⟨f1, f2, f3⟩
        · exact ⟨f2, f1⟩
        · exact absurd g4 (f3 _ _ ((gk k g1).2 e3) rfl (by rw [Int.toNat_natCast, h.sl]; exact g5))
      | false =>
        rw [e3] at hl2
        have hsm : (fdK bs1 (d.sl i)).isSome = true := by rw [hl2]; rfl
        obtain ⟨o1, o2⟩ := tp_on (d := { d with bs := bs2, hs := hsD d bs1 d.n }) (i := i) (by show hsD d bs1 d.n i = true; rw [hs', hh, hsm]; rfl)
        rw [o1, o2, fnR_bg]
        show c'.tp i = d.sl i ∧ c'.ta i = (bgN bs2 (d.sl i) : Int)
        rw [bg1 _ hsm]
        have hbg : bgN d.bs (d.sl i) = k.at' := by unfold bgN; rw [hfk]
        rw [hbg, ← g2]
        rcases fg with ⟨f1, f2, f3⟩ | ⟨f1, f2, _⟩
        · exfalso
          rcases f3 with f3 | ⟨pc, b, x1, x2, x3⟩
          · rw [g4] at f3; omega
          · obtain ⟨y1, y2⟩ := gone_bl x1
            obtain ⟨k2, hk2, e⟩ := h.b2 pc b y1
            subst e
            rw [h.b1 k2 hk2] at y1
            cases y1
            have hat : k.at' = k2.at' := by rw [g4] at x3; have x3' : (k.at' : Int) = (k2.at' : Int) := x3; omega
            have := (h.kp k g1).2.1
            have := (h.kp k2 hk2).2.1
            obtain ⟨rfl, _⟩ := h.one (s := 0) (t := 0) g1 hk2 (by omega) (by omega) (by omega)
            rw [(gk k g1).1 e3] at x1
            cases x1
        · exact ⟨f2.trans g3, f1.trans g4⟩
  · have hi' : i < d.n := hi
    have hh' : hsD d bs1 d.n i = true := hh
    unfold hsD at hh'
    rw [if_pos hi', Bool.and_eq_true] at hh'
    obtain ⟨g1, g2⟩ := h.hs i hi' hh'.1
    exact ⟨by show (fdK bs2 (d.sl i)).isSome = true; rw [fdK_pcs pcs]; exact hh'.2, g2⟩
end Go.Proofs.Ytgkkghphlbgcoaa.Ca
