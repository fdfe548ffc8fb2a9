import Derived.Test.YtgkkghphlbgcoaaEQ
import Derived.Test.YtgkkghphlbgcoaaDR
import Derived.Maps.AppendAt
namespace Go.Proofs.Ytgkkghphlbgcoaa.Ca
open Go.RowKit Go.Maps Ho
set_option maxRecDepth 100000
set_option linter.unusedVariables false
set_option linter.unusedSimpArgs false
theorem infoU : (Try.prog.info? 30).map (fun i => (i.zero, i.size, i.bytes)) = some (some (.int .u32 0), 1, 4) := by kernel_rfl
theorem row_keep {w w' : World} {b e sz n : Nat} {v : Value} {xs : List Value} (h : w.ownsRow b e sz v n xs) (hk : ∀ k, v.ownBlock = some k → w'.heap[k]? = w.heap[k]?) : w'.ownsRow b e sz v n xs := by
  refine ⟨h.1, ?_⟩
  rcases h.2 with h1 | ⟨g, cap, cur, rfl, h2, h3, r⟩
  · exact .inl h1
  · exact .inr ⟨g, cap, cur, rfl, h2, (hk g rfl).trans h3, r⟩
theorem row_ge {w : World} {b e sz n : Nat} {v : Value} {xs : List Value} (h : w.ownsRow b e sz v n xs) : ∀ k, v.ownBlock = some k → b ≤ k ∧ k < w.heap.size := h.lt
theorem row_slice {w : World} {b e : Nat} {v : Value} {ps : List (Nat × Nat)} (h : w.ownsRow b e 2 v ps.length (encs ps)) :
    ∃ la lc, v = .slice la ps.length lc ∧ (0 < ps.length → ∃ g, la = some ⟨g, 0, none⟩ ∧ ∀ i p, ps[i]? = some p → w.cell? ⟨g, i * 2, none⟩ = some (.int .i64 p.1) ∧ w.cell? ⟨g, i * 2 + 1, none⟩ = some (.int .u32 p.2)) := by
  have en : ∀ (l : List (Nat × Nat)) (i : Nat) (p : Nat × Nat), l[i]? = some p → (encs l)[i * 2]? = some (.int .i64 p.1) ∧ (encs l)[i * 2 + 1]? = some (.int .u32 p.2) := by
    intro l
    induction l with
    | nil => intro i p hp; simp at hp
    | cons q r ih =>
      intro i p hp
      have ec : encs (q :: r) = Value.int .i64 q.1 :: Value.int .u32 q.2 :: encs r := by simp [encs]
      rw [ec]
      cases i with
      | zero => simp at hp; subst hp; exact ⟨rfl, rfl⟩
      | succ i =>
        simp at hp
        have := ih i p hp
        rw [show (i + 1) * 2 = i * 2 + 1 + 1 by omega]
        simpa using this
  rcases h.2 with ⟨rfl, h0⟩ | ⟨g, cap, cur, rfl, h2, h3, h4, h5, h6, h7⟩
  · exact ⟨none, 0, by rw [h0], fun hp => by omega⟩
  · refine ⟨_, cap, rfl, fun _ => ⟨g, rfl, fun i p hp => ?_⟩⟩
    obtain ⟨e1, e2⟩ := en ps i p hp
    have hi : i < ps.length := (List.getElem?_eq_some_iff.1 hp).1
    rw [← h7] at e1 e2
    rw [List.getElem?_take_of_lt (by omega)] at e1 e2
    rw [So.row_cell h3, So.row_cell h3]
    exact ⟨by simpa using e1, by simpa using e2⟩
def wL (ws : Nat → Nat) (n : Nat) : List Value := (List.range n).map fun i => .int .u32 (ws i)
theorem wL_len (ws : Nat → Nat) (n : Nat) : (wL ws n).length = n := by simp [wL]
theorem wL_get (ws : Nat → Nat) (n i : Nat) (h : i < n) : (wL ws n)[i]? = some (.int .u32 (ws i)) := by simp [wL, h]
theorem wL_one (ws : Nat → Nat) (n : Nat) : ∀ u ∈ wL ws n, u.oneCell' = true := by
  intro u hu
  obtain ⟨i, _, rfl⟩ := List.mem_map.1 hu
  rfl
theorem Wb.own {w : World} {sl : Value} {n : Nat} {ws : Nat → Nat} (h : Wb w sl n ws) : w.ownsRow 0 30 1 sl n (wL ws n) := by
  refine ⟨by simp [wL], ?_⟩
  rcases h.row with h1 | ⟨g, cap, cur, rfl, hg, h1, h2, h3, h4⟩
  · exact .inl h1
  · refine .inr ⟨g, cap, cur, rfl, Nat.zero_le _, hg, h1, h2, by omega, ?_⟩
    apply List.ext_getElem?
    intro i
    by_cases hi : i < n
    · rw [List.getElem?_take_of_lt (by omega), wL_get ws n i hi]
      have := h4 i hi
      simpa using this
    · rw [List.getElem?_eq_none (by simp; omega), List.getElem?_eq_none (by rw [wL_len]; omega)]
theorem Wb.of_own {w : World} {sl : Value} {n m : Nat} {ws cw : Nat → Nat} (h : w.ownsRow 0 30 1 sl (n + m) (wL ws n ++ wL cw m)) (h1 : ∀ i, ws i < 4294967296) (h2 : ∀ i, cw i < 4294967296) : Wb w sl (n + m) (fun i => if i < n then ws i else cw (i - n)) := by
  refine ⟨fun i => ?_, ?_⟩
  · split
    · exact h1 _
    · exact h2 _
  rcases h.2 with h1 | ⟨g, cap, cur, rfl, _, hg, h3, h4, h5, h6⟩
  · exact .inl h1
  · refine .inr ⟨g, cap, cur, rfl, hg, h3, h4, by omega, fun i hi => ?_⟩
    have e : (cur.toList.take ((n + m) * 1))[i]? = (wL ws n ++ wL cw m)[i]? := by rw [h6]
    rw [List.getElem?_take_of_lt (by omega)] at e
    have e' : cur[i]? = (wL ws n ++ wL cw m)[i]? := by simpa using e
    rw [e']
    split
    · next hl => rw [List.getElem?_append_left (by rw [wL_len]; exact hl), wL_get ws n i hl]
    · next hl => rw [List.getElem?_append_right (by rw [wL_len]; omega), wL_len, wL_get cw m (i - n) (by omega)]
theorem Wb.slice {w : World} {sl : Value} {n : Nat} {ws : Nat → Nat} (h : Wb w sl n ws) : ∃ a cap, sl = .slice a n cap := by
  rcases h.row with ⟨e, h0⟩ | ⟨g, cap, cur, e, _⟩
  · exact ⟨none, 0, by rw [e, h0]⟩
  · exact ⟨_, cap, e⟩
theorem Cw.app {w w' : World} {C : Nat} {I : Ids} {c : Cs} {sl' : Value} {n : Nat} {ws' : Nat → Nat} (h : Cw w C I c) (hg : w.grownBy w' I.sl.ownBlock) (hw : Wb w' sl' n ws') (hn : n ≤ c.room) (ho : sl'.ownBlock = I.sl.ownBlock ∨ sl'.ownBlock = some w.heap.size) : Cw (w'.setCell ⟨C, 1, none⟩ sl') C { I with sl := sl' } { c with fill := n, ws := ws' } := by
  obtain ⟨n1, n2, n3, n4, n5, n6⟩ := h.ne
  have hl := h.own_lt
  have hk : ∀ k, k < w.heap.size → (∀ j, I.sl.ownBlock = some j → k ≠ j) → w'.heap[k]? = w.heap[k]? := fun k hk hj => hg.block k hk (fun e => hj k e.symm rfl)
  have hC : w'.heap[C]? = w.heap[C]? := hk C (hl C (.inl rfl)) fun j e => Ne.symm (h.ns j e).1
  have hks : ∀ k, k ≠ C → (w'.setCell ⟨C, 1, none⟩ sl').heap[k]? = w'.heap[k]? := fun k e => So.blk_other e _
  obtain ⟨A, hA, r⟩ := h.tb.c
  have ho' : ∀ k, sl'.ownBlock = some k → k ≠ C ∧ k ≠ I.tb ∧ k ≠ I.b1 ∧ k ≠ I.b2 := fun k e => by
    rcases ho with e1 | e1
    · exact h.ns k (by rw [← e1]; exact e)
    · rw [e1] at e
      cases e
      have a1 := hl C (.inl rfl)
      have a2 := hl I.tb (.inr (.inl rfl))
      have a3 := hl I.b1 (.inr (.inr (.inl rfl)))
      have a4 := hl I.b2 (.inr (.inr (.inr (.inl rfl))))
      omega
  exact ⟨So.blk_set (hC.trans h.c0) _, hw.keep fun k e => hks k (ho' k e).1, ⟨A, (hks _ (Ne.symm n1)).trans ((hk _ h.tb.lt fun j e => Ne.symm (h.ns j e).2.1).trans hA), r⟩,
    h.m1.keep ((hks _ (Ne.symm n2)).trans (hk _ h.m1.lt fun j e => Ne.symm (h.ns j e).2.2.1)), h.m2.keep ((hks _ (Ne.symm n3)).trans (hk _ h.m2.lt fun j e => Ne.symm (h.ns j e).2.2.2)), ⟨h.rm.1, h.rm.2.1, hn⟩, h.st, h.ne, ho'⟩
theorem Xo.nat {c : Cs} (X : Xo c) {w : World} {C : Nat} {I : Ids} (h : Cw w C I c) : ∀ k v, fE c.ex k = some v → 0 ≤ k ∧ k < 1048576 := fun k v hk => by
  cases e : c.ex k with
  | none => simp [fE, e] at hk
  | some p =>
    obtain ⟨n, rfl, h0, ho, _⟩ := X.ok k p e
    have := (exd h.wb.lt h0 ho).le
    have := h.rm
    omega
theorem til_mem {ws : Nat → Nat} {len : Nat} (hlt : ∀ i, ws i < 4294967296) : ∀ {L : List Nat} {a e : Nat}, Til ws len a L e → ∀ s ∈ L, a ≤ s ∧ (decP ws len s).e = 0 ∧ s + (decP ws len s).n ≤ e ∧ 1 ≤ (decP ws len s).n
  | [], _, _, _, s, hs => by cases hs
  | x :: r, a, e, h, s, hs => by
    obtain ⟨rfl, h0, h1⟩ := h
    obtain ⟨z1, z2, z3⟩ := dec_size hlt h0
    have le : ∀ {L : List Nat} {a e : Nat}, Til ws len a L e → a ≤ e := by
      intro L
      induction L with
      | nil => intro a e h; exact Nat.le_of_eq h
      | cons y r ih => intro a e h; obtain ⟨rfl, _, h2⟩ := h; have := ih h2; omega
    rcases List.mem_cons.1 hs with rfl | hs
    · exact ⟨Nat.le_refl _, h0, le h1, z1⟩
    · have := til_mem hlt h1 s hs
      exact ⟨by omega, this.2⟩
theorem til_le {ws : Nat → Nat} {len : Nat} : ∀ {L : List Nat} {a e : Nat}, Til ws len a L e → a ≤ e := by
  intro L
  induction L with
  | nil => intro a e h; exact Nat.le_of_eq h
  | cons y r ih => intro a e h; obtain ⟨rfl, _, h2⟩ := h; have := ih h2; omega
theorem parts_mem (ws : Nat → Nat) (len : Nat) : ∀ (L : List Nat) (ps : List (Nat × Nat)) (p : Nat × Nat), p ∈ L.foldl (fun ps s => psN ps s (decP ws len s).x) ps ↔ p ∈ ps ∨ (p.1 ∈ L ∧ isX (decP ws len p.1).x.op = true ∧ p.2 = (decP ws len p.1).x.k)
  | [], ps, p => by simp
  | s :: r, ps, p => by
    rw [List.foldl_cons, parts_mem ws len r]
    unfold psN
    obtain ⟨p1, p2⟩ := p
    by_cases h : isX (decP ws len s).x.op = true
    · rw [if_pos h]
      simp only [List.mem_append, List.mem_cons, List.not_mem_nil, or_false, Prod.mk.injEq]
      constructor
      · rintro ((h1 | ⟨rfl, rfl⟩) | ⟨h1, h2⟩)
        · exact .inl h1
        · exact .inr ⟨.inl rfl, h, rfl⟩
        · exact .inr ⟨.inr h1, h2⟩
      · rintro (h1 | ⟨rfl | h1, h2, h3⟩)
        · exact .inl (.inl h1)
        · exact .inl (.inr ⟨rfl, h3⟩)
        · exact .inr ⟨h1, h2, h3⟩
    · rw [if_neg h]
      simp only [List.mem_cons]
      constructor
      · rintro (h1 | ⟨h1, h2⟩)
        · exact .inl h1
        · exact .inr ⟨.inr h1, h2⟩
      · rintro (h1 | ⟨rfl | h1, h2, h3⟩)
        · exact .inl h1
        · exact absurd h2 h
        · exact .inr ⟨h1, h2, h3⟩
theorem partsOf_mem {ws : Nat → Nat} {len : Nat} {L : List Nat} {p : Nat × Nat} : p ∈ partsOf ws len L ↔ p.1 ∈ L ∧ isX (decP ws len p.1).x.op = true ∧ p.2 = (decP ws len p.1).x.k := by
  unfold partsOf
  rw [parts_mem]
  simp
/-- The exits of a block that is laid at a word. -/
def insX (ex : Int → Option (Nat × Nat)) (bg pc : Nat) (ps : List (Nat × Nat)) : Int → Option (Nat × Nat) := ps.foldl (fun f p => fun z => if z = ((bg + p.1 : Nat) : Int) then some (pc, p.2) else f z) ex
theorem insX_snoc (ex : Int → Option (Nat × Nat)) (bg pc : Nat) (ps : List (Nat × Nat)) (p : Nat × Nat) : insX ex bg pc (ps ++ [p]) = fun z => if z = ((bg + p.1 : Nat) : Int) then some (pc, p.2) else insX ex bg pc ps z := by simp [insX, List.foldl_append]
theorem insX_of (bg pc : Nat) : ∀ (ps : List (Nat × Nat)) (ex : Int → Option (Nat × Nat)) (z : Int) (q : Nat × Nat), insX ex bg pc ps z = some q → ex z = some q ∨ ∃ p ∈ ps, z = ((bg + p.1 : Nat) : Int) ∧ q = (pc, p.2)
  | [], ex, z, q, h => .inl h
  | p :: r, ex, z, q, h => by
    rcases insX_of bg pc r _ z q h with h1 | ⟨p', hp, h2⟩
    · dsimp only at h1
      split at h1
      · next e => cases h1; exact .inr ⟨p, List.mem_cons_self, e, rfl⟩
      · exact .inl h1
    · exact .inr ⟨p', List.mem_cons_of_mem _ hp, h2⟩
theorem fE_put (ex : Int → Option (Nat × Nat)) (s : Int) (p : Nat × Nat) : upd (fE ex) s (some (eV p)) = fE (fun z => if z = s then some p else ex z) := by
  funext z
  unfold upd fE
  by_cases e : z = s <;> simp [e]
theorem fE_some {ex : Int → Option (Nat × Nat)} {k : Int} {v : Value} (h : fE ex k = some v) : ∃ p, ex k = some p ∧ v = eV p := by
  unfold fE at h
  cases e : ex k with
  | none => rw [e] at h; cases h
  | some p => rw [e] at h; cases h; exact ⟨p, rfl, rfl⟩
end Go.Proofs.Ytgkkghphlbgcoaa.Ca
