import Derived.Test.YtgkkghphlbgcoaaEQ
import Derived.Test.YtgkkghphlbgcoaaDR
import Derived.Maps.AppendAt
namespace Go.Proofs.Ytgkkghphlbgcoaa.Ca
open Go.RowKit Go.Maps Ho
set_option maxRecDepth 100000
set_option linter.unusedVariables false
set_option linter.unusedSimpArgs false
theorem infoU : (Try.prog.info? 30).map (fun i => (i.zero, i.size, i.bytes)) = some (some (.int .u32 0), 1, 4) := by kernel_rfl
theorem row_keep {w w' : World} {b e sz n : Nat} {v : Value} {xs : List Value} (h : w.ownsRow b e sz v n xs) (hk : ∀ k, v.ownBlock = some k → w'.heap[k]? = w.heap[k]?) : w'.ownsRow b e sz v n xs := by
  refine ⟨h.1, ?_⟩
  rcases h.2 with h1 | ⟨g, cap, cur, rfl, h2, h3, r⟩
  · exact .inl h1
  · exact .inr ⟨g, cap, cur, rfl, h2, (hk g rfl).trans h3, r⟩
theorem row_ge {w : World} {b e sz n : Nat} {v : Value} {xs : List Value} (h : w.ownsRow b e sz v n xs) : ∀ k, v.ownBlock = some k → b ≤ k ∧ k < w.heap.size := h.lt
theorem row_slice {w : World} {b e : Nat} {v : Value} {ps : List (Nat × Nat)} (h : w.ownsRow b e 2 v ps.length (encs ps)) :
    ∃ la lc, v = .slice la ps.length lc ∧ (0 < ps.length → ∃ g, la = some ⟨g, 0, none⟩ ∧ ∀ i p, ps[i]? = some p → w.cell? ⟨g, i * 2, none⟩ = some (.int .i64 p.1) ∧ w.cell? ⟨g, i * 2 + 1, none⟩ = some (.int .u32 p.2)) := by
  have en : ∀ (l : List (Nat × Nat)) (i : Nat) (p : Nat × Nat), l[i]? = some p → (encs l)[i * 2]? = some (.int .i64 p.1) ∧ (encs l)[i * 2 + 1]? = some (.int .u32 p.2) := by
    intro l
    induction l with
    | nil => intro i p hp; simp at hp
    | cons q r ih =>
      intro i p hp
      have ec : encs (q :: r) = Value.int .i64 q.1 :: Value.int .u32 q.2 :: encs r := by simp [encs]
      rw [ec]
      cases i with
      | zero => simp at hp; subst hp; exact ⟨rfl, rfl⟩
      | succ i =>
        simp at hp
        have := ih i p hp
        rw [show (i + 1) * 2 = i * 2 + 1 + 1 by omega]
        simpa using this
  rcases h.2 with ⟨rfl, h0⟩ | ⟨g, cap, cur, rfl, h2, h3, h4, h5, h6, h7⟩
  · exact ⟨none, 0, by rw [h0], fun hp => by omega⟩
  · refine ⟨_, cap, rfl, fun _ => ⟨g, rfl, fun i p hp => ?_⟩⟩
    obtain ⟨e1, e2⟩ := en ps i p hp
    have hi : i < ps.length := (List.getElem?_eq_some_iff.1 hp).1
    rw [← h7] at e1 e2
    rw [List.getElem?_take_of_lt (by omega)] at e1 e2
    rw [So.row_cell h3, So.row_cell h3]
    exact ⟨by simpa using e1, by simpa using e2⟩
def wL (ws : Nat → Nat) (n : Nat) : List Value := (List.range n).map fun i => .int .u32 (ws i)
theorem wL_len (ws : Nat → Nat) (n : Nat) : (wL ws n).length = n := by simp [wL]
theorem wL_get (ws : Nat → Nat) (n i : Nat) (h : i < n) : (wL ws n)[i]? = some (.int .u32 (ws i)) := by simp [wL, h]
theorem wL_one (ws : Nat → Nat) (n : Nat) : ∀ u ∈ wL ws n, u.oneCell' = true := by
  intro u hu
  obtain ⟨i, _, rfl⟩ := List.mem_map.1 hu
  rfl
theorem Wb.own {w : World} {sl : Value} {n : Nat} {ws : Nat → Nat} (h : Wb w sl n ws) : w.ownsRow 0 30 1 sl n (wL ws n) := by
  refine ⟨by simp [wL], ?_⟩
  rcases h.row with h1 | ⟨g, cap, cur, rfl, hg, h1, h2, h3, h4⟩
  · exact .inl h1
  · refine .inr ⟨g, cap, cur, rfl, Nat.zero_le _, hg, h1, h2, by omega, ?_⟩
    apply List.ext_getElem?
    intro i
    by_cases hi : i < n
    · rw [List.getElem?_take_of_lt (by omega), wL_get ws n i hi]
      have := h4 i hi
      simpa using this
    · rw [List.getElem?_eq_none (by simp; omega), List.getElem?_eq_none (by rw [wL_len]; omega)]
theorem Wb.of_own {w : World} {sl : Value} {n m : Nat} {ws cw : Nat → Nat} (h : w.ownsRow 0 30 1 sl (n + m) (wL ws n ++ wL cw m)) (h1 : ∀ i, ws i < 4294967296) (h2 : ∀ i, cw i < 4294967296) : Wb w sl (n + m) (fun i => if i < n then ws i else cw (i - n)) := by
  refine ⟨fun i => ?_, ?_⟩
  · split
    · exact h1 _
    · exact h2 _
  rcases h.2 with h1 | ⟨g, cap, cur, rfl, _, hg, h3, h4, h5, h6⟩
  · exact .inl h1
  · refine .inr ⟨g, cap, cur, rfl, hg, h3, h4, by omega, fun i hi => ?_⟩
    have e : (cur.toList.take ((n + m) * 1))[i]? = (wL ws n ++ wL cw m)[i]? := by rw [h6]
    rw [List.getElem?_take_of_lt (by omega)] at e
    have e' : cur[i]? = (wL ws n ++ wL cw m)[i]? := by simpa using e
    rw [e']
    split
    · next hl => rw [List.getElem?_append_left (by rw [wL_len]; exact hl), wL_get ws n i hl]
    · next hl => rw [List.getElem?_append_right (by rw [wL_len]; omega), wL_len, wL_get cw m (i - n) (by omega)]
theorem Wb.slice {w : World} {sl : Value} {n : Nat} {ws : Nat → Nat} (h : Wb w sl n ws) : ∃ a cap, sl = .slice a n cap := by
  rcases h.row with ⟨e, h0⟩ | ⟨g, cap, cur, e, _⟩
  · exact ⟨none, 0, by rw [e, h0]⟩
  · exact ⟨_, cap, e⟩
theorem Cw.app {w w' : World} {C : Nat} {I : Ids} {c : Cs} {sl' : Value} {n : Nat} {ws' : Nat → Nat} (h : Cw w C I c) (hg : w.grownBy w' I.sl.ownBlock) (hw : Wb w' sl' n ws') (hn : n ≤ c.room) (ho : sl'.ownBlock = I.sl.ownBlock ∨ sl'.ownBlock = some w.heap.size) : Cw (w'.setCell ⟨C, 1, none⟩ sl') C { I with sl := sl' } { c with fill := n, ws := ws' } := by
  obtain ⟨n1, n2, n3, n4, n5, n6⟩ := h.ne
  have hl := h.own_lt
  have hk : ∀ k, k < w.heap.size → (∀ j, I.sl.ownBlock = some j → k ≠ j) → w'.heap[k]? = w.heap[k]? := fun k hk hj => hg.block k hk (fun e => hj k e.symm rfl)
  have hC : w'.heap[C]? = w.heap[C]? := hk C (hl C (.inl rfl)) fun j e => Ne.symm (h.ns j e).1
  have hks : ∀ k, k ≠ C → (w'.setCell ⟨C, 1, none⟩ sl').heap[k]? = w'.heap[k]? := fun k e => So.blk_other e _
  obtain ⟨A, hA, r⟩ := h.tb.c
  have ho' : ∀ k, sl'.ownBlock = some k → k ≠ C ∧ k ≠ I.tb ∧ k ≠ I.b1 ∧ k ≠ I.b2 := fun k e => by
    rcases ho with e1 | e1
    · exact h.ns k (by rw [← e1]; exact e)
    · rw [e1] at e
      cases e
      have a1 := hl C (.inl rfl)
      have a2 := hl I.tb (.inr (.inl rfl))
      have a3 := hl I.b1 (.inr (.inr (.inl rfl)))
      have a4 := hl I.b2 (.inr (.inr (.inr (.inl rfl))))
      omega
  exact ⟨So.blk_set (hC.trans h.c0) _, hw.keep fun k e => hks k (ho' k e).1, ⟨A, (hks _ (Ne.symm n1)).trans ((hk _ h.tb.lt fun j e => Ne.symm (h.ns j e).2.1).trans hA), r⟩,
    h.m1.keep ((hks _ (Ne.symm n2)).trans (hk _ h.m1.lt fun j e => Ne.symm (h.ns j e).2.2.1)), h.m2.keep ((hks _ (Ne.symm n3)).trans (hk _ h.m2.lt fun j e => Ne.symm (h.ns j e).2.2.2)), ⟨h.rm.1, h.rm.2.1, hn⟩, h.st, h.ne, ho'⟩
theorem Xo.nat {c : Cs} (X : Xo c) {w : World} {C : Nat} {I : Ids} (h : Cw w C I c) : ∀ k v, fE c.ex k = some v → 0 ≤ k ∧ k < 1048576 := fun k v hk => by
  cases e : c.ex k with
  | none => simp [fE, e] at hk
  | some p =>
    obtain ⟨n, rfl, h0, ho, _⟩ := X.ok k p e
    have := (exd h.wb.lt h0 ho).le
    have := h.rm
    omega
theorem til_mem {ws : Nat → Nat} {len : Nat} (hlt : ∀ i, ws i < 4294967296) : ∀ {L : List Nat} {a e : Nat}, Til ws len a L e → ∀ s ∈ L, a ≤ s ∧ (decP ws len s).e = 0 ∧ s + (decP ws len s).n ≤ e ∧ 1 ≤ (decP ws len s).n
  | [], _, _, _, s, hs => by cases hs
  | x :: r, a, e, h, s, hs => by
    obtain ⟨rfl, h0, h1⟩ := h
    obtain ⟨z1, z2, z3⟩ := dec_size hlt h0
    have le : ∀ {L : List Nat} {a e : Nat}, Til ws len a L e → a ≤ e := by
      intro L
      induction L with
      | nil => intro a e h; exact Nat.le_of_eq h
      | cons y r ih => intro a e h; obtain ⟨rfl, _, h2⟩ := h; have := ih h2; omega
    rcases List.mem_cons.1 hs with rfl | hs
    · exact ⟨Nat.le_refl _, h0, le h1, z1⟩
    · have := til_mem hlt h1 s hs
      exact ⟨by omega, this.2⟩
theorem til_le {ws : Nat → Nat} {len : Nat} : ∀ {L : List Nat} {a e : Nat}, Til ws len a L e → a ≤ e := by
  intro L
  induction L with
  | nil => intro a e h; exact Nat.le_of_eq h
  | cons y r ih => intro a e h; obtain ⟨rfl, _, h2⟩ := h; have := ih h2; omega
theorem parts_mem (ws : Nat → Nat) (len : Nat) : ∀ (L : List Nat) (ps : List (Nat × Nat)) (p : Nat × Nat), p ∈ L.foldl (fun ps s => psN ps s (decP ws len s).x) ps ↔ p ∈ ps ∨ (p.1 ∈ L ∧ isX (decP ws len p.1).x.op = true ∧ p.2 = (decP ws len p.1).x.k)
  | [], ps, p => by simp
  | s :: r, ps, p => by
    rw [List.foldl_cons, parts_mem ws len r]
    unfold psN
    obtain ⟨p1, p2⟩ := p
    by_cases h : isX (decP ws len s).x.op = true
    · rw [if_pos h]
      simp only [List.mem_append, List.mem_cons, List.not_mem_nil, or_false, Prod.mk.injEq]
      constructor
      · rintro ((h1 | ⟨rfl, rfl⟩) | ⟨h1, h2⟩)
        · exact .inl h1
        · exact .inr ⟨.inl rfl, h, rfl⟩
        · exact .inr ⟨.inr h1, h2⟩
      · rintro (h1 | ⟨rfl | h1, h2, h3⟩)
        · exact .inl (.inl h1)
        · exact .inl (.inr ⟨rfl, h3⟩)
        · exact .inr ⟨h1, h2, h3⟩
    · rw [if_neg h]
      simp only [List.mem_cons]
      constructor
      · rintro (h1 | ⟨h1, h2⟩)
        · exact .inl h1
        · exact .inr ⟨.inr h1, h2⟩
      · rintro (h1 | ⟨rfl | h1, h2, h3⟩)
        · exact .inl h1
        · exact absurd h2 h
        · exact .inr ⟨h1, h2, h3⟩
theorem partsOf_mem {ws : Nat → Nat} {len : Nat} {L : List Nat} {p : Nat × Nat} : p ∈ partsOf ws len L ↔ p.1 ∈ L ∧ isX (decP ws len p.1).x.op = true ∧ p.2 = (decP ws len p.1).x.k := by
  unfold partsOf
  rw [parts_mem]
  simp
/-- The exits of a block that is laid at a word. -/
def insX (ex : Int → Option (Nat × Nat)) (bg pc : Nat) (ps : List (Nat × Nat)) : Int → Option (Nat × Nat) := ps.foldl (fun f p => fun z => if z = ((bg + p.1 : Nat) : Int) then some (pc, p.2) else f z) ex
theorem insX_snoc (ex : Int → Option (Nat × Nat)) (bg pc : Nat) (ps : List (Nat × Nat)) (p : Nat × Nat) : insX ex bg pc (ps ++ [p]) = fun z => if z = ((bg + p.1 : Nat) : Int) then some (pc, p.2) else insX ex bg pc ps z := by simp [insX, List.foldl_append]
theorem insX_of (bg pc : Nat) : ∀ (ps : List (Nat × Nat)) (ex : Int → Option (Nat × Nat)) (z : Int) (q : Nat × Nat), insX ex bg pc ps z = some q → ex z = some q ∨ ∃ p ∈ ps, z = ((bg + p.1 : Nat) : Int) ∧ q = (pc, p.2)
  | [], ex, z, q, h => .inl h
  | p :: r, ex, z, q, h => by
    rcases insX_of bg pc r _ z q h with h1 | ⟨p', hp, h2⟩
    · dsimp only at h1
      split at h1
      · next e => cases h1; exact .inr ⟨p, List.mem_cons_self, e, rfl⟩
      · exact .inl h1
    · exact .inr ⟨p', List.mem_cons_of_mem _ hp, h2⟩
theorem fE_put (ex : Int → Option (Nat × Nat)) (s : Int) (p : Nat × Nat) : upd (fE ex) s (some (eV p)) = fE (fun z => if z = s then some p else ex z) := by
  funext z
  unfold upd fE
  by_cases e : z = s <;> simp [e]
theorem fE_some {ex : Int → Option (Nat × Nat)} {k : Int} {v : Value} (h : fE ex k = some v) : ∃ p, ex k = some p ∧ v = eV p := by
  unfold fE at h
  cases e : ex k with
  | none => rw [e] at h; cases h
  | some p => rw [e] at h; cases h; exact ⟨p, rfl, rfl⟩
end Go.Proofs.Ytgkkghphlbgcoaa.Ca
namespace Go.Proofs.Ytgkkghphlbgcoaa.Ca
open Go.RowKit Go.Maps Ho
set_option maxRecDepth 100000
set_option linter.unusedVariables false
set_option linter.unusedSimpArgs false
/-- The cache behind an insert. -/
def insC (c : Cs) (pc : Nat) (b : Bl) (cw : Nat → Nat) (ps : List (Nat × Nat)) : Cs :=
  { c with fill := c.fill + b.sz, ws := fun i => if i < c.fill then c.ws i else cw (i - c.fill), bl := fun z => if z = (pc : Int) then some b else c.bl z, ex := insX c.ex c.fill pc ps }
/-- What Insert answers: it is as it was; or the block is laid. c1: the cache, flushed where there was no room. -/
structure InP (w : World) (C : Nat) (I : Ids) (c : Cs) (pc n : Nat) (pg : Nat → Int) (cw : Nat → Nat) (len : Nat) (e : Ending) (w' : World) : Prop where
  ex : (∃ r, e = .returned (.tuple #[.int .i64 0, .int .i64 r]) ∧ r ≠ 0 ∧ Cw w' C I c ∧ Below w.heap.size w w' ∧ ((∃ i, i < n ∧ isP (pg i) = false) ∨ len = 0 ∨ Bad cw len pc ∨ c.bl pc ≠ none ∨ c.room < len) ∧ ((r = 4 ∧ ∃ i, i < n ∧ isP (pg i) = false) ∨ (∀ i, i < n → isP (pg i) = true) ∧ ((r = 7 ∧ (len = 0 ∨ Bad cw len pc)) ∨ 0 < len ∧ (∃ S, Good cw len pc S) ∧ ((r = 8 ∧ c.bl pc ≠ none) ∨ c.bl pc = none ∧ r = 5 ∧ c.room < len)))) ∨
    ∃ c1 S sl', e = .returned (.tuple #[.int .i64 c1.fill, .int .i64 0]) ∧ (∀ i, i < n → isP (pg i) = true) ∧ 0 < len ∧ Good cw len pc S ∧ c.bl pc = none ∧ len ≤ c.room ∧
      ((len ≤ c.room - c.fill ∧ c1 = c) ∨ (c.room - c.fill < len ∧ ∃ tp' ta', c1 = { c with fill := 0, tp := tp', ta := ta', bl := fun _ => none, ex := fun _ => none } ∧ Fg c c.bl tp' ta' (fun _ => false))) ∧
      Cw w' C { I with sl := sl' } (insC c1 pc ⟨c1.fill, len, setN pg n 0, setN pg n 1, setN pg n 2, setN pg n 3⟩ cw (partsOf cw len S)) ∧ (sl'.ownBlock = I.sl.ownBlock ∨ ∃ k, sl'.ownBlock = some k ∧ w.heap.size ≤ k) ∧ Ch (Own C I) w w'
theorem hgrow_C {w w' : World} {C : Nat} {I : Ids} {c : Cs} (h : Cw w C I c) (hg : w.grownBy w' I.sl.ownBlock) : w'.heap[C]? = w.heap[C]? := hg.block C (h.own_lt C (.inl rfl)) (fun e => (h.ns C e.symm).1 rfl)
structure InC (w : World) (C : Nat) (I : Ids) (c : Cs) (len n1 : Nat) (wx : World) : Prop where
  ex : ∃ c1 sl', ((len ≤ c.room - c.fill ∧ c1 = c) ∨ (c.room - c.fill < len ∧ ∃ tp' ta', c1 = { c with fill := 0, tp := tp', ta := ta', bl := fun _ => none, ex := fun _ => none } ∧ Fg c c.bl tp' ta' (fun _ => false))) ∧ Cw wx C { I with sl := sl' } c1 ∧ sl'.ownBlock = I.sl.ownBlock ∧ Ch (Own C I) w wx ∧ n1 ≤ wx.heap.size
structure InL (w16 : World) (C : Nat) (I : Ids) (c2 : Cs) (ex1 : Int → Option (Nat × Nat)) (bg pc : Nat) (ps : List (Nat × Nat)) (v : Value) (wr : World) : Prop where
  ex : ∃ k : Nat, v = .int .i64 k ∧ k ≤ ps.length ∧ Cw wr C I { c2 with ex := insX ex1 bg pc (ps.take k) } ∧ Ch (· = I.b2) w16 wr
set_option maxHeartbeats 8000000 in
theorem insert_any (C pc : Nat) (pa a : Option Addr) (pn pcap len cap : Nat) (pg : Nat → Int) (cw : Nat → Nat) (I : Ids) (c : Cs) (w : World) (h : Cw w C I c) (X : Xo c) (hpc : pc < 4294967296) (hpg : Pg w pa pn pg) (hw : Ho.Wds w a len cap cw) (hlt : ∀ i, cw i < 4294967296) (hlen : len ≤ 1048576) (hao : 0 < len → ∀ b off, a = some ⟨b, off, none⟩ → ¬ Own C I b) :
    Calls Try.prog 10 #[.pointer (some ⟨C, 0, none⟩), .int .u32 pc, .slice pa pn pcap, .slice a len cap] w fun e w' => InP w C I c pc pn pg cw len e w' := by
  have HC : Hid _ := h
  have HX : Hid _ := X
  have HW : Hid (Ho.Wds w a len cap cw) := hw
  have HLT : Hid _ := hlt
  have HPG : Hid (Pg w pa pn pg) := hpg
  have hlC := h.own_lt C (.inl rfl)
  clear h X hw hlt hpg
  go_enter Try.func10, Try.ntmps10
  go_wp2_with (go_at_call 38; fail)
  refine Calls.mono (set_all pa pn pcap pg w HPG.out) ?_
  rintro _ w1 ⟨(⟨rfl, hset⟩ | ⟨rfl, hset⟩), hb1⟩
  case inr =>
    dsimp only
    go_wp2
    go_ret2
    have hb1' := hb1.trans ((Below.refl _ w1).alloc hb1.size (.cells #[.int .u64 0, .int .u64 0, .int .u64 0, .int .u64 0] 77))
    exact ⟨.inl ⟨4, rfl, by decide, HC.out.below hb1', hb1', .inl hset, .inl ⟨rfl, hset⟩⟩⟩
  dsimp only
  have HSET : Hid (∀ i, i < pn → isP (pg i) = true) := hset
  obtain ⟨q0, hq0⟩ : ∃ q, setN pg pn 0 = q := ⟨_, rfl⟩
  obtain ⟨q1, hq1⟩ : ∃ q, setN pg pn 1 = q := ⟨_, rfl⟩
  obtain ⟨q2, hq2⟩ : ∃ q, setN pg pn 2 = q := ⟨_, rfl⟩
  obtain ⟨q3, hq3⟩ : ∃ q, setN pg pn 3 = q := ⟨_, rfl⟩
  rw [hq0, hq1, hq2, hq3]
  have HQ : Hid (setN pg pn 0 = q0 ∧ setN pg pn 1 = q1 ∧ setN pg pn 2 = q2 ∧ setN pg pn 3 = q3) := And.intro hq0 (And.intro hq1 (And.intro hq2 hq3))
  have hbA : Below w.heap.size w (w1.alloc (.cells #[.int .u64 q0, .int .u64 q1, .int .u64 q2, .int .u64 q3] 77)) := hb1.trans ((Below.refl _ w1).alloc hb1.size _)
  have HBA : Hid _ := hbA
  have lw1 := hb1.size
  clear hset hq0 hq1 hq2 hq3 hbA hb1
  go_wp2_with (go_at_call 39; fail)
  refine Calls.mono (exits_any a len cap pc cw _ (Ho.wds_keep HW.out HBA.out) HLT.out hlen) ?_
  rintro _ w2 ⟨lv, r, ps, rfl, hrow, hb2, hgood, hbad⟩
  dsimp only
  have hbB : Below w.heap.size w w2 := HBA.out.trans (hb2.mono (by simp; omega))
  have HBB : Hid _ := hbB
  have HROW : Hid (w2.ownsRow (w1.alloc (.cells #[.int .u64 q0, .int .u64 q1, .int .u64 q2, .int .u64 q3] 77)).heap.size 87 2 lv ps.length (encs ps)) := hrow
  have hc2 : Cw w2 C I c := HC.out.below hbB
  have HW2 : Hid _ := hc2
  have lw2 : w1.heap.size < w2.heap.size := by have := hb2.size; simp at this; omega
  have k0 : w2.cell? ⟨w1.heap.size, 0, none⟩ = some (.int .u64 q0) := by rw [hb2.cell (by simp), World.cell?_alloc_at] <;> rfl
  have k1 : w2.cell? ⟨w1.heap.size, 1, none⟩ = some (.int .u64 q1) := by rw [hb2.cell (by simp), World.cell?_alloc_at] <;> rfl
  have k2 : w2.cell? ⟨w1.heap.size, 2, none⟩ = some (.int .u64 q2) := by rw [hb2.cell (by simp), World.cell?_alloc_at] <;> rfl
  have k3 : w2.cell? ⟨w1.heap.size, 3, none⟩ = some (.int .u64 q3) := by rw [hb2.cell (by simp), World.cell?_alloc_at] <;> rfl
  obtain ⟨d0, d1, _, d3, _⟩ := hc2.cell
  have HGO : Hid _ := hgood
  have HBAD : Hid _ := hbad
  clear hbB hrow hc2 hgood hbad
  cases r with
  | false =>
    go_wp2
    go_ret2
    exact ⟨.inl ⟨7, rfl, by decide, HW2.out, HBB.out, .inr ((HBAD.out (by trivial)).elim .inl fun e => .inr (.inl e)), .inr ⟨HSET.out, .inl ⟨rfl, HBAD.out (by trivial)⟩⟩⟩⟩
  | true =>
    obtain ⟨hl0, S, hS, hps⟩ := HGO.out (by trivial)
    have HSS : Hid _ := hS
    have HPS : Hid _ := hps
    clear hS hps
    cases hbl : c.bl pc with
    | some b =>
      have HV : Hid ((fB c.bl pc).getD (.agg #[.int .i64 0, .int .i64 0, .int .u64 0, .int .u64 0, .int .u64 0, .int .u64 0]) = .agg #[.int .i64 b.bg, .int .i64 b.sz, .int .u64 b.q0, .int .u64 b.q1, .int .u64 b.q2, .int .u64 b.q3]) := (by rw [show fB c.bl pc = some (bV b) by simp [fB, hbl]]; rfl)
      have HS : Hid ((fB c.bl pc).isSome = true) := (by rw [show fB c.bl pc = some (bV b) by simp [fB, hbl]]; rfl)
      have HBL : Hid _ := hbl
      clear hbl
      go_wp2_with (at_lookup; refine wpList_look _ rfl _ _ 51 rfl 30 84 .u32 Try.underlying30 Try.underlying51 (zeroB _) I.b1 _ rfl HW2.out.m1 pc rfl (wfU pc hpc) (.agg #[.int .i64 b.bg, .int .i64 b.sz, .int .u64 b.q0, .int .u64 b.q1, .int .u64 b.q2, .int .u64 b.q3]) true HV.out HS.out ?_)
      go_ret2
      have hbC := HBB.out.trans ((Below.refl _ w2).alloc HBB.out.size (.cells #[.int .i64 b.bg, .int .i64 b.sz, .int .u64 b.q0, .int .u64 b.q1, .int .u64 b.q2, .int .u64 b.q3] 84))
      exact ⟨.inl ⟨8, rfl, by decide, HC.out.below hbC, hbC, .inr (.inr (.inr (.inl (by rw [HBL.out]; simp)))), .inr ⟨HSET.out, .inr ⟨hl0, ⟨S, HSS.out⟩, .inl ⟨rfl, by rw [HBL.out]; simp⟩⟩⟩⟩⟩
    | none =>
      have HV : Hid ((fB c.bl pc).getD (.agg #[.int .i64 0, .int .i64 0, .int .u64 0, .int .u64 0, .int .u64 0, .int .u64 0]) = .agg #[.int .i64 0, .int .i64 0, .int .u64 0, .int .u64 0, .int .u64 0, .int .u64 0]) := (by rw [show fB c.bl pc = none by simp [fB, hbl]]; rfl)
      have HS : Hid ((fB c.bl pc).isSome = false) := (by rw [show fB c.bl pc = none by simp [fB, hbl]]; rfl)
      have HBL : Hid _ := hbl
      have hz3 : Below w2.heap.size w2 (w2.alloc (.cells #[.int .i64 0, .int .i64 0, .int .u64 0, .int .u64 0, .int .u64 0, .int .u64 0] 84)) := (Below.refl _ _).alloc (Nat.le_refl _) _
      have lC2 := HW2.out.own_lt C (.inl rfl)
      have d0' := (hz3.cell (p := ⟨C, 0, none⟩) lC2).trans d0
      have hbC := HBB.out.trans (hz3.mono HBB.out.size)
      have HBC : Hid _ := hbC
      clear hbl hbC
      by_cases hr : c.room < len
      · have g1 : (c.room : Int) < (len : Int) := by omega
        have g2 : decide ((c.room : Int) < (len : Int)) = true := decide_eq_true g1
        go_wp2_with (at_lookup; refine wpList_look _ rfl _ _ 51 rfl 30 84 .u32 Try.underlying30 Try.underlying51 (zeroB _) I.b1 _ rfl HW2.out.m1 pc rfl (wfU pc hpc) (.agg #[.int .i64 0, .int .i64 0, .int .u64 0, .int .u64 0, .int .u64 0, .int .u64 0]) false HV.out HS.out ?_)
        go_ret2
        exact ⟨.inl ⟨5, rfl, by decide, HC.out.below HBC.out, HBC.out, .inr (.inr (.inr (.inr hr))), .inr ⟨HSET.out, .inr ⟨hl0, ⟨S, HSS.out⟩, .inr ⟨HBL.out, rfl, hr⟩⟩⟩⟩⟩
      · have g1 : ¬ (c.room : Int) < (len : Int) := by omega
        have g2 : decide ((c.room : Int) < (len : Int)) = false := decide_eq_false g1
        go_upto_if 62 with (at_lookup; refine wpList_look _ rfl _ _ 51 rfl 30 84 .u32 Try.underlying30 Try.underlying51 (zeroB _) I.b1 _ rfl HW2.out.m1 pc rfl (wfU pc hpc) (.agg #[.int .i64 0, .int .i64 0, .int .u64 0, .int .u64 0, .int .u64 0, .int .u64 0]) false HV.out HS.out ?_)
        obtain ⟨a0, cap0, hsl, _⟩ := HC.out.sl
        have HSL : Hid _ := hsl
        obtain ⟨rm0, rm1, rm2⟩ := HC.out.rm
        obtain ⟨rf, hrf⟩ : ∃ rf, c.room - c.fill = rf := ⟨_, rfl⟩
        have t1 : IntKind.i64.wrap ((c.room : Int) - (c.fill : Int)) = (rf : Int) := So.wr_sub (by omega) (by omega)
        have d1' := (hz3.cell (p := ⟨C, 1, none⟩) lC2).trans d1
        rw [hsl] at d1'
        have HRF : Hid _ := hrf
        have hcw3 := HW2.out.below hz3
        have HW3 : Hid _ := hcw3
        obtain ⟨W3, hW3⟩ : ∃ W, w2.alloc (.cells #[.int .i64 0, .int .i64 0, .int .u64 0, .int .u64 0, .int .u64 0, .int .u64 0] 84) = W := ⟨_, rfl⟩
        have HE3 : Hid _ := hW3
        rw [hW3] at HW3 d0' d1' HBC
        simp only [hW3]
        clear hsl hrf hcw3 hW3 hz3
        go_quiet (fail)
        go_upto_if 62 with fail
        go_cut [] from 50 to 64 (fun wx => InC W3 C I c len W3.heap.size wx)
        case first =>
          by_cases hf : rf < len
          · have f1 : (rf : Int) < (len : Int) := by omega
            have f2 : decide ((rf : Int) < (len : Int)) = true := decide_eq_true f1
            go_wp2_with (go_at_call 26; fail)
            refine Calls.mono (flush_any C I c _ (HW3.out.below (bDN (Below.refl _ _) _))) ?_
            rintro _ w4 ⟨rfl, tp', ta', sl', hc4, hf4, ho4, hch4⟩
            dsimp only
            go_wp2
            go_meet
            exact ⟨_, sl', .inr ⟨by have := HRF.out; omega, tp', ta', rfl, hf4⟩, hc4, ho4, (Ch.of_below _ (bDN (Below.refl _ _) _)).trans hch4, hch4.size⟩
          · have f1 : ¬ (rf : Int) < (len : Int) := by omega
            have f2 : decide ((rf : Int) < (len : Int)) = false := decide_eq_false f1
            go_wp2
            go_meet
            exact ⟨c, I.sl, .inl ⟨by have := HRF.out; omega, rfl⟩, HW3.out.below (bDN (Below.refl _ _) _), rfl, Ch.of_below _ (bDN (Below.refl _ _) _), Nat.le_refl _⟩
        case rest =>
          obtain ⟨c1, sl1, hor, hc1, ho1, hch1, hsz1⟩ := hcut
          have hcr : c1.room = c.room ∧ c1.bl pc = none ∧ c1.fill + len ≤ c.room ∧ (∀ k v, fE c1.ex k = some v → 0 ≤ k ∧ k < 1048576) := by
            rcases hor with ⟨h1, rfl⟩ | ⟨h1, tp', ta', rfl, _⟩
            · exact ⟨rfl, HBL.out, by omega, HX.out.nat HC.out⟩
            · exact ⟨rfl, rfl, by dsimp only; omega, fun k v hk => by simp [fE] at hk⟩
          obtain ⟨hcr1, hcr2, hcr3, hcr4⟩ := hcr
          have nOwn : ∀ k, w.heap.size ≤ k → ¬ Own C I k := fun k hk e => by have := HC.out.own_lt k e; omega
          have hW3s : W3.heap.size = w2.heap.size + 1 := by rw [← HE3.out]; simp
          have hkA : ∀ k, k < w2.heap.size → W3.heap[k]? = w2.heap[k]? := fun k hk => by rw [← HE3.out]; exact ((Below.refl w2.heap.size w2).alloc (Nat.le_refl _) _).block k hk
          have hkB : ∀ k, ¬ Own C I k → k < w2.heap.size → wc.heap[k]? = w2.heap[k]? := fun k hk hl => (hch1.block k (by omega) hk).trans (hkA k hl)
          have lww : w.heap.size ≤ w1.heap.size := lw1
          have k0' := (World.cell?_of_block (a := ⟨w1.heap.size, 0, none⟩) (hkB w1.heap.size (nOwn _ lww) lw2)).trans k0
          have k1' := (World.cell?_of_block (a := ⟨w1.heap.size, 1, none⟩) (hkB w1.heap.size (nOwn _ lww) lw2)).trans k1
          have k2' := (World.cell?_of_block (a := ⟨w1.heap.size, 2, none⟩) (hkB w1.heap.size (nOwn _ lww) lw2)).trans k2
          have k3' := (World.cell?_of_block (a := ⟨w1.heap.size, 3, none⟩) (hkB w1.heap.size (nOwn _ lww) lw2)).trans k3
          obtain ⟨cb, off, rfl, hcl, _, hWR⟩ : ∃ cb off, a = some ⟨cb, off, none⟩ ∧ len ≤ cap ∧ len ≤ 140737488355328 ∧ WR w cb off len cw := HW.out.elim (fun e => absurd e (by omega)) id
          have hcode : ∀ i, i < len → wc.cell? ⟨cb, off + i, none⟩ = some (.int .u32 (cw i)) := fun i hi => by
            have hb : wc.heap[cb]? = w.heap[cb]? := (hkB cb (hao hl0 cb off rfl) (by have := hWR.lb; omega)).trans (HBB.out.block cb hWR.lb)
            rw [World.cell?_of_block (a := ⟨cb, off + i, none⟩) hb]
            exact hWR.cell i hi
          have HCODE : Hid _ := hcode
          have hlist : wc.ownsRow (w1.alloc (.cells #[.int .u64 q0, .int .u64 q1, .int .u64 q2, .int .u64 q3] 77)).heap.size 87 2 lv ps.length (encs ps) := row_keep HROW.out fun k e => by
            have := HROW.out.lt k e
            exact hkB k (nOwn k (by simp at this; omega)) this.2
          have HLIST : Hid (wc.ownsRow (w1.alloc (.cells #[.int .u64 q0, .int .u64 q1, .int .u64 q2, .int .u64 q3] 77)).heap.size 87 2 lv ps.length (encs ps)) := hlist
          obtain ⟨a1, cap1, hs1, _⟩ := hc1.sl
          obtain ⟨_, e1, _, e3, e4⟩ := hc1.cell
          rw [hs1] at e1
          have HS1 : Hid _ := hs1
          have HC1 : Hid _ := hc1
          have HO1 : Hid _ := ho1
          have HOR : Hid _ := hor
          have HCH1 : Hid _ := hch1
          have l1C := hc1.own_lt C (.inl rfl)
          have lw1c : w1.heap.size < wc.heap.size := by omega
          clear hcode hlist hs1 hc1 ho1 hor hch1 k0 k1 k2 k3 d0 d1 d3 hWR
          go_wp2
          go_region
          have hb14 : Below wc.heap.size wc (wc.alloc (.cells #[.int .i64 c1.fill, .int .i64 len, .int .u64 q0, .int .u64 q1, .int .u64 q2, .int .u64 q3] 84)).drew := ((Below.refl _ _).alloc (Nat.le_refl _) _).drew
          have hB14 : (wc.alloc (.cells #[.int .i64 c1.fill, .int .i64 len, .int .u64 q0, .int .u64 q1, .int .u64 q2, .int .u64 q3] 84)).drew.heap[wc.heap.size]? = some (.cells #[.int .i64 c1.fill, .int .i64 len, .int .u64 q0, .int .u64 q1, .int .u64 q2, .int .u64 q3] 84) := World.alloc_heap_new wc _
          have hs14 : (wc.alloc (.cells #[.int .i64 c1.fill, .int .i64 len, .int .u64 q0, .int .u64 q1, .int .u64 q2, .int .u64 q3] 84)).drew.heap.size = wc.heap.size + 1 := by simp
          obtain ⟨W14, hW14⟩ : ∃ W, (wc.alloc (.cells #[.int .i64 c1.fill, .int .i64 len, .int .u64 q0, .int .u64 q1, .int .u64 q2, .int .u64 q3] 84)).drew = W := ⟨_, rfl⟩
          rw [hW14] at hb14 hB14 hs14 ⊢
          have hc14 := HC1.out.below hb14
          have HC14 : Hid _ := hc14
          obtain ⟨i0, hi, hz0, hz1, hz2⟩ := info_parts infoU
          have hown14 : W14.ownsRow 0 30 1 (.slice a1 c1.fill cap1) c1.fill (wL c1.ws c1.fill) := by
            have h1 := hc14.wb.own
            rw [HS1.out] at h1
            exact h1
          have HOWN : Hid (W14.ownsRow 0 30 1 (.slice a1 c1.fill cap1) c1.fill (wL c1.ws c1.fill)) := hown14
          have lcb : cb < wc.heap.size := by
            rcases Nat.lt_or_ge cb wc.heap.size with h | h
            · exact h
            · have := HCODE.out 0 hl0
              simp [World.cell?, h] at this
          have hnews : ∀ j u, (wL cw len)[j]? = some u → W14.cell? ((⟨cb, off, none⟩ : Addr).add j) = some u := fun j u hj => by
            have hjl : j < len := by
              rcases Nat.lt_or_ge j len with h | h
              · exact h
              · rw [List.getElem?_eq_none (by rw [wL_len]; exact h)] at hj; cases hj
            rw [wL_get cw len j hjl] at hj
            cases hj
            rw [show (⟨cb, off, none⟩ : Addr).add j = ⟨cb, off + j, none⟩ by unfold Addr.add; split <;> simp_all]
            exact (hb14.cell (p := ⟨cb, off + j, none⟩) lcb).trans (HCODE.out j hjl)
          have HNEWS : Hid _ := hnews
          have HB14 : Hid _ := hb14
          have HBB14 : Hid _ := hB14
          obtain ⟨_, m1, _, _, _⟩ := hc14.cell
          rw [HS1.out] at m1
          have hfl := hcr3
          have hrm1 := rm1
          have HE14 : Hid _ := hs14
          clear hc14 hown14 hnews hb14 hB14 hW14 hs14
          go_wp2_with (at_builtin; refine wpList_append_own_at _ rfl _ _ 32 rfl 0 30 i0 (.int .u32 0) 1 4 Try.underlying32 hi hz0 hz1 hz2 rfl (by decide) _ _ _ rfl HOWN.out ⟨cb, off, none⟩ len cap (wL cw len) rfl (by rw [wL_len]; omega) HNEWS.out (wL_one _ _) (by rw [show maxLen = 9223372036854775807 by decide]; omega) (by omega) (Nat.zero_le _) ?_; intro v' w15 hown' hgrow hnil hat; have hwb15 := Wb.of_own hown' HC14.out.wb.lt HLT.out; obtain ⟨a2, cap2, rfl⟩ := hwb15.slice; have hgs : W14.grownBy w15 sl1.ownBlock := (by rw [HS1.out]; exact hgrow); have hCk : w15.heap[C]? = W14.heap[C]? := hgrow_C HC14.out hgs; have m1' := (World.cell?_of_block (a := ⟨C, 1, none⟩) hCk).trans m1; have f1' := (World.frozen?_of_block (a := ⟨C, 1, none⟩) hCk).trans (So.row_fr HC14.out.c0 1); have HG15 : Hid _ := hgs; have HWB15 : Hid _ := hwb15; have hcw15 := HC14.out.app hgs hwb15 (by rw [hcr1]; omega) (by rw [← HS1.out] at hat; exact hat); have HC15 : Hid _ := hcw15; have hat2 : (Value.slice a2 (c1.fill + len) cap2).ownBlock = sl1.ownBlock ∨ (Value.slice a2 (c1.fill + len) cap2).ownBlock = some W14.heap.size := (by rw [HS1.out]; exact hat); have HAT : Hid _ := hat2; obtain ⟨_, _, _, m3, _⟩ := hcw15.cell; clear hown' hgrow hnil hat hat2 hwb15 hgs hCk hcw15)
          have hkC : ∀ k, ¬ Own C I k → k < W14.heap.size → (w15.setCell ⟨C, 1, none⟩ (.slice a2 (c1.fill + len) cap2)).heap[k]? = W14.heap[k]? := fun k hk hl => by
            rw [So.blk_other (fun e => hk (.inl e))]
            exact HG15.out.block k hl (fun e => hk (.inr (.inr (.inr (.inr (by rw [← HO1.out]; exact e.symm))))))
          have hsz15 : W14.heap.size ≤ (w15.setCell ⟨C, 1, none⟩ (.slice a2 (c1.fill + len) cap2)).heap.size := by have := HG15.out.size; simpa using this
          have hch15 : Ch (Own C I) W14 (w15.setCell ⟨C, 1, none⟩ (.slice a2 (c1.fill + len) cap2)) := by
            refine Ch.set ⟨HG15.out.os, HG15.out.tape, HG15.out.output, HG15.out.size, fun k hl hk => HG15.out.block k hl (fun e => hk (.inr (.inr (.inr (.inr (by rw [← HO1.out]; exact e.symm))))))⟩ (.inl rfl) _ _
          obtain ⟨W15, hW15⟩ : ∃ W, w15.setCell ⟨C, 1, none⟩ (.slice a2 (c1.fill + len) cap2) = W := ⟨_, rfl⟩
          rw [hW15] at hkC hsz15 hch15 HC15 m3 ⊢
          have lwcs : w2.heap.size + 1 ≤ wc.heap.size := by omega
          have h14s : W14.heap.size = wc.heap.size + 1 := HE14.out
          have hB15 : W15.heap[wc.heap.size]? = some (.cells #[.int .i64 c1.fill, .int .i64 len, .int .u64 q0, .int .u64 q1, .int .u64 q2, .int .u64 q3] 84) := (hkC wc.heap.size (nOwn _ (by omega)) (by omega)).trans HBB14.out
          have hlist15 : W15.ownsRow (w1.heap.size + 1) 87 2 lv ps.length (encs ps) := row_keep (by have := HLIST.out; simpa using this) fun k e => by
            have := HLIST.out.lt k e
            simp only [World.size_alloc] at this
            exact (hkC k (nOwn k (by omega)) (by omega)).trans (HB14.out.block k this.2)
          have HL15 : Hid (W15.ownsRow (w1.heap.size + 1) 87 2 lv ps.length (encs ps)) := hlist15
          have r0 := So.row_cell hB15 0
          have r1 := So.row_cell hB15 1
          have r2 := So.row_cell hB15 2
          have r3 := So.row_cell hB15 3
          have r4 := So.row_cell hB15 4
          have r5 := So.row_cell hB15 5
          simp at r0 r1 r2 r3 r4 r5
          have hm15 : MW W15.drew 30 .u32 I.b1 (fB c1.bl) := HC15.out.m1.keep rfl
          obtain ⟨w16, hrun16, hm16, hg16, hs16⟩ := hm15.put_run Try.underlying30 Try.underlying51 hm15.u32 pc (wfU pc hpc) (bV ⟨c1.fill, len, q0, q1, q2, q3⟩)
          unfold bV at hrun16
          dsimp only at hrun16
          rw [fB_upd] at hm16
          have HM16 : Hid _ := hm16
          have HG16 : Hid _ := hg16
          have HHS16 : Hid _ := hs16
          have HB15 : Hid _ := hB15
          have HK : Hid _ := hkC
          have HCH15 : Hid _ := hch15
          have HSZ15 : Hid _ := hsz15
          have l15C := HC15.out.own_lt C (.inl rfl)
          clear hm15 hm16 hg16 hs16 hB15 hkC hlist15 hW15 hch15 hsz15
          go_region
          have hcw16 := HC15.out.m1set HM16.out (⟨HG16.out.os, HG16.out.tape, HG16.out.output, HG16.out.size, fun k hk e => HG16.out.block k hk (fun e' => e (by cases e'; rfl))⟩ : Ch (· = I.b1) W15 w16)
          have lb1 := HC.out.m1.lt
          have h16s : w16.heap.size = W15.heap.size := HHS16.out
          have hk16 : ∀ k, w.heap.size ≤ k → k < W15.heap.size → w16.heap[k]? = W15.heap[k]? := fun k hk hl => HG16.out.block k hl (fun e => by cases e; omega)
          have h15s := HSZ15.out
          have hB16 : w16.heap[wc.heap.size]? = some (.cells #[.int .i64 c1.fill, .int .i64 len, .int .u64 q0, .int .u64 q1, .int .u64 q2, .int .u64 q3] 84) := (hk16 _ (by omega) (by omega)).trans HB15.out
          obtain ⟨la, lc, hlv, hcells⟩ := row_slice HL15.out
          have hcells16 : 0 < ps.length → ∃ g, la = some ⟨g, 0, none⟩ ∧ (w.heap.size ≤ g ∧ g < w16.heap.size) ∧ ∀ i p, ps[i]? = some p → w16.cell? ⟨g, i * 2, none⟩ = some (.int .i64 p.1) ∧ w16.cell? ⟨g, i * 2 + 1, none⟩ = some (.int .u32 p.2) := fun h0 => by
            obtain ⟨g, e, hc⟩ := hcells h0
            have hgl := HL15.out.lt g (by rw [hlv, e]; rfl)
            have hb := hk16 g (by omega) hgl.2
            refine ⟨g, e, ⟨by omega, by omega⟩, fun i p hp => ?_⟩
            rw [World.cell?_of_block (a := ⟨g, i * 2, none⟩) hb, World.cell?_of_block (a := ⟨g, i * 2 + 1, none⟩) hb]
            exact hc i p hp
          have hpsm : ∀ p ∈ ps, p.1 < len ∧ p.2 < 4294967296 := fun p hp => by
            rw [HPS.out] at hp
            obtain ⟨m1, m2, m3⟩ := partsOf_mem.1 hp
            obtain ⟨u1, u2, u3, u4⟩ := til_mem HLT.out HSS.out.t p.1 m1
            have E0 := exd HLT.out u2 (by
              simp [isX] at m2
              unfold exOp
              omega)
            exact ⟨by omega, by rw [m3, E0.k]; exact HLT.out _⟩
          have HPM : Hid _ := hpsm
          have HCE : Hid _ := hcells16
          have HC16 : Hid _ := hcw16
          have HB16 : Hid _ := hB16
          have HEX : Hid _ := hcr4
          have HK16 : Hid _ := hk16
          subst hlv
          have hpl : ps.length ≤ 1048576 := by
            have h1 := parts_len cw len S []
            have h2 := HSS.out.l
            rw [HPS.out]; unfold partsOf; simp at h1; omega
          clear hcw16 hk16 hB16 hcells hcells16 hpsm hcr4 hrun16 r0 r1 r2 r3 r4 r5
          go_wp2
          go_loopw [91] (fun v wr => InL w16 C { I with sl := .slice a2 (c1.fill + len) cap2 } { c1 with fill := c1.fill + len, ws := fun i => if i < c1.fill then c1.ws i else cw (i - c1.fill), bl := fun z => if z = (pc : Int) then some ⟨c1.fill, len, q0, q1, q2, q3⟩ else c1.bl z } c1.ex c1.fill pc ps v wr) (fun v _ => ps.length - (intOf v).toNat)
          case atStart => exact ⟨0, rfl, Nat.zero_le _, HC16.out, Ch.refl _ _⟩
          case round =>
            obtain ⟨k, rfl, hk, hcw, hch⟩ := hrel
            have lwr := hch.size
            have lb2 := HC.out.m2.lt
            have hkr : ∀ j, w.heap.size ≤ j → j < w16.heap.size → wr.heap[j]? = w16.heap[j]? := fun j h1 h2 => hch.block j h2 (by have : I.b2 < w.heap.size := lb2; show ¬ (j = I.b2); omega)
            have hBr := (hkr wc.heap.size (by omega) (by omega)).trans HB16.out
            have rr0 := So.row_cell hBr 0
            simp at rr0
            have HWr : Hid _ := hcw
            have HCr : Hid _ := hch
            obtain ⟨_, _, _, _, z4⟩ := hcw.cell
            have lCr := hcw.own_lt C (.inl rfl)
            by_cases hkn : k < ps.length
            · obtain ⟨⟨p1, p2⟩, hp⟩ : ∃ p, ps[k]? = some p := ⟨_, List.getElem?_eq_getElem hkn⟩
              obtain ⟨g, rfl, ⟨hg1, hg2⟩, hcel⟩ := HCE.out (by omega)
              obtain ⟨x0, x1⟩ := hcel k (p1, p2) hp
              have hbg := hkr g hg1 hg2
              have y0 := (World.cell?_of_block (a := ⟨g, k * 2, none⟩) hbg).trans x0
              have y1 := (World.cell?_of_block (a := ⟨g, k * 2 + 1, none⟩) hbg).trans x1
              dsimp only at y0 y1
              obtain ⟨pm1, pm2⟩ := HPM.out (p1, p2) (List.mem_of_getElem? hp)
              dsimp only at pm1 pm2
              have g0 : (k : Int) < (ps.length : Int) := by omega
              have g1 : decide ((k : Int) < (ps.length : Int)) = true := decide_eq_true g0
              have g2 : (0 : Int) ≤ (k : Int) := by omega
              obtain ⟨kk, hkk⟩ : ∃ kk, c1.fill + p1 = kk := ⟨_, rfl⟩
              have t1 : IntKind.i64.wrap ((c1.fill : Int) + (p1 : Int)) = (kk : Int) := So.wr_add hkk (by omega)
              obtain ⟨k1, hk1⟩ : ∃ k1, k + 1 = k1 := ⟨_, rfl⟩
              have t2 : IntKind.i64.wrap ((k : Int) + 1) = (k1 : Int) := So.wr_one hk1 (by omega)
              have hal : Below wr.heap.size wr (wr.alloc (.cells #[.int .i64 p1, .int .u32 p2] 87)) := (Below.refl _ _).alloc (Nat.le_refl _) _
              have z4' := (hal.cell (p := ⟨C, 4, none⟩) lCr).trans z4
              have rr0' := (hal.cell (p := ⟨wc.heap.size, 0, none⟩) (by show wc.heap.size < _; omega)).trans rr0
              have hm2 : MW (wr.alloc (.cells #[.int .i64 p1, .int .u32 p2] 87)).drew 3 .i64 I.b2 (fE (insX c1.ex c1.fill pc (ps.take k))) := hcw.m2.keep (hal.block _ hcw.m2.lt)
              obtain ⟨w20, hrun20, hm20, hg20, hs20⟩ := hm2.put_run Try.underlying3 Try.underlying52 (fun z v hz => by
                obtain ⟨q, hq, _⟩ := fE_some hz
                rcases insX_of c1.fill pc _ _ _ _ hq with h1 | ⟨p', hp', e, _⟩
                · have := HEX.out z (eV q) (by simp [fE, h1]); omega
                · have := HPM.out p' (List.mem_of_mem_take hp'); omega) kk (wfI kk (by omega) (by omega)) (eV (pc, p2))
              rw [fE_put] at hm20
              unfold eV at hrun20
              dsimp only at hrun20
              have HM20 : Hid _ := hm20
              have HG20 : Hid _ := hg20
              have HS20 : Hid _ := hs20
              have HAL : Hid _ := hal
              have HKK : Hid _ := hkk
              have HK1 : Hid _ := hk1
              have HP : Hid _ := hp
              clear hcw hch hkr hBr hcel x0 x1 hbg hal hm2 hm20 hg20 hs20 hkk hk1 hp
              go_wp2
              go_region
              all_goals go_wp2
              all_goals go_roundw
              case rel =>
                refine ⟨k1, rfl, by have := HK1.out; omega, ?_, HCr.out.trans ((Ch.of_below _ HAL.out).trans ⟨HG20.out.os, HG20.out.tape, HG20.out.output, HG20.out.size, fun k hk e => HG20.out.block k hk (fun e' => e (by cases e'; rfl))⟩)⟩
                have h1 := (HWr.out.below HAL.out).m2set HM20.out ⟨HG20.out.os, HG20.out.tape, HG20.out.output, HG20.out.size, fun k hk e => HG20.out.block k hk (fun e' => e (by cases e'; rfl))⟩
                rw [← HK1.out, List.take_add_one, HP.out, Option.toList_some, insX_snoc]
                have := HKK.out
                subst this
                exact h1
              case measure => have := HK1.out; simp [intOf]; omega
            · have g0 : ¬ (k : Int) < (ps.length : Int) := by omega
              have g1 : decide ((k : Int) < (ps.length : Int)) = false := decide_eq_false g0
              have hke : ps.take k = ps := List.take_of_length_le (by omega)
              rw [hke] at HWr
              clear hcw hch hkr hBr hke
              go_wp2
              go_ret2
              obtain ⟨eq0, eq1, eq2, eq3⟩ := HQ.out
              refine ⟨.inr ⟨c1, S, .slice a2 (c1.fill + len) cap2, rfl, HSET.out, hl0, HSS.out, HBL.out, by omega, HOR.out, ?_, ?_, ?_⟩⟩
              · unfold insC
                rw [← HPS.out, eq0, eq1, eq2, eq3]
                exact HWr.out
              · rcases HAT.out with e | e
                · exact .inl (e.trans HO1.out)
                · exact .inr ⟨_, e, by omega⟩
              · have hA : Ch (Own C I) w W3 := Ch.of_below _ HBC.out
                have hB : Ch (Own C I) wc W14 := Ch.of_below _ HB14.out
                have hD : Ch (Own C I) W15 w16 := ⟨HG16.out.os, HG16.out.tape, HG16.out.output, HG16.out.size, fun k hk e => HG16.out.block k hk (fun e' => e (by cases e'; exact .inr (.inr (.inl rfl))))⟩
                exact ((((hA.trans HCH1.out).trans hB).trans HCH15.out).trans hD).trans (HCr.out.mono fun i _ e => .inr (.inr (.inr (.inl e))))
end Go.Proofs.Ytgkkghphlbgcoaa.Ca
