import Derived.Test.YtgkkghphlbgcoaaProg
import Derived.Test.YtgkkghphlbgcoaaCE
import Derived.WalkKit
import Derived.Maps.OwnSet
import Derived.Maps.RangeWalk
import Derived.Maps.Ext
import Derived.Laws.CopyOwn
import Derived.MapFrom
import Derived.Deep.RegionLaw
namespace Go.Proofs.Ytgkkghphlbgcoaa.Ca
open Go.RowKit Go.Maps
set_option maxRecDepth 100000
set_option linter.unusedVariables false
set_option linter.unusedSimpArgs false
/-- A map's values as they stand. -/
def RV (v : Value) : Option (DataW Value × List MemPlace) := some (.held v, [])
/-- What a map reads as, by its keys. -/
structure Mp (q : IntKind) (D : DataW Value) (f : Int → Option Value) : Prop where
  hit : ∀ k v, f k = some v → (Lit.int q k).wf = true ∧ has D (.int q k) = true ∧ ∀ z, D.atKey (.int q k) z = .held v
  miss : ∀ k, f k = none → has D (.int q k) = false
def upd (f : Int → Option Value) (k : Int) (v : Option Value) : Int → Option Value := fun x => if x = k then v else f x
theorem lit_ne {q : IntKind} {a b : Int} (h : a ≠ b) : Lit.int q a ≠ Lit.int q b := fun e => h (by injection e)
theorem Mp.has_eq {q : IntKind} {D : DataW Value} {f : Int → Option Value} (h : Mp q D f) (k : Int) : has D (.int q k) = (f k).isSome := by
  cases e : f k with
  | none => rw [h.miss k e]; rfl
  | some v => rw [(h.hit k v e).2.1]; rfl
theorem Mp.at_eq {q : IntKind} {D : DataW Value} {f : Int → Option Value} (h : Mp q D f) (k : Int) (Z : Value) : D.atKey (.int q k) (.held Z) = .held ((f k).getD Z) := by
  cases e : f k with
  | none => rw [atKey_of_not_has (h.miss k e)]; rfl
  | some v => rw [(h.hit k v e).2.2]; rfl
theorem Mp.nil (q : IntKind) : Mp q (.map []) (fun _ => none) := ⟨fun _ _ h => by simp at h, fun _ _ => rfl⟩
theorem Mp.put {q : IntKind} {D : DataW Value} {f : Int → Option Value} (h : Mp q D f) (hD : IsMap D) (k : Int) (hw : (Lit.int q k).wf = true) (v : Value) : Mp q (D.put (.int q k) (.held v)) (upd f k (some v)) := by
  refine ⟨fun x u hx => ?_, fun x hx => ?_⟩
  · unfold upd at hx
    split at hx
    · next e =>
      subst e; cases hx
      exact ⟨hw, has_put_same (k := .int q x) hD trivial _, fun z => atKey_put_same (k := .int q x) hD trivial _ z⟩
    · next e =>
      obtain ⟨h1, h2, h3⟩ := h.hit x u hx
      exact ⟨h1, by rw [has_put_other (lit_ne e)]; exact h2, fun z => by rw [atKey_put_other (lit_ne e)]; exact h3 z⟩
  · unfold upd at hx
    split at hx
    · cases hx
    · next e => rw [has_put_other (lit_ne e)]; exact h.miss x hx
theorem Mp.del {q : IntKind} {D : DataW Value} {f : Int → Option Value} (h : Mp q D f) (k : Int) : Mp q (D.del (.int q k)) (upd f k none) := by
  refine ⟨fun x u hx => ?_, fun x hx => ?_⟩
  · unfold upd at hx
    split at hx
    · cases hx
    · next e =>
      obtain ⟨h1, h2, h3⟩ := h.hit x u hx
      exact ⟨h1, by rw [has_del_other (lit_ne e)]; exact h2, fun z => by rw [atKey_del_other (lit_ne e)]; exact h3 z⟩
  · unfold upd at hx
    split at hx
    · next e => subst e; exact has_del_same
    · next e => rw [has_del_other (lit_ne e)]; exact h.miss x hx
/-- Block b is the map f. -/
structure MW (w : World) (K : TypeId) (q : IntKind) (b : Nat) (f : Int → Option Value) : Prop where
  ex : ∃ n D, w.ownsMap Try.prog K RV b n D ∧ Mp q D f
theorem MW.lt {w : World} {K : TypeId} {q : IntKind} {b : Nat} {f : Int → Option Value} (h : MW w K q b f) : b < w.heap.size := let ⟨_, _, h1, _⟩ := h; h1.lt
theorem MW.keep {w w' : World} {K : TypeId} {q : IntKind} {b : Nat} {f : Int → Option Value} (h : MW w K q b f) (hk : w'.heap[b]? = w.heap[b]?) : MW w' K q b f := by
  obtain ⟨n, D, ⟨es, clock, hb, r⟩, hm⟩ := h
  exact ⟨n, D, ⟨es, clock, hk.trans hb, r⟩, hm⟩
theorem rise_len : ∀ (l : List Int) (a M : Int), l.Pairwise (· < ·) → (∀ x ∈ l, a ≤ x ∧ x < M) → l ≠ [] → (l.length : Int) ≤ M - a
  | [], _, _, _, _, h => absurd rfl h
  | [x], a, M, _, hb, _ => by have := hb x (by simp); simp; omega
  | x :: y :: l, a, M, hp, hb, _ => by
    have h1 := hb x (by simp)
    have h2 := rise_len (y :: l) (x + 1) M (List.pairwise_cons.1 hp).2 (fun z hz => ⟨by have := (List.pairwise_cons.1 hp).1 z hz; omega, (hb z (by simp [List.mem_cons.1 hz])).2⟩) (by simp)
    simp only [List.length_cons] at h2 ⊢
    omega
/-- The keys of a map: rising numbers. -/
theorem own_keys {w : World} {K : TypeId} {q : IntKind} {b n : Nat} {D : DataW Value} (hK : Try.prog.underlying K = some (.int q)) (h : w.ownsMap Try.prog K RV b n D) :
    ∃ (l : List Int) (es : List (Lit × DataW Value)), D = .map es ∧ es.map Prod.fst = l.map (Lit.int q) ∧ l.Pairwise (· < ·) ∧ w.ownsMap Try.prog K RV b l.length D ∧ size D = l.length := by
  obtain ⟨es0, hD0, hr, hkl⟩ := h.canon (int_keyed hK)
  obtain ⟨es, clock, hb, F, hs, hD⟩ := h
  have hk : ∀ p ∈ es0, ∃ x, p.1 = Lit.int q x := by
    intro p hp
    rw [hD] at hD0
    injection hD0 with hD0
    have hp' : p ∈ es.toList.map (Go.WideElems.rg Try.prog K RV) := by rw [← hD0] at hp; exact mem_sorted.1 hp
    obtain ⟨v, hv⟩ := fit_keys F p hp'
    obtain ⟨x, _, h2, _⟩ := keyOf_int_inv hK hv
    exact ⟨x, h2⟩
  have hl : ∃ l : List Int, es0.map Prod.fst = l.map (Lit.int q) := by
    clear hr hD0 hkl
    induction es0 with
    | nil => exact ⟨[], rfl⟩
    | cons p r ih =>
      obtain ⟨l, hl⟩ := ih (fun z hz => hk z (List.mem_cons_of_mem _ hz))
      obtain ⟨x, hx⟩ := hk p List.mem_cons_self
      exact ⟨x :: l, by simp [hx, hl]⟩
  obtain ⟨l, hl⟩ := hl
  have hlen : es0.length = l.length := by have := congrArg List.length hl; simpa using this
  refine ⟨l, es0, hD0, hl, ?_, ⟨es, clock, hb, F, ?_, hD⟩, by rw [hD0]; exact hlen⟩
  · have h1 : (es0.map Prod.fst).Pairwise (fun a b => a.before b = true) := List.pairwise_map.2 hr
    rw [hl] at h1
    have h2 := List.pairwise_map.1 h1
    exact h2.imp (fun {a b} hab => by simpa [Lit.before] using hab)
  · have h1 := length_read (P := Try.prog) (k := K) (R0 := RV) es
    rw [hD0] at hD
    injection hD with hD
    rw [← hD] at h1
    omega
theorem mem_keys {q : IntKind} {D : DataW Value} {f : Int → Option Value} {l : List Int} {es : List (Lit × DataW Value)} (h : Mp q D f) (hD : D = .map es) (hl : es.map Prod.fst = l.map (Lit.int q)) (k : Int) : k ∈ l ↔ (f k).isSome = true := by
  rw [← h.has_eq k, hD, has_eq]
  have e : es.any (fun p => p.1.sameKey (.int q k)) = (es.map Prod.fst).any (fun p => p.sameKey (.int q k)) := by simp [List.any_map]; rfl
  rw [e, hl, List.any_map, List.any_eq_true]
  constructor
  · intro hk
    exact ⟨k, hk, by simp [Lit.sameKey]⟩
  · rintro ⟨x, hx, he⟩
    have := WideAt.sameKey_eq (a := .int q x) (b := .int q k) he
    injection this with _ e2
    exact e2 ▸ hx
theorem MW.room {w : World} {K : TypeId} {q : IntKind} {b : Nat} {f : Int → Option Value} (hK : Try.prog.underlying K = some (.int q)) (h : MW w K q b f) (hf : ∀ k v, f k = some v → 0 ≤ k ∧ k < 4611686018427387904) :
    ∃ n D, w.ownsMap Try.prog K RV b n D ∧ Mp q D f ∧ n < maxLen := by
  obtain ⟨n, D, ho, hm⟩ := h
  obtain ⟨l, es, hD, hl, hp, ho', _⟩ := own_keys hK ho
  refine ⟨_, D, ho', hm, ?_⟩
  have e : maxLen = 9223372036854775807 := by decide
  rw [e]
  by_cases h0 : l = []
  · rw [h0]; decide
  · have := rise_len l 0 4611686018427387904 hp (fun x hx => by
      have := (mem_keys hm hD hl x).1 hx
      obtain ⟨v, hv⟩ := Option.isSome_iff_exists.1 this
      exact hf x v hv) h0
    omega
/-- How many entries. -/
theorem MW.size {w : World} {K : TypeId} {q : IntKind} {b : Nat} {f : Int → Option Value} (hK : Try.prog.underlying K = some (.int q)) (h : MW w K q b f) (l : List Int) (hn : l.Nodup) (hl : ∀ k, k ∈ l ↔ (f k).isSome = true) :
    ∃ n D, w.ownsMap Try.prog K RV b n D ∧ Mp q D f ∧ Maps.size D = l.length := by
  obtain ⟨n, D, ho, hm⟩ := h
  obtain ⟨l', es, hD, hl', hp, ho', hs⟩ := own_keys hK ho
  refine ⟨n, D, ho, hm, hs.trans ?_⟩
  have hn' : l'.Nodup := hp.imp (fun h => by omega)
  exact ((List.perm_ext_iff_of_nodup hn' hn).2 (fun k => (mem_keys hm hD hl' k).trans (hl k).symm)).length_eq
theorem MW.finite {w : World} {K : TypeId} {q : IntKind} {b : Nat} {f : Int → Option Value} (hK : Try.prog.underlying K = some (.int q)) (h : MW w K q b f) : ∃ l : List Int, l.Pairwise (· < ·) ∧ ∀ k, k ∈ l ↔ (f k).isSome = true := by
  obtain ⟨n, D, ho, hm⟩ := h
  obtain ⟨l', es, hD, hl', hp, ho', hs⟩ := own_keys hK ho
  exact ⟨l', hp, mem_keys hm hD hl'⟩
section
variable (w : World) {ops : Array Oper} {rest : List Oper} {o : Oper} {a : Act} {Q : Exit → Act → World → Prop}
theorem wpList_look (hg : o.guard = none) (m x : Operand) (t : TypeId) (hop : o.op = Op.lookup t m x true) (k e : TypeId) (q : IntKind) (hk : Try.prog.underlying k = some (.int q)) (ht : Try.prog.underlying t = some (.map k e)) {Z : Value} (hz : (zeroValue e).run Try.prog w = .ok Z w)
    (b : Nat) (f : Int → Option Value) (hm : a.eval m = .map (some b)) (h : MW w k q b f) (i : Int) (hx : a.eval x = .int q i) (hi : (Lit.int q i).wf = true) (v : Value) (c : Bool) (hv : (f i).getD Z = v) (hc : (f i).isSome = c)
    (hK : wpList Try.prog ops Q rest (a.put o.dst (.tuple #[v, .bool c])) w) : wpList Try.prog ops Q (o :: rest) a w := by
  obtain ⟨n, D, ho, hmp⟩ := h
  refine wpList_lookup_own_ok w hg m x t hop k e (int_keyed hk) ht RV hz (.held Z) [] rfl b n D hm ho _ _ hx (keyOf_int_mk hk hi) ?_
  intro u ps hu
  rw [hmp.at_eq, hv] at hu
  rw [hmp.has_eq, hc]
  obtain rfl : u = v := by simp [RV] at hu; exact hu.1
  exact hK
theorem wpList_put (hg : o.guard = none) (m x v : Operand) (t : TypeId) (hop : o.op = Op.mapUpdate t m x v) (k e : TypeId) (q : IntKind) (hk : Try.prog.underlying k = some (.int q)) (ht : Try.prog.underlying t = some (.map k e))
    (b : Nat) (f : Int → Option Value) (hm : a.eval m = .map (some b)) (h : MW w k q b f) (hf : ∀ k v, f k = some v → 0 ≤ k ∧ k < 4611686018427387904) (i : Int) (hx : a.eval x = .int q i) (hi : (Lit.int q i).wf = true) (u : Value) (hv : a.eval v = u)
    (hK : ∀ w', MW w' k q b (upd f i (some u)) → w.grownBy w' (some b) → w'.heap.size = w.heap.size → wpList Try.prog ops Q rest (a.put o.dst undef) w') : wpList Try.prog ops Q (o :: rest) a w := by
  obtain ⟨n, D, ho, hmp, hn⟩ := h.room hk hf
  refine wpList_mapUpdate_in w hg m x v t hop k e (int_keyed hk) ht RV b n D hm ho hn _ _ _ hx hv (keyOf_int_mk hk hi) (.held u) [] rfl ?_
  intro w' ho' ht'
  refine hK w' ⟨_, _, ho', hmp.put ho.isMap i hi u⟩ ht'.grown ?_
  obtain ⟨_, _, _, _, _, rfl⟩ := ht'
  simp [ChangeMaps.setBlock]
theorem wpList_del (hg : o.guard = none) (m x : Operand) (t k : TypeId) (hop : o.op = Op.call { callee := Callee.builtin Builtin.delete, args := #[m, x], argTypes := #[t, k] }) (e : TypeId) (q : IntKind) (hk : Try.prog.underlying k = some (.int q)) (ht : Try.prog.underlying t = some (.map k e))
    (b : Nat) (f : Int → Option Value) (hm : a.eval m = .map (some b)) (h : MW w k q b f) (i : Int) (hx : a.eval x = .int q i) (hi : (Lit.int q i).wf = true)
    (hK : ∀ w', MW w' k q b (upd f i none) → w.grownBy w' (some b) → w'.heap.size = w.heap.size → wpList Try.prog ops Q rest (a.put o.dst (.tuple #[])) w') : wpList Try.prog ops Q (o :: rest) a w := by
  obtain ⟨n, D, ho, hmp⟩ := h
  refine wpList_delete_own w hg m x t k hop e (int_keyed hk) ht RV b n D hm ho _ _ hx (keyOf_int_mk hk hi) ?_
  intro w' ho' ht'
  refine hK w' ⟨_, _, ho', hmp.del i⟩ ht'.grown ?_
  obtain ⟨_, _, _, _, _, rfl⟩ := ht'
  simp [ChangeMaps.setBlock]
theorem wpList_mlen (hg : o.guard = none) (m : Operand) (t : TypeId) (hop : o.op = Op.call { callee := Callee.builtin Builtin.len, args := #[m], argTypes := #[t] }) (k e : TypeId) (q : IntKind) (hk : Try.prog.underlying k = some (.int q)) (ht : Try.prog.underlying t = some (.map k e))
    (b : Nat) (f : Int → Option Value) (hm : a.eval m = .map (some b)) (h : MW w k q b f) (l : List Int) (hn : l.Nodup) (hl : ∀ k, k ∈ l ↔ (f k).isSome = true) (c : Int) (hc : (l.length : Int) = c)
    (hK : wpList Try.prog ops Q rest (a.put o.dst (.int .i64 c)) w) : wpList Try.prog ops Q (o :: rest) a w := by
  obtain ⟨n, D, ho, hmp, hs⟩ := h.size hk l hn hl
  refine wpList_len_own w hg m t hop k e ht RV b n D hm ho ?_
  rw [hs, hc]
  exact hK
/-- A range over a map under way: lf: what is still to come. -/
structure RG (w : World) (K : TypeId) (q : IntKind) (b r : Nat) (f : Int → Option Value) (lf : Int → Bool) (cnt : Nat) : Prop where
  ex : ∃ n D left, w.ranges Try.prog K RV b r n D left cnt ∧ Mp q D f ∧ ∀ k, left (.int q k) = lf k
theorem RG.mw {w : World} {K : TypeId} {q : IntKind} {b r : Nat} {f : Int → Option Value} {lf : Int → Bool} {cnt : Nat} (h : RG w K q b r f lf cnt) : MW w K q b f := let ⟨n, D, _, h1, h2, _⟩ := h; ⟨n, D, h1.owns, h2⟩
theorem RG.left_eq {w : World} {K : TypeId} {q : IntKind} {b r : Nat} {f : Int → Option Value} {lf : Int → Bool} {cnt : Nat} (h : RG w K q b r f lf cnt) : w.rangeLeft b r = cnt := let ⟨_, _, _, h1, _, _⟩ := h; h1.left_eq
theorem RG.ne {w : World} {K : TypeId} {q : IntKind} {b r : Nat} {f : Int → Option Value} {lf : Int → Bool} {cnt : Nat} (h : RG w K q b r f lf cnt) : r ≠ b := let ⟨_, _, _, h1, _, _⟩ := h; h1.ne
theorem RG.lt {w : World} {K : TypeId} {q : IntKind} {b r : Nat} {f : Int → Option Value} {lf : Int → Bool} {cnt : Nat} (h : RG w K q b r f lf cnt) : r < w.heap.size := let ⟨_, _, _, h1, _, _⟩ := h; h1.lt
theorem RG.keep {w w' : World} {K : TypeId} {q : IntKind} {b r : Nat} {f : Int → Option Value} {lf : Int → Bool} {cnt : Nat} (h : RG w K q b r f lf cnt) (hb : w'.heap[b]? = w.heap[b]?) (hr : w'.heap[r]? = w.heap[r]?) : RG w' K q b r f lf cnt := by
  obtain ⟨n, D, left, ⟨es, clock, since, seen, c0, h1, h2, h3, h4, h5, h6⟩, hm, hl⟩ := h
  exact ⟨n, D, left, ⟨es, clock, since, seen, c0, hb.trans h1, h2, h3, h4, hr.trans h5, h6⟩, hm, hl⟩
theorem wpList_rng (hg : o.guard = none) (m : Operand) (t : TypeId) (hop : o.op = Op.range t m) (k e : TypeId) (q : IntKind) (hk : Try.prog.underlying k = some (.int q)) (ht : Try.prog.underlying t = some (.map k e))
    (b : Nat) (f : Int → Option Value) (hm : a.eval m = .map (some b)) (h : MW w k q b f)
    (hK : ∀ w' cnt, RG w' k q b w.heap.size f (fun i => (f i).isSome) cnt → w.grownBy w' none → w'.heap.size = w.heap.size + 1 → wpList Try.prog ops Q rest (a.put o.dst (.pointer (some ⟨w.heap.size, 0, none⟩))) w') : wpList Try.prog ops Q (o :: rest) a w := by
  obtain ⟨n, D, ho, hmp⟩ := h
  refine wpList_range_own w hg m t hop k e (int_keyed hk) ht RV b n D hm ho ?_
  intro w' h1 h2 h3
  exact hK w' _ ⟨n, D, _, h1, hmp, fun i => hmp.has_eq i⟩ h2 h3
theorem wpList_nxt (hg : o.guard = none) (it : Operand) (hop : o.op = Op.next it false) (k : TypeId) (q : IntKind) (hk : Try.prog.underlying k = some (.int q))
    (b r : Nat) (f : Int → Option Value) (lf : Int → Bool) (cnt : Nat) (hit : a.eval it = .pointer (some ⟨r, 0, none⟩)) (h : RG w k q b r f lf cnt)
    (hDone : (∀ i, lf i = false) → wpList Try.prog ops Q rest (a.put o.dst (.tuple #[.bool false])) w)
    (hMore : ∀ (i : Int) (v : Value) (w' : World) (cnt' : Nat), lf i = true → f i = some v → (Lit.int q i).wf = true → RG w' k q b r f (fun z => lf z && !decide (z = i)) cnt' → cnt' < cnt → w.grownBy w' (some r) → w'.heap.size = w.heap.size → (Instr.entry (.pointer (some ⟨r, 0, none⟩))).run Try.prog w' = .ok (.tuple #[.int q i, v]) w' →
      wpList Try.prog ops Q rest (a.put o.dst (.tuple #[.bool true, .int q i, v])) w') : wpList Try.prog ops Q (o :: rest) a w := by
  obtain ⟨n, D, left, hr, hmp, hl⟩ := h
  refine wpList_next_ranges w hg it hop k (int_keyed hk) RV (Value.int q) id (fun key kl hkey => by obtain ⟨x, rfl, _⟩ := keyOf_int_inv hk hkey; exact ⟨x, rfl⟩) (fun v y _ => ⟨v, rfl⟩) b r n D left cnt hit hr (fun h0 h1 => hDone fun i => (hl i).symm.trans (h1 _)) ?_
  intro x v kl y w' cnt' hkey hlk hv hat hrg hlt hg1 hs hen
  obtain ⟨x', e1, rfl, hwf⟩ := keyOf_int_inv hk hkey
  cases e1
  have hy : y.1 = .held v := by simp [RV] at hv; rw [← hv]
  have hh : has D (.int q x) = true := has_true_of_atKey (y := y.1) hat
  have hf : f x = some v := by
    have h1 := hmp.has_eq x
    rw [hh] at h1
    obtain ⟨v', hv'⟩ := Option.isSome_iff_exists.1 h1.symm
    have h2 := (hmp.hit x v' hv').2.2 .nil
    rw [hat .nil, hy] at h2
    injection h2 with h2
    rw [hv', h2]
  refine hMore x v w' cnt' ((hl x).symm.trans hlk) hf hwf ⟨n, D, _, hrg, hmp, fun i => ?_⟩ hlt hg1 hs hen
  simp only [hl]
  by_cases e : i = x
  · subst e; simp [Lit.sameKey]
  · simp [Lit.sameKey, e]
theorem wpList_delr (hg : o.guard = none) (m x : Operand) (t k : TypeId) (hop : o.op = Op.call { callee := Callee.builtin Builtin.delete, args := #[m, x], argTypes := #[t, k] }) (e : TypeId) (q : IntKind) (hk : Try.prog.underlying k = some (.int q)) (ht : Try.prog.underlying t = some (.map k e))
    (b r : Nat) (f : Int → Option Value) (lf : Int → Bool) (cnt : Nat) (hm : a.eval m = .map (some b)) (h : RG w k q b r f lf cnt) (i : Int) (hx : a.eval x = .int q i) (hi : (Lit.int q i).wf = true) (hli : lf i = false)
    (hK : ∀ w' cnt', RG w' k q b r (upd f i none) lf cnt' → cnt' ≤ cnt → w.grownBy w' (some b) → w'.heap.size = w.heap.size → wpList Try.prog ops Q rest (a.put o.dst (.tuple #[])) w') : wpList Try.prog ops Q (o :: rest) a w := by
  obtain ⟨n, D, left, hr, hmp, hl⟩ := h
  refine wpList_delete_ranges w hg m x t k hop e (int_keyed hk) ht RV b r n D left cnt hm hr _ _ hx (keyOf_int_mk hk hi) ?_
  intro w' cnt' h1 h2 h3
  refine hK w' cnt' ⟨n, _, _, h1, hmp.del i, fun j => ?_⟩ h2 h3.grown ?_
  · simp only [hl]
    by_cases e : j = i
    · subst e; simp [hli]
    · simp [Lit.sameKey, e]
  · obtain ⟨_, _, _, _, _, rfl⟩ := h3
    simp [ChangeMaps.setBlock]
end
theorem MW.look_run {w : World} {k e t : TypeId} {q : IntKind} {b : Nat} {f : Int → Option Value} (h : MW w k q b f) (hk : Try.prog.underlying k = some (.int q)) (ht : Try.prog.underlying t = some (.map k e)) {Z : Value} (hz : (zeroValue e).run Try.prog w = .ok Z w) (i : Int) (hi : (Lit.int q i).wf = true) (v : Value) (c : Bool) (hv : (f i).getD Z = v) (hc : (f i).isSome = c) :
    (Instr.lookup t (.map (some b)) (.int q i) true).run Try.prog w = .ok (.tuple #[v, .bool c]) w := by
  obtain ⟨n, D, ho, hmp⟩ := h
  obtain ⟨u, ps, hrun, hu⟩ := ho.look_ok (int_keyed hk) ht hz (zd := .held Z) (zp := []) rfl (keyOf_int_mk hk hi)
  rw [hmp.at_eq, hv] at hu
  rw [hmp.has_eq, hc] at hrun
  obtain rfl : u = v := by simp [RV] at hu; exact hu.1
  exact hrun
theorem MW.put_run {w : World} {k e t : TypeId} {q : IntKind} {b : Nat} {f : Int → Option Value} (h : MW w k q b f) (hk : Try.prog.underlying k = some (.int q)) (ht : Try.prog.underlying t = some (.map k e)) (hf : ∀ k v, f k = some v → 0 ≤ k ∧ k < 4611686018427387904) (i : Int) (hi : (Lit.int q i).wf = true) (u : Value) :
    ∃ w', (Instr.mapUpdate t (.map (some b)) (.int q i) u).run Try.prog w = .ok () w' ∧ MW w' k q b (upd f i (some u)) ∧ w.grownBy w' (some b) ∧ w'.heap.size = w.heap.size := by
  obtain ⟨n, D, ho, hmp, hn⟩ := h.room hk hf
  obtain ⟨w', hrun, ho', ht'⟩ := ho.store (int_keyed hk) ht hn (keyOf_int_mk hk hi) (d := .held u) (ps := []) rfl
  refine ⟨w', hrun, ⟨_, _, ho', hmp.put ho.isMap i hi u⟩, ht'.grown, ?_⟩
  obtain ⟨_, _, _, _, _, rfl⟩ := ht'
  simp [ChangeMaps.setBlock]
theorem MW.made (w : World) (K : TypeId) (q : IntKind) : MW (w.alloc (.map #[] 0)) K q w.heap.size (fun _ => none) := ⟨0, _, World.ownsMap_made w Try.prog K RV, Mp.nil q⟩
end Go.Proofs.Ytgkkghphlbgcoaa.Ca
namespace Go.Proofs.Ytgkkghphlbgcoaa.Ca
open Go.RowKit Go.Maps
set_option maxRecDepth 100000
set_option linter.unusedVariables false
set_option linter.unusedSimpArgs false
/-- Where a block of code lies; its pages. -/
structure Bl where
  bg : Nat
  sz : Nat
  q0 : Nat
  q1 : Nat
  q2 : Nat
  q3 : Nat
def bV (b : Bl) : Value := .agg #[.int .i64 b.bg, .int .i64 b.sz, .int .u64 b.q0, .int .u64 b.q1, .int .u64 b.q2, .int .u64 b.q3]
def eV (e : Nat × Nat) : Value := .agg #[.int .u32 e.1, .int .u32 e.2]
/-- The cache, plain. -/
structure Cs where
  room : Nat
  fill : Nat
  slots : Nat
  ws : Nat → Nat
  tp : Nat → Nat
  ta : Nat → Int
  bl : Int → Option Bl
  ex : Int → Option (Nat × Nat)
structure Ids where
  sl : Value
  tb : Nat
  tc : Nat
  b1 : Nat
  b2 : Nat
/-- The words. -/
structure Wb (w : World) (sl : Value) (n : Nat) (ws : Nat → Nat) : Prop where
  lt : ∀ i, ws i < 4294967296
  row : (sl = .slice none 0 0 ∧ n = 0) ∨ ∃ g cap cur, sl = .slice (some ⟨g, 0, none⟩) n cap ∧ w.heap[g]? = some (.cells cur 30) ∧ n ≤ cap ∧ cap ≤ maxLen ∧ cur.size = cap ∧ ∀ i, i < n → cur[i]? = some (.int .u32 (ws i))
/-- The table. -/
structure Tb (w : World) (tb n : Nat) (tp : Nat → Nat) (ta : Nat → Int) : Prop where
  c : ∃ A, w.heap[tb]? = some (.cells A 56) ∧ A.size = n * 2 ∧ ∀ k, k < n → A[k * 2]? = some (.int .u32 (tp k)) ∧ A[k * 2 + 1]? = some (.int .i64 (ta k))
def Own (C : Nat) (I : Ids) (k : Nat) : Prop := k = C ∨ k = I.tb ∨ k = I.b1 ∨ k = I.b2 ∨ I.sl.ownBlock = some k
def fB (bl : Int → Option Bl) : Int → Option Value := fun k => (bl k).map bV
def fE (ex : Int → Option (Nat × Nat)) : Int → Option Value := fun k => (ex k).map eV
structure Cw (w : World) (C : Nat) (I : Ids) (c : Cs) : Prop where
  c0 : w.heap[C]? = some (.cells #[.int .i64 c.room, I.sl, .slice (some ⟨I.tb, 0, none⟩) c.slots I.tc, .map (some I.b1), .map (some I.b2)] 54)
  wb : Wb w I.sl c.fill c.ws
  tb : Tb w I.tb c.slots c.tp c.ta
  m1 : MW w 30 .u32 I.b1 (fB c.bl)
  m2 : MW w 3 .i64 I.b2 (fE c.ex)
  rm : 1 ≤ c.room ∧ c.room ≤ 1048576 ∧ c.fill ≤ c.room
  st : 1 ≤ c.slots ∧ c.slots ≤ 65536 ∧ c.slots ≤ I.tc
  ne : C ≠ I.tb ∧ C ≠ I.b1 ∧ C ≠ I.b2 ∧ I.tb ≠ I.b1 ∧ I.tb ≠ I.b2 ∧ I.b1 ≠ I.b2
  ns : ∀ k, I.sl.ownBlock = some k → k ≠ C ∧ k ≠ I.tb ∧ k ≠ I.b1 ∧ k ≠ I.b2
/-- What may change: blocks of p. -/
structure Ch (p : Nat → Prop) (w w' : World) : Prop where
  os : w'.os = w.os
  tape : w'.tape = w.tape
  output : w'.output = w.output
  size : w.heap.size ≤ w'.heap.size
  block : ∀ k, k < w.heap.size → ¬ p k → w'.heap[k]? = w.heap[k]?
theorem Ch.refl (p : Nat → Prop) (w : World) : Ch p w w := ⟨rfl, rfl, rfl, Nat.le_refl _, fun _ _ _ => rfl⟩
theorem Ch.trans {p : Nat → Prop} {a b c : World} (h : Ch p a b) (k : Ch p b c) : Ch p a c :=
  ⟨k.os.trans h.os, k.tape.trans h.tape, k.output.trans h.output, Nat.le_trans h.size k.size, fun i hi hs => (k.block i (Nat.lt_of_lt_of_le hi h.size) hs).trans (h.block i hi hs)⟩
/-- One step more, that may change new blocks and those of p. -/
theorem Ch.step {p q : Nat → Prop} {a b c : World} (h : Ch p a b) (k : Ch q b c) (hq : ∀ i, i < a.heap.size → q i → p i) : Ch p a c :=
  ⟨k.os.trans h.os, k.tape.trans h.tape, k.output.trans h.output, Nat.le_trans h.size k.size, fun i hi hs => (k.block i (Nat.lt_of_lt_of_le hi h.size) (fun e => hs (hq i hi e))).trans (h.block i hi hs)⟩
theorem Ch.mono {p q : Nat → Prop} {a b : World} (h : Ch p a b) (hq : ∀ i, i < a.heap.size → p i → q i) : Ch q a b := ⟨h.os, h.tape, h.output, h.size, fun i hi hs => h.block i hi (fun e => hs (hq i hi e))⟩
theorem Ch.of_below {w w' : World} (p : Nat → Prop) (h : Below w.heap.size w w') : Ch p w w' := ⟨h.os, h.tape, h.output, h.size, fun k hk _ => h.block k hk⟩
theorem Ch.below {p : Nat → Prop} {w w' : World} {n : Nat} (h : Ch p w w') (hn : n ≤ w.heap.size) (hp : ∀ k, p k → n ≤ k) : Below n w w' :=
  ⟨h.os, h.tape, h.output, h.size, fun k hk => h.block k (by omega) (fun e => by have := hp k e; omega)⟩
theorem Ch.grown {w w' : World} {b : Nat} (p : Nat → Prop) (h : w.grownBy w' (some b)) (hb : p b) : Ch p w w' := ⟨h.os, h.tape, h.output, h.size, fun k hk hs => h.block k hk (fun e => hs (by cases e; exact hb))⟩
theorem Ch.grown0 {w w' : World} (p : Nat → Prop) (h : w.grownBy w' none) : Ch p w w' := ⟨h.os, h.tape, h.output, h.size, fun k hk hs => h.block k hk (by simp)⟩
theorem Ch.set {p : Nat → Prop} {a b : World} (h : Ch p a b) {B : Nat} (hB : p B) (o : Nat) (v : Value) : Ch p a (b.setCell ⟨B, o, none⟩ v) :=
  h.trans ⟨rfl, rfl, rfl, by simp, fun k _ hs => Below.heap_setCell b ⟨B, o, none⟩ v k (fun e => hs (by rw [e]; exact hB))⟩
theorem Ch.drew {p : Nat → Prop} {a b : World} (h : Ch p a b) : Ch p a b.drew := ⟨h.os, h.tape, h.output, h.size, h.block⟩
theorem Ch.drN {p : Nat → Prop} {a b : World} (h : Ch p a b) (n : Nat) : Ch p a (b.drewN n) := ⟨h.os, h.tape, h.output, h.size, h.block⟩
theorem Ch.alloc {p : Nat → Prop} {a b : World} (h : Ch p a b) (o : Obj) : Ch p a (b.alloc o) := h.trans (Ch.of_below _ ((Below.refl _ _).alloc (Nat.le_refl _) _))
theorem bDN {n : Nat} {a b : World} (h : Below n a b) (k : Nat) : Below n a (b.drewN k) := ⟨h.os, h.tape, h.output, h.size, h.block⟩
theorem Wb.lt' {w : World} {sl : Value} {n : Nat} {ws : Nat → Nat} (h : Wb w sl n ws) (k : Nat) (hk : sl.ownBlock = some k) : k < w.heap.size := by
  rcases h.row with ⟨rfl, _⟩ | ⟨g, cap, cur, rfl, hg, _⟩
  · cases hk
  · cases hk; exact So.row_lt hg
theorem Wb.keep {w w' : World} {sl : Value} {n : Nat} {ws : Nat → Nat} (h : Wb w sl n ws) (hk : ∀ k, sl.ownBlock = some k → w'.heap[k]? = w.heap[k]?) : Wb w' sl n ws := by
  refine ⟨h.lt, ?_⟩
  rcases h.row with h1 | ⟨g, cap, cur, rfl, hg, r⟩
  · exact .inl h1
  · exact .inr ⟨g, cap, cur, rfl, (hk g rfl).trans hg, r⟩
theorem Tb.lt {w : World} {tb n : Nat} {tp : Nat → Nat} {ta : Nat → Int} (h : Tb w tb n tp ta) : tb < w.heap.size := let ⟨_, hA, _⟩ := h.c; So.row_lt hA
theorem Cw.own_lt {w : World} {C : Nat} {I : Ids} {c : Cs} (h : Cw w C I c) (k : Nat) (hk : Own C I k) : k < w.heap.size := by
  rcases hk with rfl | rfl | rfl | rfl | e
  · exact So.row_lt h.c0
  · exact h.tb.lt
  · exact h.m1.lt
  · exact h.m2.lt
  · exact h.wb.lt' k e
theorem Cw.keep {w w' : World} {C : Nat} {I : Ids} {c : Cs} (h : Cw w C I c) (hk : ∀ k, Own C I k → w'.heap[k]? = w.heap[k]?) : Cw w' C I c := by
  obtain ⟨A, hA, r⟩ := h.tb.c
  exact ⟨(hk _ (.inl rfl)).trans h.c0, h.wb.keep fun k e => hk k (.inr (.inr (.inr (.inr e)))), ⟨A, (hk _ (.inr (.inl rfl))).trans hA, r⟩, h.m1.keep (hk _ (.inr (.inr (.inl rfl)))), h.m2.keep (hk _ (.inr (.inr (.inr (.inl rfl))))), h.rm, h.st, h.ne, h.ns⟩
theorem Cw.below {w w' : World} {C : Nat} {I : Ids} {c : Cs} (h : Cw w C I c) (hb : Below w.heap.size w w') : Cw w' C I c := h.keep fun k hk => hb.block k (h.own_lt k hk)
theorem Cw.ch {p : Nat → Prop} {w w' : World} {C : Nat} {I : Ids} {c : Cs} (h : Cw w C I c) (hb : Ch p w w') (hp : ∀ k, Own C I k → ¬ p k) : Cw w' C I c := h.keep fun k hk => hb.block k (h.own_lt k hk) (hp k hk)
theorem Cw.cell {w : World} {C : Nat} {I : Ids} {c : Cs} (h : Cw w C I c) : w.cell? ⟨C, 0, none⟩ = some (.int .i64 c.room) ∧ w.cell? ⟨C, 1, none⟩ = some I.sl ∧ w.cell? ⟨C, 2, none⟩ = some (.slice (some ⟨I.tb, 0, none⟩) c.slots I.tc) ∧ w.cell? ⟨C, 3, none⟩ = some (.map (some I.b1)) ∧ w.cell? ⟨C, 4, none⟩ = some (.map (some I.b2)) := by
  refine ⟨?_, ?_, ?_, ?_, ?_⟩ <;> rw [So.row_cell h.c0] <;> rfl
def setF {α : Type} (f : Nat → α) (k : Nat) (v : α) : Nat → α := fun i => if i = k then v else f i
theorem Tb.set {w : World} {tb n : Nat} {tp : Nat → Nat} {ta : Nat → Int} (h : Tb w tb n tp ta) (x : Nat) (p : Nat) (v : Int) : Tb ((w.setCell ⟨tb, x * 2, none⟩ (.int .u32 p)).setCell ⟨tb, x * 2 + 1, none⟩ (.int .i64 v)) tb n (setF tp x p) (setF ta x v) := by
  obtain ⟨A, hA, hs, hc⟩ := h.c
  refine ⟨_, So.blk_set (So.blk_set hA _) _, by simpa using hs, fun k hk => ?_⟩
  obtain ⟨h0, h1⟩ := hc k hk
  have l0 : k * 2 < A.size := by omega
  have l1 : k * 2 + 1 < A.size := by omega
  by_cases e : k = x
  · subst e
    simp [setF, l0, l1, Array.getElem?_setIfInBounds]
  · have e1 : ¬ x * 2 = k * 2 := by omega
    have e2 : ¬ x * 2 + 1 = k * 2 := by omega
    have e3 : ¬ x * 2 = k * 2 + 1 := by omega
    have e4 : ¬ x = k := fun h => e h.symm
    simp [setF, e, e1, e2, e3, e4, Array.getElem?_setIfInBounds, h0, h1]
theorem zeroB (w : World) : (zeroValue 84).run Try.prog w = .ok (.agg #[.int .i64 0, .int .i64 0, .int .u64 0, .int .u64 0, .int .u64 0, .int .u64 0]) w := Try.zeroValue84 w
theorem zeroE (w : World) : (zeroValue 89).run Try.prog w = .ok (.agg #[.int .u32 0, .int .u32 0]) w := Try.zeroValue89 w
theorem wfU (pc : Nat) (h : pc < 4294967296) : (Lit.int .u32 (pc : Int)).wf = true := by
  have e1 : IntKind.min .u32 = 0 := by decide
  have e2 : IntKind.max .u32 = 4294967295 := by decide
  simp [Lit.wf, e1, e2]
  omega
theorem wfI (x : Int) (h0 : -9223372036854775808 ≤ x) (h : x ≤ 9223372036854775807) : (Lit.int .i64 x).wf = true := by
  have e1 : IntKind.min .i64 = -9223372036854775808 := by decide
  have e2 : IntKind.max .i64 = 9223372036854775807 := by decide
  simp [Lit.wf, e1, e2]
  omega
theorem Cw.m1set {w w' : World} {C : Nat} {I : Ids} {c : Cs} {bl' : Int → Option Bl} (h : Cw w C I c) (hm : MW w' 30 .u32 I.b1 (fB bl')) (hc : Ch (· = I.b1) w w') : Cw w' C I { c with bl := bl' } := by
  obtain ⟨n1, n2, n3, n4, n5, n6⟩ := h.ne
  obtain ⟨A, hA, r⟩ := h.tb.c
  exact ⟨(hc.block C (h.own_lt _ (.inl rfl)) n2).trans h.c0, h.wb.keep fun k e => hc.block k (h.wb.lt' k e) (h.ns k e).2.2.1, ⟨A, (hc.block _ h.tb.lt n4).trans hA, r⟩, hm, h.m2.keep (hc.block _ h.m2.lt (Ne.symm n6)), h.rm, h.st, h.ne, h.ns⟩
theorem Cw.m2set {w w' : World} {C : Nat} {I : Ids} {c : Cs} {ex' : Int → Option (Nat × Nat)} (h : Cw w C I c) (hm : MW w' 3 .i64 I.b2 (fE ex')) (hc : Ch (· = I.b2) w w') : Cw w' C I { c with ex := ex' } := by
  obtain ⟨n1, n2, n3, n4, n5, n6⟩ := h.ne
  obtain ⟨A, hA, r⟩ := h.tb.c
  exact ⟨(hc.block C (h.own_lt _ (.inl rfl)) n3).trans h.c0, h.wb.keep fun k e => hc.block k (h.wb.lt' k e) (h.ns k e).2.2.2, ⟨A, (hc.block _ h.tb.lt n5).trans hA, r⟩, h.m1.keep (hc.block _ h.m1.lt n6), hm, h.rm, h.st, h.ne, h.ns⟩
theorem Cw.slset {w : World} {C : Nat} {I : Ids} {c : Cs} {sl' : Value} {n : Nat} {ws' : Nat → Nat} (h : Cw w C I c) (hw : Wb w sl' n ws') (hn : n ≤ c.room) (ho : ∀ k, sl'.ownBlock = some k → k ≠ C ∧ k ≠ I.tb ∧ k ≠ I.b1 ∧ k ≠ I.b2) : Cw (w.setCell ⟨C, 1, none⟩ sl') C { I with sl := sl' } { c with fill := n, ws := ws' } := by
  obtain ⟨n1, n2, n3, n4, n5, n6⟩ := h.ne
  obtain ⟨A, hA, r⟩ := h.tb.c
  have hk : ∀ k, k ≠ C → (w.setCell ⟨C, 1, none⟩ sl').heap[k]? = w.heap[k]? := fun k e => So.blk_other e _
  exact ⟨So.blk_set h.c0 _, hw.keep fun k e => hk k (ho k e).1, ⟨A, (hk _ (Ne.symm n1)).trans hA, r⟩, h.m1.keep (hk _ (Ne.symm n2)), h.m2.keep (hk _ (Ne.symm n3)), ⟨h.rm.1, h.rm.2.1, hn⟩, h.st, h.ne, ho⟩
end Go.Proofs.Ytgkkghphlbgcoaa.Ca
namespace Go.Proofs.Ytgkkghphlbgcoaa.Ca
open Go.RowKit Go.Maps
set_option maxRecDepth 100000
set_option linter.unusedVariables false
set_option linter.unusedSimpArgs false
def fndF (c : Cs) (pc : Int) : Int × Bool := match c.bl pc with | none => (0, false) | some b => (b.bg, true)
set_option maxHeartbeats 1000000 in
theorem find_any (C pc : Nat) (I : Ids) (c : Cs) (w : World) (hpc : pc < 4294967296) (h : Cw w C I c) :
    Calls Try.prog 20 #[.pointer (some ⟨C, 0, none⟩), .int .u32 pc] w fun e w' => e = .returned (.tuple #[.int .i64 (fndF c pc).1, .bool (fndF c pc).2]) ∧ Below w.heap.size w w' := by
  obtain ⟨_, _, _, c3, _⟩ := h.cell
  have HM : Hid _ := h.m1
  cases hb : c.bl pc with
  | none =>
    have E : fndF c pc = (0, false) := by unfold fndF; rw [hb]
    rw [E]
    have HV : Hid ((fB c.bl pc).getD (.agg #[.int .i64 0, .int .i64 0, .int .u64 0, .int .u64 0, .int .u64 0, .int .u64 0]) = .agg #[.int .i64 0, .int .i64 0, .int .u64 0, .int .u64 0, .int .u64 0, .int .u64 0]) := (by rw [show fB c.bl pc = none by simp [fB, hb]]; rfl)
    have HS : Hid ((fB c.bl pc).isSome = false) := (by rw [show fB c.bl pc = none by simp [fB, hb]]; rfl)
    clear h hb E
    go_enter Try.func20, Try.ntmps20
    go_wp2_with (at_lookup; refine wpList_look _ rfl _ _ 51 rfl 30 84 .u32 Try.underlying30 Try.underlying51 (zeroB _) I.b1 _ rfl HM.out pc rfl (wfU pc hpc) (.agg #[.int .i64 0, .int .i64 0, .int .u64 0, .int .u64 0, .int .u64 0, .int .u64 0]) false HV.out HS.out ?_)
    go_ret2
    exact ⟨rfl, (Below.refl _ _).alloc (Nat.le_refl _) _⟩
  | some b =>
    have E : fndF c pc = ((b.bg : Int), true) := by unfold fndF; rw [hb]
    rw [E]
    have HV : Hid ((fB c.bl pc).getD (.agg #[.int .i64 0, .int .i64 0, .int .u64 0, .int .u64 0, .int .u64 0, .int .u64 0]) = .agg #[.int .i64 b.bg, .int .i64 b.sz, .int .u64 b.q0, .int .u64 b.q1, .int .u64 b.q2, .int .u64 b.q3]) := (by rw [show fB c.bl pc = some (bV b) by simp [fB, hb]]; rfl)
    have HS : Hid ((fB c.bl pc).isSome = true) := (by rw [show fB c.bl pc = some (bV b) by simp [fB, hb]]; rfl)
    clear h hb E
    go_enter Try.func20, Try.ntmps20
    go_wp2_with (at_lookup; refine wpList_look _ rfl _ _ 51 rfl 30 84 .u32 Try.underlying30 Try.underlying51 (zeroB _) I.b1 _ rfl HM.out pc rfl (wfU pc hpc) (.agg #[.int .i64 b.bg, .int .i64 b.sz, .int .u64 b.q0, .int .u64 b.q1, .int .u64 b.q2, .int .u64 b.q3]) true HV.out HS.out ?_)
    go_ret2
    exact ⟨rfl, (Below.refl _ _).alloc (Nat.le_refl _) _⟩
/-- Note. -/
def noteC (c : Cs) (pc : Nat) (b : Bl) : Cs := { c with tp := setF c.tp (pc % c.slots) pc, ta := setF c.ta (pc % c.slots) b.bg }
theorem Cw.tset {w w' : World} {C : Nat} {I : Ids} {c : Cs} (h : Cw w C I c) (hb : Below w.heap.size w w') (x p : Nat) (v : Int) : Cw ((w'.setCell ⟨I.tb, x * 2, none⟩ (.int .u32 p)).setCell ⟨I.tb, x * 2 + 1, none⟩ (.int .i64 v)) C I { c with tp := setF c.tp x p, ta := setF c.ta x v } := by
  have h' := h.below hb
  obtain ⟨n1, n2, n3, n4, n5, n6⟩ := h.ne
  have ho : ∀ k, k ≠ I.tb → ((w'.setCell ⟨I.tb, x * 2, none⟩ (.int .u32 p)).setCell ⟨I.tb, x * 2 + 1, none⟩ (.int .i64 v)).heap[k]? = w'.heap[k]? := fun k hk => by rw [So.blk_other hk, So.blk_other hk]
  exact ⟨(ho C n1).trans h'.c0, h'.wb.keep fun k e => ho k (h.ns k e).2.1, h'.tb.set x p v, h'.m1.keep (ho _ (Ne.symm n4)), h'.m2.keep (ho _ (Ne.symm n5)), h.rm, h.st, h.ne, h.ns⟩
theorem two (W : World) (A o : Nat) (u0 u1 v0 v1 : Value) (h0 : W.cell? ⟨A, o, none⟩ = some u0) (h1 : W.cell? ⟨A, o + 1, none⟩ = some u1) : True := trivial
set_option maxHeartbeats 2000000 in
theorem note_none (C pc : Nat) (I : Ids) (c : Cs) (w : World) (hpc : pc < 4294967296) (h : Cw w C I c) (hb : c.bl pc = none) :
    Calls Try.prog 23 #[.pointer (some ⟨C, 0, none⟩), .int .u32 pc] w fun e w' => e = .returned (.int .i64 9) ∧ Below w.heap.size w w' := by
  obtain ⟨_, _, _, c3, _⟩ := h.cell
  have HM : Hid _ := h.m1
  have HV : Hid ((fB c.bl pc).getD (.agg #[.int .i64 0, .int .i64 0, .int .u64 0, .int .u64 0, .int .u64 0, .int .u64 0]) = .agg #[.int .i64 0, .int .i64 0, .int .u64 0, .int .u64 0, .int .u64 0, .int .u64 0]) := (by rw [show fB c.bl pc = none by simp [fB, hb]]; rfl)
  have HS : Hid ((fB c.bl pc).isSome = false) := (by rw [show fB c.bl pc = none by simp [fB, hb]]; rfl)
  clear h hb
  go_enter Try.func23, Try.ntmps23
  go_wp2_with (at_lookup; refine wpList_look _ rfl _ _ 51 rfl 30 84 .u32 Try.underlying30 Try.underlying51 (zeroB _) I.b1 _ rfl HM.out pc rfl (wfU pc hpc) (.agg #[.int .i64 0, .int .i64 0, .int .u64 0, .int .u64 0, .int .u64 0, .int .u64 0]) false HV.out HS.out ?_)
  go_ret
  exact ⟨rfl, (Below.refl _ _).alloc (Nat.le_refl _) _⟩
set_option maxHeartbeats 2000000 in
theorem note_some (C pc : Nat) (I : Ids) (c : Cs) (b : Bl) (w : World) (hpc : pc < 4294967296) (h : Cw w C I c) (hb : c.bl pc = some b) :
    Calls Try.prog 23 #[.pointer (some ⟨C, 0, none⟩), .int .u32 pc] w fun e w' => e = .returned (.int .i64 0) ∧ Cw w' C I (noteC c pc b) ∧ Ch (· = I.tb) w w' := by
  obtain ⟨_, _, c2, c3, _⟩ := h.cell
  have HM : Hid _ := h.m1
  have HV : Hid ((fB c.bl pc).getD (.agg #[.int .i64 0, .int .i64 0, .int .u64 0, .int .u64 0, .int .u64 0, .int .u64 0]) = .agg #[.int .i64 b.bg, .int .i64 b.sz, .int .u64 b.q0, .int .u64 b.q1, .int .u64 b.q2, .int .u64 b.q3]) := (by rw [show fB c.bl pc = some (bV b) by simp [fB, hb]]; rfl)
  have HS : Hid ((fB c.bl pc).isSome = true) := (by rw [show fB c.bl pc = some (bV b) by simp [fB, hb]]; rfl)
  have HC : Hid _ := h
  obtain ⟨x, hx⟩ : ∃ x, pc % c.slots = x := ⟨_, rfl⟩
  have HX : Hid _ := hx
  obtain ⟨s0, s1, s2⟩ := h.st
  have hlC : C < w.heap.size := h.own_lt C (.inl rfl)
  have hlT : I.tb < w.heap.size := h.tb.lt
  have xl : x < c.slots := by rw [← hx]; exact Nat.mod_lt _ s0
  clear hx
  obtain ⟨A, hA, hs, hc⟩ := h.tb.c
  obtain ⟨t0, t1⟩ := hc x xl
  rw [← So.row_cell hA] at t0 t1
  have f0 := So.row_fr hA (x * 2)
  have f1 := So.row_fr hA (x * 2 + 1)
  clear hA hs hc
  have D1 : (w.alloc (.cells #[.int .i64 b.bg, .int .i64 b.sz, .int .u64 b.q0, .int .u64 b.q1, .int .u64 b.q2, .int .u64 b.q3] 84)).cell? ⟨C, 2, none⟩ = some (.slice (some ⟨I.tb, 0, none⟩) c.slots I.tc) := by rw [World.cell?_alloc_old _ _ _ (Nat.ne_of_lt hlC)]; exact c2
  go_enter Try.func23, Try.ntmps23
  go_upto_region 4 with (at_lookup; refine wpList_look _ rfl _ _ 51 rfl 30 84 .u32 Try.underlying30 Try.underlying51 (zeroB _) I.b1 _ rfl HM.out pc rfl (wfU pc hpc) (.agg #[.int .i64 b.bg, .int .i64 b.sz, .int .u64 b.q0, .int .u64 b.q1, .int .u64 b.q2, .int .u64 b.q3]) true HV.out HS.out ?_)
  go_region_with (go_at_call 48; refine Calls.mono (ent_any C I.tb c.slots I.tc pc x _ (by first | exact D1) s0 s1 hpc HX.out) ?_; rintro _ _ ⟨rfl, k, rfl⟩; dsimp only)
  all_goals go_wp2
  all_goals go_ret
  all_goals unfold noteC
  all_goals rw [HX.out]
  all_goals refine ⟨rfl, HC.out.tset ?_ x pc b.bg, ((Ch.of_below (· = I.tb) ?_).set rfl _ _).set rfl _ _⟩
  all_goals exact (by repeat first | with_reducible exact Below.refl _ _ | with_reducible refine Below.drew ?_ | with_reducible refine bDN ?_ _ | with_reducible refine Below.alloc ?_ (by first | exact Nat.le_refl _ | (simp; done) | (simp; omega) | omega) _)
/-- forget. -/
def forC (c : Cs) (pc : Nat) (b : Bl) : Cs := if c.ta (pc % c.slots) = b.bg then { c with tp := setF c.tp (pc % c.slots) 0, ta := setF c.ta (pc % c.slots) (-1) } else c
set_option maxHeartbeats 2000000 in
theorem forget_any (C pc : Nat) (I : Ids) (c : Cs) (b : Bl) (w : World) (hpc : pc < 4294967296) (h : Cw w C I c) :
    Calls Try.prog 44 #[.pointer (some ⟨C, 0, none⟩), .int .u32 pc, bV b] w fun e w' => e = .returned (.tuple #[]) ∧ Cw w' C I (forC c pc b) ∧ Ch (· = I.tb) w w' := by
  obtain ⟨_, _, c2, _, _⟩ := h.cell
  have HC : Hid _ := h
  obtain ⟨x, hx⟩ : ∃ x, pc % c.slots = x := ⟨_, rfl⟩
  have HX : Hid _ := hx
  obtain ⟨s0, s1, s2⟩ := h.st
  have hlC : C < w.heap.size := h.own_lt C (.inl rfl)
  have hlT : I.tb < w.heap.size := h.tb.lt
  have xl : x < c.slots := by rw [← hx]; exact Nat.mod_lt _ s0
  clear hx
  obtain ⟨A, hA, hs, hc⟩ := h.tb.c
  obtain ⟨t0, t1⟩ := hc x xl
  rw [← So.row_cell hA] at t0 t1
  have f0 := So.row_fr hA (x * 2)
  have f1 := So.row_fr hA (x * 2 + 1)
  clear hA hs hc
  have D1 : (w.alloc (.cells #[.int .i64 b.bg, .int .i64 b.sz, .int .u64 b.q0, .int .u64 b.q1, .int .u64 b.q2, .int .u64 b.q3] 84)).cell? ⟨C, 2, none⟩ = some (.slice (some ⟨I.tb, 0, none⟩) c.slots I.tc) := by rw [World.cell?_alloc_old _ _ _ (Nat.ne_of_lt hlC)]; exact c2
  unfold bV
  by_cases he : c.ta x = b.bg
  · have he' : decide (c.ta x = (b.bg : Int)) = true := decide_eq_true he
    have EF : Hid (forC c pc b = { c with tp := setF c.tp x 0, ta := setF c.ta x (-1) }) := (by unfold forC; rw [HX.out, if_pos he]; exact Eq.refl _)
    go_enter Try.func44, Try.ntmps44
    go_upto_region 2 with (go_at_call 48; refine Calls.mono (ent_any C I.tb c.slots I.tc pc x _ (by first | exact D1) s0 s1 hpc HX.out) ?_; rintro _ _ ⟨rfl, k, rfl⟩; dsimp only)
    go_quiet (fail)
    go_wp2_with (go_at_call 16; refine Calls.mono (none_any _) ?_; rintro _ w1 ⟨rfl, hb1⟩; dsimp only; have hb2 : Below w.heap.size w w1 := (by refine Below.trans ?_ (hb1.mono (by simp)); exact (by repeat first | with_reducible exact Below.refl _ _ | with_reducible refine Below.drew ?_ | with_reducible refine bDN ?_ _ | with_reducible refine Below.alloc ?_ (by first | exact Nat.le_refl _ | (simp; done) | (simp; omega) | omega) _)); have q0 := (hb2.cell (p := ⟨I.tb, x * 2, none⟩) hlT).trans t0; have q1 := (hb2.cell (p := ⟨I.tb, x * 2 + 1, none⟩) hlT).trans t1; have g0 := (World.frozen?_of_block (a := ⟨I.tb, x * 2, none⟩) (hb2.block I.tb hlT)).trans f0; have g1 := (World.frozen?_of_block (a := ⟨I.tb, x * 2 + 1, none⟩) (hb2.block I.tb hlT)).trans f1)
    go_end0
    rw [EF.out]
    refine ⟨rfl, HC.out.tset hb2 x 0 (-1), ((Ch.of_below (· = I.tb) hb2).set rfl _ _).set rfl _ _⟩
  · have he' : decide (c.ta x = (b.bg : Int)) = false := decide_eq_false he
    have EF : Hid (forC c pc b = c) := (by unfold forC; rw [HX.out, if_neg he]; exact Eq.refl _)
    go_enter Try.func44, Try.ntmps44
    go_upto_region 2 with (go_at_call 48; refine Calls.mono (ent_any C I.tb c.slots I.tc pc x _ (by first | exact D1) s0 s1 hpc HX.out) ?_; rintro _ _ ⟨rfl, k, rfl⟩; dsimp only)
    go_quiet (fail)
    go_wp2
    go_end0
    rw [EF.out]
    exact ⟨rfl, HC.out.below (by repeat first | with_reducible exact Below.refl _ _ | with_reducible refine Below.drew ?_ | with_reducible refine bDN ?_ _ | with_reducible refine Below.alloc ?_ (by first | exact Nat.le_refl _ | (simp; done) | (simp; omega) | omega) _), Ch.of_below _ (by repeat first | with_reducible exact Below.refl _ _ | with_reducible refine Below.drew ?_ | with_reducible refine bDN ?_ _ | with_reducible refine Below.alloc ?_ (by first | exact Nat.le_refl _ | (simp; done) | (simp; omega) | omega) _)⟩
end Go.Proofs.Ytgkkghphlbgcoaa.Ca
namespace Go.Proofs.Ytgkkghphlbgcoaa.Ca
open Go.RowKit Go.Maps
set_option maxRecDepth 100000
set_option linter.unusedVariables false
set_option linter.unusedSimpArgs false
/-- Words laid over others. -/
def over (ws : Nat → Nat) (o : Nat) (ns : List Nat) : Nat → Nat := fun i => if o ≤ i ∧ i < o + ns.length then ns.getD (i - o) 0 else ws i
def wV (ns : List Nat) : List Value := ns.map fun (x : Nat) => Value.int .u32 x
theorem info1 : (Try.prog.info? 30).map (·.size) = some 1 := by kernel_rfl
theorem Wb.splice {w : World} {g n cap : Nat} {ws : Nat → Nat} (h : Wb w (.slice (some ⟨g, 0, none⟩) n cap) n ws) (o : Nat) (ns : List Nat) (hn : ∀ x ∈ ns, x < 4294967296) (ho : o + ns.length ≤ n) :
    ∃ cur, w.heap[g]? = some (.cells cur 30) ∧ o + ns.length ≤ cur.size ∧ Wb (w.setRow g (cur.toList.take o ++ (wV ns ++ cur.toList.drop (o + (wV ns).length))).toArray) (.slice (some ⟨g, 0, none⟩) n cap) n (over ws o ns) ∧ Ch (· = g) w (w.setRow g (cur.toList.take o ++ (wV ns ++ cur.toList.drop (o + (wV ns).length))).toArray) := by
  rcases h.row with ⟨e, _⟩ | ⟨g', cap', cur, e, hg, h1, h2, h3, h4⟩
  · cases e
  · cases e
    have hl : (wV ns).length = ns.length := by simp [wV]
    refine ⟨cur, hg, by omega, ⟨fun i => ?_, .inr ⟨g, cap, _, rfl, setRow_heap w g _ _ _ _ hg, h1, h2, ?_, fun i hi => ?_⟩⟩, ⟨rfl, rfl, rfl, by simp [World.setRow], fun k _ hk => setRow_other w g k _ hk⟩⟩
    · unfold over
      split
      · next hc =>
        have : i - o < ns.length := by omega
        rw [List.getD_eq_getElem?_getD, List.getElem?_eq_getElem this]
        exact hn _ (List.getElem_mem this)
      · exact h.lt i
    · simp [hl]; omega
    · have hc := h4 i hi
      have hcl : cur.toList.length = cap := by simpa using h3
      rw [List.getElem?_toArray]
      by_cases c1 : i < o
      · rw [List.getElem?_append_left (by simp; omega), List.getElem?_take_of_lt c1]
        unfold over
        rw [if_neg (by omega)]
        simpa using hc
      · rw [List.getElem?_append_right (by simp; omega)]
        have e1 : (cur.toList.take o).length = o := by simp; omega
        rw [e1]
        by_cases c2 : i < o + ns.length
        · rw [List.getElem?_append_left (by omega)]
          unfold over wV
          rw [if_pos (by omega), List.getElem?_map, List.getD_eq_getElem?_getD, List.getElem?_eq_getElem (by omega : i - o < ns.length)]
          rfl
        · rw [List.getElem?_append_right (by omega), List.getElem?_drop, hl]
          unfold over
          rw [if_neg (by omega), show o + ns.length + (i - o - ns.length) = i by omega]
          simpa using hc
section
variable {w : World} {ops : Array Oper} {rest : List Oper} {o : Oper} {a : Act} {Q : Exit → Act → World → Prop}
theorem wpList_wcopy (hgd : o.guard = none) (d s : Operand) (ho : o.op = .call { callee := .builtin .copy, args := #[d, s], argTypes := #[32, 32] }) (g off n cap dLen dCap b sLen sCap : Nat) (ws : Nat → Nat) (ns : List Nat)
    (hd : a.eval d = .slice (some ⟨g, off, none⟩) dLen dCap) (hs : a.eval s = .slice (some ⟨b, 0, none⟩) sLen sCap) (hw : Wb w (.slice (some ⟨g, 0, none⟩) n cap) n ws) (hn : ns.length = Nat.min sLen dLen) (hfit : off + ns.length ≤ n)
    (hlt : ∀ x ∈ ns, x < 4294967296) (hsrc : ∀ j x, ns[j]? = some x → w.cell? ⟨b, j, none⟩ = some (.int .u32 (x : Nat)))
    (h : ∀ w', Wb w' (.slice (some ⟨g, 0, none⟩) n cap) n (over ws off ns) → Ch (· = g) w w' → wpList Try.prog ops Q rest (a.put o.dst (goInt ns.length)) w') : wpList Try.prog ops Q (o :: rest) a w := by
  obtain ⟨cur, hg, hc, h1, h2⟩ := hw.splice off ns hlt hfit
  have hl : (wV ns).length = ns.length := by simp [wV]
  refine wpList_copy_own hgd d s 32 32 ho 30 Try.underlying32 info1 g off dLen dCap ⟨b, 0, none⟩ sLen sCap hd hs cur 30 hg (wV ns) (by omega) (fun j v hv => ?_) (by omega) (fun v hv => ?_) ?_
  · unfold wV at hv
    rw [List.getElem?_map] at hv
    cases e : ns[j]? with
    | none => rw [e] at hv; cases hv
    | some x =>
      rw [e] at hv
      cases hv
      have := hsrc j x e
      rw [show (⟨b, 0, none⟩ : Addr).add j = ⟨b, j, none⟩ by unfold Addr.add; split <;> simp_all]
      exact this
  · unfold wV at hv
    obtain ⟨x, _, rfl⟩ := List.mem_map.1 hv
    rfl
  · rw [hl]
    rw [hl] at h1 h2
    exact h _ h1 h2
theorem clear_run (g off n cap m dCap : Nat) (ws : Nat → Nat) (ty : TypeId) (hw : Wb w (.slice (some ⟨g, 0, none⟩) n cap) n ws) (hm : 0 < m) (hfit : off + m ≤ n) :
    ∃ w', (Builtin.clear_ #[32] ty #[.slice (some ⟨g, off, none⟩) m dCap]).run Try.prog w = .ok (.tuple #[]) w' ∧ Wb w' (.slice (some ⟨g, 0, none⟩) n cap) n (over ws off (List.replicate m 0)) ∧ Ch (· = g) w w' := by
  have hlr : (List.replicate m 0).length = m := List.length_replicate
  obtain ⟨cur, hg, hc, h1, h2⟩ := hw.splice off (List.replicate m 0) (fun x hx => by rw [List.eq_of_mem_replicate hx]; decide) (by rw [hlr]; exact hfit)
  have hl : (wV (List.replicate m 0)).length = m := by simp [wV]
  have hst := run_storeCells_at Try.prog g off 30 (wV (List.replicate m 0)) 0 cur w hg (by rw [hl]; rw [hlr] at hc; omega) (fun v hv => by
    unfold wV at hv
    obtain ⟨x, _, rfl⟩ := List.mem_map.1 hv
    rfl)
  have ez : (Builtin.zeroCells #[Value.int .u32 0] m).toList = wV (List.replicate m 0) := by
    unfold Builtin.zeroCells wV
    simp only [List.map_replicate]
    apply List.ext_getElem?
    intro i
    by_cases hi : i < m
    · simp [hi, Nat.mod_one, List.getElem?_replicate]
    · simp [hi, List.getElem?_replicate]
  have hrun : (Builtin.clear_ #[32] ty #[.slice (some ⟨g, off, none⟩) m dCap]).run Try.prog w = .ok (.tuple #[]) (w.setRow g (cur.toList.take off ++ (wV (List.replicate m 0) ++ cur.toList.drop (off + (wV (List.replicate m 0)).length))).toArray) := by
    obtain ⟨m', rfl⟩ : ∃ m', m = m' + 1 := ⟨m - 1, by omega⟩
    have hz : (zeroValue 30).run Try.prog w = .ok (.int .u32 0) w := Try.zeroValue30 w
    rw [Nat.add_zero, List.append_assoc] at hst
    simp [Builtin.clear_, run_underlying (Try.underlying32 : Try.prog.underlying 32 = _), hz, Value.cells, ez, hst]
  exact ⟨_, hrun, h1, h2⟩
theorem wpList_wclear (hgd : o.guard = none) (d : Operand) (ho : o.op = .call { callee := .builtin .clear, args := #[d], argTypes := #[32] }) (g off n cap m dCap : Nat) (ws : Nat → Nat)
    (hd : a.eval d = .slice (some ⟨g, off, none⟩) m dCap) (hw : Wb w (.slice (some ⟨g, 0, none⟩) n cap) n ws) (hm : 0 < m) (hfit : off + m ≤ n)
    (h : ∀ w', Wb w' (.slice (some ⟨g, 0, none⟩) n cap) n (over ws off (List.replicate m 0)) → Ch (· = g) w w' → wpList Try.prog ops Q rest (a.put o.dst (.tuple #[])) w') : wpList Try.prog ops Q (o :: rest) a w := by
  obtain ⟨w', hrun, h1, h2⟩ := clear_run g off n cap m dCap ws o.type hw hm hfit
  refine wpList_plain hgd fun K hK => ?_
  unfold Oper.wp
  simp only [execOp, ho, resolve, invoke, builtin, Sem.run_bind, Sem.run_pure, Result.andThen_ok, List.map_toArray, List.map_cons, List.map_nil, hd, hrun]
  exact hK _ _ (h _ h1 h2)
theorem step_wclear {K : Act → World → Prop} {E : Prop} (hgd : o.guard = none) (d : Operand) (ho : o.op = .call { callee := .builtin .clear, args := #[d], argTypes := #[32] }) (g off n cap m dCap : Nat) (ws : Nat → Nat)
    (hd : a.eval d = .slice (some ⟨g, off, none⟩) m dCap) (hw : Wb w (.slice (some ⟨g, 0, none⟩) n cap) n ws) (hm : 0 < m) (hfit : off + m ≤ n)
    (h : ∀ w', Wb w' (.slice (some ⟨g, 0, none⟩) n cap) n (over ws off (List.replicate m 0)) → Ch (· = g) w w' → K (a.put o.dst (.tuple #[])) w') : if Region.wanted o (yielded ops a.tmps) = true then Oper.wp Try.prog o a w K Q else E := by
  have hwt : Region.wanted o (yielded ops a.tmps) = true := by simp [Region.wanted, hgd]
  rw [if_pos hwt]
  obtain ⟨w', hrun, h1, h2⟩ := clear_run g off n cap m dCap ws o.type hw hm hfit
  unfold Oper.wp
  simp only [execOp, ho, resolve, invoke, builtin, Sem.run_bind, Sem.run_pure, Result.andThen_ok, List.map_toArray, List.map_cons, List.map_nil, hd, hrun]
  exact h _ h1 h2
theorem wpList_mclear (hgd : o.guard = none) (d : Operand) (t : TypeId) (ho : o.op = .call { callee := .builtin .clear, args := #[d], argTypes := #[t] }) (k e : TypeId) (q : IntKind) (ht : Try.prog.underlying t = some (.map k e)) (b : Nat) (f : Int → Option Value)
    (hd : a.eval d = .map (some b)) (hw : MW w k q b f)
    (h : ∀ w', MW w' k q b (fun _ => none) → Ch (· = b) w w' → w'.heap.size = w.heap.size → wpList Try.prog ops Q rest (a.put o.dst (.tuple #[])) w') : wpList Try.prog ops Q (o :: rest) a w := by
  obtain ⟨n, D, ⟨es, clock, hb, F, _⟩, _⟩ := hw
  have hrun : (Builtin.clear_ #[t] o.type #[.map (some b)]).run Try.prog w = .ok (.tuple #[]) (ChangeMaps.setBlock w b (.map #[] clock)) := by
    simp [Builtin.clear_, run_underlying ht, MapKept.run_getObj_map hb, MapKept.run_setObj_map _ hb, Result.andThen, ChangeMaps.setBlock]
  refine wpList_plain hgd fun K hK => ?_
  unfold Oper.wp
  simp only [execOp, ho, resolve, invoke, builtin, Sem.run_bind, Sem.run_pure, Result.andThen_ok, List.map_toArray, List.map_cons, List.map_nil, hd, hrun]
  have hlt : b < w.heap.size := (Array.getElem?_eq_some_iff.1 hb).1
  refine hK _ _ (h _ ⟨0, .map [], ⟨#[], clock, by simp [ChangeMaps.setBlock, hlt], ⟨by simp, MapKept.stamped_empty clock, by simp⟩, Nat.le_refl _, rfl⟩, Mp.nil q⟩ ⟨rfl, rfl, rfl, by simp [ChangeMaps.setBlock], fun j _ hj => ?_⟩ (by simp [ChangeMaps.setBlock]))
  simp [ChangeMaps.setBlock, Array.getElem?_setIfInBounds, Ne.symm hj]
end
end Go.Proofs.Ytgkkghphlbgcoaa.Ca
