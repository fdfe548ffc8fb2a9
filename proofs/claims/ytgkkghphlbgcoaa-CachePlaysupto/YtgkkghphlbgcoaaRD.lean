import Derived.Test.YtgkkghphlbgcoaaRW
import Derived.Deep.CutRange
namespace Go.Proofs.Ytgkkghphlbgcoaa.Ca
/-- One place more, in order. -/
def insP (x : Nat) (l : List Nat) : List Nat := l.takeWhile (· < x) ++ x :: l.dropWhile (· < x)
/-- The places of the document's cache, rising. -/
def plP (bs : List Rk) : List Nat := bs.foldl (fun l k => insP k.pc l) []
theorem insP_perm (x : Nat) (l : List Nat) : (insP x l).Perm (x :: l) := by
  unfold insP
  refine List.perm_middle.trans ?_
  rw [List.takeWhile_append_dropWhile]
theorem insP_sorted (x : Nat) : ∀ (l : List Nat), l.Pairwise (· ≤ ·) → (insP x l).Pairwise (· ≤ ·)
  | [], _ => by simp [insP]
  | y :: r, h => by
    have hr := insP_sorted x r (List.pairwise_cons.1 h).2
    unfold insP
    by_cases hy : y < x
    · have e1 : (y :: r).takeWhile (· < x) = y :: r.takeWhile (· < x) := by rw [List.takeWhile_cons_of_pos (by simpa using hy)]
      have e2 : (y :: r).dropWhile (· < x) = r.dropWhile (· < x) := by rw [List.dropWhile_cons_of_pos (by simpa using hy)]
      rw [e1, e2, List.cons_append, List.pairwise_cons]
      refine ⟨fun z hz => ?_, hr⟩
      have hz' := (insP_perm x r).mem_iff.1 hz
      rcases List.mem_cons.1 hz' with rfl | hz'
      · exact Nat.le_of_lt hy
      · exact (List.pairwise_cons.1 h).1 z hz'
    · have e1 : (y :: r).takeWhile (· < x) = [] := by rw [List.takeWhile_cons_of_neg (by simpa using hy)]
      have e2 : (y :: r).dropWhile (· < x) = y :: r := by rw [List.dropWhile_cons_of_neg (by simpa using hy)]
      rw [e1, e2, List.nil_append, List.pairwise_cons]
      refine ⟨fun z hz => ?_, h⟩
      rcases List.mem_cons.1 hz with rfl | hz
      · omega
      · have := (List.pairwise_cons.1 h).1 z hz; omega
theorem plP_go : ∀ (bs : List Rk) (l : List Nat), l.Pairwise (· ≤ ·) → (bs.foldl (fun l k => insP k.pc l) l).Pairwise (· ≤ ·) ∧ (bs.foldl (fun l k => insP k.pc l) l).Perm (l ++ bs.map (·.pc))
  | [], l, h => ⟨h, by simp⟩
  | b :: r, l, h => by
    obtain ⟨h1, h2⟩ := plP_go r (insP b.pc l) (insP_sorted _ _ h)
    refine ⟨h1, h2.trans ?_⟩
    refine ((insP_perm b.pc l).append_right _).trans ?_
    simpa using (List.perm_middle (a := b.pc) (l₁ := l) (l₂ := r.map (·.pc))).symm
theorem plP_ok (bs : List Rk) : (plP bs).Pairwise (· ≤ ·) ∧ (plP bs).Perm (bs.map (·.pc)) := by
  have := plP_go bs [] List.Pairwise.nil
  rw [List.nil_append] at this
  exact this
/-- Two rising lists of the same numbers are one. -/
theorem rise_eq : ∀ {a b : List Nat}, a.Pairwise (· ≤ ·) → b.Pairwise (· ≤ ·) → a.Perm b → a = b
  | [], b, _, _, h => h.nil_eq
  | x :: r, [], _, _, h => absurd h.eq_nil (by simp)
  | x :: r, y :: s, ha, hb, h => by
    have hx : x ∈ y :: s := h.mem_iff.1 List.mem_cons_self
    have hy : y ∈ x :: r := h.mem_iff.2 List.mem_cons_self
    have e : x = y := by
      rcases List.mem_cons.1 hx with e | hx
      · exact e
      · rcases List.mem_cons.1 hy with e | hy
        · exact e.symm
        · have h1 := (List.pairwise_cons.1 ha).1 y hy
          have h2 := (List.pairwise_cons.1 hb).1 x hx
          omega
    subst e
    rw [rise_eq (List.pairwise_cons.1 ha).2 (List.pairwise_cons.1 hb).2 (List.Perm.cons_inv h)]
end Go.Proofs.Ytgkkghphlbgcoaa.Ca
namespace Go.Proofs.Ytgkkghphlbgcoaa.Ca
open Go.RowKit Go.Maps Ho
set_option maxRecDepth 100000
set_option linter.unusedVariables false
set_option linter.unusedSimpArgs false
theorem al_old (w : World) (o : Obj) (j : Nat) (h : j < w.heap.size) : (w.alloc o).heap[j]? = w.heap[j]? := ((Below.refl w.heap.size w).alloc (Nat.le_refl _) o).block j h
theorem til_next {ws : Nat → Nat} {len : Nat} : ∀ {L : List Nat} {a e : Nat}, Til ws len a L e → ∀ s ∈ L, s + (decP ws len s).n ∈ L ∨ s + (decP ws len s).n = e
  | [], _, _, _, s, hs => by cases hs
  | x :: r, a, e, h, s, hs => by
    obtain ⟨rfl, h0, h1⟩ := h
    rcases List.mem_cons.1 hs with rfl | hs'
    · cases r with
      | nil => exact .inr h1
      | cons y r' => obtain ⟨rfl, _⟩ := h1; exact .inl (by simp)
    · rcases til_next h1 s hs' with h2 | h2
      · exact .inl (List.mem_cons_of_mem _ h2)
      · exact .inr h2
theorem til_uniq {ws : Nat → Nat} {len : Nat} (hlt : ∀ i, ws i < 4294967296) : ∀ {L M : List Nat} {a e : Nat}, Til ws len a L e → Til ws len a M e → L = M
  | [], [], _, _, _, _ => rfl
  | [], y :: r, a, e, h1, h2 => by
    obtain ⟨rfl, h3, h4⟩ := h2
    have e1 : y = e := h1
    have := til_le h4
    have := (dec_size hlt h3).1
    omega
  | x :: r, [], a, e, h1, h2 => by
    obtain ⟨rfl, h3, h4⟩ := h1
    have e1 : x = e := h2
    have := til_le h4
    have := (dec_size hlt h3).1
    omega
  | x :: r, y :: r', a, e, h1, h2 => by
    obtain ⟨rfl, _, h4⟩ := h1
    obtain ⟨rfl, _, h6⟩ := h2
    rw [til_uniq hlt h4 h6]
theorem split_at {bs : List Rk} {i : Nat} {k : Rk} (h : bs[i]? = some k) : ∃ l1 l2, bs = l1 ++ k :: l2 ∧ l1.length = i := by
  obtain ⟨h1, h2⟩ := List.getElem?_eq_some_iff.1 h
  refine ⟨bs.take i, bs.drop (i + 1), ?_, by simp; omega⟩
  rw [← h2, ← List.drop_eq_getElem_cons h1, List.take_append_drop]
theorem encB_len : ∀ bs : List Rk, (encB bs).length = bs.length * 6
  | [] => rfl
  | b :: r => by
    have : encB (b :: r) = encK b ++ encB r := rfl
    rw [this, List.length_append, encB_len r]
    simp [encK]
    omega
theorem encB_mid (l1 l2 : List Rk) (k : Rk) : encB (l1 ++ k :: l2) = encB l1 ++ (encK k ++ encB l2) := by simp [encB]
theorem encB_set (l1 l2 : List Rk) (k : Rk) (ls' : List (Nat × Nat)) (lv' tv' : Value) : ((encB (l1 ++ k :: l2)).set (l1.length * 6 + 4) lv').set (l1.length * 6 + 5) tv' = encB (l1 ++ { k with ls := ls', lv := lv', tv := tv' } :: l2) := by
  rw [encB_mid, encB_mid]
  have e := encB_len l1
  rw [List.set_append_right _ _ (by omega), List.set_append_right _ _ (by omega), e]
  congr 1
  rw [show l1.length * 6 + 4 - l1.length * 6 = 4 by omega, show l1.length * 6 + 5 - l1.length * 6 = 5 by omega]
  rfl
theorem row_setc {w : World} {g b e sz n cap o : Nat} {xs : List Value} (h : w.ownsRow b e sz (.slice (some ⟨g, 0, none⟩) n cap) n xs) (v : Value) : (w.setCell ⟨g, o, none⟩ v).ownsRow b e sz (.slice (some ⟨g, 0, none⟩) n cap) n (xs.set o v) := by
  refine ⟨by simpa using h.1, ?_⟩
  rcases h.2 with ⟨e, _⟩ | ⟨g', cap', cur, e, h2, h3, h4, h5, h6, h7⟩
  · cases e
  · cases e
    refine .inr ⟨g, cap, cur.setIfInBounds o v, rfl, h2, So.blk_set h3 v, h4, h5, by simpa using h6, ?_⟩
    rw [← h7, Array.toList_setIfInBounds, List.take_set]
theorem nodup_mid {A M B M' : List Nat} (h : (A ++ (M ++ B)).Nodup) (hm : M'.Nodup) (hx : ∀ x ∈ M', x ∈ M ∨ (x ∉ A ∧ x ∉ B)) : (A ++ (M' ++ B)).Nodup := by
  rw [List.nodup_append, List.nodup_append] at h ⊢
  obtain ⟨h1, ⟨h2, h3, h4⟩, h5⟩ := h
  refine ⟨h1, ⟨hm, h3, fun a ha b hb e => ?_⟩, fun a ha b hb e => ?_⟩
  · subst e
    rcases hx a ha with h6 | ⟨_, h6⟩
    · exact h4 a h6 a hb rfl
    · exact h6 hb
  · subst e
    rcases List.mem_append.1 hb with hb | hb
    · rcases hx a hb with h6 | ⟨h6, _⟩
      · exact h5 a ha a (List.mem_append.2 (.inl h6)) rfl
      · exact h6 ha
    · exact h5 a ha a (List.mem_append.2 (.inr hb)) rfl
/-- The blocks that are written, around one block. -/
theorem wrB_mid (D : Nat) (J : Rd) (l1 l2 : List Rk) (k : Rk) : wrB D J (l1 ++ k :: l2) = ([D, J.sb, J.hb] ++ (J.bv.ownBlock.toList ++ l1.flatMap fun k => k.lv.ownBlock.toList ++ k.tv.ownBlock.toList)) ++ ((k.lv.ownBlock.toList ++ k.tv.ownBlock.toList) ++ l2.flatMap fun k => k.lv.ownBlock.toList ++ k.tv.ownBlock.toList) := by
  simp [wrB, List.append_assoc]
theorem wrB_far {w : World} {D : Nat} {J : Rd} {d : Rs} (h : Rw w D J d) {l1 l2 : List Rk} {k : Rk} (hbs : d.bs = l1 ++ k :: l2) : ∀ j, (k.lv.ownBlock = some j ∨ k.tv.ownBlock = some j) → (j ≠ D ∧ j ≠ J.sb ∧ j ≠ J.hb ∧ J.bv.ownBlock ≠ some j) ∧ ∀ q, q ∈ l1 ∨ q ∈ l2 → q.lv.ownBlock ≠ some j ∧ q.tv.ownBlock ≠ some j := by
  intro j hj
  have hm : k ∈ d.bs := by rw [hbs]; simp
  refine ⟨h.ne.2.2.2.2 k hm j hj, fun q hq => ?_⟩
  have hn := h.nd
  rw [hbs, wrB_mid, List.nodup_append] at hn
  obtain ⟨_, hn2, h5⟩ := hn
  rw [List.nodup_append] at hn2
  obtain ⟨_, _, h4⟩ := hn2
  have hjm : j ∈ k.lv.ownBlock.toList ++ k.tv.ownBlock.toList := by rcases hj with e | e <;> simp [e]
  have key : q.lv.ownBlock = some j ∨ q.tv.ownBlock = some j → False := fun hq2 => by
    have hjq : j ∈ q.lv.ownBlock.toList ++ q.tv.ownBlock.toList := by rcases hq2 with e | e <;> simp [e]
    rcases hq with hq | hq
    · exact h5 j (List.mem_append.2 (.inr (List.mem_append.2 (.inr (List.mem_flatMap.2 ⟨q, hq, hjq⟩))))) j (List.mem_append.2 (.inl hjm)) rfl
    · exact h4 j hjm j (List.mem_flatMap.2 ⟨q, hq, hjq⟩) rfl
  exact ⟨fun e => key (.inl e), fun e => key (.inr e)⟩
/-- One block of the document's cache leads on otherwise. -/
theorem Rw.setK {w w' : World} {D : Nat} {J : Rd} {d : Rs} (h : Rw w D J d) {l1 l2 : List Rk} {k : Rk} (hbs : d.bs = l1 ++ k :: l2) (ls' : List (Nat × Nat)) (lv' tv' : Value)
    (hl : w'.ownsRow 0 3 1 lv' ls'.length (ls'.map fun p => .int .i64 p.1)) (ht : w'.ownsRow 0 30 1 tv' ls'.length (ls'.map fun p => .int .u32 p.2))
    (hr : w'.ownsRow 0 100 6 J.bv d.bs.length (encB (l1 ++ { k with ls := ls', lv := lv', tv := tv' } :: l2)))
    (hk : ∀ j, j < w.heap.size → J.bv.ownBlock ≠ some j → k.lv.ownBlock ≠ some j → k.tv.ownBlock ≠ some j → w'.heap[j]? = w.heap[j]?)
    (ol : ∀ j, lv'.ownBlock = some j → k.lv.ownBlock = some j ∨ w.heap.size ≤ j) (ot : ∀ j, tv'.ownBlock = some j → k.tv.ownBlock = some j ∨ w.heap.size ≤ j) (hn : ∀ j, lv'.ownBlock = some j → tv'.ownBlock ≠ some j) :
    Rw w' D J { d with bs := l1 ++ { k with ls := ls', lv := lv', tv := tv' } :: l2 } := by
  have hm : k ∈ d.bs := by rw [hbs]; simp
  have far := wrB_far h hbs
  obtain ⟨n1, n2, n3, n4, n5⟩ := h.ne
  obtain ⟨A, a1, a2⟩ := h.sl
  obtain ⟨B, b1, b2⟩ := h.hs
  have keep : ∀ j, j < w.heap.size → J.bv.ownBlock ≠ some j → (k.lv.ownBlock = some j ∨ k.tv.ownBlock = some j → False) → w'.heap[j]? = w.heap[j]? := fun j h1 h2 h3 => hk j h1 h2 (fun e => h3 (.inl e)) fun e => h3 (.inr e)
  have kD := keep D (So.row_lt h.c0) (fun e => (n4 D e).1 rfl) (fun e => (far D e).1.1 rfl)
  have kS := keep J.sb (So.row_lt a1) (fun e => (n4 _ e).2.1 rfl) (fun e => (far _ e).1.2.1 rfl)
  have kH := keep J.hb (So.row_lt b1) (fun e => (n4 _ e).2.2 rfl) (fun e => (far _ e).1.2.2.1 rfl)
  have krd : ∀ j, j ∈ rdB d.bs → w'.heap[j]? = w.heap[j]? := fun j hj => by
    have := h.ap j hj
    exact keep j (h.lt j (.inr hj)) (fun e => this (mem_wr.2 (.inr (.inr (.inr (.inl e)))))) (fun e => this (mem_wr.2 (.inr (.inr (.inr (.inr ⟨k, hm, e⟩))))))
  have hin : ∀ q, q ∈ l1 ∨ q ∈ l2 → q ∈ d.bs := fun q hq => by rw [hbs]; simp; rcases hq with hq | hq; exact .inl hq; exact .inr (.inr hq)
  have hnew : ∀ j, j ∈ wrB D J (l1 ++ { k with ls := ls', lv := lv', tv := tv' } :: l2) → j ∈ wrB D J d.bs ∨ w.heap.size ≤ j := fun j hj => by
    rcases mem_wr.1 hj with e | e | e | e | ⟨q, hq, e⟩
    · exact .inl (mem_wr.2 (.inl e))
    · exact .inl (mem_wr.2 (.inr (.inl e)))
    · exact .inl (mem_wr.2 (.inr (.inr (.inl e))))
    · exact .inl (mem_wr.2 (.inr (.inr (.inr (.inl e)))))
    · simp only [List.mem_append, List.mem_cons] at hq
      rcases hq with hq | rfl | hq
      · exact .inl (mem_wr.2 (.inr (.inr (.inr (.inr ⟨q, hin q (.inl hq), e⟩)))))
      · rcases e with e | e
        · rcases ol j e with e2 | e2
          · exact .inl (mem_wr.2 (.inr (.inr (.inr (.inr ⟨k, hm, .inl e2⟩)))))
          · exact .inr e2
        · rcases ot j e with e2 | e2
          · exact .inl (mem_wr.2 (.inr (.inr (.inr (.inr ⟨k, hm, .inr e2⟩)))))
          · exact .inr e2
      · exact .inl (mem_wr.2 (.inr (.inr (.inr (.inr ⟨q, hin q (.inr hq), e⟩)))))
  have hrd : ∀ j, j ∈ rdB (l1 ++ { k with ls := ls', lv := lv', tv := tv' } :: l2) → j ∈ rdB d.bs := fun j hj => by
    rw [hbs]
    simpa [rdB] using hj
  refine ⟨kD.trans h.c0, ?_, ⟨A, kS.trans a1, a2⟩, ⟨B, kH.trans b1, b2⟩, fun q hq => ?_, ?_, fun j hj hj2 => ?_, ⟨h.rm.1, h.rm.2.1, h.rm.2.2.1, h.rm.2.2.2.1, h.rm.2.2.2.2.1, ?_⟩⟩
  · have e : (l1 ++ { k with ls := ls', lv := lv', tv := tv' } :: l2).length = d.bs.length := by rw [hbs]; simp
    show World.ownsRow w' 0 100 6 J.bv (l1 ++ { k with ls := ls', lv := lv', tv := tv' } :: l2).length _
    rw [e]
    exact hr
  · have other : ∀ q, q ∈ l1 ∨ q ∈ l2 → Rkw w' q := fun q hq => by
      refine (h.kb q (hin q hq)).keep fun j e => ?_
      rcases e with e | e | e | e
      · exact krd j (mem_rd.2 ⟨q, hin q hq, .inl e⟩)
      · exact krd j (mem_rd.2 ⟨q, hin q hq, .inr e⟩)
      · exact keep j ((h.kb q (hin q hq)).lv.lt j e).2 (n5 q (hin q hq) j (.inl e)).2.2.2 (fun e2 => ((far j e2).2 q hq).1 e)
      · exact keep j ((h.kb q (hin q hq)).tv.lt j e).2 (n5 q (hin q hq) j (.inr e)).2.2.2 (fun e2 => ((far j e2).2 q hq).2 e)
    have hq' : q ∈ l1 ++ { k with ls := ls', lv := lv', tv := tv' } :: l2 := hq
    simp only [List.mem_append, List.mem_cons] at hq'
    rcases hq' with hq | rfl | hq
    · exact other q (.inl hq)
    · have hkw := h.kb k hm
      exact ⟨hkw.pc, hkw.lt, row_keep hkw.cv fun j e => krd j (mem_rd.2 ⟨k, hm, .inl e⟩), row_keep hkw.pv fun j e => krd j (mem_rd.2 ⟨k, hm, .inr e⟩), hl, ht, hkw.lo⟩
    · exact other q (.inr hq)
  · show (wrB D J (l1 ++ { k with ls := ls', lv := lv', tv := tv' } :: l2)).Nodup
    have hn0 := h.nd
    rw [hbs, wrB_mid] at hn0
    rw [wrB_mid]
    refine nodup_mid hn0 ?_ fun x hx => ?_
    · rw [List.nodup_append]
      refine ⟨by cases lv'.ownBlock <;> simp, by cases tv'.ownBlock <;> simp, fun a ha b hb e => ?_⟩
      subst e
      simp only [Option.mem_toList] at ha hb
      exact hn a ha hb
    · have big : w.heap.size ≤ x → x ∉ ([D, J.sb, J.hb] ++ (J.bv.ownBlock.toList ++ l1.flatMap fun k => k.lv.ownBlock.toList ++ k.tv.ownBlock.toList)) ∧ x ∉ (l2.flatMap fun k => k.lv.ownBlock.toList ++ k.tv.ownBlock.toList) := fun hb => by
        constructor
        · intro hx2
          have : x ∈ wrB D J d.bs := by rw [hbs, wrB_mid]; exact List.mem_append.2 (.inl hx2)
          have := h.lt x (.inl this); omega
        · intro hx2
          have : x ∈ wrB D J d.bs := by rw [hbs, wrB_mid]; exact List.mem_append.2 (.inr (List.mem_append.2 (.inr hx2)))
          have := h.lt x (.inl this); omega
      simp only [List.mem_append, Option.mem_toList] at hx
      rcases hx with e | e
      · rcases ol x e with e2 | e2
        · exact .inl (by simp [e2])
        · exact .inr (big e2)
      · rcases ot x e with e2 | e2
        · exact .inl (by simp [e2])
        · exact .inr (big e2)
  · have h1 := hrd j hj
    rcases hnew j hj2 with h2 | h2
    · exact h.ap j h1 h2
    · have := h.lt j (.inr h1); omega
  · show (l1 ++ { k with ls := ls', lv := lv', tv := tv' } :: l2).length ≤ 1048576
    have e : (l1 ++ { k with ls := ls', lv := lv', tv := tv' } :: l2).length = d.bs.length := by rw [hbs]; simp
    rw [e]
    exact h.rm.2.2.2.2.2
end Go.Proofs.Ytgkkghphlbgcoaa.Ca
namespace Go.Proofs.Ytgkkghphlbgcoaa.Ca
open Go.RowKit Go.Maps Ho
set_option maxRecDepth 100000
set_option linter.unusedVariables false
set_option linter.unusedSimpArgs false
def uL (l : List Nat) : List Value := l.map fun (x : Nat) => Value.int .u32 (x : Int)
theorem row_u {w : World} {b n : Nat} {v : Value} {xs : List Value} (h : w.ownsRow b 30 1 v n xs) (h0 : 0 < n) : ∃ g cap cur, v = .slice (some ⟨g, 0, none⟩) n cap ∧ b ≤ g ∧ w.heap[g]? = some (.cells cur 30) ∧ ∀ i u, xs[i]? = some u → w.cell? ⟨g, i, none⟩ = some u := by
  rcases h.2 with ⟨e, e0⟩ | ⟨g, cap, cur, e, h2, h3, h4, h5, h6, h7⟩
  · omega
  · refine ⟨g, cap, cur, e, h2, h3, fun i u hu => ?_⟩
    have hi := (List.getElem?_eq_some_iff.1 hu).1
    rw [← h7] at hu hi
    rw [List.length_take] at hi
    rw [List.getElem?_take_of_lt (by omega)] at hu
    rw [So.row_cell h3]
    simpa using hu
theorem tw_at : ∀ (l : List Nat) (pc m : Nat), m ≤ l.length → (∀ j x, j < m → l[j]? = some x → x < pc) → (∀ x, l[m]? = some x → ¬ x < pc) → insP pc l = l.take m ++ pc :: l.drop m
  | [], pc, m, hm, _, _ => by
    have : m = 0 := by simpa using hm
    subst this; rfl
  | y :: r, pc, 0, _, _, h2 => by
    have := h2 y rfl
    unfold insP
    rw [List.takeWhile_cons_of_neg (by simpa using this), List.dropWhile_cons_of_neg (by simpa using this)]
    rfl
  | y :: r, pc, m + 1, hm, h1, h2 => by
    have hy := h1 0 y (by omega) rfl
    have ih := tw_at r pc m (by simpa using hm) (fun j x hj hx => h1 (j + 1) x (by omega) (by simpa using hx)) (fun x hx => h2 x (by simpa using hx))
    unfold insP at ih ⊢
    rw [List.takeWhile_cons_of_pos (by simpa using hy), List.dropWhile_cons_of_pos (by simpa using hy), List.cons_append, ih]
    rfl
theorem plP_take (bs : List Rk) (i : Nat) (k : Rk) (h : bs[i]? = some k) : plP (bs.take (i + 1)) = insP k.pc (plP (bs.take i)) := by
  obtain ⟨h1, h2⟩ := List.getElem?_eq_some_iff.1 h
  unfold plP
  rw [← List.take_append_getElem h1, List.foldl_append, h2]
  rfl
theorem plP_len (bs : List Rk) : (plP bs).length = bs.length := by
  have := (plP_ok bs).2.length_eq
  simpa using this
structure PlO (w : World) (d : Rs) (u v : Value) (wr : World) : Prop where
  ex : ∃ i : Nat, v = .int .i64 i ∧ i ≤ d.bs.length ∧ wr.ownsRow w.heap.size 30 1 u i (uL (plP (d.bs.take i))) ∧ Below w.heap.size w wr
structure PlA (w : World) (l : List Nat) (n pc X : Nat) (A : Array Value) (v3 : Value) (v : Value) (wr : World) : Prop where
  ex : ∃ m : Nat, v = .int .i64 m ∧ m ≤ n ∧ (∀ j x, j < m → l[j]? = some x → x < pc) ∧ wr.ownsRow w.heap.size 30 1 v3 n (uL l) ∧ wr.heap[X]? = some (.cells A 100) ∧ Below w.heap.size w wr
structure PlC (l : List Nat) (n pc m : Nat) (W : World) (v : Value) (wx : World) : Prop where
  ex : ∃ b, v = .bool b ∧ (b = true → m < n ∧ ∀ x, l[m]? = some x → x < pc) ∧ (b = false → ∀ x, l[m]? = some x → ¬ x < pc) ∧ Below W.heap.size W wx
structure PlB (w : World) (l : List Nat) (n n1 m X : Nat) (A : Array Value) (v3 : Value) (v : Value) (wr : World) : Prop where
  ex : ∃ (i y : Nat), v = .int .i64 i ∧ m ≤ i ∧ i ≤ n ∧ wr.ownsRow w.heap.size 30 1 v3 n1 (uL (l.take i ++ y :: l.drop i)) ∧ wr.heap[X]? = some (.cells A 100) ∧ Below w.heap.size w wr
set_option maxHeartbeats 8000000 in
theorem rPlaces_any (D : Nat) (J : Rd) (d : Rs) (w : World) (h : Rw w D J d) :
    Calls Try.prog 32 #[.pointer (some ⟨D, 0, none⟩)] w fun e w' => ∃ v, e = .returned v ∧ w'.ownsRow w.heap.size 30 1 v d.bs.length (uL (plP d.bs)) ∧ Below w.heap.size w w' := by
  obtain ⟨i0, hi0, hz0, hz1, hz2⟩ := info_parts infoU
  obtain ⟨_, _, c2, _, _⟩ := h.cell
  obtain ⟨ba, bcap, hbv, _⟩ := h.blocks
  rw [hbv] at c2
  have HR : Hid _ := h
  have HBV : Hid _ := hbv
  obtain ⟨_, _, _, _, _, hbl⟩ := h.rm
  clear h hbv
  go_enter Try.func32, Try.ntmps32
  go_wp2
  go_loopw [3, 13] (fun u v wr => PlO w d u v wr) (fun _ v _ => d.bs.length - (intOf v).toNat)
  case atStart => exact ⟨0, rfl, Nat.zero_le _, World.ownsRow_nil _ _ _ _, Below.refl _ _⟩
  case round =>
    obtain ⟨wo, rfl⟩ : ∃ wo, wo = wr := ⟨_, rfl⟩
    obtain ⟨i, rfl, hi, hrow, hb⟩ := hrel
    have HB : Hid _ := hb
    obtain ⟨l, hl⟩ : ∃ l, plP (d.bs.take i) = l := ⟨_, rfl⟩
    have HL : Hid (plP (d.bs.take i) = l) := hl
    have hll : l.length = i := by rw [← hl, plP_len, List.length_take]; omega
    rw [hl] at hrow
    clear hl
    by_cases hin : i < d.bs.length
    · obtain ⟨k, hk⟩ : ∃ k, d.bs[i]? = some k := ⟨_, List.getElem?_eq_getElem hin⟩
      obtain ⟨g, bcap', ca, ccap, pa, pcap, la, lcap, ta, tcap, e, hg, _, y0, y1, y2, y3, y4, y5⟩ := HR.out.block hk
      rw [HBV.out] at e
      cases e
      have x0 := (hb.cell (p := ⟨g, i * 6, none⟩) hg).trans y0
      have x1 := (hb.cell (p := ⟨g, i * 6 + 1, none⟩) hg).trans y1
      have x2 := (hb.cell (p := ⟨g, i * 6 + 2, none⟩) hg).trans y2
      have x3 := (hb.cell (p := ⟨g, i * 6 + 3, none⟩) hg).trans y3
      have x4 := (hb.cell (p := ⟨g, i * 6 + 4, none⟩) hg).trans y4
      have x5 := (hb.cell (p := ⟨g, i * 6 + 5, none⟩) hg).trans y5
      have f1 : (i : Int) < (d.bs.length : Int) := by omega
      have f2 : decide ((i : Int) < (d.bs.length : Int)) = true := decide_eq_true f1
      have f3 : (0 : Int) ≤ (i : Int) := by omega
      obtain ⟨i1, hi1⟩ : ∃ i1, i + 1 = i1 := ⟨_, rfl⟩
      have t1 : IntKind.i64.wrap ((i : Int) + 1) = (i1 : Int) := So.wr_one hi1 (by omega)
      have HI1 : Hid _ := hi1
      have HPL : Hid _ := plP_take d.bs i k hk
      obtain ⟨a3, cap3, rfl⟩ := row_sl hrow
      have HROW : Hid (wo.ownsRow w.heap.size 30 1 (.slice a3 i cap3) i (uL l)) := hrow
      have HLL : Hid (l.length = i) := hll
      have HNE : Hid (∀ j, (Value.slice a3 i cap3).ownBlock = some j → j ≠ wo.heap.size) := (fun j e e2 => by have := (hrow.lt j e).2; omega)
      clear y0 y1 y2 y3 y4 y5 hi1 hk hrow hb hll
      go_wp2
      go_loopw [6] (fun v wr2 => PlA w l i k.pc wo.heap.size #[.int .u32 k.pc, .slice ca k.len ccap, .slice pa k.pn pcap, .int .i64 k.at', .slice la k.ls.length lcap, .slice ta k.ls.length tcap] (.slice a3 i cap3) v wr2) (fun v _ => i - (intOf v).toNat)
      case atStart => exact ⟨0, rfl, Nat.zero_le _, fun j x hj => absurd hj (Nat.not_lt_zero _), HROW.out.alloc _, World.alloc_heap_new _ _, HB.out.trans ((Below.refl _ _).alloc HB.out.size _)⟩
      case round =>
        obtain ⟨wa, rfl⟩ : ∃ wa, wa = wr := ⟨_, rfl⟩
        obtain ⟨m, rfl, hm, hlow, hrowA, hX, hbA⟩ := hrel
        have HLOW : Hid (∀ j x, j < m → l[j]? = some x → x < k.pc) := hlow
        have HROWA : Hid (wa.ownsRow w.heap.size 30 1 (.slice a3 i cap3) i (uL l)) := hrowA
        have HX : Hid (wa.heap[wo.heap.size]? = some (.cells #[.int .u32 k.pc, .slice ca k.len ccap, .slice pa k.pn pcap, .int .i64 k.at', .slice la k.ls.length lcap, .slice ta k.ls.length tcap] 100)) := hX
        have HBA : Hid _ := hbA
        have z0 : wa.cell? ⟨wo.heap.size, 0, none⟩ = some (.int .u32 k.pc) := (So.row_cell hX 0).trans rfl
        clear hlow hrowA hX hbA
        go_upto_region 6 with fail
        go_cut [29] from 17 to 29 (fun v wx => PlC l i k.pc m wa v wx)
        case first =>
          by_cases hml : m < i
          · obtain ⟨x, hx⟩ : ∃ x, l[m]? = some x := ⟨_, List.getElem?_eq_getElem (by have := HLL.out; omega)⟩
            obtain ⟨g3, cap', cur, e, _, _, hc⟩ := row_u HROWA.out (by omega)
            cases e
            have zx := hc m (.int .u32 x) (by simp [uL, hx])
            have f5 : (m : Int) < (i : Int) := by omega
            have f6 : decide ((m : Int) < (i : Int)) = true := decide_eq_true f5
            have f7 : (0 : Int) ≤ (m : Int) := by omega
            have HXX : Hid _ := hx
            clear hc hx
            by_cases hlt : x < k.pc
            · have f8 : (x : Int) < (k.pc : Int) := by omega
              have f9 : decide ((x : Int) < (k.pc : Int)) = true := decide_eq_true f8
              go_region
              go_wp2
              go_meet
              exact ⟨true, rfl, fun _ => ⟨hml, fun y hy => by rw [HXX.out] at hy; cases hy; exact hlt⟩, by simp, (Below.refl _ _).drew⟩
            · have f8 : ¬ (x : Int) < (k.pc : Int) := by omega
              have f9 : decide ((x : Int) < (k.pc : Int)) = false := decide_eq_false f8
              go_region
              go_wp2
              go_meet
              exact ⟨false, rfl, by simp, fun _ y hy => by rw [HXX.out] at hy; cases hy; exact hlt, (Below.refl _ _).drew⟩
          · have f5 : ¬ (m : Int) < (i : Int) := by omega
            have f6 : decide ((m : Int) < (i : Int)) = false := decide_eq_false f5
            go_region
            go_wp2
            go_meet
            exact ⟨false, rfl, by simp, fun _ y hy => absurd (List.getElem?_eq_some_iff.1 hy).1 (by have := HLL.out; omega), (Below.refl _ _).drew⟩
        case rest =>
          obtain ⟨b, rfl, hbt, hbf, hbx⟩ := hcut
          have HBX : Hid _ := hbx
          have hBC : Below w.heap.size w wc := HBA.out.trans (hbx.mono HBA.out.size)
          have HBC : Hid _ := hBC
          have hrC : wc.ownsRow w.heap.size 30 1 (.slice a3 i cap3) i (uL l) := row_keep HROWA.out fun j e => hbx.block j (HROWA.out.lt j e).2
          have hXC := (hbx.block _ (So.row_lt HX.out)).trans HX.out
          have HRC : Hid (wc.ownsRow w.heap.size 30 1 (.slice a3 i cap3) i (uL l)) := hrC
          have HXC : Hid _ := hXC
          clear hbx hBC hrC
          cases b with
          | true =>
            have HBT : Hid _ := hbt rfl
            obtain ⟨m1, hm1⟩ : ∃ m1, m + 1 = m1 := ⟨_, rfl⟩
            have t2 : IntKind.i64.wrap ((m : Int) + 1) = (m1 : Int) := So.wr_one hm1 (by omega)
            have HM1 : Hid _ := hm1
            clear hbt hbf hm1 hXC
            go_wp2
            refine ⟨⟨m1, rfl, by have := HM1.out; have := HBT.out.1; omega, fun j x hj hx => ?_, HRC.out, HXC.out, HBC.out⟩, by have := HM1.out; have := HBT.out.1; simp [intOf]; omega⟩
            rcases Nat.lt_or_ge j m with h | h
            · exact HLOW.out j x h hx
            · obtain rfl : j = m := by have := HM1.out; omega
              exact HBT.out.2 x hx
          | false =>
            have HBF : Hid _ := hbf rfl
            clear hbt hbf hXC
            go_wp2_with (at_builtin; refine mkI ?_)
            unfold Mk
            refine wpList_append_own_at _ rfl _ _ 32 rfl w.heap.size 30 i0 (.int .u32 0) 1 4 Try.underlying32 hi0 hz0 hz1 hz2 rfl (by decide) _ i (uL l) rfl (HRC.out.alloc _) ⟨wc.heap.size, 0, none⟩ 1 1 [.int .u32 0] rfl rfl (cell_one_new _ _ _) (by simp [Value.oneCell']) (by rw [show maxLen = 9223372036854775807 by decide]; omega) (by omega) (by have := HBC.out.size; simp; omega) ?_
            intro v4 w5 hown hgrow _ hob
            rw [HI1.out] at hown
            obtain ⟨a4, cap4, rfl⟩ := row_sl hown
            have s5 := hgrow.size
            simp only [World.size_alloc] at s5
            have hB5 : Below w.heap.size w w5 := HBC.out.trans (((Below.refl w.heap.size wc).alloc HBC.out.size _).trans ⟨hgrow.os, hgrow.tape, hgrow.output, hgrow.size, fun j hj => hgrow.block j (by have := HBC.out.size; simp; omega) (fun e => by have := (HRC.out.lt j e.symm).1; omega)⟩)
            have hX5 : w5.heap[wo.heap.size]? = some (.cells #[.int .u32 k.pc, .slice ca k.len ccap, .slice pa k.pn pcap, .int .i64 k.at', .slice la k.ls.length lcap, .slice ta k.ls.length tcap] 100) := (hgrow.block _ (by have := So.row_lt HXC.out; simp; omega) (fun e => HNE.out _ e.symm rfl)).trans ((al_old _ _ _ (So.row_lt HXC.out)).trans HXC.out)
            have HROW5 : Hid (w5.ownsRow w.heap.size 30 1 (.slice a4 i1 cap4) i1 (uL l ++ [.int .u32 0])) := hown
            have HX5 : Hid _ := hX5
            have HNX : Hid (∀ j, (Value.slice a4 i1 cap4).ownBlock = some j → j ≠ wo.heap.size) := (fun j e => by
              rcases hob with e2 | e2
              · exact HNE.out j (e2 ▸ e)
              · rw [e2] at e; cases e; have := So.row_lt HXC.out; simp; omega)
            have HB5 : Hid _ := hB5
            have t2 : IntKind.i64.wrap ((i1 : Int) - 1) = (i : Int) := So.wr_dec HI1.out.symm (by omega)
            clear hown hgrow hB5 hX5 s5 hob
            go_wp2
            go_loopw [7] (fun v wr3 => PlB w l i i1 m wo.heap.size #[.int .u32 k.pc, .slice ca k.len ccap, .slice pa k.pn pcap, .int .i64 k.at', .slice la k.ls.length lcap, .slice ta k.ls.length tcap] (.slice a4 i1 cap4) v wr3) (fun v _ => (intOf v).toNat)
            case atStart =>
              refine ⟨i, 0, rfl, hm, Nat.le_refl _, ?_, HX5.out, HB5.out⟩
              rw [List.take_of_length_le (by have := HLL.out; omega), List.drop_of_length_le (by have := HLL.out; omega)]
              simpa [uL] using HROW5.out
            case round =>
              obtain ⟨wb, rfl⟩ : ∃ wb, wb = wr := ⟨_, rfl⟩
              obtain ⟨j, y, rfl, hmj, hj, hrowB, hXB, hbB⟩ := hrel
              have HROWB : Hid (wb.ownsRow w.heap.size 30 1 (.slice a4 i1 cap4) i1 (uL (l.take j ++ y :: l.drop j))) := hrowB
              have HXB : Hid _ := hXB
              have HBB : Hid _ := hbB
              obtain ⟨g4, cap', cur, e, hg4, hcur, hc⟩ := row_u hrowB (by have := HI1.out; omega)
              cases e
              have hi1i : i < i1 := by have := HI1.out; omega
              by_cases hjm : m < j
              · obtain ⟨j0, hj0⟩ : ∃ j0, j = j0 + 1 := ⟨j - 1, by omega⟩
                obtain ⟨x, hx⟩ : ∃ x, l[j0]? = some x := ⟨_, List.getElem?_eq_getElem (by have := HLL.out; omega)⟩
                have hjl : (l.take j).length = j := by rw [List.length_take]; have := HLL.out; omega
                have zx := hc j0 (.int .u32 x) (by simp only [uL, List.getElem?_map]; rw [List.getElem?_append_left (by omega), List.getElem?_take_of_lt (by omega), hx]; rfl)
                have zy := hc j (.int .u32 y) (by simp only [uL, List.getElem?_map]; rw [List.getElem?_append_right (by omega), hjl, Nat.sub_self]; rfl)
                have zf := So.row_fr hcur j
                have f5 : (m : Int) < (j : Int) := by omega
                have f6 : decide ((m : Int) < (j : Int)) = true := decide_eq_true f5
                have f7 : (0 : Int) ≤ (j : Int) := by omega
                have f8 : (0 : Int) ≤ (j0 : Int) := by omega
                have f9 : (j : Int) < (i1 : Int) := by omega
                have f10 : (j0 : Int) < (i1 : Int) := by omega
                have t3 : IntKind.i64.wrap ((j : Int) - 1) = (j0 : Int) := So.wr_dec hj0 (by omega)
                have HJ0 : Hid _ := hj0
                have HXV : Hid _ := hx
                clear hc hj0 hx hrowB hXB hbB hjl hcur
                go_wp2
                refine ⟨⟨j0, x, rfl, by have := HJ0.out; omega, by have := HJ0.out; omega, ?_, ?_, HBB.out.setCell hg4 _⟩, by have := HJ0.out; simp [intOf]; omega⟩
                · have r := row_setc (o := j) HROWB.out (.int .u32 x)
                  have e1 : (uL (l.take j ++ y :: l.drop j)).set j (.int .u32 x) = uL (l.take j0 ++ x :: l.drop j0) := by
                    have hl0 := (List.getElem?_eq_some_iff.1 HXV.out)
                    have hjl : (l.take j).length = j := by rw [List.length_take]; have := HLL.out; omega
                    have e2 : l.drop j0 = x :: l.drop j := by rw [List.drop_eq_getElem_cons hl0.1, hl0.2, HJ0.out]
                    have e3 : l.take j = l.take j0 ++ [x] := by rw [HJ0.out, ← List.take_append_getElem hl0.1, hl0.2]
                    rw [e2]
                    simp only [uL, ← List.map_set]
                    congr 1
                    rw [List.set_append_right _ _ (by omega), hjl, Nat.sub_self, e3]
                    simp
                  rw [e1] at r
                  exact r
                · rw [So.blk_other (Ne.symm (HNX.out g4 rfl))]
                  exact HXB.out
              · obtain rfl : j = m := by omega
                have hjl : (l.take j).length = j := by rw [List.length_take]; have := HLL.out; omega
                have zy := hc j (.int .u32 y) (by simp only [uL, List.getElem?_map]; rw [List.getElem?_append_right (by omega), hjl, Nat.sub_self]; rfl)
                have zf := So.row_fr hcur j
                have zp : wb.cell? ⟨wo.heap.size, 0, none⟩ = some (.int .u32 k.pc) := (So.row_cell hXB 0).trans rfl
                have f5 : ¬ (j : Int) < (j : Int) := by omega
                have f6 : decide ((j : Int) < (j : Int)) = false := decide_eq_false f5
                have f7 : (0 : Int) ≤ (j : Int) := by omega
                have f9 : (j : Int) < (i1 : Int) := by omega
                clear hc hrowB hXB hbB hcur
                go_wp2
                refine ⟨⟨i1, rfl, by have := HI1.out; omega, ?_, HBB.out.setCell hg4 _⟩, by have := HI1.out; simp [intOf]; omega⟩
                have r := row_setc (o := j) HROWB.out (.int .u32 k.pc)
                rw [← HI1.out, HPL.out, HL.out, tw_at l k.pc j (by have := HLL.out; omega) HLOW.out HBF.out]
                rw [← HI1.out] at r
                have e1 : (uL (l.take j ++ y :: l.drop j)).set j (.int .u32 k.pc) = uL (l.take j ++ k.pc :: l.drop j) := by
                  simp only [uL, ← List.map_set]
                  congr 1
                  rw [List.set_append_right _ _ (by omega), hjl, Nat.sub_self]
                  rfl
                rw [e1] at r
                exact r
    · have f1 : ¬ (i : Int) < (d.bs.length : Int) := by omega
      have f2 : decide ((i : Int) < (d.bs.length : Int)) = false := decide_eq_false f1
      obtain rfl : i = d.bs.length := by omega
      have HROW : Hid (wo.ownsRow w.heap.size 30 1 u3 d.bs.length (uL l)) := hrow
      clear hrow hb
      go_wp2
      go_ret
      refine ⟨_, rfl, ?_, HB.out⟩
      rw [List.take_length] at HL
      rw [HL.out]
      exact HROW.out
end Go.Proofs.Ytgkkghphlbgcoaa.Ca
