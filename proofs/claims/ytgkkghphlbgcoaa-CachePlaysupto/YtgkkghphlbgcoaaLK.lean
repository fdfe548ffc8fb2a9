import Derived.Test.YtgkkghphlbgcoaaFL
import Derived.Test.YtgkkghphlbgcoaaPD
namespace Go.Proofs.Ytgkkghphlbgcoaa.Ca
open Go.RowKit Go.Maps Ho
set_option maxRecDepth 100000
set_option linter.unusedVariables false
set_option linter.unusedSimpArgs false
set_option maxHeartbeats 1000000 in
theorem is_any (B gb pc : Nat) (g : Int → Option Bl) (w : World) (hpc : pc < 4294967296) (hc : w.cell? ⟨B, 0, none⟩ = some (.map (some gb))) (hm : MW w 30 .u32 gb (fB g)) :
    Calls Try.prog 60 #[.int .u32 pc, .pointer (some ⟨B, 0, none⟩)] w fun e w' => e = .returned (.bool (g pc).isSome) ∧ Below w.heap.size w w' := by
  have HM : Hid _ := hm
  cases hb : g pc with
  | none =>
    have HV : Hid ((fB g pc).getD (.agg #[.int .i64 0, .int .i64 0, .int .u64 0, .int .u64 0, .int .u64 0, .int .u64 0]) = .agg #[.int .i64 0, .int .i64 0, .int .u64 0, .int .u64 0, .int .u64 0, .int .u64 0]) := (by rw [show fB g pc = none by simp [fB, hb]]; rfl)
    have HS : Hid ((fB g pc).isSome = false) := (by rw [show fB g pc = none by simp [fB, hb]]; rfl)
    clear hb
    go_enter Try.func60, Try.ntmps60
    go_wp2_with (at_lookup; refine wpList_look _ rfl _ _ 51 rfl 30 84 .u32 Try.underlying30 Try.underlying51 (zeroB _) gb _ rfl HM.out pc rfl (wfU pc hpc) (.agg #[.int .i64 0, .int .i64 0, .int .u64 0, .int .u64 0, .int .u64 0, .int .u64 0]) false HV.out HS.out ?_)
    go_ret
    exact ⟨rfl, (Below.refl _ _).alloc (Nat.le_refl _) _⟩
  | some b =>
    have HV : Hid ((fB g pc).getD (.agg #[.int .i64 0, .int .i64 0, .int .u64 0, .int .u64 0, .int .u64 0, .int .u64 0]) = .agg #[.int .i64 b.bg, .int .i64 b.sz, .int .u64 b.q0, .int .u64 b.q1, .int .u64 b.q2, .int .u64 b.q3]) := (by rw [show fB g pc = some (bV b) by simp [fB, hb]]; rfl)
    have HS : Hid ((fB g pc).isSome = true) := (by rw [show fB g pc = some (bV b) by simp [fB, hb]]; rfl)
    clear hb
    go_enter Try.func60, Try.ntmps60
    go_wp2_with (at_lookup; refine wpList_look _ rfl _ _ 51 rfl 30 84 .u32 Try.underlying30 Try.underlying51 (zeroB _) gb _ rfl HM.out pc rfl (wfU pc hpc) (.agg #[.int .i64 b.bg, .int .i64 b.sz, .int .u64 b.q0, .int .u64 b.q1, .int .u64 b.q2, .int .u64 b.q3]) true HV.out HS.out ?_)
    go_ret
    exact ⟨rfl, (Below.refl _ _).alloc (Nat.le_refl _) _⟩
/-- What exits are: each is one, and they lie apart. -/
structure Xo (c : Cs) : Prop where
  ok : ∀ s p, c.ex s = some p → ∃ n : Nat, s = (n : Int) ∧ (decP c.ws c.fill n).e = 0 ∧ exOp (decP c.ws c.fill n).x.op ∧ p.1 < 4294967296 ∧ p.2 < 4294967296
  apart : ∀ n m : Nat, c.ex n ≠ none → c.ex m ≠ none → n ≠ m → n + 2 ≤ m ∨ m + 2 ≤ n
/-- Is an exit turned back? -/
def tu (c : Cs) (g : Int → Option Bl) (lf : Int → Bool) (s : Nat) (p : Nat × Nat) : Bool := !lf s && (g p.1).isNone && (g p.2).isSome && ldB (decP c.ws c.fill s).x.op
structure Rl (c : Cs) (g : Int → Option Bl) (ws' : Nat → Nat) (ex' : Int → Option (Nat × Nat)) (lf : Int → Bool) : Prop where
  exs : ∀ s, ex' s = match c.ex s with | none => none | some p => if lf s = false ∧ (g p.1).isSome = true then none else some p
  far : ∀ j : Nat, (∀ s : Nat, c.ex s ≠ none → j ≠ s ∧ j ≠ s + 1) → ws' j = c.ws j
  at' : ∀ (s : Nat) (p : Nat × Nat), c.ex s = some p → (tu c g lf s p = true → ws' s = othN (c.ws s) ∧ ws' (s + 1) = p.2) ∧ (tu c g lf s p = false → ws' s = c.ws s ∧ ws' (s + 1) = c.ws (s + 1))
theorem Rl.start (c : Cs) (g : Int → Option Bl) : Rl c g c.ws c.ex (fun i => (fE c.ex i).isSome) := by
  refine ⟨fun s => ?_, fun _ _ => rfl, fun s p hp => ⟨fun h => ?_, fun _ => ⟨rfl, rfl⟩⟩⟩
  · cases e : c.ex s with
    | none => rfl
    | some p => simp [fE, e]
  · simp [tu, fE, hp] at h
theorem Rl.next {c : Cs} {g : Int → Option Bl} {ws' : Nat → Nat} {ex' : Int → Option (Nat × Nat)} {lf : Int → Bool} (h : Rl c g ws' ex' lf) (s : Nat) (p : Nat × Nat) (hp : c.ex s = some p) (hl : lf s = true) (X : Xo c) :
    ex' s = some p ∧ ws' s = c.ws s ∧ ws' (s + 1) = c.ws (s + 1) := by
  have h1 := h.exs s
  rw [hp] at h1
  simp [hl] at h1
  have h2 := (h.at' s p hp).2 (by simp [tu, hl])
  exact ⟨h1, h2.1, h2.2⟩
theorem Rl.del {c : Cs} {g : Int → Option Bl} {ws' : Nat → Nat} {ex' : Int → Option (Nat × Nat)} {lf : Int → Bool} (h : Rl c g ws' ex' lf) (s : Nat) (p : Nat × Nat) (hp : c.ex s = some p) (hl : lf s = true) (hg : (g p.1).isSome = true) :
    Rl c g ws' (fun z => if z = (s : Int) then none else ex' z) (fun z => lf z && !decide (z = (s : Int))) := by
  refine ⟨fun z => ?_, h.far, fun z q hq => ?_⟩
  · by_cases e : z = (s : Int)
    · subst e; simp [hp, hg]
    · rw [if_neg e, h.exs z]
      cases c.ex z with
      | none => rfl
      | some q => simp [e]
  · by_cases e : z = s
    · subst e
      rw [hp] at hq; cases hq
      have h2 := (h.at' z p hp).2 (by simp [tu, hl])
      have hn : (g p.1).isNone = false := by cases hh : g p.1 with | none => rw [hh] at hg; cases hg | some _ => rfl
      exact ⟨fun ht => by simp [tu, hn] at ht, fun _ => h2⟩
    · have e2 : ¬ (z : Int) = (s : Int) := by omega
      have et : tu c g (fun z => lf z && !decide (z = (s : Int))) z q = tu c g lf z q := by simp [tu, e2]
      rw [et]; exact h.at' z q hq
theorem Rl.skip {c : Cs} {g : Int → Option Bl} {ws' : Nat → Nat} {ex' : Int → Option (Nat × Nat)} {lf : Int → Bool} (h : Rl c g ws' ex' lf) (s : Nat) (p : Nat × Nat) (hp : c.ex s = some p) (hl : lf s = true) (hg : (g p.1).isSome = false) (hn : ((g p.2).isSome && ldB (decP c.ws c.fill s).x.op) = false) :
    Rl c g ws' ex' (fun z => lf z && !decide (z = (s : Int))) := by
  refine ⟨fun z => ?_, h.far, fun z q hq => ?_⟩
  · by_cases e : z = (s : Int)
    · subst e; rw [h.exs, hp]; simp [hg]
    · rw [h.exs z]
      cases c.ex z with
      | none => rfl
      | some q => simp [e]
  · by_cases e : z = s
    · subst e
      rw [hp] at hq; cases hq
      have h2 := (h.at' z p hp).2 (by simp [tu, hl])
      refine ⟨fun ht => ?_, fun _ => h2⟩
      simp only [tu, Bool.and_eq_true] at ht
      rw [ht.1.2, ht.2] at hn
      cases hn
    · have e2 : ¬ (z : Int) = (s : Int) := by omega
      have et : tu c g (fun z => lf z && !decide (z = (s : Int))) z q = tu c g lf z q := by simp [tu, e2]
      rw [et]; exact h.at' z q hq
theorem over_at (ws : Nat → Nat) (s v k : Nat) : over ws s [v, k] s = v ∧ over ws s [v, k] (s + 1) = k ∧ ∀ j, j ≠ s → j ≠ s + 1 → over ws s [v, k] j = ws j := by
  refine ⟨?_, ?_, fun j h1 h2 => ?_⟩
  · simp [over]
  · simp [over]
  · unfold over; rw [if_neg (by simp; omega)]
theorem Rl.turn {c : Cs} {g : Int → Option Bl} {ws' : Nat → Nat} {ex' : Int → Option (Nat × Nat)} {lf : Int → Bool} (h : Rl c g ws' ex' lf) (s : Nat) (p : Nat × Nat) (hp : c.ex s = some p) (hl : lf s = true) (X : Xo c) (hg : (g p.1).isSome = false) (hn : ((g p.2).isSome && ldB (decP c.ws c.fill s).x.op) = true) :
    Rl c g (over ws' s [othN (ws' s), p.2]) ex' (fun z => lf z && !decide (z = (s : Int))) := by
  obtain ⟨o1, o2, o3⟩ := over_at ws' s (othN (ws' s)) p.2
  have hgn : (g p.1).isNone = true := by cases hh : g p.1 with | none => rfl | some _ => rw [hh] at hg; cases hg
  have hn' := hn
  rw [Bool.and_eq_true] at hn'
  refine ⟨fun z => ?_, fun j hj => ?_, fun z q hq => ?_⟩
  · by_cases e : z = (s : Int)
    · subst e; rw [h.exs, hp]; simp [hg]
    · rw [h.exs z]
      cases c.ex z with
      | none => rfl
      | some q => simp [e]
  · obtain ⟨a1, a2⟩ := hj s (by rw [hp]; simp)
    rw [o3 j a1 a2]; exact h.far j hj
  · by_cases e : z = s
    · subst e
      rw [hp] at hq; cases hq
      have h2 := (h.at' z p hp).2 (by simp [tu, hl])
      refine ⟨fun _ => ⟨by rw [o1, h2.1], o2⟩, fun ht => ?_⟩
      simp [tu, hgn, hn'.1, hn'.2] at ht
    · have e2 : ¬ (z : Int) = (s : Int) := by omega
      have et : tu c g (fun z => lf z && !decide (z = (s : Int))) z q = tu c g lf z q := by simp [tu, e2]
      have ha := X.apart z s (by rw [hq]; simp) (by rw [hp]; simp) e
      rw [et, o3 z (by omega) (by omega), o3 (z + 1) (by omega) (by omega)]
      exact h.at' z q hq
theorem fE_upd (ex : Int → Option (Nat × Nat)) (s : Int) : upd (fE ex) s none = fE (fun z => if z = s then none else ex z) := by
  funext z
  unfold upd fE
  by_cases e : z = s <;> simp [e]
end Go.Proofs.Ytgkkghphlbgcoaa.Ca
namespace Go.Proofs.Ytgkkghphlbgcoaa.Ca
open Go.RowKit Go.Maps Ho
set_option maxRecDepth 100000
set_option linter.unusedVariables false
set_option linter.unusedSimpArgs false
structure RelR (w : World) (C gb : Nat) (I : Ids) (c : Cs) (g : Int → Option Bl) (wr : World) : Prop where
  ex : ∃ (ws' : Nat → Nat) (ex' : Int → Option (Nat × Nat)) (lf : Int → Bool) (cnt : Nat), RG wr 3 .i64 I.b2 (w.heap.size + 1) (fE ex') lf cnt ∧ Cw wr C I { c with ws := ws', ex := ex' } ∧ Rl c g ws' ex' lf ∧ MW wr 30 .u32 gb (fB g) ∧ wr.cell? ⟨w.heap.size, 0, none⟩ = some (.map (some gb)) ∧ Ch (fun k => k = I.b2 ∨ I.sl.ownBlock = some k) w wr
set_option maxHeartbeats 8000000 in
theorem release_any (C gb : Nat) (I : Ids) (c : Cs) (g : Int → Option Bl) (w : World) (h : Cw w C I c) (X : Xo c) (hm : MW w 30 .u32 gb (fB g)) (hgo : ¬ Own C I gb) :
    Calls Try.prog 43 #[.pointer (some ⟨C, 0, none⟩), .map (some gb)] w fun e w' => e = .returned (.tuple #[]) ∧ ∃ ws' ex', Cw w' C I { c with ws := ws', ex := ex' } ∧ Rl c g ws' ex' (fun _ => false) ∧ Ch (fun k => k = I.b2 ∨ I.sl.ownBlock = some k) w w' := by
  obtain ⟨_, _, _, _, c4⟩ := h.cell
  have HC : Hid _ := h
  have HX : Hid _ := X
  have hlC := h.own_lt C (.inl rfl)
  have hlg := hm.lt
  have HG : Hid _ := hm
  have HM : Hid (MW (w.alloc (.cells #[.map (some gb)] 51)) 3 .i64 I.b2 (fE c.ex)) := h.m2.keep (((Below.refl w.heap.size w).alloc (Nat.le_refl _) _).block _ h.m2.lt)
  clear h X hm
  go_enter Try.func43, Try.ntmps43
  go_wp2_with (at_range; refine wpList_rng _ rfl _ 52 rfl 3 89 .i64 Try.underlying3 Try.underlying52 I.b2 _ rfl HM.out ?_; intro w0 cnt0 hrg0 hg0 hs0)
  simp only [World.size_alloc] at hrg0 hs0 ⊢
  go_frame
  go_loopw [5] (fun _ wr => RelR w C gb I c g wr) (fun _ wr => wr.rangeLeft I.b2 (w.heap.size + 1))
  case atStart =>
    have hb0 : Below w.heap.size w w0 := (((Below.refl w.heap.size w).alloc (Nat.le_refl _) _).trans ⟨hg0.os, hg0.tape, hg0.output, hg0.size, fun k hk => hg0.block k (by simp; omega) (by simp)⟩)
    refine ⟨_, _, _, _, hrg0, HC.out.below hb0, Rl.start c g, HG.out.keep (hb0.block gb hlg), ?_, Ch.of_below _ hb0⟩
    rw [World.cell?_of_block (w := w.alloc (.cells #[.map (some gb)] 51)) (hg0.block w.heap.size (by simp) (by simp)), World.cell?_alloc_at] <;> rfl
  case round =>
    obtain ⟨ws', ex', lf, cnt, hrg, hcw, hrl, hmg, hcb, hch⟩ := hrel
    have HR : Hid _ := hrg
    have HW : Hid _ := hcw
    have HF : Hid (Rl c g ws' ex' lf) := hrl
    have HMG : Hid _ := hmg
    have HCh : Hid _ := hch
    clear hrg hrl hmg hch hg0 hrg0
    go_wp2_with (at_next; refine wpList_nxt _ rfl _ rfl 3 .i64 Try.underlying3 I.b2 (w.heap.size + 1) (fE ex') lf cnt rfl HR.out ?_ ?_)
    · intro hl0
      have hz : lf = fun _ => false := funext hl0
      go_wp2
      go_end0
      exact ⟨rfl, ws', ex', HW.out, hz ▸ HF.out, HCh.out⟩
    · intro i v w2 cnt2 hlf hf hwf hrg2 hlt hg2 hs2 hen
      obtain ⟨p, hp', rfl⟩ : ∃ p, ex' i = some p ∧ v = eV p := by
        unfold fE at hf
        cases e : ex' i with
        | none => rw [e] at hf; cases hf
        | some b => rw [e] at hf; cases hf; exact ⟨b, rfl, rfl⟩
      have hp : c.ex i = some p := by
        have h1 := HF.out.exs i
        rw [hp'] at h1
        cases e : c.ex i with
        | none => rw [e] at h1; cases h1
        | some q =>
          rw [e] at h1
          dsimp only at h1
          split at h1
          · cases h1
          · rw [h1]
      obtain ⟨s, rfl, hd0, hdo, p1, p2⟩ := HX.out.ok i p hp
      obtain ⟨of, tt⟩ := p
      dsimp only at p1 p2
      have E0 := exd HC.out.wb.lt hd0 hdo
      obtain ⟨nx1, nx2, nx3⟩ := HF.out.next s (of, tt) hp hlf HX.out
      have hdl : decP ws' c.fill s = decP c.ws c.fill s := dec_loc hd0 (by
        rw [E0.n]; intro j hj
        rcases (by omega : j = 0 ∨ j = 1) with rfl | rfl
        · exact nx2
        · exact nx3) (by rw [E0.n]; exact E0.le)
      have hown := HC.out.own_lt
      have hcw2 : Cw w2 C I { c with ws := ws', ex := ex' } := hcw.keep fun k hk => hg2.block k (hcw.own_lt k hk) (by simp; have := hown k hk; omega)
      have hlr := HR.out.lt
      have hb2g : w2.heap[gb]? = wr.heap[gb]? := hg2.block gb (by omega) (by simp; omega)
      have hb2b : w2.heap[w.heap.size]? = wr.heap[w.heap.size]? := hg2.block w.heap.size (by omega) (by simp)
      have hmg2 : MW w2 30 .u32 gb (fB g) := HMG.out.keep hb2g
      have hcb2 : w2.cell? ⟨w.heap.size, 0, none⟩ = some (.map (some gb)) := (World.cell?_of_block (a := ⟨w.heap.size, 0, none⟩) hb2b).trans hcb
      have hch2 : Ch (fun k => k = I.b2 ∨ I.sl.ownBlock = some k) w w2 := HCh.out.step (Ch.grown (· = w.heap.size + 1) hg2 rfl) fun i hi e => absurd e (by omega)
      have HW2 : Hid _ := hcw2
      have HR2 : Hid _ := hrg2
      have HP : Hid _ := hp
      have HMG2 : Hid _ := hmg2
      have HD : Hid _ := hdl
      have HE0 : Hid _ := E0
      have HCh2 : Hid _ := hch2
      have hl2 := hcw2.own_lt C (.inl rfl)
      have hbl : Below w2.heap.size w2 (w2.alloc (.cells #[.int .u32 of, .int .u32 tt] 89)) := (Below.refl _ _).alloc (Nat.le_refl _) _
      have hlw2 : w.heap.size + 1 < w2.heap.size := HR2.out.lt
      have hlx : lf s = true := hlf
      have HLX : Hid _ := hlx
      clear hs2 hcw hcw2 hrg2 hg2 hf hwf hp hp' hmg2 hdl E0 hch2 hdo hd0 nx1 nx2 nx3 hlf hlx hcb
      unfold eV at hen
      go_wp2_with (go_at_call 60; fail)
      refine Calls.mono (is_any w.heap.size gb of g _ p1 (by rw [World.cell?_alloc_old _ _ _ (by simp; omega)]; exact hcb2) (HMG2.out.keep (hbl.block gb (by omega)))) ?_
      rintro _ w3 ⟨rfl, hb3⟩
      dsimp only
      have hb23 : Below w2.heap.size w2 w3 := hbl.trans (hb3.mono (by simp))
      have t1 : w3.cell? ⟨w2.heap.size, 1, none⟩ = some (.int .u32 tt) := by rw [hb3.cell (by simp), World.cell?_alloc_at] <;> rfl
      have hcw3 := HW2.out.below hb23
      obtain ⟨_, _, _, _, d4⟩ := hcw3.cell
      have HW3 : Hid _ := hcw3
      have hmg3 : MW w3 30 .u32 gb (fB g) := HMG2.out.keep (hb23.block gb (by omega))
      have HMG3 : Hid _ := hmg3
      have hcb3 : w3.cell? ⟨w.heap.size, 0, none⟩ = some (.map (some gb)) := (hb23.cell (by show w.heap.size < _; omega)).trans hcb2
      have hrg3 := HR2.out.keep (w' := w3) (hb23.block _ HW2.out.m2.lt) (hb23.block _ hlw2)
      have HR3 : Hid _ := hrg3
      have hch3 : Ch (fun k => k = I.b2 ∨ I.sl.ownBlock = some k) w w3 := HCh2.out.trans (Ch.of_below _ hb23)
      have HCh3 : Hid _ := hch3
      have hl3 := hcw3.own_lt C (.inl rfl)
      have lw3 := hb23.size
      clear hcw3 hmg3 hrg3 hch3 hcb2
      cases hg1 : (g of).isSome with
      | true =>
        have HG1 : Hid _ := hg1
        clear hg1
        go_wp2_with (at_delete; refine wpList_delr _ rfl _ _ 52 3 rfl 89 .i64 Try.underlying3 Try.underlying52 I.b2 (w.heap.size + 1) _ _ _ rfl HR3.out s rfl (wfI s (by omega) (by have := HE0.out.le; have := HC.out.rm; omega)) (by simp) ?_; intro w4 cnt4 hrg4 hle4 hg4 hs4)
        rw [fE_upd] at hrg4
        have hcw4 := HW3.out.m2set hrg4.mw (Ch.grown (· = I.b2) hg4 rfl)
        have nb2 : gb ≠ I.b2 := fun e => hgo (.inr (.inr (.inr (.inl e))))
        have nbs : w.heap.size ≠ I.b2 := by have := HC.out.m2.lt; omega
        go_roundw
        case rel =>
          refine ⟨_, _, _, cnt4, hrg4, hcw4, HF.out.del s (of, tt) HP.out HLX.out HG1.out, HMG3.out.keep (hg4.block gb (by omega) (by simpa using nb2)), ?_, HCh3.out.trans (Ch.grown _ hg4 (.inl rfl))⟩
          rw [World.cell?_of_block (w := w3) (hg4.block w.heap.size (by omega) (by simpa using nbs))]
          exact hcb3
        case measure => rw [hrg4.left_eq, HR.out.left_eq]; omega
      | false =>
        have HG1 : Hid _ := hg1
        clear hg1
        go_wp2_with (go_at_call 60; fail)
        refine Calls.mono (is_any w.heap.size gb tt g _ p2 hcb3 HMG3.out) ?_
        rintro _ w4 ⟨rfl, hb4⟩
        dsimp only
        have HW4 : Hid _ := HW3.out.below hb4
        have t1' : w4.cell? ⟨w2.heap.size, 1, none⟩ = some (.int .u32 tt) := (hb4.cell (by show w2.heap.size < _; have := hb3.size; simp at this; omega)).trans t1
        have lw4 := hb4.size
        have lw3' : w2.heap.size + 1 ≤ w3.heap.size := by have := hb3.size; simpa using this
        cases hg2 : (g tt).isSome with
        | false =>
          have HG2 : Hid _ := hg2
          clear hg2
          go_wp2
          go_roundw
          case rel =>
            exact ⟨_, _, _, cnt2, HR3.out.keep (hb4.block _ HW3.out.m2.lt) (hb4.block _ (by omega)), HW4.out, HF.out.skip s (of, tt) HP.out HLX.out HG1.out (by rw [HG2.out]; rfl), HMG3.out.keep (hb4.block gb (by omega)), (hb4.cell (by show w.heap.size < _; omega)).trans hcb3, HCh3.out.trans (Ch.of_below _ hb4)⟩
          case measure => rw [(HR3.out.keep (w' := w4) (hb4.block _ HW3.out.m2.lt) (hb4.block _ (by omega))).left_eq, HR.out.left_eq]; omega
        | true =>
          have HG2 : Hid _ := hg2
          clear hg2
          go_wp2_with (go_at_call 40; fail)
          refine Calls.mono (leads_any C s I { c with ws := ws', ex := ex' } _ HW4.out) ?_
          rintro _ w5 ⟨rfl, hb5⟩
          dsimp only
          rw [HD.out]
          have hb35 : Below w3.heap.size w3 w5 := hb4.trans (hb5.mono hb4.size)
          have HW5 : Hid _ := HW3.out.below hb35
          have lw5 := hb35.size
          have t1'' : w5.cell? ⟨w2.heap.size, 1, none⟩ = some (.int .u32 tt) := (hb35.cell (by show w2.heap.size < _; omega)).trans t1
          have HR5 : Hid _ := HR3.out.keep (w' := w5) (hb35.block _ HW3.out.m2.lt) (hb35.block _ (by omega))
          cases hld : ldB (decP c.ws c.fill s).x.op with
          | false =>
            have HLD : Hid _ := hld
            clear hld
            go_wp2
            go_roundw
            case rel =>
              exact ⟨_, _, _, cnt2, HR5.out, HW5.out, HF.out.skip s (of, tt) HP.out HLX.out HG1.out (by rw [HG2.out, HLD.out]; rfl), HMG3.out.keep (hb35.block gb (by omega)), (hb35.cell (by show w.heap.size < _; omega)).trans hcb3, HCh3.out.trans (Ch.of_below _ hb35)⟩
            case measure => rw [HR5.out.left_eq, HR.out.left_eq]; omega
          | true =>
            have HLD : Hid _ := hld
            clear hld
            go_wp2_with (go_at_call 41; fail)
            obtain ⟨nx1, nx2, nx3⟩ := HF.out.next s (of, tt) HP.out HLX.out HX.out
            refine Calls.mono (turn_any C s tt (othN (ws' s)) I { c with ws := ws', ex := ex' } _ HW5.out HE0.out.le p2 (by rw [nx2]; exact HE0.out.lt) (by dsimp only; rw [HD.out, HE0.out.x]; decide) (by dsimp only; rw [HD.out, nx2]; exact HE0.out.enc tt p2)) ?_
            rintro _ w6 ⟨rfl, hcw6, hch6⟩
            dsimp only
            have nb (k : Nat) (hk : ¬ Own C I k) : ¬ (I.sl.ownBlock = some k) := fun e => hk (.inr (.inr (.inr (.inr e))))
            have nr : ¬ Own C I (w.heap.size + 1) := fun e => by have := HC.out.own_lt _ e; omega
            have ns : ¬ Own C I w.heap.size := fun e => by have := HC.out.own_lt _ e; omega
            have n2 : ¬ (I.sl.ownBlock = some I.b2) := fun e => (HC.out.ns _ e).2.2.2 rfl
            have hrg6 := HR5.out.keep (w' := w6) (hch6.block _ HW5.out.m2.lt n2) (hch6.block _ (by omega) (nb _ nr))
            go_wp2
            go_roundw
            case rel =>
              refine ⟨_, _, _, cnt2, hrg6, hcw6, HF.out.turn s (of, tt) HP.out HLX.out HX.out HG1.out (by rw [HG2.out, HLD.out]; rfl), (HMG3.out.keep (hb35.block gb (by omega))).keep (hch6.block gb (by omega) (nb _ hgo)), ?_, (HCh3.out.trans (Ch.of_below _ hb35)).trans (hch6.mono fun i _ e => .inr e)⟩
              rw [World.cell?_of_block (w := w5) (hch6.block w.heap.size (by omega) (nb _ ns))]
              exact (hb35.cell (by show w.heap.size < _; omega)).trans hcb3
            case measure => rw [hrg6.left_eq, HR.out.left_eq]; omega
end Go.Proofs.Ytgkkghphlbgcoaa.Ca
namespace Go.Proofs.Ytgkkghphlbgcoaa.Ca
open Go.RowKit Go.Maps Ho
set_option maxRecDepth 100000
set_option linter.unusedVariables false
set_option linter.unusedSimpArgs false
set_option maxHeartbeats 2000000 in
theorem link_none (C : Nat) (at' : Int) (I : Ids) (c : Cs) (w : World) (h : Cw w C I c) (hwf : (Lit.int .i64 at').wf = true) (he : c.ex at' = none) :
    Calls Try.prog 11 #[.pointer (some ⟨C, 0, none⟩), .int .i64 at'] w fun e w' => e = .returned (.int .i64 4) ∧ Below w.heap.size w w' := by
  obtain ⟨_, _, _, c3, c4⟩ := h.cell
  have HM : Hid _ := h.m2
  have HC : Hid _ := h
  have hlC := h.own_lt C (.inl rfl)
  have HV : Hid ((fE c.ex at').getD (.agg #[.int .u32 0, .int .u32 0]) = .agg #[.int .u32 0, .int .u32 0]) := (by rw [show fE c.ex at' = none by simp [fE, he]]; rfl)
  have HS : Hid ((fE c.ex at').isSome = false) := (by rw [show fE c.ex at' = none by simp [fE, he]]; rfl)
  clear h he
  go_enter Try.func11, Try.ntmps11
  go_wp2_with (at_lookup; refine wpList_look _ rfl _ _ 52 rfl 3 89 .i64 Try.underlying3 Try.underlying52 (zeroE _) I.b2 _ rfl HM.out at' rfl hwf (.agg #[.int .u32 0, .int .u32 0]) false HV.out HS.out ?_)
  go_ret
  exact ⟨rfl, (Below.refl _ _).alloc (Nat.le_refl _) _⟩
set_option maxHeartbeats 2000000 in
theorem link_led (C : Nat) (at' : Int) (of tt : Nat) (I : Ids) (c : Cs) (w : World) (h : Cw w C I c) (hwf : (Lit.int .i64 at').wf = true) (he : c.ex at' = some (of, tt)) (hl : ldB (decP c.ws c.fill at').x.op = true) :
    Calls Try.prog 11 #[.pointer (some ⟨C, 0, none⟩), .int .i64 at'] w fun e w' => e = .returned (.int .i64 4) ∧ Below w.heap.size w w' := by
  obtain ⟨_, _, _, c3, c4⟩ := h.cell
  have HM : Hid _ := h.m2
  have HC : Hid _ := h
  have hlC := h.own_lt C (.inl rfl)
  have HV : Hid ((fE c.ex at').getD (.agg #[.int .u32 0, .int .u32 0]) = .agg #[.int .u32 of, .int .u32 tt]) := (by rw [show fE c.ex at' = some (eV (of, tt)) by simp [fE, he]]; rfl)
  have HS : Hid ((fE c.ex at').isSome = true) := (by rw [show fE c.ex at' = some (eV (of, tt)) by simp [fE, he]]; rfl)
  have HL : Hid _ := hl
  clear h he hl
  go_enter Try.func11, Try.ntmps11
  go_wp2_with (first
    | (at_lookup; refine wpList_look _ rfl _ _ 52 rfl 3 89 .i64 Try.underlying3 Try.underlying52 (zeroE _) I.b2 _ rfl HM.out at' rfl hwf (.agg #[.int .u32 of, .int .u32 tt]) true HV.out HS.out ?_)
    | (go_at_call 40; refine Calls.mono (leads_any C at' I c _ (HC.out.below ((Below.refl _ _).alloc (Nat.le_refl _) _))) ?_; rw [HL.out]; rintro _ w1 ⟨rfl, hb1⟩; dsimp only))
  go_ret
  exact ⟨rfl, ((Below.refl _ w).alloc (Nat.le_refl _) _).trans (hb1.mono (by simp))⟩
theorem Cw.lookB {w : World} {C : Nat} {I : Ids} {c : Cs} (h : Cw w C I c) (pc : Nat) (hpc : pc < 4294967296) (w' : World) (hw : w'.heap[I.b1]? = w.heap[I.b1]?) : (Instr.lookup 51 (.map (some I.b1)) (.int .u32 pc) true).run Try.prog w' = .ok (.tuple #[(fB c.bl pc).getD (.agg #[.int .i64 0, .int .i64 0, .int .u64 0, .int .u64 0, .int .u64 0, .int .u64 0]), .bool (fB c.bl pc).isSome]) w' :=
  (h.m1.keep hw).look_run Try.underlying30 Try.underlying51 (zeroB _) pc (wfU pc hpc) _ _ rfl rfl
set_option maxHeartbeats 4000000 in
theorem link_go (C s : Nat) (of tt : Nat) (I : Ids) (c : Cs) (w : World) (h : Cw w C I c) (X : Xo c) (he : c.ex s = some (of, tt)) (hl : ldB (decP c.ws c.fill s).x.op = false) (hbn : ∀ b, c.bl tt = some b → b.bg ≤ 1048576) :
    Calls Try.prog 11 #[.pointer (some ⟨C, 0, none⟩), .int .i64 s] w fun e w' => (c.bl tt = none ∧ e = .returned (.int .i64 9) ∧ Below w.heap.size w w') ∨ ∃ b, c.bl tt = some b ∧ b.bg < 4294967296 ∧ e = .returned (.int .i64 0) ∧ Cw w' C I (turC c s (othN (c.ws s)) b.bg) ∧ Ch (fun i => I.sl.ownBlock = some i) w w' := by
  obtain ⟨_, _, _, c3, c4⟩ := h.cell
  have HM : Hid _ := h.m2
  have HC : Hid _ := h
  have hlC := h.own_lt C (.inl rfl)
  obtain ⟨n, hn, hd0, hdo, p1, p2⟩ := X.ok s (of, tt) he
  obtain rfl : s = n := by omega
  dsimp only at p1 p2
  have E0 := exd h.wb.lt hd0 hdo
  have HE0 : Hid _ := E0
  have hwf : (Lit.int .i64 (s : Int)).wf = true := wfI s (by omega) (by have := E0.le; have := h.rm; omega)
  have HV : Hid ((fE c.ex s).getD (.agg #[.int .u32 0, .int .u32 0]) = .agg #[.int .u32 of, .int .u32 tt]) := (by rw [show fE c.ex s = some (eV (of, tt)) by simp [fE, he]]; rfl)
  have HS : Hid ((fE c.ex s).isSome = true) := (by rw [show fE c.ex s = some (eV (of, tt)) by simp [fE, he]]; rfl)
  have HL : Hid _ := hl
  clear h he hl X hd0 hdo E0
  go_enter Try.func11, Try.ntmps11
  go_upto_region 4 with (first
    | (at_lookup; refine wpList_look _ rfl _ _ 52 rfl 3 89 .i64 Try.underlying3 Try.underlying52 (zeroE _) I.b2 _ rfl HM.out s rfl hwf (.agg #[.int .u32 of, .int .u32 tt]) true HV.out HS.out ?_)
    | (go_at_call 40; refine Calls.mono (leads_any C s I c _ (HC.out.below ((Below.refl _ _).alloc (Nat.le_refl _) _))) ?_; rw [HL.out]; rintro _ w1 ⟨rfl, hb1⟩; dsimp only))
  have hb : Below w.heap.size w w1 := ((Below.refl _ w).alloc (Nat.le_refl _) _).trans (hb1.mono (by simp))
  have hcw1 := HC.out.below hb
  have HW1 : Hid _ := hcw1
  obtain ⟨_, _, _, d3, _⟩ := hcw1.cell
  have t1 : w1.cell? ⟨w.heap.size, 1, none⟩ = some (.int .u32 tt) := by rw [hb1.cell (by simp), World.cell?_alloc_at] <;> rfl
  have HB : Hid _ := hb
  have hlw : w.heap.size < w1.heap.size := by have := hb1.size; simp at this; omega
  have lC1 := hcw1.own_lt C (.inl rfl)
  have lb1 := hcw1.m1.lt
  have hz : Below w1.heap.size w1 (w1.alloc (.cells #[.int .i64 0, .int .i64 0, .int .u64 0, .int .u64 0, .int .u64 0, .int .u64 0] 84)) := (Below.refl _ _).alloc (Nat.le_refl _) _
  have d3' := (hz.cell (p := ⟨C, 3, none⟩) lC1).trans d3
  have t1' := (hz.cell (p := ⟨w.heap.size, 1, none⟩) hlw).trans t1
  have hzb := hz.block I.b1 lb1
  cases hbl : c.bl tt with
  | none =>
    have hlk : (Instr.lookup 51 (.map (some I.b1)) (.int .u32 tt) true).run Try.prog w1.drew = .ok (.tuple #[.agg #[.int .i64 0, .int .i64 0, .int .u64 0, .int .u64 0, .int .u64 0, .int .u64 0], .bool false]) w1.drew := by
      rw [HW1.out.lookB tt p2 w1.drew rfl, show fB c.bl tt = none by simp [fB, hbl]]; rfl
    have hlk' : (Instr.lookup 51 (.map (some I.b1)) (.int .u32 tt) true).run Try.prog (w1.alloc (.cells #[.int .i64 0, .int .i64 0, .int .u64 0, .int .u64 0, .int .u64 0, .int .u64 0] 84)).drew = .ok (.tuple #[.agg #[.int .i64 0, .int .i64 0, .int .u64 0, .int .u64 0, .int .u64 0, .int .u64 0], .bool false]) (w1.alloc (.cells #[.int .i64 0, .int .i64 0, .int .u64 0, .int .u64 0, .int .u64 0, .int .u64 0] 84)).drew := by
      rw [HW1.out.lookB tt p2 (w1.alloc (.cells #[.int .i64 0, .int .i64 0, .int .u64 0, .int .u64 0, .int .u64 0, .int .u64 0] 84)).drew hzb, show fB c.bl tt = none by simp [fB, hbl]]; rfl
    have HBL : Hid _ := hbl
    clear hbl hcw1 hb hb1 hz hzb
    go_region
    all_goals go_wp2
    all_goals go_ret
    all_goals refine .inl ⟨HBL.out, rfl, ?_⟩
    all_goals exact HB.out.trans ((Below.refl _ _).drew.alloc (by simp; omega) _)
  | some b =>
    have hlk : (Instr.lookup 51 (.map (some I.b1)) (.int .u32 tt) true).run Try.prog w1.drew = .ok (.tuple #[.agg #[.int .i64 b.bg, .int .i64 b.sz, .int .u64 b.q0, .int .u64 b.q1, .int .u64 b.q2, .int .u64 b.q3], .bool true]) w1.drew := by
      rw [HW1.out.lookB tt p2 w1.drew rfl, show fB c.bl tt = some (bV b) by simp [fB, hbl]]; rfl
    have hlk' : (Instr.lookup 51 (.map (some I.b1)) (.int .u32 tt) true).run Try.prog (w1.alloc (.cells #[.int .i64 0, .int .i64 0, .int .u64 0, .int .u64 0, .int .u64 0, .int .u64 0] 84)).drew = .ok (.tuple #[.agg #[.int .i64 b.bg, .int .i64 b.sz, .int .u64 b.q0, .int .u64 b.q1, .int .u64 b.q2, .int .u64 b.q3], .bool true]) (w1.alloc (.cells #[.int .i64 0, .int .i64 0, .int .u64 0, .int .u64 0, .int .u64 0, .int .u64 0] 84)).drew := by
      rw [HW1.out.lookB tt p2 (w1.alloc (.cells #[.int .i64 0, .int .i64 0, .int .u64 0, .int .u64 0, .int .u64 0, .int .u64 0] 84)).drew hzb, show fB c.bl tt = some (bV b) by simp [fB, hbl]]; rfl
    have hbg := hbn b hbl
    have HBL : Hid _ := hbl
    have t3 : IntKind.u32.wrap (b.bg : Int) = (b.bg : Int) := by rw [IntKind.wrap_u32]; omega
    clear hbl hcw1 hb hb1 hz hzb hbn
    go_region
    all_goals (go_wp2_with (go_at_call 41; fail))
    all_goals refine Calls.mono (turn_any C s b.bg (othN (c.ws s)) I c _ (HW1.out.below ((Below.refl _ _).drew.alloc (by simp) _)) HE0.out.le (by omega) HE0.out.lt (by rw [HE0.out.x]; decide) (HE0.out.enc b.bg (by omega))) ?_
    all_goals rintro _ w2 ⟨rfl, hcw2, hch2⟩
    all_goals dsimp only
    all_goals go_wp2
    all_goals go_ret
    all_goals exact .inr ⟨b, HBL.out, by omega, rfl, hcw2, (Ch.of_below _ (HB.out.trans ((Below.refl _ _).drew.alloc (by simp; omega) _))).trans hch2⟩
end Go.Proofs.Ytgkkghphlbgcoaa.Ca
