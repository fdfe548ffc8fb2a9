import Derived.Test.YtgkkghphlbgcoaaLK
namespace Go.Proofs.Ytgkkghphlbgcoaa.Ca
open Go.RowKit Go.Maps Ho
set_option maxRecDepth 100000
set_option linter.unusedVariables false
set_option linter.unusedSimpArgs false
def Bl.q (b : Bl) : Nat → Nat := fun i => if i = 0 then b.q0 else if i = 1 then b.q1 else if i = 2 then b.q2 else b.q3
/-- What blocks are: they lie in the words; their pages are four numbers. -/
structure Bo (c : Cs) : Prop where
  ok : ∀ pc b, c.bl pc = some b → b.bg + b.sz ≤ c.fill ∧ 0 < b.sz ∧ b.q0 < 18446744073709551616 ∧ b.q1 < 18446744073709551616 ∧ b.q2 < 18446744073709551616 ∧ b.q3 < 18446744073709551616
def gone (c : Cs) (p : Int) : Int → Option Bl := fun pc => match c.bl pc with | none => none | some b => if hasP b.q p = true then some b else none
theorem gone_bl {c : Cs} {p pc : Int} {b : Bl} (h : gone c p pc = some b) : c.bl pc = some b ∧ hasP b.q p = true := by
  unfold gone at h
  cases e : c.bl pc with
  | none => rw [e] at h; cases h
  | some b' =>
    rw [e] at h
    dsimp only at h
    split at h
    · cases h; exact ⟨rfl, by assumption⟩
    · cases h
theorem fB_upd (f : Int → Option Bl) (s : Int) (b : Bl) : upd (fB f) s (some (bV b)) = fB (fun z => if z = s then some b else f z) := by
  funext z
  unfold upd fB
  by_cases e : z = s <;> simp [e]
theorem fB_del (f : Int → Option Bl) (s : Int) : upd (fB f) s none = fB (fun z => if z = s then none else f z) := by
  funext z
  unfold upd fB
  by_cases e : z = s <;> simp [e]
theorem fB_of {f : Int → Option Bl} {i : Int} {v : Value} (h : fB f i = some v) : ∃ b, f i = some b ∧ v = bV b := by
  unfold fB at h
  cases e : f i with
  | none => rw [e] at h; cases h
  | some b => rw [e] at h; cases h; exact ⟨b, rfl, rfl⟩
theorem u32_of {i : Int} (hwf : (Lit.int .u32 i).wf = true) : ∃ pc : Nat, i = (pc : Int) ∧ pc < 4294967296 := by
  have e1 : IntKind.min .u32 = 0 := by decide
  have e2 : IntKind.max .u32 = 4294967295 := by decide
  simp [Lit.wf, e1, e2] at hwf
  exact ⟨i.toNat, by omega, by omega⟩
theorem MW.wf {w : World} {K : TypeId} {q : IntKind} {b : Nat} {f : Int → Option Value} (h : MW w K q b f) : ∀ k v, f k = some v → (Lit.int q k).wf = true := fun k v hk => let ⟨_, _, _, hm⟩ := h; (hm.hit k v hk).1
theorem MW.u32 {w : World} {K : TypeId} {b : Nat} {f : Int → Option Value} (h : MW w K .u32 b f) : ∀ k v, f k = some v → 0 ≤ k ∧ k < 4611686018427387904 := fun k v hk => by
  obtain ⟨pc, rfl, hp⟩ := u32_of (h.wf k v hk)
  omega
/-- Words behind clears of all blocks of g but those still to come. -/
structure Zr (g : Int → Option Bl) (ws1 ws' : Nat → Nat) (lf : Int → Bool) : Prop where
  z : ∀ j pc b, g pc = some b → lf pc = false → b.bg ≤ j → j < b.bg + b.sz → ws' j = 0
  o : ∀ j, (∀ pc b, g pc = some b → lf pc = false → ¬ (b.bg ≤ j ∧ j < b.bg + b.sz)) → ws' j = ws1 j
theorem Zr.start (g : Int → Option Bl) (ws : Nat → Nat) : Zr g ws ws (fun i => (fB g i).isSome) := ⟨fun j pc b hb hl => by simp [fB, hb] at hl, fun _ _ => rfl⟩
theorem over_zero (ws : Nat → Nat) (o m j : Nat) : over ws o (List.replicate m 0) j = if o ≤ j ∧ j < o + m then 0 else ws j := by
  unfold over
  simp only [List.length_replicate]
  split
  · next h => rw [List.getD_eq_getElem?_getD, List.getElem?_replicate]; split <;> rfl
  · rfl
theorem Zr.step {g : Int → Option Bl} {ws1 ws' : Nat → Nat} {lf : Int → Bool} (h : Zr g ws1 ws' lf) (pc : Int) (b : Bl) (hb : g pc = some b) : Zr g ws1 (over ws' b.bg (List.replicate b.sz 0)) (fun z => lf z && !decide (z = pc)) := by
  refine ⟨fun j p2 b2 hb2 hl h1 h2 => ?_, fun j hj => ?_⟩
  · rw [over_zero]
    split
    · rfl
    · next hn =>
      by_cases e : p2 = pc
      · subst e; rw [hb] at hb2; cases hb2; exact absurd ⟨h1, h2⟩ hn
      · exact h.z j p2 b2 hb2 (by simpa [e] using hl) h1 h2
  · rw [over_zero, if_neg (hj pc b hb (by simp))]
    refine h.o j fun p2 b2 hb2 hl => hj p2 b2 hb2 (by simp [hl])
theorem Rl.none (c : Cs) (g : Int → Option Bl) (hg : ∀ pc, g pc = none) : Rl c g c.ws c.ex (fun _ => false) := by
  refine ⟨fun s => ?_, fun _ _ => rfl, fun s p hp => ⟨fun h => ?_, fun _ => ⟨rfl, rfl⟩⟩⟩
  · cases e : c.ex s with
    | none => rfl
    | some p => simp [hg]
  · simp [tu, hg] at h
structure Dr1 (w : World) (C : Nat) (I : Ids) (c : Cs) (p : Int) (wr : World) : Prop where
  ex : ∃ (lf : Int → Bool) (cnt : Nat) (g' : Int → Option Bl), RG wr 30 .u32 I.b1 (w.heap.size + 1) (fB c.bl) lf cnt ∧ MW wr 30 .u32 w.heap.size (fB g') ∧ (∀ pc, g' pc = if lf pc = true then none else gone c p pc) ∧ Cw wr C I c ∧ Below w.heap.size w wr
structure Dr2 (w1 : World) (C gb r : Nat) (I : Ids) (c c1 : Cs) (g : Int → Option Bl) (wr : World) : Prop where
  ex : ∃ (tp' : Nat → Nat) (ta' : Nat → Int) (ws' : Nat → Nat) (bl' : Int → Option Bl) (lf : Int → Bool) (cnt : Nat), RG wr 30 .u32 gb r (fB g) lf cnt ∧ Cw wr C I { c1 with tp := tp', ta := ta', ws := ws', bl := bl' } ∧ Fg c g tp' ta' lf ∧ Zr g c1.ws ws' lf ∧ (∀ pc, bl' pc = if (g pc).isSome = true ∧ lf pc = false then none else c.bl pc) ∧ Ch (Own C I) w1 wr
/-- The cache behind a drop. -/
structure Dp (c : Cs) (p : Int) (c' : Cs) : Prop where
  ex : ∃ ws1, Rl c (gone c p) ws1 c'.ex (fun _ => false) ∧ Zr (gone c p) ws1 c'.ws (fun _ => false)
  fg : Fg c (gone c p) c'.tp c'.ta (fun _ => false)
  bl : ∀ pc, c'.bl pc = if (gone c p pc).isSome = true then none else c.bl pc
  rm : c'.room = c.room ∧ c'.fill = c.fill ∧ c'.slots = c.slots

set_option maxHeartbeats 8000000 in
theorem drop_any (C : Nat) (p : Int) (I : Ids) (c : Cs) (w : World) (h : Cw w C I c) (X : Xo c) (B : Bo c) :
    Calls Try.prog 12 #[.pointer (some ⟨C, 0, none⟩), .int .i64 p] w fun e w' => ∃ l : List Int, l.Nodup ∧ (∀ k, k ∈ l ↔ (gone c p k).isSome = true) ∧ e = .returned (.int .i64 l.length) ∧ ∃ c', Cw w' C I c' ∧ Dp c p c' ∧ Ch (Own C I) w w' := by
  obtain ⟨_, _, _, c3, _⟩ := h.cell
  have HC : Hid _ := h
  have HX : Hid _ := X
  have HB : Hid _ := B
  have hlC := h.own_lt C (.inl rfl)
  have HM : Hid (MW (w.alloc (.map #[] 0)) 30 .u32 I.b1 (fB c.bl)) := h.m1.keep (((Below.refl w.heap.size w).alloc (Nat.le_refl _) _).block _ h.m1.lt)
  have hmk : ∀ W : World, (Instr.makeMap 51 Option.none).run Try.prog W = .ok (.map (some W.heap.size)) (W.alloc (.map #[] 0)) := fun W => run_makeMap _ W
  clear h X B
  go_enter Try.func12, Try.ntmps12
  go_wp2_with (at_range; refine wpList_rng _ rfl _ 51 rfl 30 84 .u32 Try.underlying30 Try.underlying51 I.b1 _ rfl HM.out ?_; intro w0 cnt0 hrg0 hg0 hs0)
  simp only [World.size_alloc] at hrg0 hs0 ⊢
  go_frame
  go_loopw [6] (fun _ wr => Dr1 w C I c p wr) (fun _ wr => wr.rangeLeft I.b1 (w.heap.size + 1))
  case atStart =>
    have hb0 : Below w.heap.size w w0 := (((Below.refl w.heap.size w).alloc (Nat.le_refl _) _).trans ⟨hg0.os, hg0.tape, hg0.output, hg0.size, fun k hk => hg0.block k (by simp; omega) (by simp)⟩)
    refine ⟨_, _, fun _ => none, hrg0, (MW.made w 30 .u32).keep (hg0.block w.heap.size (by simp) (by simp)), fun pc => ?_, HC.out.below hb0, hb0⟩
    cases e : c.bl pc with
    | none => simp [fB, e, gone]
    | some b => simp [fB, e]
  case round =>
    obtain ⟨lf, cnt, g', hrg, hmg, hg', hcw, hbl⟩ := hrel
    have HR : Hid _ := hrg
    have HW : Hid _ := hcw
    have HMG : Hid _ := hmg
    have HG' : Hid _ := hg'
    have HBL : Hid _ := hbl
    clear hrg hmg hbl hg0 hrg0 hg'
    go_wp2_with (at_next; refine wpList_nxt _ rfl _ rfl 30 .u32 Try.underlying30 I.b1 (w.heap.size + 1) (fB c.bl) lf cnt rfl HR.out ?_ ?_)
    · intro hl0
      have hgg : g' = gone c p := by
        funext z
        rw [HG'.out z, hl0 z]
        simp
      subst hgg
      obtain ⟨l, hlp, hlm'⟩ := HMG.out.finite Try.underlying30
      have hlm : ∀ k, k ∈ l ↔ (gone c p k).isSome = true := fun k => by rw [hlm' k]; simp [fB]
      have hln : l.Nodup := hlp.imp (fun h => by omega)
      have HLM : Hid (∀ k, k ∈ l ↔ (gone c p k).isSome = true) := hlm
      have HLM' : Hid (∀ k, k ∈ l ↔ (fB (gone c p) k).isSome = true) := hlm'
      have HLN : Hid l.Nodup := hln
      have hlr := HR.out.lt
      obtain ⟨n, hn⟩ : ∃ n : Nat, l.length = n := ⟨_, rfl⟩
      have HN : Hid ((l.length : Int) = (n : Int)) := (by rw [hn]; exact Eq.refl _)
      clear hlp hlm hlm' hln hl0
      have hgo : ¬ Own C I w.heap.size := fun e => by have := HC.out.own_lt _ e; omega
      by_cases h0 : n = 0
      · have hg0 : ∀ pc, gone c p pc = Option.none := fun pc => by
          have : l = [] := List.eq_nil_of_length_eq_zero (by omega)
          have := HLM.out pc
          cases e : gone c p pc with
          | none => rfl
          | some b => rw [e] at this; simp_all
        have HG0 : Hid _ := hg0
        clear hn
        subst h0
        have hc' : Cw wr C I c := hcw
        clear hg0 hcw
        go_wp2_with (first
          | (at_len; refine wpList_mlen _ rfl _ 51 rfl 30 84 .u32 Try.underlying30 Try.underlying51 w.heap.size _ rfl HMG.out l HLN.out HLM'.out _ HN.out ?_)
          | (at_range; refine wpList_rng _ rfl _ 51 rfl 30 84 .u32 Try.underlying30 Try.underlying51 w.heap.size _ rfl HMG.out ?_; intro w4 cnt4 hrg4 hg4 hs4))
        obtain ⟨r2, hr2⟩ : ∃ r2, wr.heap.size = r2 := ⟨_, rfl⟩
        rw [hr2] at hrg4 hs4
        simp only [hr2]
        have HR2 : Hid _ := hr2
        have hb4 : Below w.heap.size w w4 := HBL.out.trans ⟨hg4.os, hg4.tape, hg4.output, hg4.size, fun k hk => hg4.block k (by omega) (by simp)⟩
        have HB4 : Hid _ := hb4
        clear hr2 hb4
        go_frame
        go_loopw [8] (fun _ wq => wq = w4) (fun _ wq => 0)
        case atStart => rfl
        case round =>
          subst hrel
          go_wp2_with (at_next; refine wpList_nxt _ rfl _ rfl 30 .u32 Try.underlying30 w.heap.size r2 _ _ _ rfl hrg4 ?_ ?_)
          · intro _
            have HM4 : Hid _ := hrg4.mw
            clear hrg4
            go_wp2_with (at_len; refine wpList_mlen _ rfl _ 51 rfl 30 84 .u32 Try.underlying30 Try.underlying51 w.heap.size _ rfl HM4.out l HLN.out HLM'.out _ HN.out ?_)
            go_ret
            have hb4 := HB4.out
            refine ⟨l, HLN.out, HLM.out, by rw [HN.out]; rfl, c, HC.out.below hb4, ⟨⟨c.ws, Rl.none c _ HG0.out, ⟨fun j pc b hb => ?_, fun _ _ => rfl⟩⟩, fun k hk => .inr ⟨rfl, rfl, fun pc b hb => ?_⟩, fun pc => ?_, rfl, rfl, rfl⟩, Ch.of_below _ hb4⟩
            · rw [HG0.out] at hb; cases hb
            · rw [HG0.out] at hb; cases hb
            · rw [HG0.out]; rfl
          · intro i v w5 cnt5 hlf hf
            exact absurd hf (by unfold fB; rw [HG0.out]; simp)
      · have hn0 : 0 < n := by omega
        have hn0' : (0 : Int) < (n : Int) := by omega
        have hc' : Cw wr C I c := hcw
        clear hn h0 hcw
        go_wp2_with (first
          | (at_len; refine wpList_mlen _ rfl _ 51 rfl 30 84 .u32 Try.underlying30 Try.underlying51 w.heap.size _ rfl HMG.out l HLN.out HLM'.out _ HN.out ?_)
          | (go_at_call 43; fail))
        refine Calls.mono (release_any C w.heap.size I c (gone c p) _ hc' HX.out HMG.out hgo) ?_
        rintro _ w3 ⟨rfl, ws1, ex1, hcw3, hrl3, hch3⟩
        dsimp only
        have nb (k : Nat) (hk : ¬ Own C I k) : ¬ (k = I.b2 ∨ I.sl.ownBlock = some k) := fun e => hk (e.elim (fun e => .inr (.inr (.inr (.inl e)))) (fun e => .inr (.inr (.inr (.inr e)))))
        have hmg3 : MW w3 30 .u32 w.heap.size (fB (gone c p)) := HMG.out.keep (hch3.block _ (by omega) (nb _ hgo))
        have HMG3 : Hid _ := hmg3
        have HW3 : Hid _ := hcw3
        have HRL : Hid (Rl c (gone c p) ws1 ex1 (fun _ => false)) := hrl3
        have hchA : Ch (Own C I) w w3 := (Ch.of_below (Own C I) HBL.out).trans (hch3.mono fun i _ e => e.elim (fun e => .inr (.inr (.inr (.inl e)))) (fun e => .inr (.inr (.inr (.inr e)))))
        have HCA : Hid _ := hchA
        have lw3 : w.heap.size < w3.heap.size := hmg3.lt
        have hwrs := hch3.size
        clear hmg3 hcw3 hrl3 hchA hch3
        go_wp2_with (at_range; refine wpList_rng _ rfl _ 51 rfl 30 84 .u32 Try.underlying30 Try.underlying51 w.heap.size _ rfl HMG3.out ?_; intro w4 cnt4 hrg4 hg4 hs4)
        obtain ⟨r2, hr2⟩ : ∃ r2, w3.heap.size = r2 := ⟨_, rfl⟩
        rw [hr2] at hrg4 hs4
        simp only [hr2]
        have HR2 : Hid _ := hr2
        have HG4 : Hid _ := hg4
        have HRG4 : Hid _ := hrg4
        clear hr2 hg4 hrg4
        go_frame
        go_loopw [8] (fun _ wr => Dr2 w C w.heap.size r2 I c { c with ws := ws1, ex := ex1 } (gone c p) wr) (fun _ wr => wr.rangeLeft w.heap.size r2)
        case atStart =>
          refine ⟨c.tp, c.ta, ws1, c.bl, _, _, HRG4.out, HW3.out.keep (fun k hk => HG4.out.block k (HW3.out.own_lt k hk) (by simp)), Fg.start c _, Zr.start _ _, fun pc => ?_, HCA.out.trans (Ch.grown0 _ HG4.out)⟩
          cases e : gone c p pc with
          | none => simp
          | some b => simp [fB, e]
        case round =>
          obtain ⟨tp', ta', ws', bl', lf2, cnt2, hrg, hcw, hfg, hzr, hbl', hch⟩ := hrel
          have HR : Hid _ := hrg
          have HW : Hid _ := hcw
          have HF : Hid (Fg c (gone c p) tp' ta' lf2) := hfg
          have HZ : Hid (Zr (gone c p) ws1 ws' lf2) := hzr
          have HBB : Hid _ := hbl'
          have HCh : Hid _ := hch
          have hw3r : w.heap.size < r2 := by have := HR2.out; omega
          clear hrg hfg hzr hbl' hch
          go_wp2_with (at_next; refine wpList_nxt _ rfl _ rfl 30 .u32 Try.underlying30 w.heap.size r2 _ lf2 cnt2 rfl HR.out ?_ ?_)
          · intro hl0
            have hz : lf2 = fun _ => false := funext hl0
            have HM4 : Hid _ := HR.out.mw
            have HZZ : Hid _ := hz
            clear hl0 hz
            go_wp2_with (at_len; refine wpList_mlen _ rfl _ 51 rfl 30 84 .u32 Try.underlying30 Try.underlying51 w.heap.size _ rfl HM4.out l HLN.out HLM'.out _ HN.out ?_)
            go_ret
            have hz := HZZ.out
            refine ⟨l, HLN.out, HLM.out, by rw [HN.out]; rfl, _, HW.out, ⟨⟨ws1, HRL.out, hz ▸ HZ.out⟩, hz ▸ HF.out, fun pc => ?_, rfl, rfl, rfl⟩, HCh.out⟩
            have := HBB.out pc
            rw [hz] at this
            simpa using this
          · intro i v w5 cnt5 hlf hf hwf hrg5 hlt hg5 hs5 hen
            obtain ⟨b, hb, rfl⟩ := fB_of hf
            obtain ⟨pc, rfl, hpc⟩ := u32_of hwf
            obtain ⟨hbb, hhp⟩ := gone_bl hb
            obtain ⟨bo1, bo2, _⟩ := HB.out.ok _ _ hbb
            have hlr := HR.out.lt
            have hown := HC.out.own_lt
            have hcw5 : Cw w5 C I { c with tp := tp', ta := ta', ws := ws', bl := bl', ex := ex1 } := hcw.keep fun k hk => hg5.block k (hcw.own_lt k hk) (by simp; have := hown k hk; omega)
            have hch5 : Ch (Own C I) w w5 := HCh.out.step (Ch.grown (· = r2) hg5 rfl) fun i hi e => absurd e (by omega)
            have HW5 : Hid _ := hcw5
            have HR5 : Hid _ := hrg5
            have HCh5 : Hid _ := hch5
            have HBp : Hid _ := hb
            have hlr5 : r2 < w5.heap.size := hrg5.lt
            obtain ⟨a, cap, hsl, _⟩ := HC.out.sl
            obtain ⟨_, rm1, rm2⟩ := HC.out.rm
            obtain ⟨g, rfl, hle⟩ : ∃ g, a = some ⟨g, 0, none⟩ ∧ c.fill ≤ cap := by
              rcases HC.out.wb.row with ⟨e, h0⟩ | ⟨g, cap', cur, e, hg, h1, h2, h3, h4⟩
              · omega
              · rw [hsl] at e; cases e; exact ⟨g, rfl, h1⟩
            have HSL : Hid _ := hsl
            have q0 : (0 : Int) ≤ (b.bg : Int) := by omega
            have q1 : (b.bg : Int) ≤ c.fill := by omega
            obtain ⟨ee, hee⟩ : ∃ ee, b.bg + b.sz = ee := ⟨_, rfl⟩
            have t1 : IntKind.i64.wrap ((b.bg : Int) + b.sz) = (ee : Int) := So.wr_add hee (by omega)
            have q2 : (b.bg : Int) ≤ ee := by omega
            have q3 : (ee : Int) ≤ cap := by omega
            have q4 : (0 : Int) ≤ (ee : Int) := by omega
            have q5 : ¬ (cap = b.bg) := by omega
            have HEE : Hid _ := hee
            have hbl5 : Below w5.heap.size w5 (w5.alloc (.cells #[.int .i64 b.bg, .int .i64 b.sz, .int .u64 b.q0, .int .u64 b.q1, .int .u64 b.q2, .int .u64 b.q3] 84)) := (Below.refl _ _).alloc (Nat.le_refl _) _
            clear hs5 hcw hcw5 hrg5 hg5 hf hwf hb hbb hhp hch5 hsl hee
            unfold bV at hen
            go_wp2_with (go_at_call 44; fail)
            refine Calls.mono (forget_any C pc I { c with tp := tp', ta := ta', ws := ws', bl := bl', ex := ex1 } b _ hpc (HW5.out.below hbl5)) ?_
            rintro _ w6 ⟨rfl, hcw6, hch6⟩
            dsimp only
            obtain ⟨tp2, ta2, e2, hfg2⟩ : ∃ tp2 ta2, forC { c with tp := tp', ta := ta', ws := ws', bl := bl', ex := ex1 } pc b = { c with tp := tp2, ta := ta2, ws := ws', bl := bl', ex := ex1 } ∧ Fg c (gone c p) tp2 ta2 (fun z => lf2 z && !decide (z = (pc : Int))) := by
              obtain ⟨st1, st2⟩ := Fg.step (c := c) HF.out pc b HBp.out (pc % c.slots) rfl
              unfold forC
              dsimp only
              by_cases he : ta' (pc % c.slots) = (b.bg : Int)
              · rw [if_pos he]; exact ⟨_, _, rfl, st1 he⟩
              · rw [if_neg he]; exact ⟨_, _, rfl, st2 he⟩
            rw [e2] at hcw6
            have HF2 : Hid (Fg c (gone c p) tp2 ta2 (fun z => lf2 z && !decide (z = (pc : Int)))) := hfg2
            clear e2 hfg2
            have b0 : w6.cell? ⟨w5.heap.size, 0, none⟩ = some (.int .i64 b.bg) := by
              rw [World.cell?_of_block (w := w5.alloc (.cells #[.int .i64 b.bg, .int .i64 b.sz, .int .u64 b.q0, .int .u64 b.q1, .int .u64 b.q2, .int .u64 b.q3] 84)) (hch6.block w5.heap.size (by simp) (by have := HC.out.tb.lt; omega)), World.cell?_alloc_at] <;> rfl
            have b1 : w6.cell? ⟨w5.heap.size, 1, none⟩ = some (.int .i64 b.sz) := by
              rw [World.cell?_of_block (w := w5.alloc (.cells #[.int .i64 b.bg, .int .i64 b.sz, .int .u64 b.q0, .int .u64 b.q1, .int .u64 b.q2, .int .u64 b.q3] 84)) (hch6.block w5.heap.size (by simp) (by have := HC.out.tb.lt; omega)), World.cell?_alloc_at] <;> rfl
            obtain ⟨_, e1, _, _, _⟩ := hcw6.cell
            rw [HSL.out] at e1
            have HCh6 : Hid _ := hch6
            have l6 := hcw6.own_lt C (.inl rfl)
            have ls6 := hch6.size
            simp only [World.size_alloc] at ls6
            have HW6 : Hid _ := hcw6
            clear hcw6 hch6
            have hwb : Wb w6 (.slice (some ⟨g, 0, none⟩) c.fill cap) c.fill ws' := HW6.out.wb.sl' HSL.out
            have HWB : Hid _ := hwb
            have z0 : 0 < ee - b.bg := by have := HEE.out; omega
            have z1 : b.bg + (ee - b.bg) ≤ c.fill := by have := HEE.out; omega
            clear hwb
            go_wp2
            go_cut [] from 44 to 55 (fun wx => Wb wx (.slice (some ⟨g, 0, none⟩) c.fill cap) c.fill (over ws' b.bg (List.replicate (ee - b.bg) 0)) ∧ Ch (· = g) w6 wx)
            case first =>
              go_region_law (refine step_wclear rfl _ rfl g b.bg c.fill cap (ee - b.bg) (cap - b.bg) ws' rfl ⟨HWB.out.lt, HWB.out.row⟩ z0 z1 ?_; intro w7 hw7 hc7)
              all_goals (go_wp2_with fail)
              all_goals go_meet
              all_goals exact ⟨hw7, ⟨hc7.os, hc7.tape, hc7.output, hc7.size, hc7.block⟩⟩
            case rest =>
              obtain ⟨hwc, hcc⟩ := hcut
              have hsg : I.sl.ownBlock = some g := by rw [HSL.out]; rfl
              have hez : ee - b.bg = b.sz := by have := HEE.out; omega
              have hwC := HW6.out.wset (g := g) (by rw [HSL.out]; exact hwc) hcc hsg
              rw [hez] at hwC
              have HWC : Hid _ := hwC
              obtain ⟨_, _, _, e3, _⟩ := hwC.cell
              clear hwC hwc
              go_wp2_with (at_delete; refine wpList_del _ rfl _ _ 51 30 rfl 84 .u32 Try.underlying30 Try.underlying51 I.b1 _ rfl HWC.out.m1 pc rfl (wfU pc hpc) ?_; intro w8 hm8 hg8 hs8)
              rw [fB_del] at hm8
              have hcw8 := HWC.out.m1set hm8 (Ch.grown (· = I.b1) hg8 rfl)
              have hne := HC.out.ne
              have lb1 := HC.out.m1.lt
              have ltb := HC.out.tb.lt
              have lsl := HC.out.wb.lt' g hsg
              have lsz := hcc.size
              have hk8 : ∀ k, k < w5.heap.size → w.heap.size ≤ k → w8.heap[k]? = w5.heap[k]? := fun k hk hn => by
                rw [hg8.block k (by omega) (by simp; omega), hcc.block k (by omega) (by omega), HCh6.out.block k (by simp; omega) (by omega)]
                exact hbl5.block k hk
              have hrg8 := HR5.out.keep (w' := w8) (hk8 _ (by omega) (Nat.le_refl _)) (hk8 _ hlr5 (by omega))
              go_roundw
              case rel =>
                refine ⟨tp2, ta2, _, _, _, cnt5, hrg8, hcw8, HF2.out, HZ.out.step pc b HBp.out, fun z => ?_, ?_⟩
                · by_cases e : z = (pc : Int)
                  · subst e
                    simp [HBp.out]
                  · rw [if_neg e, HBB.out z]
                    simp [e]
                · exact ((((HCh5.out.alloc _).trans (HCh6.out.mono fun i _ e => .inr (.inl e))).trans (hcc.mono fun i _ e => by subst e; exact .inr (.inr (.inr (.inr hsg))))).trans (Ch.grown (Own C I) hg8 (.inr (.inr (.inl rfl)))))
              case measure => rw [hrg8.left_eq, HR.out.left_eq]; omega
    · intro i v w2 cnt2 hlf hf hwf hrg2 hlt hg2 hs2 hen
      obtain ⟨b, hb, rfl⟩ := fB_of hf
      obtain ⟨pc, rfl, hpc⟩ := u32_of hwf
      have hlr := HR.out.lt
      have hown := HC.out.own_lt
      have hcw2 : Cw w2 C I c := hcw.keep fun k hk => hg2.block k (hcw.own_lt k hk) (by simp; have := hown k hk; omega)
      have hmg2 : MW w2 30 .u32 w.heap.size (fB g') := HMG.out.keep (hg2.block _ (by omega) (by simp))
      have hb2 : Below w.heap.size w w2 := HBL.out.trans ⟨hg2.os, hg2.tape, hg2.output, hg2.size, fun k hk => hg2.block k (by omega) (by simp; omega)⟩
      have HW2 : Hid _ := hcw2
      have HR2 : Hid _ := hrg2
      have HMG2 : Hid _ := hmg2
      have HB2 : Hid _ := hb2
      have HBB : Hid _ := hb
      obtain ⟨_, _, u0, u1, u2, u3⟩ := HB.out.ok _ _ hb
      have hlw2 : w.heap.size + 1 < w2.heap.size := HR2.out.lt
      have HLF : Hid _ := hlf
      clear hs2 hcw hcw2 hrg2 hg2 hf hwf hmg2 hb2 hb hlf
      unfold bV at hen
      have hps : PS (w2.alloc (.cells #[.int .i64 b.bg, .int .i64 b.sz, .int .u64 b.q0, .int .u64 b.q1, .int .u64 b.q2, .int .u64 b.q3] 84)) w2.heap.size 2 b.q := by
        refine ⟨fun i hi => ?_, fun i hi => ?_⟩
        · rw [World.cell?_alloc_at] <;> try rfl
          rcases (by omega : i = 0 ∨ i = 1 ∨ i = 2 ∨ i = 3) with rfl | rfl | rfl | rfl <;> rfl
        · rcases (by omega : i = 0 ∨ i = 1 ∨ i = 2 ∨ i = 3) with rfl | rfl | rfl | rfl
          · exact u0
          · exact u1
          · exact u2
          · exact u3
      have HPS : Hid _ := hps
      clear hps
      go_wp2_with (go_at_call 42; fail)
      refine Calls.mono (has_any _ 2 b.q p _ HPS.out) ?_
      rintro _ _ ⟨rfl, rfl⟩
      dsimp only
      have hbl2 : Below w2.heap.size w2 (w2.alloc (.cells #[.int .i64 b.bg, .int .i64 b.sz, .int .u64 b.q0, .int .u64 b.q1, .int .u64 b.q2, .int .u64 b.q3] 84)) := (Below.refl _ _).alloc (Nat.le_refl _) _
      cases hh : hasP b.q p with
      | true =>
        have HH : Hid _ := hh
        clear hh
        go_wp2_with (at_mapUpdate; refine wpList_put _ rfl _ _ _ 51 rfl 30 84 .u32 Try.underlying30 Try.underlying51 w.heap.size (fB g') rfl (HMG2.out.keep (hbl2.block _ (by omega))) HMG2.out.u32 pc rfl (wfU pc hpc) (bV b) rfl ?_; intro w3 hm3 hg3 hs3)
        have hk3 : ∀ k, k < w2.heap.size → k ≠ w.heap.size → w3.heap[k]? = w2.heap[k]? := fun k hk hn => by rw [hg3.block k (by simp; omega) (by simp; exact hn)]; exact hbl2.block k hk
        have hrg3 := HR2.out.keep (w' := w3) (hk3 _ HW2.out.m1.lt (by have := hown _ (.inr (.inr (.inl rfl))); omega)) (hk3 _ hlw2 (by omega))
        have hcw3 : Cw w3 C I c := HW2.out.keep fun k hk => hk3 k (HW2.out.own_lt k hk) (by have := hown k hk; omega)
        rw [fB_upd] at hm3
        refine ⟨?rel, ?measure⟩
        case rel =>
          refine ⟨_, _, _, _, _, _, _, _, _, _, _, _, _, ?_, rfl⟩
          refine ⟨_, cnt2, _, hrg3, hm3, fun z => ?_, hcw3, HB2.out.trans ⟨hg3.os, hg3.tape, hg3.output, by have := hg3.size; simp at this; omega, fun k hk => hk3 k (by omega) (by omega)⟩⟩
          by_cases e : z = (pc : Int)
          · subst e
            simp [gone, HBB.out, HH.out]
          · rw [if_neg e, HG'.out z]
            simp [e]
        case measure => rw [hrg3.left_eq, HR.out.left_eq]; omega
      | false =>
        have HH : Hid _ := hh
        clear hh
        go_wp2
        have hrg3 := HR2.out.keep (hbl2.block _ HW2.out.m1.lt) (hbl2.block _ hlw2)
        refine ⟨?rel, ?measure⟩
        case rel =>
          refine ⟨_, cnt2, _, hrg3, HMG2.out.keep (hbl2.block _ (by omega)), fun z => ?_, HW2.out.below hbl2, HB2.out.trans (hbl2.mono (by omega))⟩
          rw [HG'.out z]
          by_cases e : z = (pc : Int)
          · subst e
            rw [HLF.out]
            simp [gone, HBB.out, HH.out]
          · simp [e]
        case measure => rw [hrg3.left_eq, HR.out.left_eq]; omega
end Go.Proofs.Ytgkkghphlbgcoaa.Ca
