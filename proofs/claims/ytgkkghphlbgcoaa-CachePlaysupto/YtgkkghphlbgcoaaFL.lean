import Derived.Test.YtgkkghphlbgcoaaLW
import Derived.Test.YtgkkghphlbgcoaaHP
namespace Go.Proofs.Ytgkkghphlbgcoaa.Ca
open Go.RowKit Go.Maps Ho
set_option maxRecDepth 100000
set_option linter.unusedVariables false
set_option linter.unusedSimpArgs false
theorem Cw.sl {w : World} {C : Nat} {I : Ids} {c : Cs} (h : Cw w C I c) : ∃ a cap, I.sl = .slice a c.fill cap ∧ Ho.Wds w a c.fill cap c.ws := by
  obtain ⟨_, r1, r2⟩ := h.rm
  rcases h.wb.row with ⟨e, h0⟩ | ⟨g, cap, cur, e, hg, h1, h2, h3, h4⟩
  · exact ⟨none, 0, by rw [e, h0], .inl h0⟩
  · refine ⟨_, cap, e, .inr ⟨g, 0, rfl, h1, by omega, fun i hi => ?_, h.wb.lt, So.row_lt hg⟩⟩
    rw [So.row_cell hg, Nat.zero_add]
    exact h4 i hi
def ldB (o : Int) : Bool := o == 15 || o == 96
set_option maxHeartbeats 2000000 in
theorem leads_any (C : Nat) (at' : Int) (I : Ids) (c : Cs) (w : World) (h : Cw w C I c) :
    Calls Try.prog 40 #[.pointer (some ⟨C, 0, none⟩), .int .i64 at'] w fun e w' => e = .returned (.bool (ldB (decP c.ws c.fill at').x.op)) ∧ Below w.heap.size w w' := by
  obtain ⟨_, c1, _, _, _⟩ := h.cell
  obtain ⟨a, cap, hsl, hw⟩ := h.sl
  rw [hsl] at c1
  have HW : Hid _ := hw
  obtain ⟨D, hD⟩ : ∃ D, decP c.ws c.fill at' = D := ⟨_, rfl⟩
  have HD : Hid (decP c.ws c.fill at' = D) := hD
  rw [hD]
  obtain ⟨de, ⟨o, d, aa, b, cc, n, k, x⟩, df, dn⟩ := D
  dsimp only
  clear h hsl hw hD
  by_cases h1 : o = 15
  · have g1 : decide (o = 15) = true := decide_eq_true h1
    have E : ldB o = true := by subst h1; rfl
    rw [E]; clear E
    go_enter Try.func40, Try.ntmps40
    go_wp2_with (go_at_call 57; refine Calls.mono (Ho.Decode_any a c.fill cap at' c.ws _ HW.out) ?_; rw [HD.out]; rintro _ w1 ⟨rfl, hb1⟩; dsimp only [cdV])
    go_ret
    exact ⟨rfl, hb1.trans ((Below.refl _ _).alloc hb1.size _)⟩
  · have g1 : decide (o = 15) = false := decide_eq_false h1
    go_enter Try.func40, Try.ntmps40
    go_wp2_with (go_at_call 57; refine Calls.mono (Ho.Decode_any a c.fill cap at' c.ws _ HW.out) ?_; rw [HD.out]; rintro _ w1 ⟨rfl, hb1⟩; dsimp only [cdV])
    go_ret
    exact ⟨rfl, hb1.trans ((Below.refl _ _).alloc hb1.size _)⟩
theorem lies_two {w0 w : World} {sv : Value} {v k : Nat} (h : Lies w0 w sv [v, k]) : ∃ b cap, sv = .slice (some ⟨b, 0, none⟩) 2 cap ∧ w0.heap.size ≤ b ∧ 2 ≤ cap ∧ WR w b 0 2 (wsF [v, k]) := by
  rcases h with ⟨e, _⟩ | ⟨b, cap, h1, h2, h3, _, h4⟩
  · cases e
  · exact ⟨b, cap, h1, h2, h3, h4⟩
/-- turn. -/
def turC (c : Cs) (s v k : Nat) : Cs := { c with ws := over c.ws s [v, k] }
theorem Cw.wset {w w' : World} {C : Nat} {I : Ids} {c : Cs} {ws : Nat → Nat} {g : Nat} (h : Cw w C I c) (hw : Wb w' I.sl c.fill ws) (hc : Ch (· = g) w w') (hg : I.sl.ownBlock = some g) : Cw w' C I { c with ws := ws } := by
  obtain ⟨n1, n2, n3, n4⟩ := h.ns g hg
  have hk : ∀ k, k < w.heap.size → k ≠ g → w'.heap[k]? = w.heap[k]? := fun k hk e => hc.block k hk e
  obtain ⟨A, hA, r⟩ := h.tb.c
  exact ⟨(hk C (h.own_lt _ (.inl rfl)) (Ne.symm n1)).trans h.c0, hw, ⟨A, (hk _ h.tb.lt (Ne.symm n2)).trans hA, r⟩, h.m1.keep (hk _ h.m1.lt (Ne.symm n3)), h.m2.keep (hk _ h.m2.lt (Ne.symm n4)), h.rm, h.st, h.ne, h.ns⟩
theorem Wb.sl' {w : World} {sl sl' : Value} {n : Nat} {ws : Nat → Nat} (h : Wb w sl n ws) (e : sl = sl') : Wb w sl' n ws := e ▸ h
set_option maxHeartbeats 4000000 in
theorem turn_any (C s k v : Nat) (I : Ids) (c : Cs) (w : World) (h : Cw w C I c) (hs : s + 2 ≤ c.fill) (hk : k < 4294967296) (hv : v < 4294967296) (hx : (decP c.ws c.fill s).x.x < 4294967296)
    (he : encP ⟨othF (decP c.ws c.fill s).x.op, (decP c.ws c.fill s).x.d, (decP c.ws c.fill s).x.a, (decP c.ws c.fill s).x.b, (decP c.ws c.fill s).x.c, (decP c.ws c.fill s).x.n, k, (decP c.ws c.fill s).x.x⟩ = (0, [v, k])) :
    Calls Try.prog 41 #[.pointer (some ⟨C, 0, none⟩), .int .i64 s, .int .u32 k] w fun e w' => e = .returned (.tuple #[]) ∧ Cw w' C I (turC c s v k) ∧ Ch (fun i => I.sl.ownBlock = some i) w w' := by
  obtain ⟨_, c1, _, _, _⟩ := h.cell
  obtain ⟨a, cap, hsl, hw⟩ := h.sl
  obtain ⟨_, r1, r2⟩ := h.rm
  have hlC := h.own_lt C (.inl rfl)
  obtain ⟨g, rfl, hle⟩ : ∃ g, a = some ⟨g, 0, none⟩ ∧ c.fill ≤ cap := by
    rcases h.wb.row with ⟨e, h0⟩ | ⟨g, cap', cur, e, hg, h1, h2, h3, h4⟩
    · omega
    · rw [hsl] at e; cases e; exact ⟨g, rfl, h1⟩
  have HC : Hid _ := h
  have HSL : Hid _ := hsl
  rw [hsl] at c1
  have HW : Hid _ := hw
  obtain ⟨D, hD⟩ : ∃ D, decP c.ws c.fill s = D := ⟨_, rfl⟩
  have HD : Hid (decP c.ws c.fill s = D) := hD
  rw [hD] at hx he
  have HE : Hid _ := he
  obtain ⟨de, ⟨o, d, aa, b, cc, n, kk, x⟩, df, dn⟩ := D
  dsimp only at hx HE
  have q0 : (0 : Int) ≤ (s : Int) := by omega
  have q1 : (s : Int) ≤ c.fill := by omega
  have q2 : (s : Int) ≤ cap := by omega
  obtain ⟨o', ho'⟩ : ∃ o', othF o = o' := ⟨_, rfl⟩
  have HO : Hid _ := ho'
  rw [ho'] at HE
  have hm1 : Hid (([v, k] : List Nat).length = Nat.min 2 (c.fill - s)) := (by show 2 = min 2 (c.fill - s); omega)
  have hm2 : Hid (s + ([v, k] : List Nat).length ≤ c.fill) := hs
  have hm3 : Hid (∀ x ∈ ([v, k] : List Nat), x < 4294967296) := (fun x hx => by simp at hx; omega)
  clear h hsl hw hD he ho'
  go_enter Try.func41, Try.ntmps41
  go_wp2_with (first
    | (go_at_call 57; refine Calls.mono (Ho.Decode_any _ c.fill cap s c.ws _ HW.out) ?_; rw [HD.out]; rintro _ w1 ⟨rfl, hb1⟩; dsimp only [cdV])
    | (go_at_call 58; refine Calls.mono (oth_any o _) ?_; rw [HO.out]; rintro _ _ ⟨rfl, rfl⟩; dsimp only)
    | (go_at_call 59; refine Calls.mono (Ho.Encode_any ⟨o', d, aa, b, cc, n, k, x⟩ _ hk hx) ?_; rw [HE.out]; rintro _ w2 ⟨sv, rfl, hl2, hb2⟩; obtain ⟨bb, cp, rfl, hbb, hcp, hr2⟩ := lies_two hl2; have hbw : Below w.heap.size w w2 := (by refine Below.trans ?_ (hb2.mono (by simp; have := hb1.size; omega)); exact (by repeat first | with_reducible exact hb1 | with_reducible refine Below.setCell ?_ (by have := hb1.size; simp; omega) _ | with_reducible refine Below.alloc ?_ (by have := hb1.size; simp; omega) _)); have c1' := (hbw.cell (p := ⟨C, 1, none⟩) hlC).trans c1; dsimp only)
    | (refine wpList_wcopy rfl _ _ rfl g s c.fill cap (c.fill - s) (cap - s) bb 2 cp c.ws [v, k] rfl rfl ((HC.out.below hbw).wb.sl' HSL.out) hm1.out hm2.out hm3.out (fun j y hj => ?_) ?_; rotate_left; intro w3 hw3 hc3))
  · go_end0
    have h2 := HC.out.below hbw
    refine ⟨rfl, h2.wset (g := g) (by rw [HSL.out]; exact hw3) hc3 (by rw [HSL.out]; rfl), (Ch.of_below _ hbw).trans (hc3.mono fun i _ e => ?_)⟩
    subst e
    show I.sl.ownBlock = _
    rw [HSL.out]; rfl
  · rcases j with _ | _ | j
    · cases hj; exact hr2.cell 0 (by omega)
    · cases hj; exact hr2.cell 1 (by omega)
    · simp at hj
end Go.Proofs.Ytgkkghphlbgcoaa.Ca
namespace Go.Proofs.Ytgkkghphlbgcoaa.Ca
open Go.RowKit Go.Maps
set_option maxRecDepth 100000
set_option linter.unusedVariables false
set_option linter.unusedSimpArgs false
/-- What the table is behind forgets of all blocks of g but those still to come. -/
def Fg (c : Cs) (g : Int → Option Bl) (tp' : Nat → Nat) (ta' : Nat → Int) (lf : Int → Bool) : Prop :=
  ∀ k, k < c.slots → (ta' k = -1 ∧ tp' k = 0 ∧ (c.ta k = -1 ∨ ∃ pc b, g pc = some b ∧ pc.toNat % c.slots = k ∧ c.ta k = b.bg)) ∨ (ta' k = c.ta k ∧ tp' k = c.tp k ∧ ∀ pc b, g pc = some b → lf pc = false → pc.toNat % c.slots = k → c.ta k ≠ b.bg)
theorem Fg.start (c : Cs) (g : Int → Option Bl) : Fg c g c.tp c.ta (fun i => (fB g i).isSome) := fun k _ => .inr ⟨rfl, rfl, fun pc b hb hl => by simp [fB, hb] at hl⟩
theorem Fg.step {c : Cs} {g : Int → Option Bl} {tp' : Nat → Nat} {ta' : Nat → Int} {lf : Int → Bool} (h : Fg c g tp' ta' lf) (pc : Nat) (b : Bl) (hb : g pc = some b) (x : Nat) (hx : pc % c.slots = x) :
    (ta' x = b.bg → Fg c g (setF tp' x 0) (setF ta' x (-1)) (fun z => lf z && !decide (z = (pc : Int)))) ∧ (ta' x ≠ b.bg → Fg c g tp' ta' (fun z => lf z && !decide (z = (pc : Int)))) := by
  constructor
  · intro he k hk
    by_cases e : k = x
    · subst e
      left
      refine ⟨by simp [setF], by simp [setF], ?_⟩
      rcases h k hk with ⟨_, _, h3⟩ | ⟨h1, _, _⟩
      · exact h3
      · exact .inr ⟨pc, b, hb, by rw [Int.toNat_natCast]; exact hx, by rw [← h1]; exact he⟩
    · rcases h k hk with ⟨h1, h2, h4⟩ | ⟨h1, h2, h3⟩
      · left; exact ⟨by simp [setF, e, h1], by simp [setF, e, h2], h4⟩
      · right
        refine ⟨by simp [setF, e, h1], by simp [setF, e, h2], fun pc' b' hb' hl hs => ?_⟩
        by_cases e2 : pc' = (pc : Int)
        · subst e2; rw [Int.toNat_natCast, hx] at hs; exact absurd hs.symm e
        · exact h3 pc' b' hb' (by simpa [e2] using hl) hs
  · intro he k hk
    rcases h k hk with h1 | ⟨h1, h2, h3⟩
    · exact .inl h1
    · right
      refine ⟨h1, h2, fun pc' b' hb' hl hs => ?_⟩
      by_cases e2 : pc' = (pc : Int)
      · subst e2
        rw [Int.toNat_natCast, hx] at hs
        subst hs
        rw [hb] at hb'; cases hb'
        rw [← h1]; exact he
      · exact h3 pc' b' hb' (by simpa [e2] using hl) hs
theorem Wb.zero {w : World} {a : Option Addr} {n cap : Nat} {ws : Nat → Nat} (h : Wb w (.slice a n cap) n ws) : Wb w (.slice a 0 cap) 0 ws := by
  refine ⟨h.lt, ?_⟩
  rcases h.row with ⟨e, h0⟩ | ⟨g, cap', cur, e, hg, h1, h2, h3, h4⟩
  · cases e; exact .inl ⟨rfl, rfl⟩
  · cases e; exact .inr ⟨g, cap, cur, rfl, hg, Nat.zero_le _, h2, h3, fun i hi => absurd hi (by omega)⟩
theorem own_r {w : World} {C : Nat} {I : Ids} {c : Cs} (h : Cw w C I c) : ∀ k, Own C I k → k ≠ w.heap.size := fun k hk e => by have := h.own_lt k hk; omega
set_option maxHeartbeats 4000000 in
theorem flush_any (C : Nat) (I : Ids) (c : Cs) (w : World) (h : Cw w C I c) :
    Calls Try.prog 26 #[.pointer (some ⟨C, 0, none⟩)] w fun e w' => e = .returned (.tuple #[]) ∧ ∃ tp' ta' sl', Cw w' C { I with sl := sl' } { c with fill := 0, tp := tp', ta := ta', bl := fun _ => none, ex := fun _ => none } ∧ Fg c c.bl tp' ta' (fun _ => false) ∧ sl'.ownBlock = I.sl.ownBlock ∧ Ch (Own C I) w w' := by
  obtain ⟨_, _, _, c3, _⟩ := h.cell
  have HC : Hid _ := h
  have hlC := h.own_lt C (.inl rfl)
  have HM : Hid _ := h.m1
  clear h
  go_enter Try.func26, Try.ntmps26
  go_wp2_with (at_range; refine wpList_rng _ rfl _ 51 rfl 30 84 .u32 Try.underlying30 Try.underlying51 I.b1 _ rfl HM.out ?_; intro w0 cnt0 hrg0 hg0 hs0)
  go_frame
  go_loopw [2] (fun _ wr => ∃ (tp' : Nat → Nat) (ta' : Nat → Int) (lf : Int → Bool) (cnt : Nat), RG wr 30 .u32 I.b1 w.heap.size (fB c.bl) lf cnt ∧ Cw wr C I { c with tp := tp', ta := ta' } ∧ Fg c c.bl tp' ta' lf ∧ Ch (Own C I) w wr) (fun _ wr => wr.rangeLeft I.b1 w.heap.size)
  case atStart => exact ⟨_, _, _, _, hrg0, HC.out.keep (fun k hk => hg0.block k (HC.out.own_lt k hk) (by simp)), Fg.start c c.bl, Ch.grown0 _ hg0⟩
  case round =>
    obtain ⟨tp', ta', lf, cnt, hrg, hcw, hfg, hch⟩ := hrel
    have HR : Hid _ := hrg
    have HW : Hid _ := hcw
    have HF : Hid _ := hfg
    have HCh : Hid _ := hch
    clear hrg hfg hch hg0 hrg0
    go_wp2_with (at_next; refine wpList_nxt _ rfl _ rfl 30 .u32 Try.underlying30 I.b1 w.heap.size (fB c.bl) lf cnt rfl HR.out ?_ ?_)
    · intro hl0
      have HL : Hid _ := hl0
      obtain ⟨_, _, _, d3, _⟩ := hcw.cell
      clear hl0 hcw
      obtain ⟨a, cap, hsl, _⟩ := HC.out.sl
      have HSL : Hid _ := hsl
      have hfi := HC.out.wb.row
      go_wp2_with (first
        | (refine wpList_mclear rfl _ 51 rfl 30 84 .u32 Try.underlying51 I.b1 _ rfl HW.out.m1 ?_; intro w4 hm4 hc4 hz4; have HX4 : Hid _ := (HW.out.m1set (bl' := fun _ => none) hm4 hc4); obtain ⟨_, _, _, _, d4⟩ := HX4.out.cell; clear hm4)
        | (refine wpList_mclear rfl _ 52 rfl 3 89 .i64 Try.underlying52 I.b2 _ rfl HX4.out.m2 ?_; intro w5 hm5 hc5 hz5; have HX5 : Hid _ := (HX4.out.m2set (ex' := fun _ => none) hm5 hc5); obtain ⟨_, e1, _, _, _⟩ := HX5.out.cell; rw [HSL.out] at e1; have e1f := So.row_fr HX5.out.c0 1; have l5 := HX5.out.own_lt C (.inl rfl); clear hm5))
      go_end0
      have hx := HX5.out
      have hwb : Wb w5 (.slice a 0 cap) 0 c.ws := (hx.wb.sl' hsl).zero
      have hob : (Value.slice a 0 cap).ownBlock = I.sl.ownBlock := by rw [hsl]; cases a <;> rfl
      refine ⟨rfl, tp', ta', .slice a 0 cap, hx.slset hwb (Nat.zero_le _) (fun k e => hx.ns k (by rw [← hob]; exact e)), fun k hk => ?_, by rw [hob, hsl], ?_⟩
      · rcases HF.out k hk with h1 | ⟨h1, h2, h3⟩
        · exact .inl h1
        · exact .inr ⟨h1, h2, fun pc b hb _ hs => h3 pc b hb (HL.out pc) hs⟩
      · exact ((HCh.out.trans (hc4.mono fun i _ e => .inr (.inr (.inl e)))).trans (hc5.mono fun i _ e => .inr (.inr (.inr (.inl e))))).set (.inl rfl) _ _
    · intro i v w2 cnt2 hlf hf hwf hrg2 hlt hg2 hs2 hen
      obtain ⟨b, hb, rfl⟩ : ∃ b, c.bl i = some b ∧ v = bV b := by
        unfold fB at hf
        cases e : c.bl i with
        | none => rw [e] at hf; cases hf
        | some b => rw [e] at hf; cases hf; exact ⟨b, rfl, rfl⟩
      obtain ⟨pc, rfl, hpc⟩ : ∃ pc : Nat, i = (pc : Int) ∧ pc < 4294967296 := by
        have e1 : IntKind.min .u32 = 0 := by decide
        have e2 : IntKind.max .u32 = 4294967295 := by decide
        simp [Lit.wf, e1, e2] at hwf
        exact ⟨i.toNat, by omega, by omega⟩
      have hr2 := own_r HC.out
      have hcw2 : Cw w2 C I { c with tp := tp', ta := ta' } := hcw.keep fun k hk => hg2.block k (hcw.own_lt k hk) (by simp; exact hr2 k hk)
      have HW2 : Hid _ := hcw2
      have HR2 : Hid _ := hrg2
      have HB : Hid _ := hb
      have HG : Hid _ := hg2
      have hl2 := hcw2.own_lt C (.inl rfl)
      obtain ⟨x, hx⟩ : ∃ x, pc % c.slots = x := ⟨_, rfl⟩
      have HX : Hid _ := hx
      clear hcw hcw2 hrg2 hb hg2 hf hwf hx hr2
      unfold bV at hen
      go_wp2_with (go_at_call 44; fail)
      refine Calls.mono (forget_any C pc I { c with tp := tp', ta := ta' } b _ hpc (HW2.out.below ((Below.refl _ _).alloc (Nat.le_refl _) _))) ?_
      rintro _ w3 ⟨rfl, hcw3, hch3⟩
      dsimp only
      have hne := HC.out.ne
      have lr : w.heap.size < w2.heap.size := by have := HR2.out.lt; exact this
      have hlb := HC.out.m1.lt
      have hlt' := HC.out.tb.lt
      have hrg3 : RG w3 30 .u32 I.b1 w.heap.size (fB c.bl) (fun z => lf z && !decide (z = (pc : Int))) cnt2 := by
        refine HR2.out.keep ?_ ?_
        · rw [hch3.block I.b1 (by simp; omega) (Ne.symm hne.2.2.2.1)]
          exact ((Below.refl w2.heap.size w2).alloc (Nat.le_refl _) _).block _ (by omega)
        · rw [hch3.block w.heap.size (by simp; omega) (by omega)]
          exact ((Below.refl w2.heap.size w2).alloc (Nat.le_refl _) _).block _ (by omega)
      have hst : Fg c c.bl tp' ta' lf := HF.out
      obtain ⟨st1, st2⟩ := Fg.step (c := c) hst pc b HB.out x HX.out
      have hch : Ch (Own C I) w w3 := (((HCh.out.step (Ch.grown (· = w.heap.size) HG.out rfl) fun i hi e => absurd e (by omega)).alloc _).trans (hch3.mono fun i _ e => .inr (.inl e)))
      go_wp2
      go_roundw
      case rel =>
        unfold forC at hcw3
        dsimp only at hcw3
        rw [HX.out] at hcw3
        by_cases he : ta' x = (b.bg : Int)
        · rw [if_pos he] at hcw3
          exact ⟨_, _, _, cnt2, hrg3, hcw3, st1 he, hch⟩
        · rw [if_neg he] at hcw3
          exact ⟨_, _, _, cnt2, hrg3, hcw3, st2 he, hch⟩
      case measure => rw [hrg3.left_eq, HR.out.left_eq]; exact hlt
end Go.Proofs.Ytgkkghphlbgcoaa.Ca
