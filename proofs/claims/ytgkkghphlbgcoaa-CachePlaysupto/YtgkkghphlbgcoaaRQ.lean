import Derived.Test.YtgkkghphlbgcoaaRW
import Derived.Deep.DrawnRows
namespace Go.Proofs.Ytgkkghphlbgcoaa.Ca
open Go.RowKit Go.Maps Ho
set_option maxRecDepth 100000
set_option linter.unusedVariables false
set_option linter.unusedSimpArgs false
attribute [local go_sem ↓] Go.wp_at_zero Go.wp_at_succ
/-- What the document's Insert answers. -/
structure RiP (w : World) (D : Nat) (J : Rd) (d : Rs) (pc n : Nat) (pg : Nat → Int) (cw : Nat → Nat) (len : Nat) (e : Ending) (w' : World) : Prop where
  ex : (∃ r : Int, e = .returned (.tuple #[.int .i64 0, .int .i64 r]) ∧ Below w.heap.size w w' ∧ ((r = 4 ∧ ∃ i, i < n ∧ isP (pg i) = false) ∨ (∀ i, i < n → isP (pg i) = true) ∧ ((r = 7 ∧ (len = 0 ∨ Bad cw len pc)) ∨ 0 < len ∧ (∃ S, Good cw len pc S) ∧ ((r = 8 ∧ fdK d.bs pc ≠ none) ∨ fdK d.bs pc = none ∧ r = 5 ∧ d.room < len)))) ∨
    ∃ d1 J' cv pv, e = .returned (.tuple #[.int .i64 d1.filled, .int .i64 0]) ∧ (∀ i, i < n → isP (pg i) = true) ∧ 0 < len ∧ (∃ S, Good cw len pc S) ∧ fdK d.bs pc = none ∧ len ≤ d.room ∧
      ((d.filled + len ≤ d.room ∧ d1 = d) ∨ (d.room < d.filled + len ∧ d1 = { d with filled := 0, bs := [], hs := offF d.n d.hs })) ∧
      Rw w' D J' { d1 with filled := d1.filled + len, bs := d1.bs ++ [⟨pc, len, cw, n, pg, d1.filled, [], cv, pv, .slice none 0 0, .slice none 0 0⟩] } ∧ J'.sb = J.sb ∧ J'.hb = J.hb ∧ (∀ j, J'.bv.ownBlock = some j → J.bv.ownBlock = some j ∨ w.heap.size ≤ j) ∧ (∀ j, cv.ownBlock = some j ∨ pv.ownBlock = some j → w.heap.size ≤ j) ∧ Ch (fun j => j ∈ wrB D J d.bs) w w'
structure RiC (w : World) (D : Nat) (J : Rd) (d : Rs) (len : Nat) (wx : World) : Prop where
  ex : ∃ d1 J1, ((d.filled + len ≤ d.room ∧ d1 = d) ∨ (d.room < d.filled + len ∧ d1 = { d with filled := 0, bs := [], hs := offF d.n d.hs })) ∧ Rw wx D J1 d1 ∧ J1.sb = J.sb ∧ J1.hb = J.hb ∧ (J1.bv.ownBlock = J.bv.ownBlock ∨ J1.bv.ownBlock = none) ∧ Ch (fun j => j ∈ wrB D J d.bs) w wx
structure RpI (w : World) (n : Nat) (pg : Nat → Int) (v : Value) (wr : World) : Prop where
  ex : ∃ i : Nat, v = .int .i64 i ∧ i ≤ n ∧ (∀ j, j < i → isP (pg j) = true) ∧ wr = w
set_option maxHeartbeats 8000000 in
theorem rInsert_any (D pc : Nat) (pa a : Option Addr) (pn pcap len cap : Nat) (pg : Nat → Int) (cw : Nat → Nat) (J : Rd) (d : Rs) (w : World) (h : Rw w D J d) (hpc : pc < 4294967296) (hpg : Pg w pa pn pg) (hw : Ho.Wds w a len cap cw) (hlt : ∀ i, cw i < 4294967296) (hlen : len ≤ 1048576) (hpn : pn ≤ 1048576) (hbs : d.bs.length ≤ d.filled)
    (hao : 0 < len → ∀ b off, a = some ⟨b, off, none⟩ → b ∉ wrB D J d.bs) (hpo : 0 < pn → ∀ b off, pa = some ⟨b, off, none⟩ → b ∉ wrB D J d.bs) :
    Calls Try.prog 18 #[.pointer (some ⟨D, 0, none⟩), .int .u32 pc, .slice pa pn pcap, .slice a len cap] w fun e w' => RiP w D J d pc pn pg cw len e w' := by
  have HR : Hid _ := h
  have HW : Hid (Ho.Wds w a len cap cw) := hw
  have HLT : Hid _ := hlt
  have HPG : Hid (Pg w pa pn pg) := hpg
  have HAO : Hid _ := hao
  have HPO : Hid _ := hpo
  have lD := h.lt D (.inl (mem_wr.2 (.inl rfl)))
  clear h hw hlt hpg hao hpo
  go_enter Try.func18, Try.ntmps18
  go_wp2
  go_loopw [15] (fun v wr => RpI w pn pg v wr) (fun v _ => pn - (intOf v).toNat)
  case atStart => exact ⟨0, rfl, Nat.zero_le _, fun j hj => absurd hj (Nat.not_lt_zero _), rfl⟩
  case round =>
    obtain ⟨i, rfl, hi, hgood, rfl⟩ := hrel
    have HG : Hid (∀ j, j < i → isP (pg j) = true) := hgood
    clear hgood
    by_cases hin : i < pn
    · obtain ⟨b, off, rfl, hcell, hb, hmx⟩ : ∃ b off, pa = some ⟨b, off, none⟩ ∧ (∀ i, i < pn → wr.cell? ⟨b, off + i, none⟩ = some (.int .i64 (pg i))) ∧ b < wr.heap.size ∧ pn ≤ 140737488355328 := by
        rcases HPG.out with h | h
        · omega
        · exact h
      have y0 := hcell i hin
      have f1 : (i : Int) < (pn : Int) := by omega
      have f2 : decide ((i : Int) < (pn : Int)) = true := decide_eq_true f1
      have f3 : (0 : Int) ≤ (i : Int) := by omega
      obtain ⟨i1, hi1⟩ : ∃ i1, i + 1 = i1 := ⟨_, rfl⟩
      have t1 : IntKind.i64.wrap ((i : Int) + 1) = (i1 : Int) := So.wr_one hi1 (by omega)
      have HI1 : Hid _ := hi1
      clear hi1 hcell
      by_cases h0 : pg i < 0
      · have g0 : decide (pg i < 0) = true := decide_eq_true h0
        have hbad : isP (pg i) = false := by unfold isP; rw [decide_eq_false (show ¬ 0 ≤ pg i by omega)]; rfl
        have HBAD : Hid _ := hbad
        clear hbad
        go_wp2
        go_ret2
        exact ⟨.inl ⟨4, rfl, Below.refl _ _, .inl ⟨rfl, i, hin, HBAD.out⟩⟩⟩
      · have g0 : decide (pg i < 0) = false := decide_eq_false h0
        by_cases h1 : 255 < pg i
        · have g1 : decide (255 < pg i) = true := decide_eq_true h1
          have hbad : isP (pg i) = false := by unfold isP; rw [decide_eq_false (show ¬ pg i < 256 by omega)]; simp
          have HBAD : Hid _ := hbad
          clear hbad
          go_wp2
          go_ret2
          exact ⟨.inl ⟨4, rfl, Below.refl _ _, .inl ⟨rfl, i, hin, HBAD.out⟩⟩⟩
        · have g1 : decide (255 < pg i) = false := decide_eq_false h1
          have hbad : isP (pg i) = true := by unfold isP; rw [decide_eq_true (show pg i < 256 by omega), decide_eq_true (show 0 ≤ pg i by omega)]; rfl
          have HBAD : Hid _ := hbad
          clear hbad
          go_wp2
          refine ⟨⟨i1, rfl, by have := HI1.out; omega, fun j hj => ?_, rfl⟩, by have := HI1.out; simp [intOf]; omega⟩
          rcases Nat.lt_or_ge j i with h | h
          · exact HG.out j h
          · obtain rfl : j = i := by have := HI1.out; omega
            exact HBAD.out
    · have f1 : ¬ (i : Int) < (pn : Int) := by omega
      have f2 : decide ((i : Int) < (pn : Int)) = false := decide_eq_false f1
      obtain rfl : i = pn := by omega
      go_wp2_with (go_at_call 45; fail)
      refine Calls.mono (is_ref a len cap pc cw _ HW.out HLT.out hlen) ?_
      rintro _ w1 ⟨r, rfl, hb1, ht, hf⟩
      dsimp only
      cases r with
      | false =>
        have HF : Hid _ := hf rfl
        clear ht hf
        go_wp2
        go_ret2
        exact ⟨.inl ⟨7, rfl, hb1, .inr ⟨HG.out, .inl ⟨rfl, HF.out⟩⟩⟩⟩
      | true =>
      have HT : Hid _ := ht rfl
      have hpos : 0 < len := (ht rfl).1
      have HB1 : Hid _ := hb1
      clear ht hf
      go_wp2_with (go_at_call 46; fail)
      refine Calls.mono (rfind_any D pc J d w1 (HR.out.below hb1)) ?_
      rintro _ w2 ⟨rfl, hb2⟩
      dsimp only
      have hB2 : Below wr.heap.size wr w2 := hb1.trans (hb2.mono hb1.size)
      have HB2 : Hid _ := hB2
      clear hb1 hb2 hB2
      cases hfd : fdK d.bs pc with
      | some k =>
        obtain ⟨j, hj, _⟩ := fdI_some d.bs 0 pc k hfd
        rw [hj, Nat.zero_add]
        have f5 : (0 : Int) ≤ (j : Int) := by omega
        have f6 : decide ((0 : Int) ≤ (j : Int)) = true := decide_eq_true f5
        have HFD : Hid _ := hfd
        clear hfd hj
        go_wp2
        go_ret2
        exact ⟨.inl ⟨8, rfl, HB2.out, .inr ⟨HG.out, .inr ⟨hpos, HT.out.2, .inl ⟨rfl, by rw [HFD.out]; simp⟩⟩⟩⟩⟩
      | none =>
      rw [fdI_none d.bs 0 pc hfd]
      have HFD : Hid _ := hfd
      have hr2 : Rw w2 D J d := HR.out.below HB2.out
      have HR2 : Hid _ := hr2
      obtain ⟨c0, c1, c2, _, _⟩ := hr2.cell
      obtain ⟨m1, m2, m3, m4, m5, _⟩ := hr2.rm
      clear hfd hr2
      by_cases hbig : d.room < len
      · have f7 : (d.room : Int) < (len : Int) := by omega
        have f8 : decide ((d.room : Int) < (len : Int)) = true := decide_eq_true f7
        go_wp2
        go_ret2
        exact ⟨.inl ⟨5, rfl, HB2.out, .inr ⟨HG.out, .inr ⟨hpos, HT.out.2, .inr ⟨HFD.out, rfl, hbig⟩⟩⟩⟩⟩
      have f7 : ¬ (d.room : Int) < (len : Int) := by omega
      have f8 : decide ((d.room : Int) < (len : Int)) = false := decide_eq_false f7
      obtain ⟨fl, hfl⟩ : ∃ fl, d.filled + len = fl := ⟨_, rfl⟩
      have t2 : IntKind.i64.wrap ((d.filled : Int) + (len : Int)) = (fl : Int) := So.wr_add hfl (by omega)
      have HFL : Hid _ := hfl
      clear hfl
      go_wp2
      go_quiet (fail)
      go_upto_if 52 with fail
      go_cut [] from 41 to 54 (fun wx => RiC w2 D J d len wx)
      case first =>
        by_cases hfull : d.room < fl
        · have f9 : (d.room : Int) < (fl : Int) := by omega
          have f10 : decide ((d.room : Int) < (fl : Int)) = true := decide_eq_true f9
          go_wp2_with (go_at_call 27; fail)
          refine Calls.mono (rFlush_any D J d _ (HR2.out.below (bDN (Below.refl _ _) _))) ?_
          rintro _ w4 ⟨rfl, hr4, hch4⟩
          dsimp only
          go_wp2
          go_meet
          exact ⟨_, _, .inr ⟨by have := HFL.out; omega, rfl⟩, hr4, rfl, rfl, .inr rfl, (Ch.of_below _ (bDN (Below.refl _ _) _)).trans (hch4.mono fun i _ hi => mem_wr.2 (by rcases hi with rfl | rfl; exact .inl rfl; exact .inr (.inr (.inl rfl))))⟩
        · have f9 : ¬ (d.room : Int) < (fl : Int) := by omega
          have f10 : decide ((d.room : Int) < (fl : Int)) = false := decide_eq_false f9
          go_wp2
          go_meet
          exact ⟨d, J, .inl ⟨by have := HFL.out; omega, rfl⟩, HR2.out.below (bDN (Below.refl _ _) _), rfl, rfl, .inl rfl, Ch.of_below _ (bDN (Below.refl _ _) _)⟩
      case rest =>
        obtain ⟨d1, J1, hor, hr3, hsb, hhb, hbo, hch3⟩ := hcut
        have hcr : d1.room = d.room ∧ d1.n = d.n ∧ d1.filled + len ≤ d.room ∧ d1.bs.length ≤ d1.filled := by
          rcases hor with ⟨h1, rfl⟩ | ⟨h1, rfl⟩
          · exact ⟨rfl, rfl, h1, hbs⟩
          · exact ⟨rfl, rfl, by dsimp only; omega, Nat.zero_le _⟩
        obtain ⟨hcr1, hcr2, hcr3, hcr4⟩ := hcr
        have HR3 : Hid _ := hr3
        have HOR : Hid _ := hor
        have HCH3 : Hid _ := hch3
        obtain ⟨g0, g1, g2, _, _⟩ := hr3.cell
        have l3 := hr3.lt D (.inl (mem_wr.2 (.inl rfl)))
        clear hor hr3 hch3 c0 c1 c2
        go_wp2
        have HA : Hid (∀ W, Below wc.heap.size wc W → ∃ v' W', (Builtin.append_ #[32, 32] 32 #[.slice none 0 0, .slice a len cap]).run Try.prog W = .ok v' W' ∧ W'.ownsRow wc.heap.size 30 1 v' len (wL cw len) ∧ Below wc.heap.size wc W') := (fun W hW => by
          obtain ⟨v', W', hr, h2, h3⟩ := src_u (Ho.wds_keep (wds_ch (Ho.wds_keep HW.out HB2.out) HCH3.out (fun g off e => HAO.out hpos g off e)) hW) hlen
          exact ⟨v', W', hr, row_base h2 hW.size, hW.trans (h3.mono hW.size)⟩)
        obtain ⟨ba, bcap, hbv, _⟩ := HR3.out.blocks
        have HBV : Hid _ := hbv
        rw [hbv] at g2
        have HCp : Hid (∀ W B ca ccap pva pvcap, W.heap[B]? = some (.cells #[.int .u32 pc, .slice ca len ccap, .slice pva i pvcap, .int .i64 d1.filled, .slice none 0 0, .slice none 0 0] 100) → W.ownsRow 0 100 6 (.slice ba d1.bs.length bcap) d1.bs.length (encB d1.bs) → ∃ v' W', (Builtin.append_ #[59, 59] 59 #[.slice ba d1.bs.length bcap, .slice (some ⟨B, 0, none⟩) 1 1]).run Try.prog W = .ok v' W' ∧ W'.ownsRow 0 100 6 v' (d1.bs.length + 1) (encB d1.bs ++ [.int .u32 pc, .slice ca len ccap, .slice pva i pvcap, .int .i64 d1.filled, .slice none 0 0, .slice none 0 0]) ∧ W.grownBy W' (Value.slice ba d1.bs.length bcap).ownBlock ∧ (v'.ownBlock = (Value.slice ba d1.bs.length bcap).ownBlock ∨ v'.ownBlock = some W.heap.size)) := (fun W B ca ccap pva pvcap hB hrow => app_b W B _ d1.bs ⟨pc, len, cw, i, pg, d1.filled, [], .slice ca len ccap, .slice pva i pvcap, .slice none 0 0, .slice none 0 0⟩ rfl rfl rfl rfl hB hrow (by omega))
        clear hbv
        have HBp : Hid (∀ W, Below wc.heap.size wc W → ∃ v' W', (Builtin.append_ #[31, 31] 31 #[.slice none 0 0, .slice pa i pcap]).run Try.prog W = .ok v' W' ∧ W'.ownsRow wc.heap.size 3 1 v' i (pL pg i) ∧ Below W.heap.size W W') := (fun W hW => by
          obtain ⟨v', W', hr, h2, h3⟩ := src_i (pg_ch (pg_ch (pg_ch HPG.out (Ch.of_below (fun _ => False) HB2.out) (fun _ _ _ _ h => h)) HCH3.out HPO.out) (Ch.of_below (fun _ => False) hW) (fun _ _ _ _ h => h)) hpn
          exact ⟨v', W', hr, row_base h2 hW.size, h3⟩)
        refine region_T 16 (fun w' => w'.cell? ⟨D, 2, none⟩ = some (.slice ba d1.bs.length bcap)) (by kernel_rfl) ?_
        have gS : ({ wc with drawn := wc.drawn + 1 } : World).cell? ⟨D, 2, none⟩ = some (.slice ba d1.bs.length bcap) := g2
        obtain ⟨wd, hwd⟩ : ∃ wd, ({ wc with drawn := wc.drawn + 1 } : World) = wd := ⟨_, rfl⟩
        have hbd : Below wc.heap.size wc wd := hwd ▸ ⟨rfl, rfl, rfl, Nat.le_refl _, fun _ _ => rfl⟩
        rw [hwd] at gS ⊢
        refine anyT_take (t := 16) (i := 0) (oi := { dst := some 59, op := .move (.tmp 0), type := 27, pos := "cache.go:79", after := #[], guard := none }) (v := .pointer (some ⟨D, 0, none⟩)) rfl (by kernel_rfl) (by kernel_rfl) (by kernel_rfl) (by kernel_rfl) (fun _ _ _ h => h) (Or.inl ⟨by rfl, ?_⟩) gS ?_
        · (intro w hSw; (try dsimp only at hSw); go_simp)
        try simp only [Act.put, List.setIfInBounds_toArray, List.set_cons_zero, List.set_cons_succ]
        refine anyT_take (t := 16) (i := 1) (oi := { dst := some 60, op := .move (.tmp 0), type := 27, pos := "cache.go:79", after := #[], guard := none }) (v := .pointer (some ⟨D, 0, none⟩)) rfl (by kernel_rfl) (by kernel_rfl) (by kernel_rfl) (by kernel_rfl) (fun _ _ _ h => h) (Or.inl ⟨by rfl, ?_⟩) gS ?_
        · (intro w hSw; (try dsimp only at hSw); go_simp)
        try simp only [Act.put, List.setIfInBounds_toArray, List.set_cons_zero, List.set_cons_succ]
        refine anyT_take (t := 16) (i := 2) (oi := { dst := some 61, op := .nilCheck (.tmp 60), type := 0, pos := "cache.go:79", after := #[{ on := 1, ground := .data }], guard := none }) (v := .pointer (some ⟨D, 0, none⟩)) rfl (by kernel_rfl) (by kernel_rfl) (by kernel_rfl) (by kernel_rfl) (fun _ _ _ h => h) (Or.inl ⟨by rfl, ?_⟩) gS ?_
        · (intro w hSw; (try dsimp only at hSw); go_simp)
        try simp only [Act.put, List.setIfInBounds_toArray, List.set_cons_zero, List.set_cons_succ]
        refine anyT_take (t := 16) (i := 3) (oi := { dst := some 62, op := .fieldAddr 61 (.tmp 61) 2, type := 0, pos := "cache.go:79", after := #[{ on := 2, ground := .data }], guard := none }) (v := .pointer (some ⟨D, 2, none⟩)) rfl (by kernel_rfl) (by kernel_rfl) (by kernel_rfl) (by kernel_rfl) (fun _ _ _ h => h) (Or.inl ⟨by rfl, ?_⟩) gS ?_
        · (intro w hSw; (try dsimp only at hSw); go_simp)
        try simp only [Act.put, List.setIfInBounds_toArray, List.set_cons_zero, List.set_cons_succ]
        refine anyT_take (t := 16) (i := 4) (oi := { dst := some 63, op := .load 59 (.tmp 62), type := 59, pos := "cache.go:79", after := #[{ on := 3, ground := .data }], guard := none }) (v := .slice ba d1.bs.length bcap) rfl (by kernel_rfl) (by kernel_rfl) (by kernel_rfl) (by kernel_rfl) (fun _ _ _ h => h) (Or.inl ⟨by rfl, ?_⟩) gS ?_
        · (intro w hSw; (try dsimp only at hSw); go_simp)
        try simp only [Act.put, List.setIfInBounds_toArray, List.set_cons_zero, List.set_cons_succ]
        refine anyT_take (t := 16) (i := 5) (oi := { dst := some 64, op := .move (.tmp 1), type := 30, pos := "cache.go:79", after := #[], guard := none }) (v := .int .u32 pc) rfl (by kernel_rfl) (by kernel_rfl) (by kernel_rfl) (by kernel_rfl) (fun _ _ _ h => h) (Or.inl ⟨by rfl, ?_⟩) gS ?_
        · (intro w hSw; (try dsimp only at hSw); go_simp)
        try simp only [Act.put, List.setIfInBounds_toArray, List.set_cons_zero, List.set_cons_succ]
        refine anyT_take (t := 16) (i := 6) (oi := { dst := some 65, op := .move (.tmp 3), type := 32, pos := "cache.go:79", after := #[], guard := none }) (v := .slice a len cap) rfl (by kernel_rfl) (by kernel_rfl) (by kernel_rfl) (by kernel_rfl) (fun _ _ _ h => h) (Or.inl ⟨by rfl, ?_⟩) gS ?_
        · (intro w hSw; (try dsimp only at hSw); go_simp)
        try simp only [Act.put, List.setIfInBounds_toArray, List.set_cons_zero, List.set_cons_succ]
        refine anyT_take (t := 16) (i := 8) (oi := { dst := some 67, op := .move (.tmp 2), type := 31, pos := "cache.go:79", after := #[], guard := none }) (v := .slice pa i pcap) rfl (by kernel_rfl) (by kernel_rfl) (by kernel_rfl) (by kernel_rfl) (fun _ _ _ h => h) (Or.inl ⟨by rfl, ?_⟩) gS ?_
        · (intro w hSw; (try dsimp only at hSw); go_simp)
        try simp only [Act.put, List.setIfInBounds_toArray, List.set_cons_zero, List.set_cons_succ]
        refine anyT_take (t := 16) (i := 10) (oi := { dst := some 69, op := .move (.tmp 12), type := 3, pos := "cache.go:79", after := #[], guard := none }) (v := .int .i64 d1.filled) rfl (by kernel_rfl) (by kernel_rfl) (by kernel_rfl) (by kernel_rfl) (fun _ _ _ h => h) (Or.inl ⟨by rfl, ?_⟩) gS ?_
        · (intro w hSw; (try dsimp only at hSw); go_simp)
        try simp only [Act.put, List.setIfInBounds_toArray, List.set_cons_zero, List.set_cons_succ]
        refine anyT_step (i := 7) (by kernel_rfl) rfl rfl (fun K hK => ?_)
        refine wp_app _ _ 32 32 rfl rfl _ _ rfl rfl _ (HA.out wd hbd) ?_
        rintro cv w5 ⟨hcv, hb5⟩
        obtain ⟨ca, ccap, rfl⟩ := row_sl hcv
        refine hK _ _ (fun _ => (hb5.cell (p := ⟨D, 2, none⟩) l3).trans g2) ?_
        clear hK K
        try simp only [Act.put, List.setIfInBounds_toArray, List.set_cons_zero, List.set_cons_succ]
        refine anyT_step (i := 9) (by kernel_rfl) rfl rfl (fun K hK => ?_)
        refine wp_app _ _ 31 31 rfl rfl _ _ rfl rfl _ (HBp.out w5 hb5) ?_
        rintro pv w6 ⟨hpv, hb6⟩
        obtain ⟨pva, pvcap, rfl⟩ := row_sl hpv
        have g26 := ((hb5.trans (hb6.mono hb5.size)).cell (p := ⟨D, 2, none⟩) l3).trans g2
        refine hK _ _ (fun _ => g26) ?_
        clear hK K
        try simp only [Act.put, List.setIfInBounds_toArray, List.set_cons_zero, List.set_cons_succ]
        refine anyT_take (t := 16) (i := 11) (oi := { dst := some 70, op := .build 100 #[(0, .tmp 64), (1, .tmp 66), (2, .tmp 68), (3, .tmp 69)], type := 100, pos := "cache.go:79", after := #[{ on := 5, ground := .data }, { on := 7, ground := .data }, { on := 9, ground := .data }, { on := 10, ground := .data }], guard := none }) (v := .agg #[.int .u32 pc, .slice ca len ccap, .slice pva i pvcap, .int .i64 d1.filled, .slice none 0 0, .slice none 0 0]) rfl (by kernel_rfl) (by kernel_rfl) (by kernel_rfl) (by kernel_rfl) (fun _ _ _ h => h) (Or.inl ⟨by rfl, ?_⟩) g26 ?_
        · (intro w hSw; (try dsimp only at hSw); go_simp)
        try simp only [Act.put, List.setIfInBounds_toArray, List.set_cons_zero, List.set_cons_succ]
        refine anyT_step (i := 12) (by kernel_rfl) rfl rfl (fun K hK => ?_)
        go_simp
        have hb56 : Below wc.heap.size wc w6 := hb5.trans (hb6.mono hb5.size)
        have hbA : Below w6.heap.size w6 (w6.alloc (.cells #[.int .u32 pc, .slice ca len ccap, .slice pva i pvcap, .int .i64 d1.filled, .slice none 0 0, .slice none 0 0] 100)) := (Below.refl _ _).alloc (Nat.le_refl _) _
        have hbAll : Below wc.heap.size wc (w6.alloc (.cells #[.int .u32 pc, .slice ca len ccap, .slice pva i pvcap, .int .i64 d1.filled, .slice none 0 0, .slice none 0 0] 100)) := hb56.trans (hbA.mono hb56.size)
        have HNA : Hid ((w6.alloc (.cells #[.int .u32 pc, .slice ca len ccap, .slice pva i pvcap, .int .i64 d1.filled, .slice none 0 0, .slice none 0 0] 100)).heap[w6.heap.size]? = some (.cells #[.int .u32 pc, .slice ca len ccap, .slice pva i pvcap, .int .i64 d1.filled, .slice none 0 0, .slice none 0 0] 100)) := World.alloc_heap_new _ _
        have HB56 : Hid _ := hb56
        have HBA : Hid _ := hbA
        refine hK _ _ (fun _ => (hbAll.cell (p := ⟨D, 2, none⟩) l3).trans g2) ?_
        clear hK K
        obtain ⟨wA, hwA⟩ : ∃ wA, w6.alloc (.cells #[.int .u32 pc, .slice ca len ccap, .slice pva i pvcap, .int .i64 d1.filled, .slice none 0 0, .slice none 0 0] 100) = wA := ⟨_, rfl⟩
        rw [hwA] at HNA HBA hbAll ⊢
        clear hwA hbA
        refine anyT_step (i := 13) (by kernel_rfl) rfl rfl (fun K hK => ?_)
        refine wp_app _ _ 59 59 rfl rfl _ _ rfl rfl _ (HCp.out wA w6.heap.size ca ccap pva pvcap HNA.out (HBV.out ▸ row_keep HR3.out.row (fun j e => hbAll.block j (HR3.out.row.lt j e).2))) ?_
        rintro nv w7 ⟨hnv, hg7, ho7⟩
        obtain ⟨na, ncap, rfl⟩ := row_sl hnv
        have hk7 : w7.heap[D]? = wc.heap[D]? := (hg7.block D (Nat.lt_of_lt_of_le l3 hbAll.size) (fun e => (HR3.out.ne.2.2.2.1 D (by rw [HBV.out]; exact e.symm)).1 rfl)).trans (hbAll.block D l3)
        have g27 : w7.cell? ⟨D, 2, none⟩ = some (.slice ba d1.bs.length bcap) := ((So.row_cell (hk7.trans HR3.out.c0) 2).trans rfl).trans (congrArg some HBV.out)
        have z27 := So.row_fr (hk7.trans HR3.out.c0) 2
        have g17 : w7.cell? ⟨D, 1, none⟩ = some (.int .i64 d1.filled) := (So.row_cell (hk7.trans HR3.out.c0) 1).trans rfl
        have z17 := So.row_fr (hk7.trans HR3.out.c0) 1
        have HNV : Hid _ := hnv
        have HG7 : Hid _ := hg7
        have HO7 : Hid _ := ho7
        have HCV : Hid (w5.ownsRow wc.heap.size 30 1 (.slice ca len ccap) len (wL cw len)) := hcv
        have HPV : Hid (w6.ownsRow wc.heap.size 3 1 (.slice pva i pvcap) i (pL pg i)) := hpv
        have HB6 : Hid _ := hb6
        refine hK _ _ (fun _ => g27) ?_
        clear hK K hnv hg7 ho7 hcv hpv hb6 hb5 hb56 hbAll hbd hwd hk7 g26 gS g2 g0 g1
        try simp only [Act.put, List.setIfInBounds_toArray, List.set_cons_zero, List.set_cons_succ]
        refine anyT_step (i := 14) (by kernel_rfl) rfl rfl (fun K hK => ?_)
        go_simp
        refine hK _ _ (fun _ => g27) ?_
        clear hK K
        refine anyT_step (i := 15) (by kernel_rfl) rfl rfl (fun K hK => ?_)
        go_simp
        refine hK _ _ (fun _ => g27) ?_
        clear hK K
        refine anyT_step (i := 16) (by kernel_rfl) rfl rfl (fun K hK => ?_)
        go_simp
        refine hK _ _ (fun e => absurd rfl e) ?_
        clear hK K
        refine anyT_done (by kernel_rfl) ?_ _
        obtain ⟨fl1, hfl1⟩ : ∃ fl1, d1.filled + len = fl1 := ⟨_, rfl⟩
        have t3 : IntKind.i64.wrap ((d1.filled : Int) + (len : Int)) = (fl1 : Int) := So.wr_add hfl1 (by omega)
        have HFL1 : Hid _ := hfl1
        clear hfl1
        go_wp2
        go_ret2
        have hm6 : Rkw w6 ⟨pc, len, cw, i, pg, d1.filled, [], .slice ca len ccap, .slice pva i pvcap, .slice none 0 0, .slice none 0 0⟩ := ⟨hpc, HLT.out, row_base (row_keep HCV.out fun j e => HB6.out.block j (HCV.out.lt j e).2) (Nat.zero_le _), row_base HPV.out (Nat.zero_le _), World.ownsRow_nil _ _ _ _, World.ownsRow_nil _ _ _ _, hlen⟩
        have s12 := HB2.out.size
        have s23 := HCH3.out.size
        obtain ⟨R1, R2⟩ := HR3.out.ins ⟨pc, len, cw, i, pg, d1.filled, [], .slice ca len ccap, .slice pva i pvcap, .slice none 0 0, .slice none 0 0⟩ (.slice na (d1.bs.length + 1) ncap) (d1.filled + len) hm6 (fun j e => by rcases e with e | e; exact (HCV.out.lt j e).1; exact (HPV.out.lt j e).1) rfl rfl HB56.out HBA.out HNV.out (by rw [HBV.out]; exact HG7.out) (by rw [HBV.out]; exact HO7.out) (by omega) (by omega)
        rw [← HFL1.out]
        have hsub : ∀ j, j ∈ wrB D J1 d1.bs → j ∈ wrB D J d.bs := fun j hj => by
          rcases mem_wr.1 hj with e | e | e | e | ⟨q, hq, e⟩
          · exact mem_wr.2 (.inl e)
          · exact mem_wr.2 (.inr (.inl (by rw [e, hsb])))
          · exact mem_wr.2 (.inr (.inr (.inl (by rw [e, hhb]))))
          · rcases hbo with hb | hb
            · exact mem_wr.2 (.inr (.inr (.inr (.inl (by rw [← hb]; exact e)))))
            · rw [hb] at e; cases e
          · rcases HOR.out with ⟨_, rfl⟩ | ⟨_, rfl⟩
            · exact mem_wr.2 (.inr (.inr (.inr (.inr ⟨q, hq, e⟩))))
            · cases hq
        refine ⟨.inr ⟨d1, { J1 with bv := .slice na (d1.bs.length + 1) ncap }, _, _, rfl, HG.out, hpos, HT.out.2, HFD.out, by omega, HOR.out, R1, hsb, hhb, fun j e => ?_, fun j e => ?_, ((Ch.of_below _ HB2.out).trans (HCH3.out.step R2 fun j _ hj => hsub j hj))⟩⟩
        · rcases HO7.out with e2 | e2
          · rw [e2] at e
            rcases hbo with hb | hb
            · exact .inl (by rw [← hb, HBV.out]; exact e)
            · rw [HBV.out] at hb; rw [hb] at e; cases e
          · have e3 := e.symm.trans e2
            cases e3
            exact .inr (by have := HB56.out.size; have := HBA.out.size; omega)
        · rcases e with e | e
          · have := (HCV.out.lt j e).1; omega
          · have := (HPV.out.lt j e).1; omega
end Go.Proofs.Ytgkkghphlbgcoaa.Ca
