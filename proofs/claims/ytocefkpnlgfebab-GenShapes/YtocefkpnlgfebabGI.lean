import Derived.Test.YtocefkpnlgfebabGG
namespace Go.Proofs.Ytocefkpnlgfebab.Ho
open Go.RowKit
set_option maxRecDepth 100000
set_option linter.unusedVariables false
set_option linter.unusedSimpArgs false

/-- What an operation's code leans on. -/
structure OpIn (n i : Nat) (f : Nat → OpR) (g : G) (regs t : Nat) : Prop where
  h0 : 0 < regs
  hr : regs ≤ 16
  hv : ∀ r, r < 16 → g.hv r < n
  hi : i < n
  hn : n ≤ 2048
  hl : g.l.length ≤ 99900
  ok : ∀ v, v < n → OpOk (f v) ∧ (f v).k < 4294967296
  ht : (g.P i).takes = t
  t3 : t ≤ 3
  tk : ∀ j, j < t → argI (f i) j = ((tkv (f i) j : Nat) : Int) ∧ tkv (f i) j < n
theorem aft_cell (p : PL) (j : Nat) (h : j < 3) : plC p (1 + j) = .int .i64 (aft p j) := by
  match j, h with
  | 0, _ | 1, _ | 2, _ => rfl
set_option maxHeartbeats 2000000 in
theorem op_lazy (base M Q n : Nat) (bp : Option Addr) (cap pcap regs : Nat) (f : Nat → OpR) (g : G) (sv : Value) (i : Nat) (w : World) (hG : GW w base M Q n bp cap pcap regs f g sv) (hi : i < n) (hn : n ≤ 2048) (hz : (g.P i).lazy = true) :
    Calls Try.prog 65 #[.pointer (some ⟨M, 0, none⟩), .int .i64 i] w fun e w' => e = .returned (.tuple #[]) ∧ (∃ sv', GW w' base M Q n bp cap pcap regs f g sv') ∧ Kx base M Q w w' := by
  obtain ⟨b, off, rfl, hb, hc⟩ := hG.ops (by omega)
  have m0 : w.cell? ⟨M, 0, none⟩ = some (.slice (some ⟨b, off, none⟩) n cap) := hG.mb.cell (i := 0) (by omega)
  have m1 : w.cell? ⟨M, 1, none⟩ = some (.slice (some ⟨Q, 0, none⟩) n pcap) := hG.mb.cell (i := 1) (by omega)
  have m4 := hG.pl.cell (i := i * 8 + 7) (by omega)
  rw [pl_at _ _ _ (by omega)] at m4
  have m5 : w.cell? ⟨Q, i * 8 + 7, none⟩ = some (.bool true) := m4.trans (by show some (Value.bool (g.P i).lazy) = _; rw [hz])
  have lM := hG.mb.lt
  have lQ := hG.pl.lt
  have i0 : (0 : Int) ≤ (i : Int) := by omega
  have i1 : (i : Int) < (n : Int) := by omega
  have HG : Hid _ := hG
  clear hc m4 hG hz hi hn
  go_enter Try.func65, Try.ntmps65
  go_upto_region 0 with fail
  go_quiet (fail)
  go_wp2
  exact bodyPost_ret (v := .tuple #[]) (by simp [results, Try.results65, go_sem]) rfl ⟨rfl, ⟨sv, HG.out.below (drewN_below _ _)⟩, Kx.of_below (drewN_below _ _) HG.out.bw⟩

set_option maxHeartbeats 8000000 in
theorem op_og (base M Q n : Nat) (bp : Option Addr) (cap pcap regs : Nat) (f : Nat → OpR) (g : G) (sv : Value) (i t : Nat) (w : World) (hG : GW w base M Q n bp cap pcap regs f g sv) (hI : OpIn n i f g regs t) (hz : (g.P i).lazy = false) (hk : (f i).kind ≠ 10) (hgv : ((relF (tkG f regs i g t)).P i).gives = true) :
    Calls Try.prog 65 #[.pointer (some ⟨M, 0, none⟩), .int .i64 i] w fun e w' => e = .returned (.tuple #[]) ∧ (∃ sv', GW w' base M Q n bp cap pcap regs f (endG regs i (relF (tkG f regs i g t)) (opX (f i) (tkρ f regs i g t))) sv') ∧ Kx base M Q w w' := by
  obtain ⟨b, off, rfl, hb, hc⟩ := hG.ops (by have := hI.hi; omega)
  have hi := hI.hi
  have hn := hI.hn
  have HI : Hid _ := hI
  have m0 : w.cell? ⟨M, 0, none⟩ = some (.slice (some ⟨b, off, none⟩) n cap) := hG.mb.cell (i := 0) (by omega)
  have m1 : w.cell? ⟨M, 1, none⟩ = some (.slice (some ⟨Q, 0, none⟩) n pcap) := hG.mb.cell (i := 1) (by omega)
  have m4 := hG.pl.cell (i := i * 8 + 7) (by omega)
  rw [pl_at _ _ _ (by omega)] at m4
  have m5 : w.cell? ⟨Q, i * 8 + 7, none⟩ = some (.bool false) := m4.trans (by show some (Value.bool (g.P i).lazy) = _; rw [hz])
  have HOA : Hid (OpAt w b (off + i * 7) (f i)) := hc i hi
  have HLB : Hid (b < w.heap.size) := hb
  have HOK : Hid (OpOk (f i)) := (hI.ok i hi).1
  have HKK : Hid ((f i).k < 4294967296) := (hI.ok i hi).2
  have HGV : Hid _ := hgv
  have lM := hG.mb.lt
  have lQ := hG.pl.lt
  have i0 : (0 : Int) ≤ (i : Int) := by omega
  have i1 : (i : Int) < (n : Int) := by omega
  have HG : Hid _ := hG
  have HBO : Hid (b < base) := hG.ob b off rfl
  have k10 : ((f i).kind == 10) = false := by simpa using hk
  have HK10 : Hid ((f i).kind ≠ 10) := hk
  clear hc m4 hG hz hi hn hI hgv hb hk
  go_enter Try.func65, Try.ntmps65
  go_upto_region 0 with fail
  go_quiet (fail)
  go_upto_region 1 with fail
  refine wp_gen (fun W' => Below w.heap.size w W') (drewN_below _ _) ?_
  intro w0 hd0
  have n5 : w0.cell? ⟨Q, i * 8 + 7, none⟩ = some (.bool false) := (hd0.cell (p := ⟨Q, i * 8 + 7, none⟩) lQ).trans m5
  have HD0 : Hid _ := hd0
  have HG0 : Hid _ := HG.out.below hd0
  have lM0 := HG0.out.mb.lt
  have lQ0 := HG0.out.pl.lt
  have HOA0 : Hid (OpAt w0 b (off + i * 7) (f i)) := HOA.out.below hd0 HLB.out
  have HLB0 : Hid (b < w0.heap.size) := Nat.lt_of_lt_of_le HLB.out hd0.size
  clear m0 m1 m5 hd0 lM lQ
  go_upto_region 5 with (first
    | (go_at_call 103; refine (codeOf_any b (off + i * 7) (f i) _ HOA0.out HLB0.out HOK.out).mono ?_; rintro e w1 ⟨rfl, hb1⟩; have HB1 : Hid _ := hb1; clear hb1)
    | (go_at_call 102; refine (tkn_any b (off + i * 7) (f i) _ (HOA0.out.below (((HB1.out.alloc HB1.out.size _).alloc (by have := HB1.out.size; simp; omega) _)) HLB0.out) (by have := HB1.out.size; have := HLB0.out; simp; omega)).mono ?_; rintro e w2 ⟨rfl, hb2⟩; have HB2 : Hid _ := hb2; clear hb2))
  refine wp_gen (fun W' => OW w0 W' base M Q n (some ⟨b, off, none⟩) cap pcap regs f g sv w1.heap.size (w1.heap.size + 1) w2.heap.size (cdF (f i)) (fun _ => 0) (f i)) (ow_start (cdF (f i)) (f i) HG0.out HB1.out HB2.out) ?_
  clear lM0 lQ0 n5 HB1 HB2 HOA0 HLB0 HG0
  obtain ⟨BX, hBX⟩ : ∃ BX, w1.heap.size = BX := ⟨_, rfl⟩
  obtain ⟨BL, hBL⟩ : ∃ BL, w2.heap.size = BL := ⟨_, rfl⟩
  rw [hBX, hBL]
  clear hBX hBL
  obtain ⟨BR, hBR⟩ : ∃ BR, BX + 1 = BR := ⟨_, rfl⟩
  rw [hBR]
  clear hBR
  intro W hW
  have q0 := hW.gw.pl.cell (i := i * 8 + 0) (by have := HI.out.hi; omega)
  rw [pl_at _ _ _ (by omega)] at q0
  have q0' : W.cell? ⟨Q, i * 8, none⟩ = some (.int .i64 t) := q0.trans (by show some (Value.int .i64 ((g.P i).takes : Nat)) = _; rw [HI.out.ht])
  have t0 : (0 : Int) ≤ (t : Int) := by omega
  have t3 : (t : Int) ≤ 3 := by have := HI.out.t3; omega
  have lQW := hW.gw.pl.lt
  have lLW := hW.ls.lt
  have HW : Hid _ := hW
  clear hW q0
  go_wp2
  go_loopw [37] (fun jv wr => ∃ j : Nat, jv = .int .i64 j ∧ j ≤ t ∧ ∃ sv', OW w0 wr base M Q n (some ⟨b, off, none⟩) cap pcap regs f (tkG f regs i g j) sv' BX BR BL (cdF (f i)) (tkρ f regs i g j) (f i)) (fun jv _ => t - (intOf jv).toNat)
  case atStart => exact ⟨0, rfl, by omega, sv, HW.out⟩
  case round =>
    obtain ⟨j, rfl, hj, sv1, hr⟩ := hrel
    have HR : Hid _ := hr
    clear HW q0' lQW lLW
    by_cases hlt : j < t
    · have HLT : Hid (j < t) := hlt
      have jt : (j : Int) < (t : Int) := by omega
      have j0 : (0 : Int) ≤ (j : Int) := by omega
      have j3 : (j : Int) < 3 := by omega
      have HJ3 : Hid (j < 3) := show j < 3 by have := HI.out.t3; omega
      have dj : decide ((j : Int) < (t : Int)) = true := decide_eq_true jt
      obtain ⟨v, HVV⟩ : ∃ v, Hid (tkv (f i) j = v) := ⟨_, rfl⟩
      have hav := (HI.out.tk j hlt).1
      have hvn := (HI.out.tk j hlt).2
      rw [HVV.out] at hav hvn
      have c0 := hr.ls.cell (i := j) HJ3.out
      rw [hav] at c0
      have lL := hr.ls.lt
      obtain ⟨gj, HGJ⟩ : ∃ gj, Hid (tkG f regs i g j = gj) := ⟨_, rfl⟩
      obtain ⟨ρj, HRJ⟩ : ∃ ρj, Hid (tkρ f regs i g j = ρj) := ⟨_, rfl⟩
      have hinv := tkG_inv f regs i n g HI.out.hv j (fun q hq => (HI.out.tk q (by omega)).2)
      rw [HGJ.out] at hinv
      have hr' := hr
      rw [HGJ.out, HRJ.out] at hr'
      have HR' : Hid _ := hr'
      have HIV : Hid _ := hinv.1
      have HLL : Hid (gj.l.length ≤ 99990) := show _ ≤ _ by have := hinv.2; have := HI.out.hl; have := HJ3.out; omega
      have HVN : Hid (v < n) := hvn
      have v0 : (0 : Int) ≤ (v : Int) := by omega
      have v1 : (v : Int) < (n : Int) := by omega
      obtain ⟨r, HRN⟩ : ∃ r, Hid (bringN gj regs v = r) := ⟨_, rfl⟩
      obtain ⟨g3, HG3N⟩ : ∃ g3, Hid (bringG f gj regs v = g3) := ⟨_, rfl⟩
      obtain ⟨y, HY⟩ : ∃ y, Hid (aft (g3.P i) j = y) := ⟨_, rfl⟩
      have HN1 : Hid (tkG f regs i g (j + 1) = setNext g3 v y) := show tkG f regs i g (j + 1) = _ by
        show setNext (bringG f (tkG f regs i g j) regs (tkv (f i) j)) (tkv (f i) j) (aft ((bringG f (tkG f regs i g j) regs (tkv (f i) j)).P i) j) = _
        rw [HGJ.out, HVV.out, HG3N.out, HY.out]
      have HN2 : Hid (tkρ f regs i g (j + 1) = upd ρj j r) := show tkρ f regs i g (j + 1) = _ by
        show upd (tkρ f regs i g j) j (bringN (tkG f regs i g j) regs (tkv (f i) j)) = _
        rw [HRJ.out, HGJ.out, HVV.out, HRN.out]
      clear hr hr' hlt hav hvn hinv HR
      go_upto_region 9 with (go_at_call 104; refine (bring_any base M Q n (some ⟨b, off, none⟩) cap pcap regs f gj sv1 v _ HR'.out.gw HI.out.h0 HI.out.hr HIV.out HVN.out HI.out.hn HLL.out (HI.out.ok v HVN.out).1 (HI.out.ok v HVN.out).2).mono ?_; rintro e w3 ⟨rfl, ⟨sv3, hG3⟩, hK3⟩; rw [HRN.out]; rw [HG3N.out] at hG3; have hO3 := HR'.out.call hG3 hK3; have HO3 : Hid _ := hO3; have s0 := hO3.rg.cell (i := j) HJ3.out; have s1 := hO3.rg.frozen j; have s2 := hO3.rg.lt; clear hG3 hK3 hO3)
      refine wp_gen (fun W' => OW w0 W' base M Q n (some ⟨b, off, none⟩) cap pcap regs f g3 sv3 BX BR BL (cdF (f i)) (upd ρj j r) (f i)) (HO3.out.setR j r) ?_
      clear s0 s1 s2 HO3 c0 lL
      intro U hU
      have u1 : U.cell? ⟨M, 1, none⟩ = some (.slice (some ⟨Q, 0, none⟩) n pcap) := hU.gw.mb.cell (i := 1) (by omega)
      have u2 := hU.gw.pl.cell (i := i * 8 + (1 + j)) (by have := HI.out.hi; have := HJ3.out; omega)
      rw [pl_at _ _ _ (by have := HJ3.out; omega), aft_cell _ _ HJ3.out, HY.out] at u2
      have u2' : U.cell? ⟨Q, i * 8 + 1 + j, none⟩ = some (.int .i64 y) := by rw [Nat.add_assoc]; exact u2
      have u3 := hU.gw.pl.cell (i := v * 8 + 5) (by have := HVN.out; omega)
      have u4 := hU.gw.pl.frozen (v * 8 + 5)
      have u5 := hU.gw.pl.lt
      have u6 := hU.gw.mb.lt
      have HU : Hid _ := hU
      clear hU u2
      go_region
      all_goals go_wp2
      all_goals go_roundw
      case rel => exact ⟨j + 1, by go_num, HLT.out, sv3, by rw [HN1.out, HN2.out]; exact (HU.out.setN v y).below ((Below.refl _ _).drew)⟩
      case measure => have := HLT.out; simp [intOf]; omega
    · obtain rfl : j = t := by omega
      have dj : decide ((j : Int) < (j : Int)) = false := decide_eq_false (by omega)
      obtain ⟨gj, HGJ⟩ : ∃ gj, Hid (tkG f regs i g j = gj) := ⟨_, rfl⟩
      obtain ⟨ρ, HRJ⟩ : ∃ ρ, Hid (tkρ f regs i g j = ρ) := ⟨_, rfl⟩
      have hinv := tkG_inv f regs i n g HI.out.hv j (fun q hq => (HI.out.tk q hq).2)
      have hgv := HGV.out
      rw [HGJ.out] at hinv hr hgv
      rw [HRJ.out] at hr
      obtain ⟨g4, HG4N⟩ : ∃ g4, Hid (relF gj = g4) := ⟨_, rfl⟩
      have hin4 := relF_inv gj n hinv.1
      have hl4 : (relF gj).l.length ≤ 99990 := by show gj.l.length ≤ _; have := hinv.2; have := HI.out.hl; have := HI.out.t3; omega
      rw [HG4N.out] at hin4 hl4 hgv
      have HI4 : Hid _ := hin4
      have HL4 : Hid _ := hl4
      have HIV : Hid _ := hinv.1
      have HGV4 : Hid _ := hgv
      have HR' : Hid _ := hr
      have HXK : Hid ((cdF (f i)).k < 4294967296) := HKK.out
      have HXX : Hid ((cdF (f i)).x < 4294967296) := show (if (f i).kind = 14 then ((f i).b % 4294967296).toNat else 0) < 4294967296 by split <;> omega
      have HOX : Hid (opX (f i) ρ = { cdF (f i) with a := (ρ 0 : Int), b := (ρ 1 : Int), c := (ρ 2 : Int) }) := show opX (f i) ρ = _ by unfold opX; rw [if_neg HK10.out]
      clear hr hj hinv hin4 hl4 HR hlt hgv
      go_upto_region 12 with (go_at_call 105; refine (release_any base M Q n (some ⟨b, off, none⟩) cap pcap regs f gj sv1 _ HR'.out.gw HIV.out).mono ?_; rintro e w4 ⟨rfl, hG4, hK4⟩; rw [HG4N.out] at hG4; have hO4 := HR'.out.call hG4 hK4; have HO4 : Hid _ := hO4; clear hG4 hK4 hO4)
      refine wp_gen (fun W' => OW w0 W' base M Q n (some ⟨b, off, none⟩) cap pcap regs f g4 sv1 BX BR BL (cdF (f i)) ρ (f i)) HO4.out ?_
      clear HO4
      intro V hV
      have r0 := hV.rg.cell (i := 0) (by omega)
      have r1 := hV.rg.cell (i := 1) (by omega)
      have r2 := hV.rg.cell (i := 2) (by omega)
      have x2 := row_cell hV.x 2
      have x3 := row_cell hV.x 3
      have x4 := row_cell hV.x 4
      have fx := row_fr hV.x
      have lx := row_lt hV.x
      have lr := hV.rg.lt
      have nxr := hV.xr
      have HV : Hid _ := hV
      clear hV
      go_region
      go_upto_region 13 with fail
      refine wp_gen (fun W' => OW w0 W' base M Q n (some ⟨b, off, none⟩) cap pcap regs f g4 sv1 BX BR BL { cdF (f i) with a := (ρ 0 : Int), b := (ρ 1 : Int), c := (ρ 2 : Int) } ρ (f i)) ((((HV.out.setX { cdF (f i) with a := (ρ 0 : Int) } 2 _ rfl).setX { cdF (f i) with a := (ρ 0 : Int), b := (ρ 1 : Int) } 3 _ rfl).setX { cdF (f i) with a := (ρ 0 : Int), b := (ρ 1 : Int), c := (ρ 2 : Int) } 4 _ rfl).below ((Below.refl _ _).drew)) ?_
      clear r0 r1 r2 x2 x3 x4 fx lx lr nxr HV
      intro U hU
      have k0 : U.cell? ⟨b, off + i * 7, none⟩ = some (.int .i64 (f i).kind) := ((hU.gw.ops (by have := HI.out.hi; omega)) |> fun ⟨b', off', e, hb', hc'⟩ => by cases e; exact (hc' i HI.out.hi).c0)
      have lb : b < U.heap.size := by have := HBO.out; have := hU.gw.bw; omega
      have x1 := row_cell hU.x 1
      have x3 := row_cell hU.x 3
      have fx := row_fr hU.x
      have lx := row_lt hU.x
      have q4 := hU.gw.pl.cell (i := i * 8 + 4) (by have := HI.out.hi; omega)
      rw [pl_at _ _ _ (by omega)] at q4
      have q4' : U.cell? ⟨Q, i * 8 + 4, none⟩ = some (.bool true) := q4.trans (by show some (Value.bool (g4.P i).gives) = _; rw [HGV4.out])
      have lQ := hU.gw.pl.lt
      have nxQ := hU.neX.2.1
      have HU : Hid _ := hU
      clear hU q4
      go_upto_region 15 with fail
      refine wp_gen (fun W' => OW w0 W' base M Q n (some ⟨b, off, none⟩) cap pcap regs f g4 sv1 BX BR BL { cdF (f i) with a := (ρ 0 : Int), b := (ρ 1 : Int), c := (ρ 2 : Int) } ρ (f i)) HU.out ?_
      clear k0 lb x1 x3 fx lx q4' lQ nxQ HU
      intro T hT
      have q4 := hT.gw.pl.cell (i := i * 8 + 4) (by have := HI.out.hi; omega)
      rw [pl_at _ _ _ (by omega)] at q4
      have q4' : T.cell? ⟨Q, i * 8 + 4, none⟩ = some (.bool true) := q4.trans (by show some (Value.bool (g4.P i).gives) = _; rw [HGV4.out])
      have lQ := hT.gw.pl.lt
      have x0 := row_cell hT.x 0
      have x1 := row_cell hT.x 1
      have x2 := row_cell hT.x 2
      have x3 := row_cell hT.x 3
      have x4 := row_cell hT.x 4
      have x5 := row_cell hT.x 5
      have x6 := row_cell hT.x 6
      have x7 := row_cell hT.x 7
      have lx := row_lt hT.x
      have HT : Hid _ := hT
      clear hT q4
      obtain ⟨r, HRN⟩ : ∃ r, Hid (roomN g4 regs = r) := ⟨_, rfl⟩
      obtain ⟨g5, HG5N⟩ : ∃ g5, Hid (giveG g4 regs i = g5) := ⟨_, rfl⟩
      have HL5 : Hid (g5.l.length ≤ 100000) := show _ ≤ _ by
        rw [← HG5N.out]
        show (roomG g4 regs).l.length ≤ _
        have := (roomG_keep g4 regs).2.2.2.2
        have := HL4.out
        omega
      go_upto_region 17 with (go_at_call 106; refine (give_any base M Q n (some ⟨b, off, none⟩) cap pcap regs f g4 sv1 i _ HT.out.gw HI.out.h0 HI.out.hr HI4.out HI.out.hi HI.out.hn (Nat.le_trans HL4.out (by decide))).mono ?_; rintro e w5 ⟨rfl, ⟨sv5, hG5⟩, hK5⟩; rw [HRN.out]; rw [HG5N.out] at hG5; have hO5 := HT.out.call hG5 hK5; have HO5 : Hid _ := hO5; have s1 := row_cell hO5.x 1; have sf := row_fr hO5.x; have sl := row_lt hO5.x; clear hG5 hK5 hO5)
      refine wp_gen (fun W' => OW w0 W' base M Q n (some ⟨b, off, none⟩) cap pcap regs f g5 sv5 BX BR BL { cdF (f i) with a := (ρ 0 : Int), b := (ρ 1 : Int), c := (ρ 2 : Int), d := (r : Int) } ρ (f i)) (HO5.out.setX { cdF (f i) with a := (ρ 0 : Int), b := (ρ 1 : Int), c := (ρ 2 : Int), d := (r : Int) } 1 _ rfl) ?_
      clear q4' lQ HO5 s1 sf sl x0 x1 x2 x3 x4 x5 x6 x7 lx
      intro S hS
      have x0 := row_cell hS.x 0
      have x1 := row_cell hS.x 1
      have x2 := row_cell hS.x 2
      have x3 := row_cell hS.x 3
      have x4 := row_cell hS.x 4
      have x5 := row_cell hS.x 5
      have x6 := row_cell hS.x 6
      have x7 := row_cell hS.x 7
      have lx := row_lt hS.x
      have HS : Hid _ := hS
      clear hS
      go_wp2_with (go_at_call 64; refine (glay base M Q n (some ⟨b, off, none⟩) cap pcap regs f g5 sv5 { cdF (f i) with a := (ρ 0 : Int), b := (ρ 1 : Int), c := (ρ 2 : Int), d := (r : Int) } _ HS.out.gw HXK.out HXX.out HL5.out).mono ?_; rintro e w6 ⟨rfl, hG6, hK6⟩; have HG6 : Hid _ := hG6; have HK6 : Hid _ := hK6; clear hG6 hK6)
      go_end0
      refine ⟨rfl, ?_, (Kx.of_below HD0.out HG.out.bw).trans (HS.out.kx.trans HK6.out)⟩
      rw [HGJ.out, HRJ.out, HG4N.out, HOX.out]
      unfold endG
      rw [if_pos HGV4.out, HG5N.out, HRN.out]
      exact HG6.out

set_option maxHeartbeats 8000000 in
theorem op_on (base M Q n : Nat) (bp : Option Addr) (cap pcap regs : Nat) (f : Nat → OpR) (g : G) (sv : Value) (i t : Nat) (w : World) (hG : GW w base M Q n bp cap pcap regs f g sv) (hI : OpIn n i f g regs t) (hz : (g.P i).lazy = false) (hk : (f i).kind ≠ 10) (hgv : ((relF (tkG f regs i g t)).P i).gives = false) :
    Calls Try.prog 65 #[.pointer (some ⟨M, 0, none⟩), .int .i64 i] w fun e w' => e = .returned (.tuple #[]) ∧ (∃ sv', GW w' base M Q n bp cap pcap regs f (endG regs i (relF (tkG f regs i g t)) (opX (f i) (tkρ f regs i g t))) sv') ∧ Kx base M Q w w' := by
  obtain ⟨b, off, rfl, hb, hc⟩ := hG.ops (by have := hI.hi; omega)
  have hi := hI.hi
  have hn := hI.hn
  have HI : Hid _ := hI
  have m0 : w.cell? ⟨M, 0, none⟩ = some (.slice (some ⟨b, off, none⟩) n cap) := hG.mb.cell (i := 0) (by omega)
  have m1 : w.cell? ⟨M, 1, none⟩ = some (.slice (some ⟨Q, 0, none⟩) n pcap) := hG.mb.cell (i := 1) (by omega)
  have m4 := hG.pl.cell (i := i * 8 + 7) (by omega)
  rw [pl_at _ _ _ (by omega)] at m4
  have m5 : w.cell? ⟨Q, i * 8 + 7, none⟩ = some (.bool false) := m4.trans (by show some (Value.bool (g.P i).lazy) = _; rw [hz])
  have HOA : Hid (OpAt w b (off + i * 7) (f i)) := hc i hi
  have HLB : Hid (b < w.heap.size) := hb
  have HOK : Hid (OpOk (f i)) := (hI.ok i hi).1
  have HKK : Hid ((f i).k < 4294967296) := (hI.ok i hi).2
  have HGV : Hid _ := hgv
  have lM := hG.mb.lt
  have lQ := hG.pl.lt
  have i0 : (0 : Int) ≤ (i : Int) := by omega
  have i1 : (i : Int) < (n : Int) := by omega
  have HG : Hid _ := hG
  have HBO : Hid (b < base) := hG.ob b off rfl
  have k10 : ((f i).kind == 10) = false := by simpa using hk
  have HK10 : Hid ((f i).kind ≠ 10) := hk
  clear hc m4 hG hz hi hn hI hgv hb hk
  go_enter Try.func65, Try.ntmps65
  go_upto_region 0 with fail
  go_quiet (fail)
  go_upto_region 1 with fail
  refine wp_gen (fun W' => Below w.heap.size w W') (drewN_below _ _) ?_
  intro w0 hd0
  have n5 : w0.cell? ⟨Q, i * 8 + 7, none⟩ = some (.bool false) := (hd0.cell (p := ⟨Q, i * 8 + 7, none⟩) lQ).trans m5
  have HD0 : Hid _ := hd0
  have HG0 : Hid _ := HG.out.below hd0
  have lM0 := HG0.out.mb.lt
  have lQ0 := HG0.out.pl.lt
  have HOA0 : Hid (OpAt w0 b (off + i * 7) (f i)) := HOA.out.below hd0 HLB.out
  have HLB0 : Hid (b < w0.heap.size) := Nat.lt_of_lt_of_le HLB.out hd0.size
  clear m0 m1 m5 hd0 lM lQ
  go_upto_region 5 with (first
    | (go_at_call 103; refine (codeOf_any b (off + i * 7) (f i) _ HOA0.out HLB0.out HOK.out).mono ?_; rintro e w1 ⟨rfl, hb1⟩; have HB1 : Hid _ := hb1; clear hb1)
    | (go_at_call 102; refine (tkn_any b (off + i * 7) (f i) _ (HOA0.out.below (((HB1.out.alloc HB1.out.size _).alloc (by have := HB1.out.size; simp; omega) _)) HLB0.out) (by have := HB1.out.size; have := HLB0.out; simp; omega)).mono ?_; rintro e w2 ⟨rfl, hb2⟩; have HB2 : Hid _ := hb2; clear hb2))
  refine wp_gen (fun W' => OW w0 W' base M Q n (some ⟨b, off, none⟩) cap pcap regs f g sv w1.heap.size (w1.heap.size + 1) w2.heap.size (cdF (f i)) (fun _ => 0) (f i)) (ow_start (cdF (f i)) (f i) HG0.out HB1.out HB2.out) ?_
  clear lM0 lQ0 n5 HB1 HB2 HOA0 HLB0 HG0
  obtain ⟨BX, hBX⟩ : ∃ BX, w1.heap.size = BX := ⟨_, rfl⟩
  obtain ⟨BL, hBL⟩ : ∃ BL, w2.heap.size = BL := ⟨_, rfl⟩
  rw [hBX, hBL]
  clear hBX hBL
  obtain ⟨BR, hBR⟩ : ∃ BR, BX + 1 = BR := ⟨_, rfl⟩
  rw [hBR]
  clear hBR
  intro W hW
  have q0 := hW.gw.pl.cell (i := i * 8 + 0) (by have := HI.out.hi; omega)
  rw [pl_at _ _ _ (by omega)] at q0
  have q0' : W.cell? ⟨Q, i * 8, none⟩ = some (.int .i64 t) := q0.trans (by show some (Value.int .i64 ((g.P i).takes : Nat)) = _; rw [HI.out.ht])
  have t0 : (0 : Int) ≤ (t : Int) := by omega
  have t3 : (t : Int) ≤ 3 := by have := HI.out.t3; omega
  have lQW := hW.gw.pl.lt
  have lLW := hW.ls.lt
  have HW : Hid _ := hW
  clear hW q0
  go_wp2
  go_loopw [37] (fun jv wr => ∃ j : Nat, jv = .int .i64 j ∧ j ≤ t ∧ ∃ sv', OW w0 wr base M Q n (some ⟨b, off, none⟩) cap pcap regs f (tkG f regs i g j) sv' BX BR BL (cdF (f i)) (tkρ f regs i g j) (f i)) (fun jv _ => t - (intOf jv).toNat)
  case atStart => exact ⟨0, rfl, by omega, sv, HW.out⟩
  case round =>
    obtain ⟨j, rfl, hj, sv1, hr⟩ := hrel
    have HR : Hid _ := hr
    clear HW q0' lQW lLW
    by_cases hlt : j < t
    · have HLT : Hid (j < t) := hlt
      have jt : (j : Int) < (t : Int) := by omega
      have j0 : (0 : Int) ≤ (j : Int) := by omega
      have j3 : (j : Int) < 3 := by omega
      have HJ3 : Hid (j < 3) := show j < 3 by have := HI.out.t3; omega
      have dj : decide ((j : Int) < (t : Int)) = true := decide_eq_true jt
      obtain ⟨v, HVV⟩ : ∃ v, Hid (tkv (f i) j = v) := ⟨_, rfl⟩
      have hav := (HI.out.tk j hlt).1
      have hvn := (HI.out.tk j hlt).2
      rw [HVV.out] at hav hvn
      have c0 := hr.ls.cell (i := j) HJ3.out
      rw [hav] at c0
      have lL := hr.ls.lt
      obtain ⟨gj, HGJ⟩ : ∃ gj, Hid (tkG f regs i g j = gj) := ⟨_, rfl⟩
      obtain ⟨ρj, HRJ⟩ : ∃ ρj, Hid (tkρ f regs i g j = ρj) := ⟨_, rfl⟩
      have hinv := tkG_inv f regs i n g HI.out.hv j (fun q hq => (HI.out.tk q (by omega)).2)
      rw [HGJ.out] at hinv
      have hr' := hr
      rw [HGJ.out, HRJ.out] at hr'
      have HR' : Hid _ := hr'
      have HIV : Hid _ := hinv.1
      have HLL : Hid (gj.l.length ≤ 99990) := show _ ≤ _ by have := hinv.2; have := HI.out.hl; have := HJ3.out; omega
      have HVN : Hid (v < n) := hvn
      have v0 : (0 : Int) ≤ (v : Int) := by omega
      have v1 : (v : Int) < (n : Int) := by omega
      obtain ⟨r, HRN⟩ : ∃ r, Hid (bringN gj regs v = r) := ⟨_, rfl⟩
      obtain ⟨g3, HG3N⟩ : ∃ g3, Hid (bringG f gj regs v = g3) := ⟨_, rfl⟩
      obtain ⟨y, HY⟩ : ∃ y, Hid (aft (g3.P i) j = y) := ⟨_, rfl⟩
      have HN1 : Hid (tkG f regs i g (j + 1) = setNext g3 v y) := show tkG f regs i g (j + 1) = _ by
        show setNext (bringG f (tkG f regs i g j) regs (tkv (f i) j)) (tkv (f i) j) (aft ((bringG f (tkG f regs i g j) regs (tkv (f i) j)).P i) j) = _
        rw [HGJ.out, HVV.out, HG3N.out, HY.out]
      have HN2 : Hid (tkρ f regs i g (j + 1) = upd ρj j r) := show tkρ f regs i g (j + 1) = _ by
        show upd (tkρ f regs i g j) j (bringN (tkG f regs i g j) regs (tkv (f i) j)) = _
        rw [HRJ.out, HGJ.out, HVV.out, HRN.out]
      clear hr hr' hlt hav hvn hinv HR
      go_upto_region 9 with (go_at_call 104; refine (bring_any base M Q n (some ⟨b, off, none⟩) cap pcap regs f gj sv1 v _ HR'.out.gw HI.out.h0 HI.out.hr HIV.out HVN.out HI.out.hn HLL.out (HI.out.ok v HVN.out).1 (HI.out.ok v HVN.out).2).mono ?_; rintro e w3 ⟨rfl, ⟨sv3, hG3⟩, hK3⟩; rw [HRN.out]; rw [HG3N.out] at hG3; have hO3 := HR'.out.call hG3 hK3; have HO3 : Hid _ := hO3; have s0 := hO3.rg.cell (i := j) HJ3.out; have s1 := hO3.rg.frozen j; have s2 := hO3.rg.lt; clear hG3 hK3 hO3)
      refine wp_gen (fun W' => OW w0 W' base M Q n (some ⟨b, off, none⟩) cap pcap regs f g3 sv3 BX BR BL (cdF (f i)) (upd ρj j r) (f i)) (HO3.out.setR j r) ?_
      clear s0 s1 s2 HO3 c0 lL
      intro U hU
      have u1 : U.cell? ⟨M, 1, none⟩ = some (.slice (some ⟨Q, 0, none⟩) n pcap) := hU.gw.mb.cell (i := 1) (by omega)
      have u2 := hU.gw.pl.cell (i := i * 8 + (1 + j)) (by have := HI.out.hi; have := HJ3.out; omega)
      rw [pl_at _ _ _ (by have := HJ3.out; omega), aft_cell _ _ HJ3.out, HY.out] at u2
      have u2' : U.cell? ⟨Q, i * 8 + 1 + j, none⟩ = some (.int .i64 y) := by rw [Nat.add_assoc]; exact u2
      have u3 := hU.gw.pl.cell (i := v * 8 + 5) (by have := HVN.out; omega)
      have u4 := hU.gw.pl.frozen (v * 8 + 5)
      have u5 := hU.gw.pl.lt
      have u6 := hU.gw.mb.lt
      have HU : Hid _ := hU
      clear hU u2
      go_region
      all_goals go_wp2
      all_goals go_roundw
      case rel => exact ⟨j + 1, by go_num, HLT.out, sv3, by rw [HN1.out, HN2.out]; exact (HU.out.setN v y).below ((Below.refl _ _).drew)⟩
      case measure => have := HLT.out; simp [intOf]; omega
    · obtain rfl : j = t := by omega
      have dj : decide ((j : Int) < (j : Int)) = false := decide_eq_false (by omega)
      obtain ⟨gj, HGJ⟩ : ∃ gj, Hid (tkG f regs i g j = gj) := ⟨_, rfl⟩
      obtain ⟨ρ, HRJ⟩ : ∃ ρ, Hid (tkρ f regs i g j = ρ) := ⟨_, rfl⟩
      have hinv := tkG_inv f regs i n g HI.out.hv j (fun q hq => (HI.out.tk q hq).2)
      have hgv := HGV.out
      rw [HGJ.out] at hinv hr hgv
      rw [HRJ.out] at hr
      obtain ⟨g4, HG4N⟩ : ∃ g4, Hid (relF gj = g4) := ⟨_, rfl⟩
      have hin4 := relF_inv gj n hinv.1
      have hl4 : (relF gj).l.length ≤ 99990 := by show gj.l.length ≤ _; have := hinv.2; have := HI.out.hl; have := HI.out.t3; omega
      rw [HG4N.out] at hin4 hl4 hgv
      have HI4 : Hid _ := hin4
      have HL4 : Hid _ := hl4
      have HIV : Hid _ := hinv.1
      have HGV4 : Hid _ := hgv
      have HR' : Hid _ := hr
      have HXK : Hid ((cdF (f i)).k < 4294967296) := HKK.out
      have HXX : Hid ((cdF (f i)).x < 4294967296) := show (if (f i).kind = 14 then ((f i).b % 4294967296).toNat else 0) < 4294967296 by split <;> omega
      have HOX : Hid (opX (f i) ρ = { cdF (f i) with a := (ρ 0 : Int), b := (ρ 1 : Int), c := (ρ 2 : Int) }) := show opX (f i) ρ = _ by unfold opX; rw [if_neg HK10.out]
      clear hr hj hinv hin4 hl4 HR hlt hgv
      go_upto_region 12 with (go_at_call 105; refine (release_any base M Q n (some ⟨b, off, none⟩) cap pcap regs f gj sv1 _ HR'.out.gw HIV.out).mono ?_; rintro e w4 ⟨rfl, hG4, hK4⟩; rw [HG4N.out] at hG4; have hO4 := HR'.out.call hG4 hK4; have HO4 : Hid _ := hO4; clear hG4 hK4 hO4)
      refine wp_gen (fun W' => OW w0 W' base M Q n (some ⟨b, off, none⟩) cap pcap regs f g4 sv1 BX BR BL (cdF (f i)) ρ (f i)) HO4.out ?_
      clear HO4
      intro V hV
      have r0 := hV.rg.cell (i := 0) (by omega)
      have r1 := hV.rg.cell (i := 1) (by omega)
      have r2 := hV.rg.cell (i := 2) (by omega)
      have x2 := row_cell hV.x 2
      have x3 := row_cell hV.x 3
      have x4 := row_cell hV.x 4
      have fx := row_fr hV.x
      have lx := row_lt hV.x
      have lr := hV.rg.lt
      have nxr := hV.xr
      have HV : Hid _ := hV
      clear hV
      go_region
      go_upto_region 13 with fail
      refine wp_gen (fun W' => OW w0 W' base M Q n (some ⟨b, off, none⟩) cap pcap regs f g4 sv1 BX BR BL { cdF (f i) with a := (ρ 0 : Int), b := (ρ 1 : Int), c := (ρ 2 : Int) } ρ (f i)) ((((HV.out.setX { cdF (f i) with a := (ρ 0 : Int) } 2 _ rfl).setX { cdF (f i) with a := (ρ 0 : Int), b := (ρ 1 : Int) } 3 _ rfl).setX { cdF (f i) with a := (ρ 0 : Int), b := (ρ 1 : Int), c := (ρ 2 : Int) } 4 _ rfl).below ((Below.refl _ _).drew)) ?_
      clear r0 r1 r2 x2 x3 x4 fx lx lr nxr HV
      intro U hU
      have k0 : U.cell? ⟨b, off + i * 7, none⟩ = some (.int .i64 (f i).kind) := ((hU.gw.ops (by have := HI.out.hi; omega)) |> fun ⟨b', off', e, hb', hc'⟩ => by cases e; exact (hc' i HI.out.hi).c0)
      have lb : b < U.heap.size := by have := HBO.out; have := hU.gw.bw; omega
      have x1 := row_cell hU.x 1
      have x3 := row_cell hU.x 3
      have fx := row_fr hU.x
      have lx := row_lt hU.x
      have q4 := hU.gw.pl.cell (i := i * 8 + 4) (by have := HI.out.hi; omega)
      rw [pl_at _ _ _ (by omega)] at q4
      have q4' : U.cell? ⟨Q, i * 8 + 4, none⟩ = some (.bool false) := q4.trans (by show some (Value.bool (g4.P i).gives) = _; rw [HGV4.out])
      have lQ := hU.gw.pl.lt
      have nxQ := hU.neX.2.1
      have HU : Hid _ := hU
      clear hU q4
      go_upto_region 15 with fail
      refine wp_gen (fun W' => OW w0 W' base M Q n (some ⟨b, off, none⟩) cap pcap regs f g4 sv1 BX BR BL { cdF (f i) with a := (ρ 0 : Int), b := (ρ 1 : Int), c := (ρ 2 : Int) } ρ (f i)) HU.out ?_
      clear k0 lb x1 x3 fx lx q4' lQ nxQ HU
      intro T hT
      have q4 := hT.gw.pl.cell (i := i * 8 + 4) (by have := HI.out.hi; omega)
      rw [pl_at _ _ _ (by omega)] at q4
      have q4' : T.cell? ⟨Q, i * 8 + 4, none⟩ = some (.bool false) := q4.trans (by show some (Value.bool (g4.P i).gives) = _; rw [HGV4.out])
      have lQ := hT.gw.pl.lt
      have x0 := row_cell hT.x 0
      have x1 := row_cell hT.x 1
      have x2 := row_cell hT.x 2
      have x3 := row_cell hT.x 3
      have x4 := row_cell hT.x 4
      have x5 := row_cell hT.x 5
      have x6 := row_cell hT.x 6
      have x7 := row_cell hT.x 7
      have lx := row_lt hT.x
      have HT : Hid _ := hT
      clear hT q4
      go_wp2_with (go_at_call 64; refine (glay base M Q n (some ⟨b, off, none⟩) cap pcap regs f g4 sv1 { cdF (f i) with a := (ρ 0 : Int), b := (ρ 1 : Int), c := (ρ 2 : Int) } _ HT.out.gw HXK.out HXX.out (Nat.le_trans HL4.out (by decide))).mono ?_; rintro e w5 ⟨rfl, hG5, hK5⟩; have HG5 : Hid _ := hG5; have HK5 : Hid _ := hK5; clear hG5 hK5)
      go_end0
      refine ⟨rfl, ?_, (Kx.of_below HD0.out HG.out.bw).trans (HT.out.kx.trans HK5.out)⟩
      rw [HGJ.out, HRJ.out, HG4N.out, HOX.out]
      unfold endG
      rw [if_neg (by rw [HGV4.out]; decide)]
      exact HG5.out

set_option maxHeartbeats 8000000 in
theorem op_sn (base M Q n : Nat) (bp : Option Addr) (cap pcap regs : Nat) (f : Nat → OpR) (g : G) (sv : Value) (i t : Nat) (w : World) (hG : GW w base M Q n bp cap pcap regs f g sv) (hI : OpIn n i f g regs t) (hz : (g.P i).lazy = false) (hk : (f i).kind = 10) (hgv : ((relF (tkG f regs i g t)).P i).gives = false) :
    Calls Try.prog 65 #[.pointer (some ⟨M, 0, none⟩), .int .i64 i] w fun e w' => e = .returned (.tuple #[]) ∧ (∃ sv', GW w' base M Q n bp cap pcap regs f (endG regs i (relF (tkG f regs i g t)) (opX (f i) (tkρ f regs i g t))) sv') ∧ Kx base M Q w w' := by
  obtain ⟨b, off, rfl, hb, hc⟩ := hG.ops (by have := hI.hi; omega)
  have hi := hI.hi
  have hn := hI.hn
  have HI : Hid _ := hI
  have m0 : w.cell? ⟨M, 0, none⟩ = some (.slice (some ⟨b, off, none⟩) n cap) := hG.mb.cell (i := 0) (by omega)
  have m1 : w.cell? ⟨M, 1, none⟩ = some (.slice (some ⟨Q, 0, none⟩) n pcap) := hG.mb.cell (i := 1) (by omega)
  have m4 := hG.pl.cell (i := i * 8 + 7) (by omega)
  rw [pl_at _ _ _ (by omega)] at m4
  have m5 : w.cell? ⟨Q, i * 8 + 7, none⟩ = some (.bool false) := m4.trans (by show some (Value.bool (g.P i).lazy) = _; rw [hz])
  have HOA : Hid (OpAt w b (off + i * 7) (f i)) := hc i hi
  have HLB : Hid (b < w.heap.size) := hb
  have HOK : Hid (OpOk (f i)) := (hI.ok i hi).1
  have HKK : Hid ((f i).k < 4294967296) := (hI.ok i hi).2
  have HGV : Hid _ := hgv
  have lM := hG.mb.lt
  have lQ := hG.pl.lt
  have i0 : (0 : Int) ≤ (i : Int) := by omega
  have i1 : (i : Int) < (n : Int) := by omega
  have HG : Hid _ := hG
  have HBO : Hid (b < base) := hG.ob b off rfl
  have k10 : ((f i).kind == 10) = true := by simpa using hk
  have HK10 : Hid ((f i).kind = 10) := hk
  clear hc m4 hG hz hi hn hI hgv hb hk
  go_enter Try.func65, Try.ntmps65
  go_upto_region 0 with fail
  go_quiet (fail)
  go_upto_region 1 with fail
  refine wp_gen (fun W' => Below w.heap.size w W') (drewN_below _ _) ?_
  intro w0 hd0
  have n5 : w0.cell? ⟨Q, i * 8 + 7, none⟩ = some (.bool false) := (hd0.cell (p := ⟨Q, i * 8 + 7, none⟩) lQ).trans m5
  have HD0 : Hid _ := hd0
  have HG0 : Hid _ := HG.out.below hd0
  have lM0 := HG0.out.mb.lt
  have lQ0 := HG0.out.pl.lt
  have HOA0 : Hid (OpAt w0 b (off + i * 7) (f i)) := HOA.out.below hd0 HLB.out
  have HLB0 : Hid (b < w0.heap.size) := Nat.lt_of_lt_of_le HLB.out hd0.size
  clear m0 m1 m5 hd0 lM lQ
  go_upto_region 5 with (first
    | (go_at_call 103; refine (codeOf_any b (off + i * 7) (f i) _ HOA0.out HLB0.out HOK.out).mono ?_; rintro e w1 ⟨rfl, hb1⟩; have HB1 : Hid _ := hb1; clear hb1)
    | (go_at_call 102; refine (tkn_any b (off + i * 7) (f i) _ (HOA0.out.below (((HB1.out.alloc HB1.out.size _).alloc (by have := HB1.out.size; simp; omega) _)) HLB0.out) (by have := HB1.out.size; have := HLB0.out; simp; omega)).mono ?_; rintro e w2 ⟨rfl, hb2⟩; have HB2 : Hid _ := hb2; clear hb2))
  refine wp_gen (fun W' => OW w0 W' base M Q n (some ⟨b, off, none⟩) cap pcap regs f g sv w1.heap.size (w1.heap.size + 1) w2.heap.size (cdF (f i)) (fun _ => 0) (f i)) (ow_start (cdF (f i)) (f i) HG0.out HB1.out HB2.out) ?_
  clear lM0 lQ0 n5 HB1 HB2 HOA0 HLB0 HG0
  obtain ⟨BX, hBX⟩ : ∃ BX, w1.heap.size = BX := ⟨_, rfl⟩
  obtain ⟨BL, hBL⟩ : ∃ BL, w2.heap.size = BL := ⟨_, rfl⟩
  rw [hBX, hBL]
  clear hBX hBL
  obtain ⟨BR, hBR⟩ : ∃ BR, BX + 1 = BR := ⟨_, rfl⟩
  rw [hBR]
  clear hBR
  intro W hW
  have q0 := hW.gw.pl.cell (i := i * 8 + 0) (by have := HI.out.hi; omega)
  rw [pl_at _ _ _ (by omega)] at q0
  have q0' : W.cell? ⟨Q, i * 8, none⟩ = some (.int .i64 t) := q0.trans (by show some (Value.int .i64 ((g.P i).takes : Nat)) = _; rw [HI.out.ht])
  have t0 : (0 : Int) ≤ (t : Int) := by omega
  have t3 : (t : Int) ≤ 3 := by have := HI.out.t3; omega
  have lQW := hW.gw.pl.lt
  have lLW := hW.ls.lt
  have HW : Hid _ := hW
  clear hW q0
  go_wp2
  go_loopw [37] (fun jv wr => ∃ j : Nat, jv = .int .i64 j ∧ j ≤ t ∧ ∃ sv', OW w0 wr base M Q n (some ⟨b, off, none⟩) cap pcap regs f (tkG f regs i g j) sv' BX BR BL (cdF (f i)) (tkρ f regs i g j) (f i)) (fun jv _ => t - (intOf jv).toNat)
  case atStart => exact ⟨0, rfl, by omega, sv, HW.out⟩
  case round =>
    obtain ⟨j, rfl, hj, sv1, hr⟩ := hrel
    have HR : Hid _ := hr
    clear HW q0' lQW lLW
    by_cases hlt : j < t
    · have HLT : Hid (j < t) := hlt
      have jt : (j : Int) < (t : Int) := by omega
      have j0 : (0 : Int) ≤ (j : Int) := by omega
      have j3 : (j : Int) < 3 := by omega
      have HJ3 : Hid (j < 3) := show j < 3 by have := HI.out.t3; omega
      have dj : decide ((j : Int) < (t : Int)) = true := decide_eq_true jt
      obtain ⟨v, HVV⟩ : ∃ v, Hid (tkv (f i) j = v) := ⟨_, rfl⟩
      have hav := (HI.out.tk j hlt).1
      have hvn := (HI.out.tk j hlt).2
      rw [HVV.out] at hav hvn
      have c0 := hr.ls.cell (i := j) HJ3.out
      rw [hav] at c0
      have lL := hr.ls.lt
      obtain ⟨gj, HGJ⟩ : ∃ gj, Hid (tkG f regs i g j = gj) := ⟨_, rfl⟩
      obtain ⟨ρj, HRJ⟩ : ∃ ρj, Hid (tkρ f regs i g j = ρj) := ⟨_, rfl⟩
      have hinv := tkG_inv f regs i n g HI.out.hv j (fun q hq => (HI.out.tk q (by omega)).2)
      rw [HGJ.out] at hinv
      have hr' := hr
      rw [HGJ.out, HRJ.out] at hr'
      have HR' : Hid _ := hr'
      have HIV : Hid _ := hinv.1
      have HLL : Hid (gj.l.length ≤ 99990) := show _ ≤ _ by have := hinv.2; have := HI.out.hl; have := HJ3.out; omega
      have HVN : Hid (v < n) := hvn
      have v0 : (0 : Int) ≤ (v : Int) := by omega
      have v1 : (v : Int) < (n : Int) := by omega
      obtain ⟨r, HRN⟩ : ∃ r, Hid (bringN gj regs v = r) := ⟨_, rfl⟩
      obtain ⟨g3, HG3N⟩ : ∃ g3, Hid (bringG f gj regs v = g3) := ⟨_, rfl⟩
      obtain ⟨y, HY⟩ : ∃ y, Hid (aft (g3.P i) j = y) := ⟨_, rfl⟩
      have HN1 : Hid (tkG f regs i g (j + 1) = setNext g3 v y) := show tkG f regs i g (j + 1) = _ by
        show setNext (bringG f (tkG f regs i g j) regs (tkv (f i) j)) (tkv (f i) j) (aft ((bringG f (tkG f regs i g j) regs (tkv (f i) j)).P i) j) = _
        rw [HGJ.out, HVV.out, HG3N.out, HY.out]
      have HN2 : Hid (tkρ f regs i g (j + 1) = upd ρj j r) := show tkρ f regs i g (j + 1) = _ by
        show upd (tkρ f regs i g j) j (bringN (tkG f regs i g j) regs (tkv (f i) j)) = _
        rw [HRJ.out, HGJ.out, HVV.out, HRN.out]
      clear hr hr' hlt hav hvn hinv HR
      go_upto_region 9 with (go_at_call 104; refine (bring_any base M Q n (some ⟨b, off, none⟩) cap pcap regs f gj sv1 v _ HR'.out.gw HI.out.h0 HI.out.hr HIV.out HVN.out HI.out.hn HLL.out (HI.out.ok v HVN.out).1 (HI.out.ok v HVN.out).2).mono ?_; rintro e w3 ⟨rfl, ⟨sv3, hG3⟩, hK3⟩; rw [HRN.out]; rw [HG3N.out] at hG3; have hO3 := HR'.out.call hG3 hK3; have HO3 : Hid _ := hO3; have s0 := hO3.rg.cell (i := j) HJ3.out; have s1 := hO3.rg.frozen j; have s2 := hO3.rg.lt; clear hG3 hK3 hO3)
      refine wp_gen (fun W' => OW w0 W' base M Q n (some ⟨b, off, none⟩) cap pcap regs f g3 sv3 BX BR BL (cdF (f i)) (upd ρj j r) (f i)) (HO3.out.setR j r) ?_
      clear s0 s1 s2 HO3 c0 lL
      intro U hU
      have u1 : U.cell? ⟨M, 1, none⟩ = some (.slice (some ⟨Q, 0, none⟩) n pcap) := hU.gw.mb.cell (i := 1) (by omega)
      have u2 := hU.gw.pl.cell (i := i * 8 + (1 + j)) (by have := HI.out.hi; have := HJ3.out; omega)
      rw [pl_at _ _ _ (by have := HJ3.out; omega), aft_cell _ _ HJ3.out, HY.out] at u2
      have u2' : U.cell? ⟨Q, i * 8 + 1 + j, none⟩ = some (.int .i64 y) := by rw [Nat.add_assoc]; exact u2
      have u3 := hU.gw.pl.cell (i := v * 8 + 5) (by have := HVN.out; omega)
      have u4 := hU.gw.pl.frozen (v * 8 + 5)
      have u5 := hU.gw.pl.lt
      have u6 := hU.gw.mb.lt
      have HU : Hid _ := hU
      clear hU u2
      go_region
      all_goals go_wp2
      all_goals go_roundw
      case rel => exact ⟨j + 1, by go_num, HLT.out, sv3, by rw [HN1.out, HN2.out]; exact (HU.out.setN v y).below ((Below.refl _ _).drew)⟩
      case measure => have := HLT.out; simp [intOf]; omega
    · obtain rfl : j = t := by omega
      have dj : decide ((j : Int) < (j : Int)) = false := decide_eq_false (by omega)
      obtain ⟨gj, HGJ⟩ : ∃ gj, Hid (tkG f regs i g j = gj) := ⟨_, rfl⟩
      obtain ⟨ρ, HRJ⟩ : ∃ ρ, Hid (tkρ f regs i g j = ρ) := ⟨_, rfl⟩
      have hinv := tkG_inv f regs i n g HI.out.hv j (fun q hq => (HI.out.tk q hq).2)
      have hgv := HGV.out
      rw [HGJ.out] at hinv hr hgv
      rw [HRJ.out] at hr
      obtain ⟨g4, HG4N⟩ : ∃ g4, Hid (relF gj = g4) := ⟨_, rfl⟩
      have hin4 := relF_inv gj n hinv.1
      have hl4 : (relF gj).l.length ≤ 99990 := by show gj.l.length ≤ _; have := hinv.2; have := HI.out.hl; have := HI.out.t3; omega
      rw [HG4N.out] at hin4 hl4 hgv
      have HI4 : Hid _ := hin4
      have HL4 : Hid _ := hl4
      have HIV : Hid _ := hinv.1
      have HGV4 : Hid _ := hgv
      have HR' : Hid _ := hr
      have HXK : Hid ((cdF (f i)).k < 4294967296) := HKK.out
      have HXX : Hid ((cdF (f i)).x < 4294967296) := show (if (f i).kind = 14 then ((f i).b % 4294967296).toNat else 0) < 4294967296 by split <;> omega
      have HOX : Hid (opX (f i) ρ = { cdF (f i) with a := (ρ 0 : Int), b := 0, c := (ρ 2 : Int), d := (ρ 1 : Int) }) := show opX (f i) ρ = _ by unfold opX; rw [if_pos HK10.out]
      clear hr hj hinv hin4 hl4 HR hlt hgv
      go_upto_region 12 with (go_at_call 105; refine (release_any base M Q n (some ⟨b, off, none⟩) cap pcap regs f gj sv1 _ HR'.out.gw HIV.out).mono ?_; rintro e w4 ⟨rfl, hG4, hK4⟩; rw [HG4N.out] at hG4; have hO4 := HR'.out.call hG4 hK4; have HO4 : Hid _ := hO4; clear hG4 hK4 hO4)
      refine wp_gen (fun W' => OW w0 W' base M Q n (some ⟨b, off, none⟩) cap pcap regs f g4 sv1 BX BR BL (cdF (f i)) ρ (f i)) HO4.out ?_
      clear HO4
      intro V hV
      have r0 := hV.rg.cell (i := 0) (by omega)
      have r1 := hV.rg.cell (i := 1) (by omega)
      have r2 := hV.rg.cell (i := 2) (by omega)
      have x2 := row_cell hV.x 2
      have x3 := row_cell hV.x 3
      have x4 := row_cell hV.x 4
      have fx := row_fr hV.x
      have lx := row_lt hV.x
      have lr := hV.rg.lt
      have nxr := hV.xr
      have HV : Hid _ := hV
      clear hV
      go_region
      go_upto_region 13 with fail
      refine wp_gen (fun W' => OW w0 W' base M Q n (some ⟨b, off, none⟩) cap pcap regs f g4 sv1 BX BR BL { cdF (f i) with a := (ρ 0 : Int), b := (ρ 1 : Int), c := (ρ 2 : Int) } ρ (f i)) ((((HV.out.setX { cdF (f i) with a := (ρ 0 : Int) } 2 _ rfl).setX { cdF (f i) with a := (ρ 0 : Int), b := (ρ 1 : Int) } 3 _ rfl).setX { cdF (f i) with a := (ρ 0 : Int), b := (ρ 1 : Int), c := (ρ 2 : Int) } 4 _ rfl).below ((Below.refl _ _).drew)) ?_
      clear r0 r1 r2 x2 x3 x4 fx lx lr nxr HV
      intro U hU
      have k0 : U.cell? ⟨b, off + i * 7, none⟩ = some (.int .i64 (f i).kind) := ((hU.gw.ops (by have := HI.out.hi; omega)) |> fun ⟨b', off', e, hb', hc'⟩ => by cases e; exact (hc' i HI.out.hi).c0)
      have lb : b < U.heap.size := by have := HBO.out; have := hU.gw.bw; omega
      have x1 := row_cell hU.x 1
      have x3 := row_cell hU.x 3
      have fx := row_fr hU.x
      have lx := row_lt hU.x
      have q4 := hU.gw.pl.cell (i := i * 8 + 4) (by have := HI.out.hi; omega)
      rw [pl_at _ _ _ (by omega)] at q4
      have q4' : U.cell? ⟨Q, i * 8 + 4, none⟩ = some (.bool false) := q4.trans (by show some (Value.bool (g4.P i).gives) = _; rw [HGV4.out])
      have lQ := hU.gw.pl.lt
      have nxQ := hU.neX.2.1
      have HU : Hid _ := hU
      clear hU q4
      go_upto_region 15 with fail
      refine wp_gen (fun W' => OW w0 W' base M Q n (some ⟨b, off, none⟩) cap pcap regs f g4 sv1 BX BR BL { cdF (f i) with a := (ρ 0 : Int), b := 0, c := (ρ 2 : Int), d := (ρ 1 : Int) } ρ (f i)) ((HU.out.setX { cdF (f i) with a := (ρ 0 : Int), b := (ρ 1 : Int), c := (ρ 2 : Int), d := (ρ 1 : Int) } 1 _ rfl).setX { cdF (f i) with a := (ρ 0 : Int), b := 0, c := (ρ 2 : Int), d := (ρ 1 : Int) } 3 _ rfl) ?_
      clear k0 lb x1 x3 fx lx q4' lQ nxQ HU
      intro T hT
      have q4 := hT.gw.pl.cell (i := i * 8 + 4) (by have := HI.out.hi; omega)
      rw [pl_at _ _ _ (by omega)] at q4
      have q4' : T.cell? ⟨Q, i * 8 + 4, none⟩ = some (.bool false) := q4.trans (by show some (Value.bool (g4.P i).gives) = _; rw [HGV4.out])
      have lQ := hT.gw.pl.lt
      have x0 := row_cell hT.x 0
      have x1 := row_cell hT.x 1
      have x2 := row_cell hT.x 2
      have x3 := row_cell hT.x 3
      have x4 := row_cell hT.x 4
      have x5 := row_cell hT.x 5
      have x6 := row_cell hT.x 6
      have x7 := row_cell hT.x 7
      have lx := row_lt hT.x
      have HT : Hid _ := hT
      clear hT q4
      go_wp2_with (go_at_call 64; refine (glay base M Q n (some ⟨b, off, none⟩) cap pcap regs f g4 sv1 { cdF (f i) with a := (ρ 0 : Int), b := 0, c := (ρ 2 : Int), d := (ρ 1 : Int) } _ HT.out.gw HXK.out HXX.out (Nat.le_trans HL4.out (by decide))).mono ?_; rintro e w5 ⟨rfl, hG5, hK5⟩; have HG5 : Hid _ := hG5; have HK5 : Hid _ := hK5; clear hG5 hK5)
      go_end0
      refine ⟨rfl, ?_, (Kx.of_below HD0.out HG.out.bw).trans (HT.out.kx.trans HK5.out)⟩
      rw [HGJ.out, HRJ.out, HG4N.out, HOX.out]
      unfold endG
      rw [if_neg (by rw [HGV4.out]; decide)]
      exact HG5.out
end Go.Proofs.Ytocefkpnlgfebab.Ho
namespace Go.Proofs.Ytocefkpnlgfebab.Ho
open Go.RowKit
set_option maxRecDepth 100000
set_option linter.unusedVariables false
set_option linter.unusedSimpArgs false

/-- What never changes of a plan behind the planning. -/
def SameP (p q : PL) : Prop := p.takes = q.takes ∧ p.gives = q.gives ∧ p.lazy = q.lazy ∧ p.a0 = q.a0 ∧ p.a1 = q.a1 ∧ p.a2 = q.a2 ∧ p.last = q.last
theorem SameP.refl (p : PL) : SameP p p := ⟨rfl, rfl, rfl, rfl, rfl, rfl, rfl⟩
theorem SameP.trans {p q r : PL} (h : SameP p q) (k : SameP q r) : SameP p r := ⟨h.1.trans k.1, h.2.1.trans k.2.1, h.2.2.1.trans k.2.2.1, h.2.2.2.1.trans k.2.2.2.1, h.2.2.2.2.1.trans k.2.2.2.2.1, h.2.2.2.2.2.1.trans k.2.2.2.2.2.1, h.2.2.2.2.2.2.trans k.2.2.2.2.2.2⟩
theorem bringG_P (f : Nat → OpR) (g : G) (regs v : Nat) : (bringG f g regs v).P = g.P := by
  unfold bringG
  split
  · rfl
  · exact (roomG_keep g regs).2.2.2.1
theorem setNext_P (g : G) (v x q : Nat) : SameP ((setNext g v x).P q) (g.P q) := by
  show SameP (upd g.P v _ q) (g.P q)
  unfold upd
  split
  · rename_i h; subst h; exact ⟨rfl, rfl, rfl, rfl, rfl, rfl, rfl⟩
  · exact SameP.refl _
theorem tkG_P (f : Nat → OpR) (regs i : Nat) (g : G) (q : Nat) : ∀ j, SameP ((tkG f regs i g j).P q) (g.P q)
  | 0 => SameP.refl _
  | j + 1 => by
    refine (setNext_P _ _ _ q).trans ?_
    rw [bringG_P]
    exact tkG_P f regs i g q j
theorem relF_P (g : G) : (relF g).P = g.P := rfl
theorem op_any (base M Q n : Nat) (bp : Option Addr) (cap pcap regs : Nat) (f : Nat → OpR) (g : G) (sv : Value) (i : Nat) (w : World) (hG : GW w base M Q n bp cap pcap regs f g sv) (hI : OpIn n i f g regs (g.P i).takes) (h10 : (f i).kind = 10 → (g.P i).gives = false) :
    Calls Try.prog 65 #[.pointer (some ⟨M, 0, none⟩), .int .i64 i] w fun e w' => e = .returned (.tuple #[]) ∧ (∃ sv', GW w' base M Q n bp cap pcap regs f (opG f regs g i) sv') ∧ Kx base M Q w w' := by
  have hgg : ((relF (tkG f regs i g (g.P i).takes)).P i).gives = (g.P i).gives := (tkG_P f regs i g i (g.P i).takes).2.1
  unfold opG
  cases hz : (g.P i).lazy with
  | true => rw [if_pos rfl]; exact op_lazy base M Q n bp cap pcap regs f g sv i w hG hI.hi hI.hn hz
  | false =>
    rw [if_neg (by decide)]
    by_cases hk : (f i).kind = 10
    · exact op_sn base M Q n bp cap pcap regs f g sv i _ w hG hI hz hk (hgg.trans (h10 hk))
    · cases hv : (g.P i).gives with
      | true => exact op_og base M Q n bp cap pcap regs f g sv i _ w hG hI hz hk (hgg.trans hv)
      | false => exact op_on base M Q n bp cap pcap regs f g sv i _ w hG hI hz hk (hgg.trans hv)
abbrev p12 (puts : Nat → Nat) : Array Value := #[.int .i64 (puts 0), .int .i64 (puts 1), .int .i64 (puts 2), .int .i64 (puts 3), .int .i64 (puts 4), .int .i64 (puts 5), .int .i64 (puts 6), .int .i64 (puts 7), .int .i64 (puts 8), .int .i64 (puts 9), .int .i64 (puts 10), .int .i64 (puts 11)]
theorem p12_at (puts : Nat → Nat) (j : Nat) (h : j < 12) : (p12 puts)[j]? = some (.int .i64 (puts j)) := by
  match j, h with
  | 0, _ | 1, _ | 2, _ | 3, _ | 4, _ | 5, _ | 6, _ | 7, _ | 8, _ | 9, _ | 10, _ | 11, _ => rfl
def stB (o : OpR) (last : Nat) (puts : Nat → Nat) : Bool := if o.kind = 1 then true else if o.kind = 2 then (puts o.w.toNat == 0) || decide (last ≤ puts o.w.toNat) else false
set_option maxHeartbeats 2000000 in
theorem steady_any (b off : Nat) (o : OpR) (last : Nat) (puts : Nat → Nat) (w : World) (h : OpAt w b off o) (hb : b < w.heap.size) (h2 : o.kind = 2 → 0 ≤ o.w ∧ o.w < 12) :
    Calls Try.prog 100 #[.pointer (some ⟨b, off, none⟩), .int .i64 last, .agg (p12 puts)] w fun e w' => e = .returned (.bool (stB o last puts)) ∧ Below w.heap.size w w' := by
  have hal : (w.alloc (.cells (p12 puts) 99)).heap[w.heap.size]? = some (.cells (p12 puts) 99) := heap_alloc_last _ _
  have HB : Hid (Below w.heap.size w (w.alloc (.cells (p12 puts) 99))) := (Below.refl w.heap.size w).alloc (Nat.le_refl _) _
  obtain ⟨z0, z1, z2, z3, z4, z5, z6⟩ := h
  have lb' := Nat.lt_succ_of_lt hb
  have ne : b ≠ w.heap.size := by omega
  by_cases k1 : o.kind = 1
  · have HS : Hid (stB o last puts = true) := show stB o last puts = true by unfold stB; rw [if_pos k1]
    rw [k1] at z0
    rw [HS.out]
    clear hal
    go_enter Try.func100, Try.ntmps100
    go_wp2
    go_ret
    exact ⟨rfl, HB.out⟩
  have d1 : (o.kind == 1) = false := by simpa using k1
  by_cases k2 : o.kind = 2
  · obtain ⟨h0, h12⟩ := h2 k2
    obtain ⟨q, hq⟩ : ∃ q : Nat, o.w = q := ⟨o.w.toNat, by omega⟩
    rw [hq] at z1
    have q0 : (0 : Int) ≤ (q : Int) := by omega
    have q1 : (q : Int) < 12 := by omega
    have hcell : (w.alloc (.cells (p12 puts) 99)).cell? ⟨w.heap.size, q, none⟩ = some (.int .i64 (puts q)) := by rw [row_cell hal, p12_at puts q (by omega)]
    have HS : Hid (stB o last puts = ((puts q == 0) || decide (last ≤ puts q))) := show stB o last puts = _ by unfold stB; rw [if_neg k1, if_pos k2, hq]; rfl
    rw [k2] at z0
    obtain ⟨x, HX⟩ : ∃ x, Hid (puts q = x) := ⟨_, rfl⟩
    rw [HX.out] at hcell
    clear hal k1 k2 d1 hq h0 h12 h2
    by_cases hx : x = 0
    · subst hx
      go_enter Try.func100, Try.ntmps100
      go_wp2
      go_ret
      exact ⟨by rw [HS.out, HX.out]; rfl, HB.out⟩
    · have dx : ((x : Int) == 0) = false := by simp; omega
      have HXX : Hid (¬ x = 0) := hx
      go_enter Try.func100, Try.ntmps100
      go_wp2
      go_ret
      exact ⟨by rw [HS.out, HX.out]; have : (x == 0) = false := by simpa using HXX.out
                rw [this]; simp, HB.out⟩
  have d2 : (o.kind == 2) = false := by simpa using k2
  have HS : Hid (stB o last puts = false) := show stB o last puts = false by unfold stB; rw [if_neg k1, if_neg k2]
  rw [HS.out]
  clear hal k1 k2
  go_enter Try.func100, Try.ntmps100
  go_wp2
  go_ret
  exact ⟨rfl, HB.out⟩
end Go.Proofs.Ytocefkpnlgfebab.Ho
namespace Go.Proofs.Ytocefkpnlgfebab.Ho
open Go.RowKit
set_option maxRecDepth 100000
set_option linter.unusedVariables false
set_option linter.unusedSimpArgs false

def setAft (p : PL) (j x : Nat) : PL := if j = 0 then { p with a0 := x } else if j = 1 then { p with a1 := x } else { p with a2 := x }
def askA (P : Nat → PL) (i : Nat) (o : OpR) : Nat → Nat → PL
  | 0 => P
  | j + 1 => upd (askA P i o j) i (setAft (askA P i o j i) j (askA P i o j (tkv o j)).next)
def asked (p : PL) (i : Nat) : PL := { p with next := i, last := if p.last = 0 then i else p.last }
def askB (P : Nat → PL) (i : Nat) (o : OpR) : Nat → Nat → PL
  | 0 => P
  | j + 1 => upd (askB P i o j) (tkv o j) (asked (askB P i o j (tkv o j)) i)
def askP (P : Nat → PL) (i : Nat) (o : OpR) (t : Nat) : Nat → PL := askB (askA P i o t) i o t
theorem upd_upd {α : Type} (f : Nat → α) (i : Nat) (a b : α) : upd (upd f i a) i b = upd f i b := by
  funext j; unfold upd; split <;> rfl
theorem upd_at {α : Type} (f : Nat → α) (i : Nat) (a : α) : upd f i a i = a := by simp [upd]
theorem setAft_takes (p : PL) (j x : Nat) : (setAft p j x).takes = p.takes ∧ (setAft p j x).gives = p.gives ∧ (setAft p j x).lazy = p.lazy ∧ (setAft p j x).next = p.next ∧ (setAft p j x).last = p.last := by
  unfold setAft
  split
  · exact ⟨rfl, rfl, rfl, rfl, rfl⟩
  · split <;> exact ⟨rfl, rfl, rfl, rfl, rfl⟩
theorem askA_takes (P : Nat → PL) (i : Nat) (o : OpR) (q : Nat) : ∀ j, (askA P i o j q).takes = (P q).takes ∧ (askA P i o j q).gives = (P q).gives ∧ (askA P i o j q).lazy = (P q).lazy
  | 0 => ⟨rfl, rfl, rfl⟩
  | j + 1 => by
    have ih := askA_takes P i o q j
    show (upd (askA P i o j) i _ q).takes = _ ∧ (upd (askA P i o j) i _ q).gives = _ ∧ (upd (askA P i o j) i _ q).lazy = _
    unfold upd
    split
    · rename_i h; subst h
      obtain ⟨a, b, c, -⟩ := setAft_takes (askA P q o j q) j (askA P q o j (tkv o j)).next
      exact ⟨a.trans ih.1, b.trans ih.2.1, c.trans ih.2.2⟩
    · exact ih
theorem askB_takes (P : Nat → PL) (i : Nat) (o : OpR) (q : Nat) : ∀ j, (askB P i o j q).takes = (P q).takes ∧ (askB P i o j q).gives = (P q).gives ∧ (askB P i o j q).lazy = (P q).lazy
  | 0 => ⟨rfl, rfl, rfl⟩
  | j + 1 => by
    have ih := askB_takes P i o q j
    show (upd (askB P i o j) (tkv o j) _ q).takes = _ ∧ (upd (askB P i o j) (tkv o j) _ q).gives = _ ∧ (upd (askB P i o j) (tkv o j) _ q).lazy = _
    unfold upd
    split
    · rename_i h; subst h; exact ih
    · exact ih
/-- The plans, and an operation's list of values. -/
structure AW (w W : World) (Q n : Nat) (P : Nat → PL) (BL : Nat) (o : OpR) : Prop where
  pl : W.rowIs Q 180 (n * 8) (plF P)
  ls : W.rowIs BL 178 3 (fun q => .int .i64 (argI o q))
  ch : Chg [Q] w W
  nl : w.heap.size ≤ BL
theorem AW.ne {w W : World} {Q n : Nat} {P : Nat → PL} {BL : Nat} {o : OpR} (h : AW w W Q n P BL o) : BL ≠ Q := fun e => by
  obtain ⟨c, hc, -⟩ := h.pl
  obtain ⟨d, hd, -⟩ := h.ls
  rw [e] at hd
  exact absurd (blk_t hc hd) (by decide)
theorem AW.setP {w W : World} {Q n : Nat} {P : Nat → PL} {BL : Nat} {o : OpR} (h : AW w W Q n P BL o) (i r : Nat) (v : Value) (p : PL) (hr : r < 8) (h1 : plC p r = v) (h2 : ∀ q, q < 8 → q ≠ r → plC p q = plC (P i) q) : AW w (W.setCell ⟨Q, i * 8 + r, none⟩ v) Q n (upd P i p) BL o :=
  ⟨pl_set P i r v p hr h1 h2 ▸ h.pl.set (i * 8 + r) v, h.ls.setOther (fun e => h.ne e) v, h.ch.set (by simp) _ _, h.nl⟩
theorem AW.drw {w W : World} {Q n : Nat} {P : Nat → PL} {BL : Nat} {o : OpR} (h : AW w W Q n P BL o) : AW w W.drew Q n P BL o := ⟨h.pl.drew, h.ls.drew, h.ch.drew, h.nl⟩
theorem aw_start {w : World} {Q n : Nat} {P : Nat → PL} (o : OpR) (h : w.rowIs Q 180 (n * 8) (plF P)) : AW w (w.alloc (.cells #[.int .i64 o.a, .int .i64 o.b, .int .i64 o.c] 178)) Q n P w.heap.size o :=
  ⟨h.alloc _, ⟨_, heap_alloc_last _ _, rfl, fun i hi => by
    match i, hi with
    | 0, _ | 1, _ | 2, _ => rfl⟩, (Chg.refl _ _).alloc _, Nat.le_refl _⟩
theorem plC_aft (p : PL) (j x : Nat) (hj : j < 3) : plC (setAft p j x) (1 + j) = .int .i64 x ∧ ∀ q, q < 8 → q ≠ 1 + j → plC (setAft p j x) q = plC p q := by
  match j, hj with
  | 0, _ => exact ⟨rfl, fun q hq hne => by
      match q, hq, hne with
      | 0, _, _ | 2, _, _ | 3, _, _ | 4, _, _ | 5, _, _ | 6, _, _ | 7, _, _ => rfl
      | 1, _, h => exact absurd rfl h⟩
  | 1, _ => exact ⟨rfl, fun q hq hne => by
      match q, hq, hne with
      | 0, _, _ | 1, _, _ | 3, _, _ | 4, _, _ | 5, _, _ | 6, _, _ | 7, _, _ => rfl
      | 2, _, h => exact absurd rfl h⟩
  | 2, _ => exact ⟨rfl, fun q hq hne => by
      match q, hq, hne with
      | 0, _, _ | 1, _, _ | 2, _, _ | 4, _, _ | 5, _, _ | 6, _, _ | 7, _, _ => rfl
      | 3, _, h => exact absurd rfl h⟩
set_option maxHeartbeats 4000000 in
theorem ask_any (Q n pcap i t : Nat) (P : Nat → PL) (o : OpR) (w : World) (hP : w.rowIs Q 180 (n * 8) (plF P)) (hi : i < n) (ht : (P i).takes = t) (h3 : t ≤ 3) (hn : n ≤ 2048) (tk : ∀ j, j < t → argI o j = ((tkv o j : Nat) : Int) ∧ tkv o j < n) :
    Calls Try.prog 101 #[.slice (some ⟨Q, 0, none⟩) n pcap, .int .i64 i, .agg #[.int .i64 o.a, .int .i64 o.b, .int .i64 o.c]] w fun e w' => e = .returned (.tuple #[]) ∧ w'.rowIs Q 180 (n * 8) (plF (askP P i o t)) ∧ Chg [Q] w w' := by
  have lQ := hP.lt
  have i0 : (0 : Int) ≤ (i : Int) := by omega
  have i1 : (i : Int) < (n : Int) := by omega
  have t0 : (0 : Int) ≤ (t : Int) := by omega
  have t3 : (t : Int) ≤ 3 := by omega
  have HT3 : Hid (t ≤ 3) := h3
  have HTK : Hid _ := tk
  have HIN : Hid (i < n) := hi
  have HT : Hid _ := ht
  have HA0 : Hid _ := aw_start o hP
  clear hP hi ht h3 hn tk
  go_enter Try.func101, Try.ntmps101
  go_upto_region 2 with fail
  obtain ⟨BL, hBL⟩ : ∃ BL, w.heap.size = BL := ⟨_, rfl⟩
  have HA1 : Hid _ := HA0.out
  rw [hBL] at HA1
  refine wp_gen (fun W' => AW w W' Q n P BL o) HA1.out ?_
  rw [hBL]
  clear hBL HA0 HA1 lQ
  intro W hW
  have q0 := hW.pl.cell (i := i * 8 + 0) (by have := HIN.out; omega)
  rw [pl_at _ _ _ (by omega)] at q0
  have q0' : W.cell? ⟨Q, i * 8, none⟩ = some (.int .i64 t) := q0.trans (by show some (Value.int .i64 ((P i).takes : Nat)) = _; rw [HT.out])
  have lQW := hW.pl.lt
  have lLW := hW.ls.lt
  have HW : Hid _ := hW
  clear hW q0
  go_upto_region 3 with fail
  go_loopw [20] (fun jv wr => ∃ j : Nat, jv = .int .i64 j ∧ j ≤ t ∧ AW w wr Q n (askA P i o j) BL o) (fun jv _ => t - (intOf jv).toNat)
  case atStart => exact ⟨0, rfl, by omega, HW.out⟩
  case round =>
    obtain ⟨j, rfl, hj, hr⟩ := hrel
    have HR : Hid _ := hr
    clear HW q0' lQW lLW
    have lQW := hr.pl.lt
    have lLW := hr.ls.lt
    by_cases hlt : j < t
    · have HLT : Hid (j < t) := hlt
      have jt : (j : Int) < (t : Int) := by omega
      have j0 : (0 : Int) ≤ (j : Int) := by omega
      have j3 : (j : Int) < 3 := by omega
      have HJ3 : Hid (j < 3) := show j < 3 by have := HT3.out; omega
      have dj : decide ((j : Int) < (t : Int)) = true := decide_eq_true jt
      obtain ⟨v, HVV⟩ : ∃ v, Hid (tkv o j = v) := ⟨_, rfl⟩
      have hav := (HTK.out j hlt).1
      have hvn := (HTK.out j hlt).2
      rw [HVV.out] at hav hvn
      have c0 := hr.ls.cell (i := j) HJ3.out
      rw [hav] at c0
      have v0 : (0 : Int) ≤ (v : Int) := by omega
      have v1 : (v : Int) < (n : Int) := by omega
      obtain ⟨Pj, HPJ⟩ : ∃ Pj, Hid (askA P i o j = Pj) := ⟨_, rfl⟩
      have HN1 : Hid (askA P i o (j + 1) = upd Pj i (setAft (Pj i) j (Pj v).next)) := show askA P i o (j + 1) = _ by
        show upd (askA P i o j) i (setAft (askA P i o j i) j (askA P i o j (tkv o j)).next) = _
        rw [HPJ.out, HVV.out]
      rw [HPJ.out] at hr
      have HR' : Hid _ := hr
      obtain ⟨x, HX⟩ : ∃ x, Hid ((Pj v).next = x) := ⟨_, rfl⟩
      have u2 := hr.pl.cell (i := v * 8 + 5) (by omega)
      rw [pl_at _ _ _ (by omega)] at u2
      have u2' : wr.cell? ⟨Q, v * 8 + 5, none⟩ = some (.int .i64 x) := u2.trans (by show some (Value.int .i64 ((Pj v).next : Nat)) = _; rw [HX.out])
      have u3 := hr.pl.cell (i := i * 8 + (1 + j)) (by have := HIN.out; have := HJ3.out; omega)
      have u3' := u3
      rw [← Nat.add_assoc] at u3'
      have u4 := hr.pl.frozen (i * 8 + 1 + j)
      clear hr hlt hav hvn HR u2 u3
      go_upto_region 5 with fail
      go_region
      all_goals go_wp2
      all_goals go_roundw
      case rel => exact ⟨j + 1, by go_num, HLT.out, by
        rw [HN1.out, HX.out]
        have h := HR'.out.setP i (1 + j) (.int .i64 x) (setAft (Pj i) j x) (by have := HJ3.out; omega) (plC_aft _ _ _ HJ3.out).1 (plC_aft _ _ _ HJ3.out).2
        rw [← Nat.add_assoc] at h
        exact h.drw⟩
      case measure => have := HLT.out; simp [intOf]; omega
    · obtain rfl : j = t := by omega
      have dj : decide ((j : Int) < (j : Int)) = false := decide_eq_false (by omega)
      have q0 := hr.pl.cell (i := i * 8 + 0) (by have := HIN.out; omega)
      rw [pl_at _ _ _ (by omega)] at q0
      have q0' : wr.cell? ⟨Q, i * 8, none⟩ = some (.int .i64 j) := q0.trans (by show some (Value.int .i64 ((askA P i o j i).takes : Nat)) = _; rw [(askA_takes P i o i j).1, HT.out])
      obtain ⟨P1, HP1⟩ : ∃ P1, Hid (askA P i o j = P1) := ⟨_, rfl⟩
      have hr1 := hr
      rw [HP1.out] at hr1
      have HR1 : Hid _ := hr1
      have HE : Hid (askP P i o j = askB P1 i o j) := show askP P i o j = _ by unfold askP; rw [HP1.out]
      clear hr hr1 hlt q0 HR
      go_upto_region 8 with fail
      go_loopw [42] (fun kv ws => ∃ k : Nat, kv = .int .i64 k ∧ k ≤ j ∧ AW w ws Q n (askB P1 i o k) BL o) (fun kv _ => j - (intOf kv).toNat)
      case atStart => exact ⟨0, rfl, by omega, HR1.out⟩
      case round =>
        obtain ⟨k, rfl, hk, hs⟩ := hrel
        clear HR1 q0' lQW lLW
        have lQW := hs.pl.lt
        have lLW := hs.ls.lt
        by_cases hlt : k < j
        · have HLT : Hid (k < j) := hlt
          have kt : (k : Int) < (j : Int) := by omega
          have k0 : (0 : Int) ≤ (k : Int) := by omega
          have k3 : (k : Int) < 3 := by omega
          have HK3 : Hid (k < 3) := show k < 3 by have := HT3.out; omega
          have dk : decide ((k : Int) < (j : Int)) = true := decide_eq_true kt
          obtain ⟨v, HVV⟩ : ∃ v, Hid (tkv o k = v) := ⟨_, rfl⟩
          have hav := (HTK.out k hlt).1
          have hvn := (HTK.out k hlt).2
          rw [HVV.out] at hav hvn
          have c0 := hs.ls.cell (i := k) HK3.out
          rw [hav] at c0
          have v0 : (0 : Int) ≤ (v : Int) := by omega
          have v1 : (v : Int) < (n : Int) := by omega
          obtain ⟨Pk, HPK⟩ : ∃ Pk, Hid (askB P1 i o k = Pk) := ⟨_, rfl⟩
          have HN1 : Hid (askB P1 i o (k + 1) = upd Pk v (asked (Pk v) i)) := show askB P1 i o (k + 1) = _ by
            show upd (askB P1 i o k) (tkv o k) (asked (askB P1 i o k (tkv o k)) i) = _
            rw [HPK.out, HVV.out]
          rw [HPK.out] at hs
          have u2 := hs.pl.cell (i := v * 8 + 5) (by omega)
          have u3 := hs.pl.frozen (v * 8 + 5)
          have h2 := hs.setP v 5 (.int .i64 i) { Pk v with next := i } (by omega) rfl (fun q hq hne => by
            match q, hq, hne with
            | 0, _, _ | 1, _, _ | 2, _, _ | 3, _, _ | 4, _, _ | 6, _, _ | 7, _, _ => rfl
            | 5, _, h => exact absurd rfl h)
          have H2 : Hid _ := h2
          have u4 := h2.pl.cell (i := v * 8 + 6) (by omega)
          rw [pl_at _ _ _ (by omega), upd_at] at u4
          obtain ⟨y, HY⟩ : ∃ y, Hid ((Pk v).last = y) := ⟨_, rfl⟩
          have u4' := u4.trans (show some (plC { Pk v with next := i } 6) = some (.int .i64 (y : Nat)) by show some (Value.int .i64 ((Pk v).last : Nat)) = _; rw [HY.out])
          have u5 := h2.pl.frozen (v * 8 + 6)
          clear hs hlt hav hvn u4 h2
          by_cases hy : y = 0
          · subst hy
            have HN2 : Hid (asked (Pk v) i = { Pk v with next := i, last := i }) := show asked (Pk v) i = _ by unfold asked; rw [if_pos HY.out]
            go_wp2
            go_roundw
            case rel => exact ⟨k + 1, by go_num, HLT.out, by
              rw [HN1.out, HN2.out]
              have h := H2.out.setP v 6 (.int .i64 i) { Pk v with next := i, last := i } (by omega) rfl (fun q hq hne => by
                rw [upd_at]
                match q, hq, hne with
                | 0, _, _ | 1, _, _ | 2, _, _ | 3, _, _ | 4, _, _ | 5, _, _ | 7, _, _ => rfl
                | 6, _, h => exact absurd rfl h)
              rw [upd_upd] at h
              exact h⟩
            case measure => have := HLT.out; simp [intOf]; omega
          · have dy : ((y : Int) == 0) = false := by simp; omega
            have HN2 : Hid (asked (Pk v) i = { Pk v with next := i }) := show asked (Pk v) i = _ by unfold asked; rw [if_neg (by rw [HY.out]; exact hy)]
            go_wp2
            all_goals first | (exfalso; omega) | skip
            go_roundw
            case rel => exact ⟨k + 1, by go_num, HLT.out, by rw [HN1.out, HN2.out]; exact H2.out⟩
            case measure => have := HLT.out; simp [intOf]; omega
        · obtain rfl : k = j := by omega
          have dk : decide ((k : Int) < (k : Int)) = false := decide_eq_false (by omega)
          have HS : Hid _ := hs
          clear hs
          go_wp2
          go_end0
          exact ⟨rfl, by rw [HE.out]; exact HS.out.pl, HS.out.ch⟩
end Go.Proofs.Ytocefkpnlgfebab.Ho
