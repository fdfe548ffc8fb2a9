import Derived.Test.YtgkkghphlbgcoaaLL
import Derived.Test.YtgkkghphlbgcoaaLS
import Derived.Test.YtgkkghphlbgcoaaRE
namespace Go.Proofs.Ytgkkghphlbgcoaa.Ca
open Go.RowKit Go.Maps Ho
set_option maxRecDepth 100000
set_option linter.unusedVariables false
set_option linter.unusedSimpArgs false
/-- One step of the script that came in. -/
structure StR (w : World) (sb o : Nat) : Prop where
  ex : ∃ (kd : Int) (pc : Nat) (nn : Int) (pa : Option Addr) (pn pcap : Nat) (pg : Nat → Int) (a : Option Addr) (len cap : Nat) (cw : Nat → Nat),
    (w.cell? ⟨sb, o, none⟩ = some (.int .i64 kd) ∧ w.cell? ⟨sb, o + 1, none⟩ = some (.int .u32 pc) ∧ w.cell? ⟨sb, o + 2, none⟩ = some (.int .i64 nn) ∧ w.cell? ⟨sb, o + 3, none⟩ = some (.slice pa pn pcap) ∧ w.cell? ⟨sb, o + 4, none⟩ = some (.slice a len cap)) ∧
    pc < 4294967296 ∧ (Lit.int .i64 nn).wf = true ∧ Pg w pa pn pg ∧ Ho.Wds w a len cap cw ∧ (∀ i, cw i < 4294967296) ∧ len ≤ 1048576
def Sc (w : World) (sa : Option Addr) (n : Nat) : Prop := n ≤ 1048576 ∧ (n = 0 ∨ ∃ sb off, sa = some ⟨sb, off, none⟩ ∧ sb < w.heap.size ∧ ∀ i, i < n → StR w sb (off + i * 5))
/-- The words of the law's own block. -/
def cw4 : Nat → Nat := wsF [65537, 7, 65550, 7]
theorem cw4_lt : ∀ i, cw4 i < 4294967296 := by
  intro i
  rcases i with _ | _ | _ | _ | i
  · decide
  · decide
  · decide
  · decide
  · show 0 < 4294967296
    decide
theorem cw4_0 : (decP cw4 4 0).e = 0 ∧ (decP cw4 4 0).n = 2 ∧ thr 7 0 (decP cw4 4 0).x = true := by decide +kernel
theorem cw4_2 : (decP cw4 4 2).e = 0 ∧ (decP cw4 4 2).n = 2 ∧ thr 7 2 (decP cw4 4 2).x = true ∧ (decP cw4 4 2).x.op = 14 ∧ (decP cw4 4 2).x.k = 7 := by decide +kernel
theorem cw4_p : partsOf cw4 4 [0, 2] = [(2, 7)] := by decide +kernel
theorem til4 {L : List Nat} {e : Nat} (h : Til cw4 4 0 L e) (he : e ≤ 4) : (L = [] ∧ e = 0) ∨ (L = [0] ∧ e = 2) ∨ (L = [0, 2] ∧ e = 4) := by
  have z : ((0 : Nat) : Int) = 0 := rfl
  cases L with
  | nil => exact .inl ⟨rfl, h.symm⟩
  | cons x r =>
    obtain ⟨rfl, _, h1⟩ := h
    have e0 : (decP cw4 4 ((0 : Nat) : Int)).n = 2 := cw4_0.2.1
    rw [e0] at h1
    cases r with
    | nil => exact .inr (.inl ⟨rfl, h1.symm⟩)
    | cons y r =>
      obtain ⟨rfl, _, h2⟩ := h1
      have e2 : (decP cw4 4 (((0 + 2 : Nat)) : Int)).n = 2 := cw4_2.2.1
      rw [e2] at h2
      cases r with
      | nil => exact .inr (.inr ⟨rfl, h2.symm⟩)
      | cons z r =>
        obtain ⟨rfl, h3, h4⟩ := h2
        obtain ⟨u1, u2, u3⟩ := dec_size cw4_lt h3
        omega
theorem not_bad : ¬ Bad cw4 4 7 := by
  rintro ⟨at', L, hS, hlt, hb⟩
  rcases til4 hS.t (by omega) with ⟨_, rfl⟩ | ⟨_, rfl⟩ | ⟨_, rfl⟩
  · rcases hb with hb | hb
    · exact hb cw4_0.1
    · have h2 : thr 7 0 (decP cw4 4 ((0 : Nat) : Int)).x = true := cw4_0.2.2
      rw [h2] at hb; cases hb
  · rcases hb with hb | hb
    · exact hb cw4_2.1
    · have h2 : thr 7 2 (decP cw4 4 ((2 : Nat) : Int)).x = true := cw4_2.2.2.1
      rw [h2] at hb; cases hb
  · omega
theorem good4 {S : List Nat} (h : Good cw4 4 7 S) : S = [0, 2] := by
  rcases til4 h.t (Nat.le_refl _) with ⟨_, e⟩ | ⟨_, e⟩ | ⟨e, _⟩
  · cases e
  · cases e
  · exact e
/-- The law's own block, laid. -/
def c1C (r : Nat) : Cs := insC (newC r 8 8) 7 ⟨0, 4, setN (fun _ => 3) 1 0, setN (fun _ => 3) 1 1, setN (fun _ => 3) 1 2, setN (fun _ => 3) 1 3⟩ cw4 [(2, 7)]
theorem c1_ws (r : Nat) : (c1C r).ws = cw4 := by funext i; show (if i < 0 then (0 : Nat) else cw4 (i - 0)) = cw4 i; rw [if_neg (Nat.not_lt_zero _), Nat.sub_zero]
theorem c1_ex (r : Nat) : (c1C r).ex ((2 : Nat) : Int) = some (7, 7) := by show insX (fun _ => none) 0 7 [(2, 7)] ((2 : Nat) : Int) = _; simp [insX]
theorem c1_bl (r : Nat) (pc : Int) : (c1C r).bl pc = if pc = 7 then some ⟨0, 4, setN (fun _ => 3) 1 0, setN (fun _ => 3) 1 1, setN (fun _ => 3) 1 2, setN (fun _ => 3) 1 3⟩ else none := rfl
theorem gone7 (r s v k : Nat) (pc : Int) : (gone (turC (c1C r) s v k) 3 pc).isSome = true ↔ pc = 7 := by
  unfold gone
  have e : (turC (c1C r) s v k).bl pc = (c1C r).bl pc := rfl
  rw [e, c1_bl]
  by_cases h : pc = 7
  · rw [if_pos h]
    have hp : hasP (Bl.q ⟨0, 4, setN (fun _ => 3) 1 0, setN (fun _ => 3) 1 1, setN (fun _ => 3) 1 2, setN (fun _ => 3) 1 3⟩) 3 = true := by decide
    simp [hp, h]
  · rw [if_neg h]
    simp [h]
theorem room_of (room : Int) : ∃ (t : Int) (r : Nat), room.tmod 4096 = t ∧ t < 4096 ∧ -4096 < t ∧ 1 + t % 4096 = (r : Int) ∧ 1 ≤ r ∧ r ≤ 4096 := by
  have t1 : room.tmod 4096 < 4096 := Int.tmod_lt_of_pos room (show (0 : Int) < 4096 by omega)
  have t2 : -4096 < room.tmod 4096 := Int.lt_tmod_of_pos room (show (0 : Int) < 4096 by omega)
  exact ⟨_, (1 + room.tmod 4096 % 4096).toNat, rfl, t1, t2, by omega, by omega, by omega⟩
structure ClI (w : World) (C n : Nat) (v : Value) (wr : World) : Prop where
  ex : ∃ (k : Nat) (c : Cs) (L : Int → List Nat) (I : Ids), v = .int .i64 k ∧ k ≤ n ∧ Cw wr C I c ∧ Iv c L ∧ (∀ j, Own C I j → w.heap.size ≤ j) ∧ Below w.heap.size w wr
structure ClX (w : World) (C : Nat) (wr : World) : Prop where
  ex : ∃ (c : Cs) (L : Int → List Nat) (I : Ids), Cw wr C I c ∧ Iv c L ∧ (∀ j, Own C I j → w.heap.size ≤ j) ∧ Below w.heap.size w wr
theorem own_new (H n j : Nat) (h : Own (H + 1 + 1 + 1) (newI H n) j) : H ≤ j ∧ j < H + 4 := by
  rcases h with e | e | e | e | e
  · omega
  · have e' : j = H := e
    omega
  · have e' : j = H + 1 := e
    omega
  · have e' : j = H + 1 + 1 := e
    omega
  · cases e
set_option maxHeartbeats 16000000 in
theorem cl_walk (room : Int) (sa : Option Addr) (n cap : Nat) (w : World) (hS : Sc w sa n) :
    Calls Try.prog 4 #[.int .i64 room, .slice sa n cap] w fun e w' => e = .returned (.bool true) ∧ Below w.heap.size w w' := by
  obtain ⟨t, r, ht, t1, t2, hr, hr1, hr2⟩ := room_of room
  have ww1 : IntKind.i64.wrap t = t := IntWalk.i64_in _ (by omega)
  have ww2 : IntKind.i64.wrap (t + 4096) = t + 4096 := IntWalk.i64_in _ (by omega)
  have ww3 : (t + 4096).tmod 4096 = t % 4096 := by rw [Int.tmod_eq_emod_of_nonneg (by omega)]; omega
  have ww4 : IntKind.i64.wrap (t % 4096) = t % 4096 := IntWalk.i64_in _ (by omega)
  have ww5 : IntKind.i64.wrap (1 + t % 4096) = (r : Int) := by rw [IntWalk.i64_in _ (by omega)]; exact hr
  have HS : Hid (Sc w sa n) := hS
  have hnil : ∀ W : World, (binOp .eql 23 (.pointer (some ⟨w.heap.size + 1 + 1 + 1, 0, none⟩)) (.pointer none)).run Try.prog W = .ok (.bool false) W := fun _ => rfl
  clear hS
  go_enter Try.func4, Try.ntmps4
  go_wp2_with (go_at_call 5; fail)
  refine Calls.mono (new_good r 8 w ⟨hr1, by omega⟩ ⟨by decide, by decide⟩) ?_
  rintro _ w1 ⟨rfl, hc1, hb1⟩
  dsimp only
  have HC1 : Hid _ := hc1
  have HB1 : Hid _ := hb1
  have s1 : w.heap.size + 3 < w1.heap.size := by have := hc1.own_lt _ (.inl rfl); omega
  clear hc1 hb1 ww1 ww2 ww3 ww4 ww5 ht hr
  go_wp2_with (go_at_call 9; fail)
  refine Calls.mono (Ho.renc1 _) ?_
  rintro _ w2 ⟨sv1, rfl, hrw1, hb2⟩
  dsimp only
  have HR1 : Hid (w2.ownsRow w1.heap.size 30 1 sv1 2 (wdCs (wsF [65537, 7]) 2)) := hrw1
  have HB2 : Hid _ := hb2
  have s2 := hb2.size
  clear hrw1 hb2
  go_wp2_with (go_at_call 9; fail)
  refine Calls.mono (Ho.renc14 _) ?_
  rintro _ w3 ⟨sv2, rfl, hrw2, hb3⟩
  dsimp only
  have HR2 : Hid (w3.ownsRow w2.heap.size 30 1 sv2 2 (wdCs (wsF [65550, 7]) 2)) := hrw2
  have HR1' : Hid (w3.ownsRow w1.heap.size 30 1 sv1 2 (wdCs (wsF [65537, 7]) 2)) := row_keep HR1.out fun k e => hb3.block k (HR1.out.lt k e).2
  have hb13 : Below w1.heap.size w1 w3 := HB2.out.trans (hb3.mono s2)
  have HC3 : Hid _ := HC1.out.below hb13
  have HB3 : Hid _ := HB1.out.trans (hb13.mono (by omega))
  have s3 := hb3.size
  clear hrw2 hb3 hb13 HR1 HB1 HC1 HB2
  go_upto_if 42 with fail
  go_cut [11, 12] from 42 to 72 (fun _ _ wx => ClX w (w.heap.size + 1 + 1 + 1) wx)
  case first =>
    by_cases h4 : 4 ≤ r
    · have g4 : (4 : Int) ≤ (r : Int) := by omega
      have g4' : decide ((4 : Int) ≤ (r : Int)) = true := decide_eq_true g4
      obtain ⟨g2, cp2, rfl, hcel2, hg2l⟩ : ∃ g2 cp2, sv2 = .slice (some ⟨g2, 0, none⟩) 2 cp2 ∧ (∀ j u, (wdCs (wsF [65550, 7]) 2)[j]? = some u → w3.cell? ⟨g2, j, none⟩ = some u) ∧ g2 < w3.heap.size := by
        rcases HR2.out.2 with ⟨_, h0⟩ | ⟨g, cp, cur, e, hb, hgc, _⟩
        · cases h0
        · refine ⟨g, cp, e, fun j u hj => ?_, So.row_lt hgc⟩
          have := HR2.out.cells (g := g) (by rw [e]; rfl) j u hj
          rw [show (⟨g, 0, none⟩ : Addr).add j = ⟨g, j, none⟩ by unfold Addr.add; split <;> simp_all] at this
          exact this
      have hbP : Below w3.heap.size w3 (w3.alloc (.cells #[.int .i64 3] 3)) := (Below.refl _ _).alloc (Nat.le_refl _) _
      have hnews : ∀ j u, (wdCs (wsF [65550, 7]) 2)[j]? = some u → (w3.alloc (.cells #[.int .i64 3] 3)).cell? ((⟨g2, 0, none⟩ : Addr).add j) = some u := fun j u hj => by
        rw [show (⟨g2, 0, none⟩ : Addr).add j = ⟨g2, j, none⟩ by unfold Addr.add; split <;> simp_all]
        exact (hbP.cell (p := ⟨g2, j, none⟩) hg2l).trans (hcel2 j u hj)
      have HN : Hid _ := hnews
      have HCL : Hid _ := hcel2
      have HBP : Hid _ := hbP
      have ownlt : ∀ k, sv1.ownBlock = some k → w1.heap.size ≤ k ∧ k < w3.heap.size := HR1'.out.lt
      have HOL : Hid _ := ownlt
      obtain ⟨i0, hi, hz0, hz1, hz2⟩ := info_parts infoU
      clear hnews hcel2 hbP ownlt
      go_wp2_with (first
        | (at_builtin; refine wpList_append_own_at _ rfl _ _ 32 rfl w1.heap.size 30 i0 (.int .u32 0) 1 4 Try.underlying32 hi hz0 hz1 hz2 rfl (by decide) _ _ _ rfl (HR1'.out.alloc _) ⟨g2, 0, none⟩ 2 cp2 (wdCs (wsF [65550, 7]) 2) rfl (by rw [wdCs_len]) HN.out (wdCs_one _ _) (by rw [show maxLen = 9223372036854775807 by decide]; omega) (by omega) (by simp; omega) ?_; intro v4 w4 hown4 hgr4 hnil4 hat4; obtain ⟨a4, cp4, rfl, hwd4, hwg4⟩ := row_wds (b := w1.heap.size) (ws := cw4) hown4 (by decide) cw4_lt)
        | (go_at_call 10; fail))
      have hbl4 : Below w1.heap.size (w3.alloc (.cells #[.int .i64 3] 3)) w4 := ⟨hgr4.os, hgr4.tape, hgr4.output, hgr4.size, fun k hk => hgr4.block k (by simp; omega) (fun e => by have := HOL.out k e.symm; omega)⟩
      have hb34 : Below w1.heap.size w3 w4 := (HBP.out.mono (by omega)).trans hbl4
      have hcw4 : Cw w4 (w.heap.size + 1 + 1 + 1) (newI w.heap.size 8) (newC r 8 8) := HC3.out.keep fun k hk => hb34.block k (by have := (own_new _ _ k hk).2; omega)
      have hpg4 : Pg w4 (some ⟨w3.heap.size, 0, none⟩) 1 (fun _ => 3) := .inr ⟨w3.heap.size, 0, rfl, fun i hi => by
        obtain rfl : i = 0 := by omega
        rw [World.cell?_of_block (w := w3.alloc (.cells #[.int .i64 3] 3)) (hgr4.block w3.heap.size (by simp) (fun e => by have := HOL.out _ e.symm; omega)), World.cell?_alloc_at] <;> rfl, by have := hgr4.size; simp at this; omega, by decide⟩
      have hb4 : Below w.heap.size w w4 := HB3.out.trans (hb34.mono (by omega))
      have HB4 : Hid _ := hb4
      have s4 := hgr4.size
      simp only [World.size_alloc] at s4
      refine Calls.mono (insert_any (w.heap.size + 1 + 1 + 1) 7 (some ⟨w3.heap.size, 0, none⟩) a4 1 1 4 cp4 (fun _ => 3) cw4 (newI w.heap.size 8) (newC r 8 8) w4 hcw4 (iv_new r 8).xo (by decide) hpg4 hwd4 cw4_lt (by decide) (fun _ b off e hh => by have := (own_new _ _ b hh).2; have := (hwg4 b off e).1; omega)) ?_
      rintro _ w5 ⟨hbad | hgood⟩
      · obtain ⟨rr, _, _, _, _, why⟩ := hbad
        exfalso
        rcases why with ⟨i, _, h1⟩ | h1 | h1 | h1 | h1
        · exact absurd h1 (by decide)
        · cases h1
        · exact not_bad h1
        · exact h1 rfl
        · have h1' : r < 4 := h1
          omega
      obtain ⟨c1, S, sl', rfl, _, _, hgd, _, _, hor, hc5, ho5, hch5⟩ := hgood
      obtain rfl : c1 = newC r 8 8 := by
        rcases hor with ⟨_, e⟩ | ⟨h1, _⟩
        · exact e
        · have h1' : r - 0 < 4 := h1
          omega
      obtain rfl := good4 hgd
      have hv1 := iv_insert (iv_new r 8) 7 4 (by decide) cw4 cw4_lt [0, 2] (by decide) hgd rfl (setN (fun _ => 3) 1 0) (setN (fun _ => 3) 1 1) (setN (fun _ => 3) 1 2) (setN (fun _ => 3) 1 3) ⟨setN_lt _ _ _, setN_lt _ _ _, setN_lt _ _ _, setN_lt _ _ _⟩
      rw [cw4_p] at hc5 hv1
      have hc5' : Cw w5 (w.heap.size + 1 + 1 + 1) { newI w.heap.size 8 with sl := sl' } (c1C r) := hc5
      have hv1' : Iv (c1C r) _ := hv1
      have HC5 : Hid _ := hc5'
      have HV1 : Hid _ := hv1'
      have hb5 : Below w.heap.size w w5 := HB4.out.trans (hch5.below HB4.out.size fun j hj => (own_new _ _ j hj).1)
      have HB5 : Hid _ := hb5
      have hown5 : ∀ j, Own (w.heap.size + 1 + 1 + 1) { newI w.heap.size 8 with sl := sl' } j → w.heap.size ≤ j := fun j hj => by
        rcases hj with e | e | e | e | e
        · exact (own_new _ 8 j (.inl e)).1
        · exact (own_new _ 8 j (.inr (.inl e))).1
        · exact (own_new _ 8 j (.inr (.inr (.inl e)))).1
        · exact (own_new _ 8 j (.inr (.inr (.inr (.inl e))))).1
        · have e' : sl'.ownBlock = some j := e
          rcases ho5 with h2 | ⟨q, h2, h3⟩
          · rw [h2] at e'; cases e'
          · rw [h2] at e'; cases e'; have := HB4.out.size; omega
      have HO5 : Hid _ := hown5
      clear hgd hor hc5 hc5' hv1 hv1' hb5 hown5 ho5 hch5 hcw4 hpg4 hwd4 hwg4 hb4 hb34 hbl4 hgr4 hat4 hnil4 hown4
      dsimp only
      go_wp2_with (go_at_call 11; fail)
      refine Calls.mono (link_go (w.heap.size + 1 + 1 + 1) 2 7 7 _ (c1C r) w5 HC5.out HV1.out.xo (c1_ex r) (by rw [c1_ws]; show ldB (decP cw4 4 2).x.op = false; rw [cw4_2.2.2.2.1]; rfl) (fun b hb => by rw [c1_bl, if_pos (show ((7 : Nat) : Int) = 7 from rfl)] at hb; cases hb; show 0 ≤ 1048576; decide)) ?_
      rintro _ w6 (⟨hno, _⟩ | ⟨b, hb, hbl, rfl, hc6, hch6⟩)
      · exact absurd hno (by rw [c1_bl, if_pos (show ((7 : Nat) : Int) = 7 from rfl)]; simp)
      dsimp only
      have hv2 := iv_link HV1.out 2 7 7 b (c1_ex r) (by rw [c1_ws]; show ¬ ldOp (decP cw4 4 2).x.op; rw [cw4_2.2.2.2.1]; decide) hb hbl
      have HC6 : Hid _ := hc6
      have HV2 : Hid _ := hv2
      have hb6 : Below w.heap.size w w6 := HB5.out.trans (hch6.below HB5.out.size fun j hj => HO5.out j (.inr (.inr (.inr (.inr hj)))))
      have HB6 : Hid _ := hb6
      clear hb hbl hc6 hch6 hv2 hb6
      go_wp2_with (go_at_call 12; fail)
      refine Calls.mono (drop_any (w.heap.size + 1 + 1 + 1) 3 _ _ w6 HC6.out HV2.out.xo HV2.out.bo) ?_
      rintro _ w7 ⟨l, hln, hlm, rfl, c7, hc7, hd7, hch7⟩
      dsimp only
      have hll : (l.length : Int) = 1 := by
        have hm : ∀ k, k ∈ l ↔ k = 7 := fun k => (hlm k).trans (gone7 r _ _ _ k)
        have := ((List.perm_ext_iff_of_nodup hln (by simp : ([7] : List Int).Nodup)).2 (fun k => by rw [hm k]; simp)).length_eq
        rw [this]; rfl
      rw [hll]
      have hv7 := iv_drop HV2.out 3 hd7 hc7.wb.lt
      have hf7 : c7.fill = 4 := hd7.rm.2.1
      obtain ⟨ua, ucap, husl, _⟩ := hc7.sl
      have hu1 := hc7.cell.2.1
      rw [husl, hf7] at hu1
      have HU : Hid _ := hu1
      have HC7 : Hid _ := hc7
      have HV7 : Hid _ := hv7
      have hb7 : Below w.heap.size w w7 := HB6.out.trans (hch7.below HB6.out.size fun j hj => HO5.out j hj)
      have HB7 : Hid _ := hb7
      clear hll hlm hln hc7 hd7 hch7 hv7 hf7 husl hu1 hb7
      go_wp2_with (go_at_call 13; refine Calls.mono (Ke.used_any (w.heap.size + 1 + 1 + 1) _ ua 4 ucap HU.out) ?_; rintro _ _ ⟨rfl, rfl⟩; dsimp only)
      go_meet
      exact ⟨_, _, _, HC7.out, HV7.out, HO5.out, HB7.out⟩
    · have g4 : ¬ (4 : Int) ≤ (r : Int) := by omega
      have g4' : decide ((4 : Int) ≤ (r : Int)) = false := decide_eq_false g4
      go_wp2
      go_meet
      exact ⟨_, _, _, HC3.out, iv_new r 8, fun j hj => (own_new _ _ j hj).1, HB3.out⟩
  case rest =>
    obtain ⟨c, L, I, hcw, hv, hown, hbw⟩ := hcut
    obtain ⟨hn, hsc⟩ := HS.out
    have HC : Hid _ := hcw
    have HV : Hid _ := hv
    have HO : Hid _ := hown
    have HB : Hid _ := hbw
    have HSC : Hid _ := hsc
    clear hcw hv hown hbw hsc HC3 HB3 HR1' HR2
    go_wp2
    go_loopw [75] (fun v wr => ClI w (w.heap.size + 1 + 1 + 1) n v wr) (fun v _ => n - (intOf v).toNat)
    case atStart => exact ⟨0, c, L, I, rfl, Nat.zero_le _, HC.out, HV.out, HO.out, HB.out⟩
    case round =>
      obtain ⟨k, c, L, I, rfl, hk, hcw, hv, hown, hbw⟩ := hrel
      have HC : Hid _ := hcw
      have HV : Hid _ := hv
      have HO : Hid _ := hown
      have HB : Hid _ := hbw
      by_cases hkn : k < n
      · obtain ⟨sb, off, rfl, hsb, hst⟩ : ∃ sb off, sa = some ⟨sb, off, none⟩ ∧ sb < w.heap.size ∧ ∀ i, i < n → StR w sb (off + i * 5) := HSC.out.elim (fun e => by omega) id
        obtain ⟨kd, pc, nn, pa, pn, pcap, pg, a, len, cap', cw, ⟨x0, x1, x2, x3, x4⟩, hpc, hwf, hpg, hwd, hlt, hlen⟩ := (hst k hkn).ex
        have y0 := (hbw.cell (p := ⟨sb, off + k * 5, none⟩) hsb).trans x0
        have y1 := (hbw.cell (p := ⟨sb, off + k * 5 + 1, none⟩) hsb).trans x1
        have y2 := (hbw.cell (p := ⟨sb, off + k * 5 + 2, none⟩) hsb).trans x2
        have y3 := (hbw.cell (p := ⟨sb, off + k * 5 + 3, none⟩) hsb).trans x3
        have y4 := (hbw.cell (p := ⟨sb, off + k * 5 + 4, none⟩) hsb).trans x4
        have f1 : (k : Int) < (n : Int) := by omega
        have f2 : decide ((k : Int) < (n : Int)) = true := decide_eq_true f1
        have f3 : (0 : Int) ≤ (k : Int) := by omega
        obtain ⟨k1, hk1⟩ : ∃ k1, k + 1 = k1 := ⟨_, rfl⟩
        have t9 : IntKind.i64.wrap ((k : Int) + 1) = (k1 : Int) := So.wr_one hk1 (by omega)
        have HK1 : Hid _ := hk1
        have hb1 : Below wr.heap.size wr (wr.alloc (.cells #[.int .i64 kd, .int .u32 pc, .int .i64 nn, .slice pa pn pcap, .slice a len cap'] 34)) := (Below.refl _ _).alloc (Nat.le_refl _) _
        have hbt := hbw.trans (hb1.mono hbw.size)
        have HBT : Hid _ := hbt
        have hpgW : Pg (wr.alloc (.cells #[.int .i64 kd, .int .u32 pc, .int .i64 nn, .slice pa pn pcap, .slice a len cap'] 34)) pa pn pg := by
          rcases hpg with e | ⟨b, off, e, h1, h2, h3⟩
          · exact .inl e
          · exact .inr ⟨b, off, e, fun i hi => (hbt.cell (p := ⟨b, off + i, none⟩) h2).trans (h1 i hi), by have := hbt.size; omega, h3⟩
        have HST : Hid _ := step2_ok (w.heap.size + 1 + 1 + 1) pc kd nn pa a pn pcap len cap' pg cw I c L _ (hcw.below hb1) hv hpc hpgW (Ho.wds_keep hwd hbt) hlt hlen (fun h0 b o e hh => by
          have h1 := hown b hh
          rcases hwd with e2 | ⟨b2, o2, e2, _, _, h5⟩
          · omega
          · rw [e] at e2; cases e2; have := h5.lb; omega) hwf
        clear hcw hv hown hbw x0 x1 x2 x3 x4 hst hpg hwd hlt hk1 hb1 hbt hpgW
        go_wp2_with (go_at_call 14; fail)
        refine Calls.mono HST.out ?_
        rintro _ w5 ⟨rfl, ⟨c', L', I', hc5, hv5, ho5, hch5⟩⟩
        dsimp only
        have hown5 : ∀ j, Own (w.heap.size + 1 + 1 + 1) I' j → w.heap.size ≤ j := fun j hj => (ho5 j hj).elim (HO.out j) fun e => by have := HBT.out.size; omega
        have hb5 : Below w.heap.size w w5 := HBT.out.trans (hch5.below HBT.out.size fun j hj => HO.out j hj)
        have HC5 : Hid _ := hc5
        have HV5 : Hid _ := hv5
        have HO5 : Hid _ := hown5
        have HB5 : Hid _ := hb5
        clear hc5 hv5 ho5 hch5 hown5 hb5
        go_wp2_with (go_at_call 15; fail)
        refine Calls.mono (leads_law (w.heap.size + 1 + 1 + 1) I' c' L' _ HC5.out HV5.out) ?_
        rintro _ w6 ⟨rfl, hb6⟩
        dsimp only
        go_wp2
        refine ⟨⟨k1, c', L', I', rfl, by have := HK1.out; omega, HC5.out.below hb6, HV5.out, HO5.out, HB5.out.trans (hb6.mono HB5.out.size)⟩, by have := HK1.out; simp [intOf]; omega⟩
      · have f1 : ¬ (k : Int) < (n : Int) := by omega
        have f2 : decide ((k : Int) < (n : Int)) = false := decide_eq_false f1
        clear hcw hv hown hbw
        go_wp2
        go_ret
        exact ⟨rfl, HB.out⟩
end Go.Proofs.Ytgkkghphlbgcoaa.Ca
