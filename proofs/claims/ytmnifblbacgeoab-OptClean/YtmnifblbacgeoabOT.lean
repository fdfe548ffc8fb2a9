import Derived.Test.YtmnifblbacgeoabOS
import Derived.Test.YtmnifblbacgeoabOR3
namespace Go.Proofs.Ytmnifblbacgeoab
open Go.RowKit
open Go.Maps
set_option maxRecDepth 100000
set_option linter.unusedVariables false
set_option linter.unusedSimpArgs false

structure NS where
  d : ND
  sy : Nat → Bool
/-- Behind the last m operations. -/
def neS (h : Nat → ON) (n : Nat) : Nat → NS
  | 0 => ⟨⟨fun _ => false, fun _ => false⟩, fun _ => false⟩
  | m + 1 => ⟨if staB (neS h n m).d (n - 1 - m) (h (n - 1 - m)) then askN (neS h n m).d (h (n - 1 - m)) else (neS h n m).d, upd (neS h n m).sy (n - 1 - m) (staB (neS h n m).d (n - 1 - m) (h (n - 1 - m)))⟩
structure NeOk (h : Nat → ON) (n : Nat) : Prop where
  k1 : ∀ i, i < n → 1 ≤ (h i).kd
  k2 : ∀ i, i < n → (h i).kd ≤ 17
  tk : ∀ i, i < n → ∀ q, q < tkN (h i).kd → arg (h i) q < n
  w : ∀ i, i < n → (h i).kd = 2 ∨ (h i).kd = 3 → (h i).w < 12
structure NL (w W : World) (n : Nat) (h : Nat → ON) (bp : Option Addr) (d : ND) (sy : Nat → Bool) : Prop where
  nw : NWo W w.heap.size (w.heap.size + 1) w.heap.size n d
  sr : W.rowIs (w.heap.size + 2) 4 n (fun i => .bool (sy i))
  ops : OpsR W bp n (fun i => rO (h i))
  bel : Below w.heap.size w W
theorem NL.below {w W W' : World} {n : Nat} {h : Nat → ON} {bp : Option Addr} {d : ND} {sy : Nat → Bool} (x : NL w W n h bp d sy) (k : Below W.heap.size W W') : NL w W' n h bp d sy :=
  ⟨x.nw.below k, x.sr.of_block (k.block _ x.sr.lt), x.ops.below k (Nat.le_refl _), x.bel.trans (k.mono x.bel.size)⟩
theorem NL.set {w W : World} {n : Nat} {h : Nat → ON} {bp : Option Addr} {d : ND} {sy : Nat → Bool} (x : NL w W n h bp d sy) (hob : ∀ b off, bp = some ⟨b, off, none⟩ → b < w.heap.size) (i : Nat) (v : Bool) : NL w (W.setCell ⟨w.heap.size + 2, i, none⟩ (.bool v)) n h bp d (upd sy i v) :=
  ⟨⟨x.nw.xb.setOther (by show w.heap.size + 1 ≠ w.heap.size + 2; omega) _, x.nw.tb.setOther (by show w.heap.size ≠ w.heap.size + 2; omega) _, x.nw.bX, x.nw.bT⟩, (x.sr.set i _).congr (fun k _ => by (unfold upd; by_cases e : k = i <;> simp [e])), ops_bel x.ops ((Below.refl w.heap.size W).setCell (by show w.heap.size ≤ w.heap.size + 2; omega) _) hob, x.bel.setCell (by show w.heap.size ≤ w.heap.size + 2; omega) _⟩
theorem NL.kn {w W W2 : World} {n : Nat} {h : Nat → ON} {bp : Option Addr} {d d2 : ND} {sy : Nat → Bool} (x : NL w W n h bp d sy) (hob : ∀ b off, bp = some ⟨b, off, none⟩ → b < w.heap.size) (h2 : NWo W2 w.heap.size (w.heap.size + 1) w.heap.size n d2) (k : KN w.heap.size (w.heap.size + 1) w.heap.size W W2) : NL w W2 n h bp d2 sy :=
  ⟨h2, x.sr.of_block (k.blk _ x.sr.lt (by omega) (by omega)), ops_bel x.ops k.bel hob, x.bel.trans k.bel⟩
theorem infoB : (Try.prog.info? 4).map (fun i => (i.zero, i.size, i.bytes)) = some (some (.bool false), 1, 1) := by kernel_rfl
theorem nl_start (w : World) (n : Nat) (h : Nat → ON) (bp : Option Addr) (hO : OpsR w bp n (fun i => rO (h i))) (hob : ∀ b off, bp = some ⟨b, off, none⟩ → b < w.heap.size) : NL w (((w.alloc (.cells (madeCells #[.bool false] n) 4)).alloc (.cells #[.slice (some ⟨w.heap.size, 0, none⟩) n n, .bool false, .bool false, .bool false, .bool false, .bool false, .bool false, .bool false, .bool false, .bool false, .bool false, .bool false, .bool false] 205)).alloc (.cells (madeCells #[.bool false] n) 4)) n h bp (neS h n 0).d (neS h n 0).sy := by
  have hb : Below w.heap.size w (((w.alloc (.cells (madeCells #[.bool false] n) 4)).alloc (.cells #[.slice (some ⟨w.heap.size, 0, none⟩) n n, .bool false, .bool false, .bool false, .bool false, .bool false, .bool false, .bool false, .bool false, .bool false, .bool false, .bool false, .bool false] 205)).alloc (.cells (madeCells #[.bool false] n) 4)) := (((Below.refl _ _).alloc (Nat.le_refl _) _).alloc (by simp) _).alloc (by simp; omega) _
  have r1 := World.rowIs_made w (.bool false) n 4
  have r2 := World.rowIs_alloc (w.alloc (.cells (madeCells #[.bool false] n) 4)) #[.slice (some ⟨w.heap.size, 0, none⟩) n n, .bool false, .bool false, .bool false, .bool false, .bool false, .bool false, .bool false, .bool false, .bool false, .bool false, .bool false, .bool false] 205 (ndF w.heap.size n (neS h n 0).d) (fun i hi => by
    have hi' : i < 13 := hi
    match i, hi' with
    | 0, _ | 1, _ | 2, _ | 3, _ | 4, _ | 5, _ | 6, _ | 7, _ | 8, _ | 9, _ | 10, _ | 11, _ | 12, _ => rfl
    | m + 13, q => exact absurd q (by omega))
  have r3 := World.rowIs_made ((w.alloc (.cells (madeCells #[.bool false] n) 4)).alloc (.cells #[.slice (some ⟨w.heap.size, 0, none⟩) n n, .bool false, .bool false, .bool false, .bool false, .bool false, .bool false, .bool false, .bool false, .bool false, .bool false, .bool false, .bool false] 205)) (.bool false) n 4
  rw [show (w.alloc (.cells (madeCells #[.bool false] n) 4)).heap.size = w.heap.size + 1 by simp] at r2
  rw [show ((w.alloc (.cells (madeCells #[.bool false] n) 4)).alloc (.cells #[.slice (some ⟨w.heap.size, 0, none⟩) n n, .bool false, .bool false, .bool false, .bool false, .bool false, .bool false, .bool false, .bool false, .bool false, .bool false, .bool false, .bool false] 205)).heap.size = w.heap.size + 2 by simp] at r3
  exact ⟨⟨r2.alloc _, ((r1.alloc _).alloc _).congr (fun _ _ => rfl), by omega, Nat.le_refl _⟩, r3.congr (fun _ _ => rfl), ops_bel hO hb hob, hb⟩
set_option maxHeartbeats 8000000 in
theorem needed_any (n cap : Nat) (bp : Option Addr) (h : Nat → ON) (w : World) (hO : OpsR w bp n (fun i => rO (h i))) (n1 : 0 < n) (hn : n ≤ 2048) (hk : NeOk h n) :
    Calls Try.prog 57 #[.slice bp n cap] w fun e w' => ∃ sv, e = .returned sv ∧ w'.ownsRow w.heap.size 67 7 sv (keS h (neS h n n).sy n).l.length (onsV (keS h (neS h n n).sy n).l) ∧ Below w.heap.size w w' := by
  obtain ⟨b, off, rfl, hb, hc⟩ := hO n1
  have HO : Hid (OpsR w (some ⟨b, off, none⟩) n (fun i => rO (h i))) := hO
  have HOB : Hid (∀ b' off', (some ⟨b, off, none⟩ : Option Addr) = some ⟨b', off', none⟩ → b' < w.heap.size) := show ∀ b' off', _ from fun b' off' e => by cases e; exact hb
  have HK : Hid _ := hk
  have HN1 : Hid (0 < n) := n1
  have HN2 : Hid (n ≤ 2048) := hn
  have ni : (n : Int) ≤ 2048 := by omega
  have ni0 : (0 : Int) ≤ (n : Int) := by omega
  obtain ⟨i3, hi3, hz3, hs3, hb3⟩ := info_parts infoB
  have hmk := run_make_row 114 4 i3 _ Try.underlying114 hi3 hz3 hs3 rfl .i64 .i64 n (by rw [hb3]; omega) (by omega)
  clear hO hk hc hb
  go_enter Try.func57, Try.ntmps57
  go_upto_region 3 with fail
  refine wp_gen (fun W' => NL w W' n h (some ⟨b, off, none⟩) (neS h n 0).d (neS h n 0).sy) (nl_start w n h _ HO.out HOB.out) ?_
  intro V hV
  have HV : Hid _ := hV
  clear hV hmk
  go_wp2
  go_loopw [5] (fun i' wr => ∃ (k : Nat), i' = .int .i64 ((k : Int) - 1) ∧ k ≤ n ∧ NL w wr n h (some ⟨b, off, none⟩) (neS h n (n - k)).d (neS h n (n - k)).sy) (fun i _ => (intOf i + 1).toNat)
  case atStart => exact ⟨n, rfl, Nat.le_refl _, by rw [Nat.sub_self]; exact HV.out⟩
  case round =>
    obtain ⟨k, rfl, hkn, hS⟩ := hrel
    have HL : Hid _ := hS
    clear hS HV
    by_cases h0 : k = 0
    · subst h0
      have HL2 : Hid (NL w wr n h (some ⟨b, off, none⟩) (neS h n n).d (neS h n n).sy) := HL.out
      go_wp2_with (go_at_call 120; refine (kept_any n cap _ h (neS h n n).sy (w.heap.size + 2) _ HL2.out.ops HL2.out.sr HN1.out HN2.out HK.out.tk).mono ?_; rintro e w2 ⟨sv, rfl, h2, k2⟩; have H2 : Hid _ := h2; have K2 : Hid _ := k2; clear h2 k2)
      go_ret
      refine ⟨sv, rfl, ?_, HL.out.bel.trans (K2.out.mono HL.out.bel.size)⟩
      have h2 := H2.out
      refine ⟨h2.1, ?_⟩
      rcases h2.2 with ⟨hv, h0⟩ | ⟨g', c', cur, hv, hb', hh, h1, h2', h3, h4⟩
      · exact Or.inl ⟨hv, h0⟩
      · exact Or.inr ⟨g', c', cur, hv, Nat.le_trans HL.out.bel.size hb', hh, h1, h2', h3, h4⟩
    · obtain ⟨p, rfl⟩ : ∃ p, k = p + 1 := ⟨k - 1, by omega⟩
      rw [show ((p + 1 : Nat) : Int) - 1 = (p : Int) by omega]
      have hp : p < n := by omega
      have HP : Hid (p < n) := hp
      obtain ⟨m, HM⟩ : ∃ m, Hid (n - (p + 1) = m) := ⟨_, rfl⟩
      have HM2 : Hid (n - p = m + 1) := show _ = _ by have := HM.out; omega
      have HM3 : Hid (n - 1 - m = p) := show _ = _ by have := HM.out; omega
      rw [HM.out] at HL
      obtain ⟨d, HD⟩ : ∃ d, Hid ((neS h n m).d = d) := ⟨_, rfl⟩
      obtain ⟨sy, HSY⟩ : ∃ sy, Hid ((neS h n m).sy = sy) := ⟨_, rfl⟩
      rw [HD.out, HSY.out] at HL
      obtain ⟨B, HB⟩ : ∃ B, Hid (staB d p (h p) = B) := ⟨_, rfl⟩
      have HNX : Hid (neS h n (m + 1) = ⟨if B then askN d (h p) else d, upd sy p B⟩) := show neS h n (m + 1) = _ by
        show NS.mk (if staB (neS h n m).d (n - 1 - m) (h (n - 1 - m)) then _ else _) (upd _ _ _) = _
        rw [HM3.out, HD.out, HSY.out, HB.out]
      have pi : (p : Int) < (n : Int) := by omega
      have p0 : (0 : Int) ≤ (p : Int) := by omega
      have dp : decide ((0 : Int) ≤ (p : Int)) = true := decide_eq_true p0
      obtain ⟨b', off', e', lb', hc'⟩ := HL.out.ops HN1.out
      cases e'
      have hop := hc' p hp
      have m0 : wr.cell? ⟨b, off + p * 7, none⟩ = some (.int .i64 (h p).kd) := hop.c0
      have m1 : wr.cell? ⟨b, off + p * 7 + 1, none⟩ = some (.int .i64 (h p).w) := hop.c1
      have m2 : wr.cell? ⟨b, off + p * 7 + 2, none⟩ = some (.int .i64 (h p).a) := hop.c2
      have m3 : wr.cell? ⟨b, off + p * 7 + 3, none⟩ = some (.int .i64 (h p).b) := hop.c3
      have m4 : wr.cell? ⟨b, off + p * 7 + 4, none⟩ = some (.int .i64 (h p).c) := hop.c4
      have m5 : wr.cell? ⟨b, off + p * 7 + 5, none⟩ = some (.int .u32 (h p).k) := hop.c5
      have m6 : wr.cell? ⟨b, off + p * 7 + 6, none⟩ = some (.int .i64 (h p).n) := hop.c6
      have sl := HL.out.sr.lt
      have sf := HL.out.sr.frozen
      have sc : wr.cell? ⟨w.heap.size + 2, p, none⟩ = some (.bool (sy p)) := HL.out.sr.cell (i := p) hp
      have lbW : b < wr.heap.size := lb'
      have nb2 : b ≠ w.heap.size + 2 := by have := HOB.out b off rfl; omega
      clear hop hc' hp h0 hkn lb'
      have ARM : True := trivial
      cases B with
      | true =>
        go_wp2_with (first
          | (go_at_call 118; refine (stays_any w.heap.size (w.heap.size + 1) w.heap.size n d p (h p) _ HL.out.nw HP.out (fun q => HK.out.w p HP.out (.inr q))).mono ?_; rintro e w1 ⟨rfl, h1⟩; rw [HB.out]; have H1 : Hid _ := HL.out.below h1; have s1 := H1.out.sr.lt; have sf1 := H1.out.sr.frozen; have sc1 : w1.cell? ⟨w.heap.size + 2, p, none⟩ = some (.bool (sy p)) := H1.out.sr.cell (i := p) HP.out; have lb1 : b < w1.heap.size := Nat.lt_of_lt_of_le lbW h1.size; have mm0 := (h1.cell (p := ⟨b, off + p * 7, none⟩) lbW).trans m0; have mm1 := (h1.cell (p := ⟨b, off + p * 7 + 1, none⟩) lbW).trans m1; have mm2 := (h1.cell (p := ⟨b, off + p * 7 + 2, none⟩) lbW).trans m2; have mm3 := (h1.cell (p := ⟨b, off + p * 7 + 3, none⟩) lbW).trans m3; have mm4 := (h1.cell (p := ⟨b, off + p * 7 + 4, none⟩) lbW).trans m4; have mm5 := (h1.cell (p := ⟨b, off + p * 7 + 5, none⟩) lbW).trans m5; have mm6 := (h1.cell (p := ⟨b, off + p * 7 + 6, none⟩) lbW).trans m6; have H2 : Hid _ := H1.out.set HOB.out p true; clear h1)
          | (go_at_call 119; refine (asks_any w.heap.size (w.heap.size + 1) w.heap.size n d (h p) _ H2.out.nw H2.out.bel.size (HK.out.k1 p HP.out) (HK.out.k2 p HP.out) (HK.out.tk p HP.out) (HK.out.w p HP.out)).mono ?_; rintro e w3 ⟨rfl, h3, k3⟩; have H3 : Hid _ := H2.out.kn HOB.out h3 k3; clear h3 k3))
        go_round
        case rel => exact ⟨p, by go_num, by have := HP.out; omega, by rw [HM2.out, HNX.out]; exact H3.out⟩
        case measure => (have := HP.out; simp [intOf])
      | false =>
        go_wp2_with (go_at_call 118; refine (stays_any w.heap.size (w.heap.size + 1) w.heap.size n d p (h p) _ HL.out.nw HP.out (fun q => HK.out.w p HP.out (.inr q))).mono ?_; rintro e w1 ⟨rfl, h1⟩; rw [HB.out]; have H1 : Hid _ := HL.out.below h1; have s1 := H1.out.sr.lt; have sf1 := H1.out.sr.frozen; have sc1 : w1.cell? ⟨w.heap.size + 2, p, none⟩ = some (.bool (sy p)) := H1.out.sr.cell (i := p) HP.out; have H2 : Hid _ := H1.out.set HOB.out p false; clear h1)
        go_round
        case rel => exact ⟨p, by go_num, by have := HP.out; omega, by rw [HM2.out, HNX.out]; exact H2.out⟩
        case measure => (have := HP.out; simp [intOf])
end Go.Proofs.Ytmnifblbacgeoab
