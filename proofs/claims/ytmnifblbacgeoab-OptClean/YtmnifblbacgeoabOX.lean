import Derived.Test.YtmnifblbacgeoabOW
namespace Go.Proofs.Ytmnifblbacgeoab
open Go.RowKit
open Go.Maps
set_option maxRecDepth 100000
set_option linter.unusedVariables false
set_option linter.unusedSimpArgs false

/-- Which values are taken by the first m operations. -/
def usd (h : Nat → ON) : Nat → (Nat → Bool)
  | 0 => fun _ => false
  | m + 1 => tkSet (usd h m) (h m) (tkN (h m).kd)
structure SU (w W : World) (b off n : Nat) (h : Nat → ON) (u : Nat → Bool) : Prop where
  r : W.rowIs w.heap.size 4 n (fun i => .bool (u i))
  l : LW w W b off n h
theorem SU.below {w W W' : World} {b off n : Nat} {h : Nat → ON} {u : Nat → Bool} (x : SU w W b off n h u) (k : Below W.heap.size W W') : SU w W' b off n h u :=
  ⟨x.r.of_block (k.block _ x.r.lt), ⟨x.l.ops, x.l.lb, x.l.bel.trans (k.mono x.l.bel.size)⟩⟩
theorem SU.set {w W : World} {b off n : Nat} {h : Nat → ON} {u : Nat → Bool} (x : SU w W b off n h u) (i : Nat) : SU w (W.setCell ⟨w.heap.size, i, none⟩ (.bool true)) b off n h (upd u i true) :=
  ⟨(x.r.set i _).congr (fun k _ => by (unfold upd; by_cases e : k = i <;> simp [e])), ⟨x.l.ops, x.l.lb, x.l.bel.setCell (Nat.le_refl _) _⟩⟩
/-- What takes gave, of a world that others turn. -/
structure TW (W : World) (p : Option Addr) (o : ON) (B : Nat) : Prop where
  t : 0 < tkN o.kd → ∃ H, p = some ⟨H, 0, none⟩ ∧ B ≤ H ∧ W.heap[H]? = some (.cells (argA o (tkN o.kd)) 3)
theorem TW.set {W : World} {p : Option Addr} {o : ON} {B : Nat} (x : TW W p o B) {X : Nat} (hX : X < B) (i : Nat) (v : Value) : TW (W.setCell ⟨X, i, none⟩ v) p o B :=
  ⟨fun h => by obtain ⟨H, e, hb, hh⟩ := x.t h; exact ⟨H, e, hb, (blk_other (by omega) v).trans hh⟩⟩
set_option maxHeartbeats 8000000 in
theorem idle_any (n cap b off : Nat) (h : Nat → ON) (w : World) (hO : OpsR w (some ⟨b, off, none⟩) n (fun i => rO (h i))) (lb : b < w.heap.size) (n1 : 0 < n) (hn : n ≤ 2048) (hk : ∀ i, i < n → 1 ≤ (h i).kd ∧ (h i).kd ≤ 17) (ht : ∀ i, i < n → ∀ q, q < tkN (h i).kd → arg (h i) q < n) (hc : ∀ k, k < n → rgiv ((h k).kd : Int) = true → (h k).kd ≠ 9 → usd h n k = true) :
    Calls Try.prog 20 #[.slice (some ⟨b, off, none⟩) n cap] w fun e w' => e = .returned (.bool true) ∧ Below w.heap.size w w' := by
  have HO : Hid (OpsR w (some ⟨b, off, none⟩) n (fun i => rO (h i))) := hO
  have HLB : Hid (b < w.heap.size) := lb
  have HK : Hid (∀ i, i < n → 1 ≤ (h i).kd ∧ (h i).kd ≤ 17) := hk
  have HT : Hid (∀ i, i < n → ∀ q, q < tkN (h i).kd → arg (h i) q < n) := ht
  have HC : Hid (∀ k, k < n → rgiv ((h k).kd : Int) = true → (h k).kd ≠ 9 → usd h n k = true) := hc
  have ni : (n : Int) ≤ 2048 := by omega
  have ni0 : (0 : Int) ≤ (n : Int) := by omega
  obtain ⟨i3, hi3, hz3, hs3, hb3⟩ := info_parts infoB
  have hmk := run_make_row 114 4 i3 _ Try.underlying114 hi3 hz3 hs3 rfl .i64 .i64 n (by rw [hb3]; omega) (by omega)
  clear hO hk ht hc lb
  go_enter Try.func20, Try.ntmps20
  go_upto_region 2 with fail
  refine wp_gen (fun W' => SU w W' b off n h (usd h 0)) ⟨(World.rowIs_made w (.bool false) n 4).congr (fun _ _ => rfl), ⟨HO.out, HLB.out, (Below.refl _ _).alloc (Nat.le_refl _) _⟩⟩ ?_
  intro V hV
  have HV : Hid _ := hV
  clear hV hmk
  go_wp2
  go_loopw [15] (fun i' wr => ∃ j : Nat, i' = .int .i64 j ∧ j ≤ n ∧ SU w wr b off n h (usd h j)) (fun i _ => n - (intOf i).toNat)
  case atStart => exact ⟨0, rfl, by omega, HV.out⟩
  case round =>
    obtain ⟨j, rfl, hj, hS⟩ := hrel
    have HS : Hid _ := hS
    have HJ : Hid (j ≤ n) := hj
    clear hS HV
    by_cases hlt : j < n
    · have hji : (j : Int) < (n : Int) := by omega
      have dj : decide ((j : Int) < (n : Int)) = true := decide_eq_true hji
      have j0 : (0 : Int) ≤ (j : Int) := by omega
      have HLT : Hid (j < n) := hlt
      have hop := HS.out.l.at_ j hlt
      have m0 : wr.cell? ⟨b, off + j * 7, none⟩ = some (.int .i64 (h j).kd) := hop.c0
      have m1 : wr.cell? ⟨b, off + j * 7 + 1, none⟩ = some (.int .i64 (h j).w) := hop.c1
      have m2 : wr.cell? ⟨b, off + j * 7 + 2, none⟩ = some (.int .i64 (h j).a) := hop.c2
      have m3 : wr.cell? ⟨b, off + j * 7 + 3, none⟩ = some (.int .i64 (h j).b) := hop.c3
      have m4 : wr.cell? ⟨b, off + j * 7 + 4, none⟩ = some (.int .i64 (h j).c) := hop.c4
      have m5 : wr.cell? ⟨b, off + j * 7 + 5, none⟩ = some (.int .u32 (h j).k) := hop.c5
      have m6 : wr.cell? ⟨b, off + j * 7 + 6, none⟩ = some (.int .i64 (h j).n) := hop.c6
      have lbW : b < wr.heap.size := Nat.lt_of_lt_of_le HLB.out HS.out.l.bel.size
      have lb1 := Nat.lt_succ_of_lt lbW
      have nbW : b ≠ wr.heap.size := by omega
      have HA : Hid _ := HS.out.below ((Below.refl wr.heap.size wr).alloc (Nat.le_refl _) (.cells #[.int .i64 (h j).kd, .int .i64 (h j).w, .int .i64 (h j).a, .int .i64 (h j).b, .int .i64 (h j).c, .int .u32 (h j).k, .int .i64 (h j).n] 67))
      have HK1 : Hid (1 ≤ (h j).kd ∧ (h j).kd ≤ 17) := HK.out j hlt
      obtain ⟨t, HTN⟩ : ∃ t, Hid (tkN (h j).kd = t) := ⟨_, rfl⟩
      have HT3 : Hid (t ≤ 3) := HTN.out ▸ (tkN_le (h j).kd).1
      have t3 : (t : Int) ≤ 3 := by have := HT3.out; omega
      have t0 : (0 : Int) ≤ (t : Int) := by omega
      obtain ⟨Bn, HBn⟩ : ∃ Bn, Hid (wr.heap.size + 1 = Bn) := ⟨_, rfl⟩
      have HBw : Hid (w.heap.size < Bn) := show w.heap.size < Bn by have := HBn.out; have := HS.out.l.bel.size; omega
      clear hop hlt
      go_wp2_with (go_at_call 65; refine (tks_any (h j) _ HK1.out.1 HK1.out.2).mono ?_; rintro e w1 ⟨p, cp, rfl, hp, h1⟩; have H1 : Hid _ := HA.out.below h1; have HTW : Hid (TW w1 p (h j) Bn) := ⟨fun q => (by obtain ⟨H, e1, e2, e3⟩ := hp q; rw [al_size, HBn.out] at e2; exact ⟨H, e1, e2, e3⟩)⟩; rw [HTN.out]; clear hp h1)
      go_loopw [22] (fun i' W => ∃ q : Nat, i' = .int .i64 q ∧ q ≤ t ∧ SU w W b off n h (tkSet (usd h j) (h j) q) ∧ TW W p (h j) Bn) (fun i _ => t - (intOf i).toNat)
      case atStart => exact ⟨0, rfl, by omega, H1.out, HTW.out⟩
      case round =>
        clear m0 m1 m2 m3 m4 m5 m6 lbW lb1 nbW HA HS H1 HTW
        obtain ⟨q, rfl, hq, hS, hT⟩ := hrel
        have HS2 : Hid _ := hS
        have HT2 : Hid _ := hT
        have ul := hS.r.lt
        have uf := hS.r.frozen
        have HQ : Hid (q ≤ t) := hq
        clear hS hT
        by_cases hqt : q < t
        · obtain ⟨H, hp, hbH, hH⟩ := HT2.out.t (by rw [HTN.out]; omega)
          subst hp
          have q0 : (0 : Int) ≤ (q : Int) := by omega
          have q1 : (q : Int) < (t : Int) := by omega
          have dq : decide ((q : Int) < (t : Int)) = true := decide_eq_true q1
          have lH := row_lt hH
          have HAN : Hid (arg (h j) q < n) := HT.out j HLT.out q (by rw [HTN.out]; exact hqt)
          have cq : wr.cell? ⟨H, q, none⟩ = some (.int .i64 (arg (h j) q)) := (row_cell hH q).trans (argA_at (h j) _ q (by rw [HTN.out]; exact hqt) (by rw [HTN.out]; exact HT3.out))
          have cu : wr.cell? ⟨w.heap.size, arg (h j) q, none⟩ = some (.bool (tkSet (usd h j) (h j) q (arg (h j) q))) := HS2.out.r.cell (i := arg (h j) q) HAN.out
          have a0 : (0 : Int) ≤ (arg (h j) q : Int) := by omega
          have a1 : (arg (h j) q : Int) < (n : Int) := Int.ofNat_lt.2 HAN.out
          have HQT : Hid (q < t) := hqt
          clear hH hqt hq
          go_wp2
          go_round
          case rel => exact ⟨q + 1, by go_num, HQT.out, HS2.out.set _, HT2.out.set HBw.out _ _⟩
          case measure => have := HQT.out; simp [intOf]; omega
        · obtain rfl : q = t := by omega
          have dq : decide ((q : Int) < (q : Int)) = false := decide_eq_false (by omega)
          have HE : Hid (SU w wr b off n h (usd h (j + 1))) := (by have h1 := HS2.out; rw [← HTN.out] at h1; exact h1)
          clear hqt hq
          go_wp2
          go_round
          case rel => exact ⟨j + 1, by go_num, HLT.out, HE.out⟩
          case measure => have := HLT.out; simp [intOf]; omega
    · obtain rfl : j = n := by have := HJ.out; omega
      have dj : decide ((j : Int) < (j : Int)) = false := decide_eq_false (by omega)
      clear hlt hj
      go_wp2
      go_loopw [33] (fun i' W => ∃ k : Nat, i' = .int .i64 k ∧ k ≤ j ∧ SU w W b off j h (usd h j)) (fun i _ => j - (intOf i).toNat)
      case atStart => exact ⟨0, rfl, by omega, HS.out⟩
      case round =>
        clear HS
        obtain ⟨k, rfl, hk, hS⟩ := hrel
        have HS : Hid _ := hS
        have HKJ : Hid (k ≤ j) := hk
        by_cases hlt : k < j
        · have hji : (k : Int) < (j : Int) := by omega
          have dj : decide ((k : Int) < (j : Int)) = true := decide_eq_true hji
          have j0 : (0 : Int) ≤ (k : Int) := by omega
          have HLT : Hid (k < j) := hlt
          have hop := HS.out.l.at_ k hlt
          have m0 : wr.cell? ⟨b, off + k * 7, none⟩ = some (.int .i64 (h k).kd) := hop.c0
          have m1 : wr.cell? ⟨b, off + k * 7 + 1, none⟩ = some (.int .i64 (h k).w) := hop.c1
          have m2 : wr.cell? ⟨b, off + k * 7 + 2, none⟩ = some (.int .i64 (h k).a) := hop.c2
          have m3 : wr.cell? ⟨b, off + k * 7 + 3, none⟩ = some (.int .i64 (h k).b) := hop.c3
          have m4 : wr.cell? ⟨b, off + k * 7 + 4, none⟩ = some (.int .i64 (h k).c) := hop.c4
          have m5 : wr.cell? ⟨b, off + k * 7 + 5, none⟩ = some (.int .u32 (h k).k) := hop.c5
          have m6 : wr.cell? ⟨b, off + k * 7 + 6, none⟩ = some (.int .i64 (h k).n) := hop.c6
          have lbW : b < wr.heap.size := Nat.lt_of_lt_of_le HLB.out HS.out.l.bel.size
          have lb1 := Nat.lt_succ_of_lt lbW
          have nbW : b ≠ wr.heap.size := by omega
          have HA : Hid _ := HS.out.below ((Below.refl wr.heap.size wr).alloc (Nat.le_refl _) (.cells #[.int .i64 (h k).kd, .int .i64 (h k).w, .int .i64 (h k).a, .int .i64 (h k).b, .int .i64 (h k).c, .int .u32 (h k).k, .int .i64 (h k).n] 67))
          have ul := HS.out.r.lt
          have ul1 := Nat.lt_succ_of_lt ul
          have nuW : w.heap.size ≠ wr.heap.size := by omega
          have cu : wr.cell? ⟨w.heap.size, k, none⟩ = some (.bool (usd h j k)) := HS.out.r.cell (i := k) hlt
          obtain ⟨gv, HGV⟩ : ∃ gv, Hid (rgiv ((h k).kd : Int) = gv) := ⟨_, rfl⟩
          have HCC : Hid (gv = true → (h k).kd ≠ 9 → usd h j k = true) := (by have h1 := HC.out k hlt; rw [HGV.out] at h1; exact h1)
          clear hop hlt hS hk
          cases gv with
          | false =>
            go_wp2_with (go_at_call 66; refine (rgives_any (h k).kd _).mono ?_; rintro e w1 ⟨rfl, rfl⟩; rw [HGV.out])
            go_round
            case rel => exact ⟨k + 1, by go_num, HLT.out, HA.out⟩
            case measure => have := HLT.out; simp [intOf]; omega
          | true =>
            by_cases h9 : (h k).kd = 9
            · have i9 : ((h k).kd : Int) = 9 := by omega
              have d9 : (((h k).kd : Int) == 9) = true := by rw [i9]; rfl
              have HI9 : Hid _ := i9
              clear h9 i9
              go_wp2_with (go_at_call 66; refine (rgives_any (h k).kd _).mono ?_; rintro e w1 ⟨rfl, rfl⟩; rw [HGV.out])
              go_round
              case rel => exact ⟨k + 1, by go_num, HLT.out, by first | exact HA.out | (have h1 := HA.out; rw [HI9.out] at h1; exact h1)⟩
              case measure => have := HLT.out; simp [intOf]; omega
            · have i9 : ¬ ((h k).kd : Int) = 9 := by omega
              have d9 : (((h k).kd : Int) == 9) = false := by simpa using i9
              rw [HCC.out rfl h9] at cu
              clear h9
              go_wp2_with (go_at_call 66; refine (rgives_any (h k).kd _).mono ?_; rintro e w1 ⟨rfl, rfl⟩; rw [HGV.out])
              go_round
              case rel => exact ⟨k + 1, by go_num, HLT.out, HA.out⟩
              case measure => have := HLT.out; simp [intOf]; omega
        · obtain rfl : k = j := by omega
          have dj : decide ((k : Int) < (k : Int)) = false := decide_eq_false (by omega)
          clear hlt hk hS
          go_wp2
          go_ret
          exact ⟨rfl, HS.out.l.bel⟩
end Go.Proofs.Ytmnifblbacgeoab
