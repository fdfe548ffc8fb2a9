import Derived.Test.YtmnifblbacgeoabOZ
namespace Go.Proofs.Ytmnifblbacgeoab
open Go.RowKit
open Go.Maps
set_option maxRecDepth 100000
set_option linter.unusedVariables false
set_option linter.unusedSimpArgs false

structure SLs where
  hs : Nat → Option Nat
  op : Nat → Bool
/-- Rules 5, 6 and 7: what a slot has, and whether it was put last, unseen. -/
def slN (x : SLs) (k : Nat) (o : ON) : SLs :=
  if o.kd = 2 then ⟨upd x.hs o.w (some k), x.op⟩ else if o.kd = 3 then ⟨upd x.hs o.w (some o.a), upd x.op o.w true⟩
  else if o.kd = 17 then ⟨x.hs, fun i => if 8 ≤ i then false else x.op i⟩ else if lvB o.kd then ⟨x.hs, fun _ => false⟩ else x
def slS (h : Nat → ON) : Nat → SLs
  | 0 => ⟨fun _ => none, fun _ => false⟩
  | k + 1 => slN (slS h k) k (h k)
structure SlC (x : SLs) (o : ON) : Prop where
  g : o.kd = 2 → x.hs o.w = none
  p : o.kd = 3 → x.hs o.w ≠ some o.a ∧ x.op o.w = false
  w : o.kd = 2 ∨ o.kd = 3 → o.w < 12
structure SQ (w W : World) (b off n : Nat) (h : Nat → ON) (x : SLs) : Prop where
  hx : W.rowIs w.heap.size 119 12 (fun i => .int .i64 (oI (x.hs i)))
  hy : W.rowIs (w.heap.size + 1) 120 12 (fun i => .bool (x.op i))
  l : LW w W b off n h
theorem SQ.below {w W W' : World} {b off n : Nat} {h : Nat → ON} {x : SLs} (q : SQ w W b off n h x) (k : Below W.heap.size W W') : SQ w W' b off n h x :=
  ⟨q.hx.of_block (k.block _ q.hx.lt), q.hy.of_block (k.block _ q.hy.lt), q.l.below k⟩
theorem SQ.setH {w W : World} {b off n : Nat} {h : Nat → ON} {x : SLs} (q : SQ w W b off n h x) (i : Nat) (v : Option Nat) : SQ w (W.setCell ⟨w.heap.size, i, none⟩ (.int .i64 (oI v))) b off n h ⟨upd x.hs i v, x.op⟩ :=
  ⟨(q.hx.set i _).congr (fun k _ => by (unfold upd; by_cases e : k = i <;> simp [e])), q.hy.setOther (by show w.heap.size + 1 ≠ w.heap.size; omega) _, ⟨q.l.ops, q.l.lb, q.l.bel.setCell (Nat.le_refl _) _⟩⟩
theorem SQ.setO {w W : World} {b off n : Nat} {h : Nat → ON} {x : SLs} (q : SQ w W b off n h x) (i : Nat) (v : Bool) : SQ w (W.setCell ⟨w.heap.size + 1, i, none⟩ (.bool v)) b off n h ⟨x.hs, upd x.op i v⟩ :=
  ⟨q.hx.setOther (by show w.heap.size ≠ w.heap.size + 1; omega) _, (q.hy.set i _).congr (fun k _ => by (unfold upd; by_cases e : k = i <;> simp [e])), ⟨q.l.ops, q.l.lb, q.l.bel.setCell (by show w.heap.size ≤ w.heap.size + 1; omega) _⟩⟩
theorem SQ.congr {w W : World} {b off n : Nat} {h : Nat → ON} {x y : SLs} (q : SQ w W b off n h x) (h1 : ∀ i, i < 12 → x.hs i = y.hs i) (h2 : ∀ i, i < 12 → x.op i = y.op i) : SQ w W b off n h y :=
  ⟨q.hx.congr (fun i hi => by rw [h1 i hi]), q.hy.congr (fun i hi => by rw [h2 i hi]), q.l⟩
/-- All of them are seen. -/
theorem SQ.clear {w W : World} {b off n : Nat} {h : Nat → ON} {x : SLs} (q : SQ w W b off n h x) : SQ w ((((((((((((W.setCell ⟨w.heap.size + 1, 0, none⟩ (.bool false)).setCell ⟨w.heap.size + 1, 1, none⟩ (.bool false)).setCell ⟨w.heap.size + 1, 2, none⟩ (.bool false)).setCell ⟨w.heap.size + 1, 3, none⟩ (.bool false)).setCell ⟨w.heap.size + 1, 4, none⟩ (.bool false)).setCell ⟨w.heap.size + 1, 5, none⟩ (.bool false)).setCell ⟨w.heap.size + 1, 6, none⟩ (.bool false)).setCell ⟨w.heap.size + 1, 7, none⟩ (.bool false)).setCell ⟨w.heap.size + 1, 8, none⟩ (.bool false)).setCell ⟨w.heap.size + 1, 9, none⟩ (.bool false)).setCell ⟨w.heap.size + 1, 10, none⟩ (.bool false)).setCell ⟨w.heap.size + 1, 11, none⟩ (.bool false)) b off n h ⟨x.hs, fun _ => false⟩ :=
  ((((((((((((q.setO 0 false).setO 1 false).setO 2 false).setO 3 false).setO 4 false).setO 5 false).setO 6 false).setO 7 false).setO 8 false).setO 9 false).setO 10 false).setO 11 false).congr (fun _ _ => rfl) (fun i hi => by
    show upd (upd (upd (upd (upd (upd (upd (upd (upd (upd (upd (upd (x.op) 0 false) 1 false) 2 false) 3 false) 4 false) 5 false) 6 false) 7 false) 8 false) 9 false) 10 false) 11 false i = false
    rcases (by omega : i = 0 ∨ i = 1 ∨ i = 2 ∨ i = 3 ∨ i = 4 ∨ i = 5 ∨ i = 6 ∨ i = 7 ∨ i = 8 ∨ i = 9 ∨ i = 10 ∨ i = 11) with rfl | rfl | rfl | rfl | rfl | rfl | rfl | rfl | rfl | rfl | rfl | rfl <;> rfl)
structure SP (w W : World) (b off n : Nat) (h : Nat → ON) (x : SLs) (X : Nat) (o : ON) : Prop where
  q : SQ w W b off n h x
  bx : W.heap[X]? = some (.cells #[.int .i64 o.kd, .int .i64 o.w, .int .i64 o.a, .int .i64 o.b, .int .i64 o.c, .int .u32 o.k, .int .i64 o.n] 67)
  lX : w.heap.size + 1 < X
theorem SP.below {w W W' : World} {b off n : Nat} {h : Nat → ON} {x : SLs} {X : Nat} {o : ON} (p : SP w W b off n h x X o) (k : Below W.heap.size W W') : SP w W' b off n h x X o := ⟨p.q.below k, (k.block _ (row_lt p.bx)).trans p.bx, p.lX⟩
theorem SP.setH {w W : World} {b off n : Nat} {h : Nat → ON} {x : SLs} {X : Nat} {o : ON} (p : SP w W b off n h x X o) (i : Nat) (v : Option Nat) : SP w (W.setCell ⟨w.heap.size, i, none⟩ (.int .i64 (oI v))) b off n h ⟨upd x.hs i v, x.op⟩ X o := ⟨p.q.setH i v, (blk_other (by have := p.lX; omega) _).trans p.bx, p.lX⟩
theorem SP.setO {w W : World} {b off n : Nat} {h : Nat → ON} {x : SLs} {X : Nat} {o : ON} (p : SP w W b off n h x X o) (i : Nat) (v : Bool) : SP w (W.setCell ⟨w.heap.size + 1, i, none⟩ (.bool v)) b off n h ⟨x.hs, upd x.op i v⟩ X o := ⟨p.q.setO i v, (blk_other (by have := p.lX; omega) _).trans p.bx, p.lX⟩
theorem sq_start (w : World) (b off n : Nat) (h : Nat → ON) (hO : OpsR w (some ⟨b, off, none⟩) n (fun i => rO (h i))) (lb : b < w.heap.size) : SQ w ((w.alloc (.cells #[.int .i64 0, .int .i64 0, .int .i64 0, .int .i64 0, .int .i64 0, .int .i64 0, .int .i64 0, .int .i64 0, .int .i64 0, .int .i64 0, .int .i64 0, .int .i64 0] 119)).alloc (.cells #[.bool false, .bool false, .bool false, .bool false, .bool false, .bool false, .bool false, .bool false, .bool false, .bool false, .bool false, .bool false] 120)) b off n h ⟨fun _ => some 0, fun _ => false⟩ := by
  have r1 := World.rowIs_alloc w #[.int .i64 0, .int .i64 0, .int .i64 0, .int .i64 0, .int .i64 0, .int .i64 0, .int .i64 0, .int .i64 0, .int .i64 0, .int .i64 0, .int .i64 0, .int .i64 0] 119 (fun i => .int .i64 (oI (some 0))) (fun i hi => by
    have hi' : i < 12 := hi
    rcases (by omega : i = 0 ∨ i = 1 ∨ i = 2 ∨ i = 3 ∨ i = 4 ∨ i = 5 ∨ i = 6 ∨ i = 7 ∨ i = 8 ∨ i = 9 ∨ i = 10 ∨ i = 11) with rfl | rfl | rfl | rfl | rfl | rfl | rfl | rfl | rfl | rfl | rfl | rfl <;> rfl)
  have r2 := World.rowIs_alloc (w.alloc (.cells #[.int .i64 0, .int .i64 0, .int .i64 0, .int .i64 0, .int .i64 0, .int .i64 0, .int .i64 0, .int .i64 0, .int .i64 0, .int .i64 0, .int .i64 0, .int .i64 0] 119)) #[.bool false, .bool false, .bool false, .bool false, .bool false, .bool false, .bool false, .bool false, .bool false, .bool false, .bool false, .bool false] 120 (fun i => .bool false) (fun i hi => by
    have hi' : i < 12 := hi
    rcases (by omega : i = 0 ∨ i = 1 ∨ i = 2 ∨ i = 3 ∨ i = 4 ∨ i = 5 ∨ i = 6 ∨ i = 7 ∨ i = 8 ∨ i = 9 ∨ i = 10 ∨ i = 11) with rfl | rfl | rfl | rfl | rfl | rfl | rfl | rfl | rfl | rfl | rfl | rfl <;> rfl)
  rw [al_size] at r2
  exact ⟨r1.alloc _, r2, ⟨hO, lb, ((Below.refl _ _).alloc (Nat.le_refl _) _).alloc (by simp) _⟩⟩
def sfi (j : Nat) : SLs := ⟨fun i => if i < j then none else some 0, fun _ => false⟩
set_option maxHeartbeats 16000000 in
theorem slots_any (n cap b off : Nat) (h : Nat → ON) (w : World) (hO : OpsR w (some ⟨b, off, none⟩) n (fun i => rO (h i))) (lb : b < w.heap.size) (n1 : 0 < n) (hn : n ≤ 2048) (hf : ∀ k, k < n → SlC (slS h k) (h k)) :
    Calls Try.prog 23 #[.slice (some ⟨b, off, none⟩) n cap] w fun e w' => e = .returned (.bool true) ∧ Below w.heap.size w w' := by
  have HO : Hid (OpsR w (some ⟨b, off, none⟩) n (fun i => rO (h i))) := hO
  have HLB : Hid (b < w.heap.size) := lb
  have HF : Hid (∀ k, k < n → SlC (slS h k) (h k)) := hf
  have ni : (n : Int) ≤ 2048 := by omega
  have ni0 : (0 : Int) ≤ (n : Int) := by omega
  clear hO hf lb
  go_enter Try.func23, Try.ntmps23
  go_upto_region 3 with fail
  refine wp_gen (fun W' => SQ w W' b off n h (sfi 0)) ((sq_start w b off n h HO.out HLB.out).congr (fun _ _ => rfl) (fun _ _ => rfl)) ?_
  intro V hV
  have HV : Hid _ := hV
  clear hV
  go_wp2
  go_loopw [9] (fun i' wr => ∃ j : Nat, i' = .int .i64 j ∧ j ≤ 12 ∧ SQ w wr b off n h (sfi j)) (fun i _ => 12 - (intOf i).toNat)
  case atStart => exact ⟨0, rfl, by omega, HV.out⟩
  case round =>
    clear HV
    obtain ⟨j, rfl, hj, hS⟩ := hrel
    have HS : Hid _ := hS
    by_cases hlt : j < 12
    · have j0 : (0 : Int) ≤ (j : Int) := by omega
      have j1 : (j : Int) < 12 := by omega
      have dj : decide ((j : Int) < 12) = true := decide_eq_true j1
      have cj : wr.cell? ⟨w.heap.size, j, none⟩ = some (.int .i64 (oI ((sfi j).hs j))) := hS.hx.cell (i := j) hlt
      have xf := hS.hx.frozen
      have xl := hS.hx.lt
      have HLT : Hid (j < 12) := hlt
      clear hlt hS hj
      go_wp2
      go_round
      case rel => exact ⟨j + 1, by go_num, HLT.out, (HS.out.setH j none).congr (fun i _ => by
        show upd (fun i => if i < j then none else some 0) j none i = if i < j + 1 then none else some 0
        unfold upd
        by_cases e : i = j
        · subst e; simp
        · by_cases h2 : i < j
          · simp [e, h2, Nat.lt_succ_of_lt h2]
          · simp [e, h2, show ¬ i < j + 1 by omega]) (fun _ _ => rfl)⟩
      case measure => have := HLT.out; simp [intOf]; omega
    · obtain rfl : j = 12 := by omega
      have HS0 : Hid (SQ w wr b off n h (slS h 0)) := HS.out.congr (fun i hi => by show (if i < 12 then none else some 0) = none; rw [if_pos hi]) (fun _ _ => rfl)
      clear hlt hS hj HS
      go_upto_region 8 with fail
      rw [show ((12 : Nat) : Int) = 12 from rfl]
      go_wp2
      go_loopw [17] (fun i' W => ∃ j : Nat, i' = .int .i64 j ∧ j ≤ n ∧ SQ w W b off n h (slS h j)) (fun i _ => n - (intOf i).toNat)
      case atStart => exact ⟨0, rfl, by omega, HS0.out⟩
      case round =>
        clear HS0
        obtain ⟨j, rfl, hj, hS⟩ := hrel
        have HS : Hid _ := hS
        have HJ : Hid (j ≤ n) := hj
        by_cases hlt : j < n
        · have hji : (j : Int) < (n : Int) := by omega
          have dj : decide ((j : Int) < (n : Int)) = true := decide_eq_true hji
          have j0 : (0 : Int) ≤ (j : Int) := by omega
          have HLT : Hid (j < n) := hlt
          have hop := HS.out.l.at_ j hlt
          have m0 : wr.cell? ⟨b, off + j * 7, none⟩ = some (.int .i64 (h j).kd) := hop.c0
          have m1 : wr.cell? ⟨b, off + j * 7 + 1, none⟩ = some (.int .i64 (h j).w) := hop.c1
          have m2 : wr.cell? ⟨b, off + j * 7 + 2, none⟩ = some (.int .i64 (h j).a) := hop.c2
          have m3 : wr.cell? ⟨b, off + j * 7 + 3, none⟩ = some (.int .i64 (h j).b) := hop.c3
          have m4 : wr.cell? ⟨b, off + j * 7 + 4, none⟩ = some (.int .i64 (h j).c) := hop.c4
          have m5 : wr.cell? ⟨b, off + j * 7 + 5, none⟩ = some (.int .u32 (h j).k) := hop.c5
          have m6 : wr.cell? ⟨b, off + j * 7 + 6, none⟩ = some (.int .i64 (h j).n) := hop.c6
          have lbW : b < wr.heap.size := Nat.lt_of_lt_of_le HLB.out HS.out.l.bel.size
          have HA : Hid (SP w _ b off n h (slS h j) wr.heap.size (h j)) := ⟨HS.out.below ((Below.refl wr.heap.size wr).alloc (Nat.le_refl _) (.cells #[.int .i64 (h j).kd, .int .i64 (h j).w, .int .i64 (h j).a, .int .i64 (h j).b, .int .i64 (h j).c, .int .u32 (h j).k, .int .i64 (h j).n] 67)), heap_alloc_last _ _, HS.out.hy.lt⟩
          have HFO : Hid (SlC (slS h j) (h j)) := HF.out j hlt
          clear hop hlt hS hj
          go_upto_region 11 with fail
          obtain ⟨Bn, HBn⟩ : ∃ Bn, Hid (wr.heap.size = Bn) := ⟨_, rfl⟩
          refine wp_gen (fun W' => SP w W' b off n h (slS h j) Bn (h j)) (HBn.out ▸ HA.out) ?_
          rw [HBn.out]
          clear m0 m1 m2 m3 m4 m5 m6 lbW HA HS HBn
          intro U hU
          have HU : Hid _ := hU
          obtain ⟨x, HX⟩ : ∃ x, Hid (slS h j = x) := ⟨_, rfl⟩
          rw [HX.out] at HU hU HFO
          have kl := row_lt hU.bx
          have k0 := row_cell hU.bx 0
          have k1 := row_cell hU.bx 1
          have k2 := row_cell hU.bx 2
          have k3 := row_cell hU.bx 3
          have k4 := row_cell hU.bx 4
          have k5 := row_cell hU.bx 5
          have k6 := row_cell hU.bx 6
          have xl := hU.q.hx.lt
          have xf := hU.q.hx.frozen
          have yl := hU.q.hy.lt
          have yf := hU.q.hy.frozen
          have nB0 : Bn ≠ w.heap.size := by have := hU.lX; omega
          have nB1 : Bn ≠ w.heap.size + 1 := by have := hU.lX; omega
          clear hU
          by_cases h2 : (h j).kd = 2
          · have HN : Hid (slS h (j + 1) = ⟨upd x.hs (h j).w (some j), x.op⟩) := show slN (slS h j) j (h j) = _ by rw [HX.out]; unfold slN; rw [if_pos h2]
            have HW : Hid ((h j).w < 12) := HFO.out.w (.inl h2)
            have w0 : (0 : Int) ≤ ((h j).w : Int) := by omega
            have w1 : ((h j).w : Int) < 12 := by have := HW.out; omega
            have cw : U.cell? ⟨w.heap.size, (h j).w, none⟩ = some (.int .i64 (-1)) := (HU.out.q.hx.cell (i := (h j).w) HW.out).trans (by rw [HFO.out.g h2]; rfl)
            rw [h2] at k0
            clear h2
            go_wp2
            go_round
            case rel => exact ⟨j + 1, by go_num, HLT.out, by rw [HN.out]; exact HU.out.q.setH (h j).w (some j)⟩
            case measure => have := HLT.out; simp [intOf]; omega
          have i2 : ¬ ((h j).kd : Int) = 2 := by omega
          have d2 : (((h j).kd : Int) == 2) = false := by simpa using i2
          by_cases h3 : (h j).kd = 3
          · have HN : Hid (slS h (j + 1) = ⟨upd x.hs (h j).w (some (h j).a), upd x.op (h j).w true⟩) := show slN (slS h j) j (h j) = _ by rw [HX.out]; unfold slN; rw [if_neg h2, if_pos h3]
            have HW : Hid ((h j).w < 12) := HFO.out.w (.inr h3)
            have w0 : (0 : Int) ≤ ((h j).w : Int) := by omega
            have w1 : ((h j).w : Int) < 12 := by have := HW.out; omega
            have dq := oI_ne (HFO.out.p h3).1
            obtain ⟨z, HZ⟩ : ∃ z, Hid (oI (x.hs (h j).w) = z) := ⟨_, rfl⟩
            rw [HZ.out] at dq
            have hz : ¬ z = ((h j).a : Int) := by simpa using dq
            have cw : U.cell? ⟨w.heap.size, (h j).w, none⟩ = some (.int .i64 z) := (HU.out.q.hx.cell (i := (h j).w) HW.out).trans (by rw [HZ.out])
            have cy : U.cell? ⟨w.heap.size + 1, (h j).w, none⟩ = some (.bool false) := (HU.out.q.hy.cell (i := (h j).w) HW.out).trans (by rw [(HFO.out.p h3).2])
            rw [h3] at k0
            clear h2 h3 d2 i2
            go_upto_region 16 with fail
            go_quiet (fail)
            go_wp2
            go_round
            case rel => exact ⟨j + 1, by go_num, HLT.out, by rw [HN.out]; exact ((HU.out.below (below_drewN (Below.refl _ _) _)).setH (h j).w (some (h j).a)).q.setO (h j).w true⟩
            case measure => have := HLT.out; simp [intOf]; omega
          have i3 : ¬ ((h j).kd : Int) = 3 := by omega
          have d3 : (((h j).kd : Int) == 3) = false := by simpa using i3
          by_cases h17 : (h j).kd = 17
          · have HN : Hid (slS h (j + 1) = ⟨x.hs, fun i => if 8 ≤ i then false else x.op i⟩) := show slN (slS h j) j (h j) = _ by rw [HX.out]; unfold slN; rw [if_neg h2, if_neg h3, if_pos h17]
            rw [h17] at k0
            clear h2 h3 h17 d2 i2 d3 i3
            go_wp2
            go_loopw [8] (fun i' W => ∃ q : Nat, i' = .int .i64 q ∧ 8 ≤ q ∧ q ≤ 12 ∧ SQ w W b off n h ⟨x.hs, fun i => if 8 ≤ i ∧ i < q then false else x.op i⟩) (fun i _ => 12 - (intOf i).toNat)
            case atStart => exact ⟨8, rfl, by omega, by omega, HU.out.q.congr (fun _ _ => rfl) (fun i _ => by show x.op i = if 8 ≤ i ∧ i < 8 then false else x.op i; rw [if_neg (by omega)])⟩
            case round =>
              clear HU k0 k1 k2 k3 k4 k5 k6 kl xl xf yl yf nB0 nB1
              obtain ⟨q, rfl, hq8, hq, hS⟩ := hrel
              have HS2 : Hid _ := hS
              by_cases hqt : q < 12
              · have q0 : (0 : Int) ≤ (q : Int) := by omega
                have q1 : (q : Int) < 12 := by omega
                have dq : decide ((q : Int) < 12) = true := decide_eq_true q1
                have yl := hS.hy.lt
                have yf := hS.hy.frozen
                have cy : wr.cell? ⟨w.heap.size + 1, q, none⟩ = some (.bool (if 8 ≤ q ∧ q < q then false else x.op q)) := hS.hy.cell (i := q) hqt
                have HQT : Hid (q < 12) := hqt
                have HQ8 : Hid (8 ≤ q) := hq8
                clear hS hqt hq hq8
                obtain ⟨cv, HCV⟩ : ∃ cv, Hid ((if 8 ≤ q ∧ q < q then false else x.op q) = cv) := ⟨_, rfl⟩
                rw [HCV.out] at cy
                go_wp2
                go_round
                case rel => exact ⟨q + 1, by go_num, Nat.le_succ_of_le HQ8.out, HQT.out, (HS2.out.setO q false).congr (fun _ _ => rfl) (fun i _ => by
                  show upd (fun i => if 8 ≤ i ∧ i < q then false else x.op i) q false i = if 8 ≤ i ∧ i < q + 1 then false else x.op i
                  unfold upd
                  have := HQ8.out
                  by_cases e : i = q
                  · subst e; rw [if_pos rfl, if_pos (by omega)]
                  · rw [if_neg e]
                    show (if 8 ≤ i ∧ i < q then false else x.op i) = _
                    by_cases h2 : 8 ≤ i ∧ i < q
                    · rw [if_pos h2, if_pos (by omega)]
                    · rw [if_neg h2, if_neg (by omega)])⟩
                case measure => have := HQT.out; simp [intOf]; omega
              · obtain rfl : q = 12 := by omega
                have HE : Hid (SQ w wr b off n h (slS h (j + 1))) := (by
                  rw [HN.out]
                  exact HS2.out.congr (fun _ _ => rfl) (fun i hi => by show (if 8 ≤ i ∧ i < 12 then false else x.op i) = if 8 ≤ i then false else x.op i; by_cases h8 : 8 ≤ i; (rw [if_pos ⟨h8, hi⟩, if_pos h8]); (rw [if_neg (fun q => h8 q.1), if_neg h8])))
                clear hqt hq hq8 hS
                go_wp2
                go_round
                case rel => exact ⟨j + 1, by go_num, HLT.out, HE.out⟩
                case measure => have := HLT.out; simp [intOf]; omega
          have i17 : ¬ ((h j).kd : Int) = 17 := by omega
          have d17 : (((h j).kd : Int) == 17) = false := by simpa using i17
          obtain ⟨L, HLv⟩ : ∃ L, Hid (lvB (h j).kd = L) := ⟨_, rfl⟩
          cases L with
          | true =>
            have HN : Hid (slS h (j + 1) = ⟨x.hs, fun _ => false⟩) := show slN (slS h j) j (h j) = _ by rw [HX.out]; unfold slN; rw [if_neg h2, if_neg h3, if_neg h17, if_pos HLv.out]
            have y0 : U.cell? ⟨w.heap.size + 1, 0, none⟩ = some (.bool (x.op 0)) := HU.out.q.hy.cell (i := 0) (by omega)
            have y1 : U.cell? ⟨w.heap.size + 1, 1, none⟩ = some (.bool (x.op 1)) := HU.out.q.hy.cell (i := 1) (by omega)
            have y2 : U.cell? ⟨w.heap.size + 1, 2, none⟩ = some (.bool (x.op 2)) := HU.out.q.hy.cell (i := 2) (by omega)
            have y3 : U.cell? ⟨w.heap.size + 1, 3, none⟩ = some (.bool (x.op 3)) := HU.out.q.hy.cell (i := 3) (by omega)
            have y4 : U.cell? ⟨w.heap.size + 1, 4, none⟩ = some (.bool (x.op 4)) := HU.out.q.hy.cell (i := 4) (by omega)
            have y5 : U.cell? ⟨w.heap.size + 1, 5, none⟩ = some (.bool (x.op 5)) := HU.out.q.hy.cell (i := 5) (by omega)
            have y6 : U.cell? ⟨w.heap.size + 1, 6, none⟩ = some (.bool (x.op 6)) := HU.out.q.hy.cell (i := 6) (by omega)
            have y7 : U.cell? ⟨w.heap.size + 1, 7, none⟩ = some (.bool (x.op 7)) := HU.out.q.hy.cell (i := 7) (by omega)
            have y8 : U.cell? ⟨w.heap.size + 1, 8, none⟩ = some (.bool (x.op 8)) := HU.out.q.hy.cell (i := 8) (by omega)
            have y9 : U.cell? ⟨w.heap.size + 1, 9, none⟩ = some (.bool (x.op 9)) := HU.out.q.hy.cell (i := 9) (by omega)
            have y10 : U.cell? ⟨w.heap.size + 1, 10, none⟩ = some (.bool (x.op 10)) := HU.out.q.hy.cell (i := 10) (by omega)
            have y11 : U.cell? ⟨w.heap.size + 1, 11, none⟩ = some (.bool (x.op 11)) := HU.out.q.hy.cell (i := 11) (by omega)
            clear h2 h3 h17
            go_wp2_with (go_at_call 68; refine (leaves_any (h j).kd _).mono ?_; rintro e w3 ⟨rfl, rfl⟩; rw [HLv.out])
            go_round
            case rel => exact ⟨j + 1, by go_num, HLT.out, by rw [HN.out]; exact HU.out.q.clear⟩
            case measure => have := HLT.out; simp [intOf]; omega
          | false =>
            have HN : Hid (slS h (j + 1) = x) := show slN (slS h j) j (h j) = _ by rw [HX.out]; unfold slN; rw [if_neg h2, if_neg h3, if_neg h17, if_neg (by rw [HLv.out]; decide)]
            clear h2 h3 h17
            go_wp2_with (go_at_call 68; refine (leaves_any (h j).kd _).mono ?_; rintro e w3 ⟨rfl, rfl⟩; rw [HLv.out])
            go_round
            case rel => exact ⟨j + 1, by go_num, HLT.out, by rw [HN.out]; exact HU.out.q⟩
            case measure => have := HLT.out; simp [intOf]; omega
        · obtain rfl : j = n := by have := HJ.out; omega
          have dj : decide ((j : Int) < (j : Int)) = false := decide_eq_false (by omega)
          clear hlt hj hS
          go_wp2
          go_ret
          exact ⟨rfl, HS.out.l.bel⟩
end Go.Proofs.Ytmnifblbacgeoab
