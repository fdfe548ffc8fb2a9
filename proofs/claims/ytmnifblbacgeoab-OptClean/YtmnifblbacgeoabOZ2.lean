import Derived.Test.YtmnifblbacgeoabOZ1
namespace Go.Proofs.Ytmnifblbacgeoab
open Go.RowKit
open Go.Maps
set_option maxRecDepth 100000
set_option linter.unusedVariables false
set_option linter.unusedSimpArgs false

structure AKs where
  hs : Nat → Option Nat
  nw : Bool
def akN (x : AKs) (k : Nat) (o : ON) : AKs :=
  if o.kd = 2 then ⟨upd x.hs o.w (some k), x.nw⟩ else if o.kd = 3 then ⟨upd x.hs o.w (some o.a), x.nw && decide (o.w < 8)⟩ else if o.kd = 17 then ⟨x.hs, true⟩ else x
def akS (h : Nat → ON) : Nat → AKs
  | 0 => ⟨fun _ => none, false⟩
  | k + 1 => akN (akS h k) k (h k)
structure AkC (h : Nat → ON) (n : Nat) (x : AKs) (o : ON) : Prop where
  nw : o.kd = 17 → x.nw = false
  lt : o.kd = 17 → ∀ v, x.hs 8 = some v → v < n
  no : o.kd = 17 → ¬ ∃ v8 v9 v10 v11, x.hs 8 = some v8 ∧ x.hs 9 = some v9 ∧ x.hs 10 = some v10 ∧ x.hs 11 = some v11 ∧ (h v8).kd = 1
  w : o.kd = 2 ∨ o.kd = 3 → o.w < 12
structure AQ (w W : World) (b off n : Nat) (h : Nat → ON) (hs : Nat → Option Nat) : Prop where
  hx : W.rowIs w.heap.size 119 12 (fun i => .int .i64 (oI (hs i)))
  l : LW w W b off n h
theorem AQ.below {w W W' : World} {b off n : Nat} {h : Nat → ON} {x : Nat → Option Nat} (q : AQ w W b off n h x) (k : Below W.heap.size W W') : AQ w W' b off n h x := ⟨q.hx.of_block (k.block _ q.hx.lt), q.l.below k⟩
theorem AQ.setH {w W : World} {b off n : Nat} {h : Nat → ON} {x : Nat → Option Nat} (q : AQ w W b off n h x) (i : Nat) (v : Option Nat) : AQ w (W.setCell ⟨w.heap.size, i, none⟩ (.int .i64 (oI v))) b off n h (upd x i v) :=
  ⟨(q.hx.set i _).congr (fun k _ => by (unfold upd; by_cases e : k = i <;> simp [e])), ⟨q.l.ops, q.l.lb, q.l.bel.setCell (Nat.le_refl _) _⟩⟩
theorem AQ.congr {w W : World} {b off n : Nat} {h : Nat → ON} {x y : Nat → Option Nat} (q : AQ w W b off n h x) (h1 : ∀ i, i < 12 → x i = y i) : AQ w W b off n h y := ⟨q.hx.congr (fun i hi => by rw [h1 i hi]), q.l⟩
structure AP (w W : World) (b off n : Nat) (h : Nat → ON) (x : Nat → Option Nat) (X : Nat) (o : ON) : Prop where
  q : AQ w W b off n h x
  bx : W.heap[X]? = some (.cells #[.int .i64 o.kd, .int .i64 o.w, .int .i64 o.a, .int .i64 o.b, .int .i64 o.c, .int .u32 o.k, .int .i64 o.n] 67)
  lX : w.heap.size < X
theorem aq_start (w : World) (b off n : Nat) (h : Nat → ON) (hO : OpsR w (some ⟨b, off, none⟩) n (fun i => rO (h i))) (lb : b < w.heap.size) : AQ w (w.alloc (.cells #[.int .i64 0, .int .i64 0, .int .i64 0, .int .i64 0, .int .i64 0, .int .i64 0, .int .i64 0, .int .i64 0, .int .i64 0, .int .i64 0, .int .i64 0, .int .i64 0] 119)) b off n h (fun _ => some 0) := by
  have r1 := World.rowIs_alloc w #[.int .i64 0, .int .i64 0, .int .i64 0, .int .i64 0, .int .i64 0, .int .i64 0, .int .i64 0, .int .i64 0, .int .i64 0, .int .i64 0, .int .i64 0, .int .i64 0] 119 (fun i => .int .i64 (oI (some 0))) (fun i hi => by
    have hi' : i < 12 := hi
    rcases (by omega : i = 0 ∨ i = 1 ∨ i = 2 ∨ i = 3 ∨ i = 4 ∨ i = 5 ∨ i = 6 ∨ i = 7 ∨ i = 8 ∨ i = 9 ∨ i = 10 ∨ i = 11) with rfl | rfl | rfl | rfl | rfl | rfl | rfl | rfl | rfl | rfl | rfl | rfl <;> rfl)
  exact ⟨r1, ⟨hO, lb, (Below.refl _ _).alloc (Nat.le_refl _) _⟩⟩
set_option maxHeartbeats 16000000 in
theorem asked_any (n cap b off : Nat) (h : Nat → ON) (w : World) (hO : OpsR w (some ⟨b, off, none⟩) n (fun i => rO (h i))) (lb : b < w.heap.size) (n1 : 0 < n) (hn : n ≤ 2048) (hf : ∀ k, k < n → AkC h n (akS h k) (h k)) :
    Calls Try.prog 24 #[.slice (some ⟨b, off, none⟩) n cap] w fun e w' => e = .returned (.bool true) ∧ Below w.heap.size w w' := by
  have HO : Hid (OpsR w (some ⟨b, off, none⟩) n (fun i => rO (h i))) := hO
  have HLB : Hid (b < w.heap.size) := lb
  have HF : Hid (∀ k, k < n → AkC h n (akS h k) (h k)) := hf
  have ni : (n : Int) ≤ 2048 := by omega
  have ni0 : (0 : Int) ≤ (n : Int) := by omega
  clear hO hf lb
  go_enter Try.func24, Try.ntmps24
  go_upto_region 3 with fail
  refine wp_gen (fun W' => AQ w W' b off n h (sfi 0).hs) ((aq_start w b off n h HO.out HLB.out).congr (fun _ _ => rfl)) ?_
  intro V hV
  have HV : Hid _ := hV
  clear hV
  go_wp2
  go_loopw [8] (fun i' wr => ∃ j : Nat, i' = .int .i64 j ∧ j ≤ 12 ∧ AQ w wr b off n h (sfi j).hs) (fun i _ => 12 - (intOf i).toNat)
  case atStart => exact ⟨0, rfl, by omega, HV.out⟩
  case round =>
    clear HV
    obtain ⟨j, rfl, hj, hS⟩ := hrel
    have HS : Hid _ := hS
    by_cases hlt : j < 12
    · have j0 : (0 : Int) ≤ (j : Int) := by omega
      have j1 : (j : Int) < 12 := by omega
      have dj : decide ((j : Int) < 12) = true := decide_eq_true j1
      have cj : wr.cell? ⟨w.heap.size, j, none⟩ = some (.int .i64 (oI ((sfi j).hs j))) := hS.hx.cell (i := j) hlt
      have xf := hS.hx.frozen
      have xl := hS.hx.lt
      have HLT : Hid (j < 12) := hlt
      clear hlt hS hj
      go_wp2
      go_round
      case rel => exact ⟨j + 1, by go_num, HLT.out, (HS.out.setH j none).congr (fun i _ => by
        show upd (fun i => if i < j then none else some 0) j none i = if i < j + 1 then none else some 0
        unfold upd
        by_cases e : i = j
        · subst e; simp
        · by_cases h2 : i < j
          · simp [e, h2, Nat.lt_succ_of_lt h2]
          · simp [e, h2, show ¬ i < j + 1 by omega])⟩
      case measure => have := HLT.out; simp [intOf]; omega
    · obtain rfl : j = 12 := by omega
      have HS0 : Hid (AQ w wr b off n h (akS h 0).hs) := HS.out.congr (fun i hi => by show (if i < 12 then none else some 0) = none; rw [if_pos hi])
      clear hlt hS hj HS
      go_upto_region 8 with fail
      rw [show ((12 : Nat) : Int) = 12 from rfl]
      go_wp2
      go_loopw [3, 16] (fun n3 i' W => ∃ j : Nat, i' = .int .i64 j ∧ n3 = .bool (akS h j).nw ∧ j ≤ n ∧ AQ w W b off n h (akS h j).hs) (fun _ i _ => n - (intOf i).toNat)
      case atStart => exact ⟨0, rfl, rfl, by omega, HS0.out⟩
      case round =>
        clear HS0
        obtain ⟨j, rfl, rfl, hj, hS⟩ := hrel
        have HS : Hid _ := hS
        have HJ : Hid (j ≤ n) := hj
        by_cases hlt : j < n
        · have hji : (j : Int) < (n : Int) := by omega
          have dj : decide ((j : Int) < (n : Int)) = true := decide_eq_true hji
          have j0 : (0 : Int) ≤ (j : Int) := by omega
          have HLT : Hid (j < n) := hlt
          have hop := HS.out.l.at_ j hlt
          have m0 : wr.cell? ⟨b, off + j * 7, none⟩ = some (.int .i64 (h j).kd) := hop.c0
          have m1 : wr.cell? ⟨b, off + j * 7 + 1, none⟩ = some (.int .i64 (h j).w) := hop.c1
          have m2 : wr.cell? ⟨b, off + j * 7 + 2, none⟩ = some (.int .i64 (h j).a) := hop.c2
          have m3 : wr.cell? ⟨b, off + j * 7 + 3, none⟩ = some (.int .i64 (h j).b) := hop.c3
          have m4 : wr.cell? ⟨b, off + j * 7 + 4, none⟩ = some (.int .i64 (h j).c) := hop.c4
          have m5 : wr.cell? ⟨b, off + j * 7 + 5, none⟩ = some (.int .u32 (h j).k) := hop.c5
          have m6 : wr.cell? ⟨b, off + j * 7 + 6, none⟩ = some (.int .i64 (h j).n) := hop.c6
          have lbW : b < wr.heap.size := Nat.lt_of_lt_of_le HLB.out HS.out.l.bel.size
          have HA : Hid (AP w _ b off n h (akS h j).hs wr.heap.size (h j)) := ⟨HS.out.below ((Below.refl wr.heap.size wr).alloc (Nat.le_refl _) (.cells #[.int .i64 (h j).kd, .int .i64 (h j).w, .int .i64 (h j).a, .int .i64 (h j).b, .int .i64 (h j).c, .int .u32 (h j).k, .int .i64 (h j).n] 67)), heap_alloc_last _ _, HS.out.hx.lt⟩
          have HFO : Hid (AkC h n (akS h j) (h j)) := HF.out j hlt
          clear hop hlt hS hj
          go_upto_region 11 with fail
          obtain ⟨Bn, HBn⟩ : ∃ Bn, Hid (wr.heap.size = Bn) := ⟨_, rfl⟩
          refine wp_gen (fun W' => AP w W' b off n h (akS h j).hs Bn (h j)) (HBn.out ▸ HA.out) ?_
          rw [HBn.out]
          clear m0 m1 m2 m3 m4 m5 m6 lbW HA HS HBn
          intro U hU
          have HU : Hid _ := hU
          obtain ⟨x, HX⟩ : ∃ x, Hid (akS h j = x) := ⟨_, rfl⟩
          rw [HX.out] at HU hU HFO ⊢
          have kl := row_lt hU.bx
          have k0 := row_cell hU.bx 0
          have k1 := row_cell hU.bx 1
          have k2 := row_cell hU.bx 2
          have k3 := row_cell hU.bx 3
          have k4 := row_cell hU.bx 4
          have k5 := row_cell hU.bx 5
          have k6 := row_cell hU.bx 6
          have xl := hU.q.hx.lt
          have xf := hU.q.hx.frozen
          have nB0 : Bn ≠ w.heap.size := by have := hU.lX; omega
          clear hU
          by_cases h2 : (h j).kd = 2
          · have HN : Hid (akS h (j + 1) = ⟨upd x.hs (h j).w (some j), x.nw⟩) := show akN (akS h j) j (h j) = _ by rw [HX.out]; unfold akN; rw [if_pos h2]
            have HW : Hid ((h j).w < 12) := HFO.out.w (.inl h2)
            have w0 : (0 : Int) ≤ ((h j).w : Int) := by omega
            have w1 : ((h j).w : Int) < 12 := by have := HW.out; omega
            have cw : U.cell? ⟨w.heap.size, (h j).w, none⟩ = some (.int .i64 (oI (x.hs (h j).w))) := HU.out.q.hx.cell (i := (h j).w) HW.out
            rw [h2] at k0
            clear h2
            go_wp2
            go_round
            case rel => exact ⟨j + 1, by go_num, by (rw [HN.out]) <;> first | rfl | simp, HLT.out, by rw [HN.out]; exact HU.out.q.setH (h j).w (some j)⟩
            case measure => have := HLT.out; simp [intOf]; omega
          by_cases h3 : (h j).kd = 3
          · have HN : Hid (akS h (j + 1) = ⟨upd x.hs (h j).w (some (h j).a), x.nw && decide ((h j).w < 8)⟩) := show akN (akS h j) j (h j) = _ by rw [HX.out]; unfold akN; rw [if_neg h2, if_pos h3]
            have HW : Hid ((h j).w < 12) := HFO.out.w (.inr h3)
            have w0 : (0 : Int) ≤ ((h j).w : Int) := by omega
            have w1 : ((h j).w : Int) < 12 := by have := HW.out; omega
            have cw : U.cell? ⟨w.heap.size, (h j).w, none⟩ = some (.int .i64 (oI (x.hs (h j).w))) := HU.out.q.hx.cell (i := (h j).w) HW.out
            rw [h3] at k0
            obtain ⟨nw, HNW⟩ : ∃ nw, Hid (x.nw = nw) := ⟨_, rfl⟩
            rw [HNW.out] at HN ⊢
            clear h2 h3
            cases nw with
            | false =>
              go_wp2
              go_round
              case rel => exact ⟨j + 1, by go_num, by (rw [HN.out]) <;> first | rfl | simp, HLT.out, by rw [HN.out]; exact HU.out.q.setH (h j).w (some (h j).a)⟩
              case measure => have := HLT.out; simp [intOf]; omega
            | true =>
              by_cases h8 : (h j).w < 8
              · have i8 : ((h j).w : Int) < 8 := by omega
                have d8 : decide (((h j).w : Int) < 8) = true := decide_eq_true i8
                rw [decide_eq_true h8] at HN
                clear h8
                go_wp2
                go_round
                case rel => exact ⟨j + 1, by go_num, by (rw [HN.out]) <;> first | rfl | simp, HLT.out, by rw [HN.out]; exact HU.out.q.setH (h j).w (some (h j).a)⟩
                case measure => have := HLT.out; simp [intOf]; omega
              · have i8 : ¬ ((h j).w : Int) < 8 := by omega
                have d8 : decide (((h j).w : Int) < 8) = false := decide_eq_false i8
                rw [decide_eq_false h8] at HN
                clear h8
                go_wp2
                go_round
                case rel => exact ⟨j + 1, by go_num, by (rw [HN.out]) <;> first | rfl | simp, HLT.out, by rw [HN.out]; exact HU.out.q.setH (h j).w (some (h j).a)⟩
                case measure => have := HLT.out; simp [intOf]; omega
          have i2 : ¬ ((h j).kd : Int) = 2 := by omega
          have d2 : (((h j).kd : Int) == 2) = false := by simpa using i2
          have i3 : ¬ ((h j).kd : Int) = 3 := by omega
          have d3 : (((h j).kd : Int) == 3) = false := by simpa using i3
          by_cases h17 : (h j).kd = 17
          · have HN : Hid (akS h (j + 1) = ⟨x.hs, true⟩) := show akN (akS h j) j (h j) = _ by rw [HX.out]; unfold akN; rw [if_neg h2, if_neg h3, if_pos h17]
            have HNW : Hid (x.nw = false) := HFO.out.nw h17
            have AKC : Hid ((∀ v, x.hs 8 = some v → v < n) ∧ ¬ ∃ v8 v9 v10 v11, x.hs 8 = some v8 ∧ x.hs 9 = some v9 ∧ x.hs 10 = some v10 ∧ x.hs 11 = some v11 ∧ (h v8).kd = 1) := ⟨HFO.out.lt h17, HFO.out.no h17⟩
            rw [HNW.out]
            rw [h17] at k0
            clear h2 h3 h17 d2 i2 d3 i3
            obtain ⟨S8, H8⟩ : ∃ S, Hid (x.hs 8 = S) := ⟨_, rfl⟩
            cases S8 with
            | none =>
              have c8 : U.cell? ⟨w.heap.size, 8, none⟩ = some (.int .i64 (-1)) := (HU.out.q.hx.cell (i := 8) (by omega)).trans (by rw [H8.out]; rfl)
              go_wp2
              go_round
              case rel => exact ⟨j + 1, by go_num, by (rw [HN.out]) <;> first | rfl | simp, HLT.out, by rw [HN.out]; exact HU.out.q⟩
              case measure => have := HLT.out; simp [intOf]; omega
            | some v8 =>
              have c8 : U.cell? ⟨w.heap.size, 8, none⟩ = some (.int .i64 v8) := (HU.out.q.hx.cell (i := 8) (by omega)).trans (by rw [H8.out]; rfl)
              have g8 : (0 : Int) ≤ (v8 : Int) := by omega
              have f8 : decide ((0 : Int) ≤ (v8 : Int)) = true := decide_eq_true g8
              obtain ⟨S9, H9⟩ : ∃ S, Hid (x.hs 9 = S) := ⟨_, rfl⟩
              cases S9 with
              | none =>
                have c9 : U.cell? ⟨w.heap.size, 9, none⟩ = some (.int .i64 (-1)) := (HU.out.q.hx.cell (i := 9) (by omega)).trans (by rw [H9.out]; rfl)
                go_wp2
                go_round
                case rel => exact ⟨j + 1, by go_num, by (rw [HN.out]) <;> first | rfl | simp, HLT.out, by rw [HN.out]; exact HU.out.q⟩
                case measure => have := HLT.out; simp [intOf]; omega
              | some v9 =>
                have c9 : U.cell? ⟨w.heap.size, 9, none⟩ = some (.int .i64 v9) := (HU.out.q.hx.cell (i := 9) (by omega)).trans (by rw [H9.out]; rfl)
                have g9 : (0 : Int) ≤ (v9 : Int) := by omega
                have f9 : decide ((0 : Int) ≤ (v9 : Int)) = true := decide_eq_true g9
                obtain ⟨S10, H10⟩ : ∃ S, Hid (x.hs 10 = S) := ⟨_, rfl⟩
                cases S10 with
                | none =>
                  have c10 : U.cell? ⟨w.heap.size, 10, none⟩ = some (.int .i64 (-1)) := (HU.out.q.hx.cell (i := 10) (by omega)).trans (by rw [H10.out]; rfl)
                  go_wp2
                  go_round
                  case rel => exact ⟨j + 1, by go_num, by (rw [HN.out]) <;> first | rfl | simp, HLT.out, by rw [HN.out]; exact HU.out.q⟩
                  case measure => have := HLT.out; simp [intOf]; omega
                | some v10 =>
                  have c10 : U.cell? ⟨w.heap.size, 10, none⟩ = some (.int .i64 v10) := (HU.out.q.hx.cell (i := 10) (by omega)).trans (by rw [H10.out]; rfl)
                  have g10 : (0 : Int) ≤ (v10 : Int) := by omega
                  have f10 : decide ((0 : Int) ≤ (v10 : Int)) = true := decide_eq_true g10
                  obtain ⟨S11, H11⟩ : ∃ S, Hid (x.hs 11 = S) := ⟨_, rfl⟩
                  cases S11 with
                  | none =>
                    have c11 : U.cell? ⟨w.heap.size, 11, none⟩ = some (.int .i64 (-1)) := (HU.out.q.hx.cell (i := 11) (by omega)).trans (by rw [H11.out]; rfl)
                    go_wp2
                    go_round
                    case rel => exact ⟨j + 1, by go_num, by (rw [HN.out]) <;> first | rfl | simp, HLT.out, by rw [HN.out]; exact HU.out.q⟩
                    case measure => have := HLT.out; simp [intOf]; omega
                  | some v11 =>
                    have c11 : U.cell? ⟨w.heap.size, 11, none⟩ = some (.int .i64 v11) := (HU.out.q.hx.cell (i := 11) (by omega)).trans (by rw [H11.out]; rfl)
                    have g11 : (0 : Int) ≤ (v11 : Int) := by omega
                    have f11 : decide ((0 : Int) ≤ (v11 : Int)) = true := decide_eq_true g11
                    have hne : ¬ (h v8).kd = 1 := fun e => AKC.out.2 ⟨v8, v9, v10, v11, H8.out, H9.out, H10.out, H11.out, e⟩
                    have HV8 : Hid (v8 < n) := AKC.out.1 v8 H8.out
                    have i8 : (v8 : Int) < (n : Int) := Int.ofNat_lt.2 HV8.out
                    have ca : U.cell? ⟨b, off + v8 * 7, none⟩ = some (.int .i64 (h v8).kd) := (HU.out.q.l.at_ v8 HV8.out).c0
                    have lbU : b < U.heap.size := Nat.lt_of_lt_of_le HLB.out HU.out.q.l.bel.size
                    have ie : ¬ ((h v8).kd : Int) = 1 := by omega
                    have de : (((h v8).kd : Int) == 1) = false := by simpa using ie
                    clear hne
                    go_wp2
                    go_round
                    case rel => exact ⟨j + 1, by go_num, by (rw [HN.out]) <;> first | rfl | simp, HLT.out, by rw [HN.out]; exact HU.out.q⟩
                    case measure => have := HLT.out; simp [intOf]; omega
          · have HN : Hid (akS h (j + 1) = x) := show akN (akS h j) j (h j) = _ by rw [HX.out]; unfold akN; rw [if_neg h2, if_neg h3, if_neg h17]
            have i17 : ¬ ((h j).kd : Int) = 17 := by omega
            have d17 : (((h j).kd : Int) == 17) = false := by simpa using i17
            clear h2 h3 h17
            go_wp2
            go_round
            case rel => exact ⟨j + 1, by go_num, by (rw [HN.out]) <;> first | rfl | simp, HLT.out, by rw [HN.out]; exact HU.out.q⟩
            case measure => have := HLT.out; simp [intOf]; omega
        · obtain rfl : j = n := by have := HJ.out; omega
          have dj : decide ((j : Int) < (j : Int)) = false := decide_eq_false (by omega)
          clear hlt hj hS
          go_wp2
          go_ret
          exact ⟨rfl, HS.out.l.bel⟩
end Go.Proofs.Ytmnifblbacgeoab
