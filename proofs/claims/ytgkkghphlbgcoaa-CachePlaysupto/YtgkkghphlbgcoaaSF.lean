import Derived.Test.YtgkkghphlbgcoaaSC
namespace Go.Proofs.Ytgkkghphlbgcoaa.So
open Go.RowKit
set_option maxRecDepth 100000
set_option linter.unusedVariables false
set_option linter.unusedSimpArgs false
theorem heapBuild_go (hi first k : Nat) (d : Array Nat) : Sort.heapBuild lt hi first (k + 1) d = Sort.heapBuild lt hi first k (Sort.siftDown lt hi first k d) := rfl
theorem heapPop_go (first k : Nat) (d : Array Nat) : Sort.heapPop lt first (k + 1) d = Sort.heapPop lt first k (Sort.siftDown lt k first 0 (Sort.swp d first (first + k))) := rfl
theorem sift0_any (B n cap hi first : Nat) (d : Array Nat) (w0 w : World) (hR : SW w0 w B d n) (hb : first + hi ≤ n) (hn : n ≤ 140737488355328) :
    Calls Try.prog 88 #[.slice (some ⟨B, 0, none⟩) n cap, .int .i64 0, .int .i64 hi, .int .i64 first] w fun e w' => e = .returned (.tuple #[]) ∧ SW w0 w' B (Sort.siftDown lt hi first 0 d) n := sift_any B n cap 0 hi first d w0 w hR hb hn (Nat.zero_le _)
set_option maxHeartbeats 1000000 in
theorem heap_any (B n cap a b : Nat) (d : Array Nat) (w0 w : World) (hR : SW w0 w B d n) (hab : a < b) (hb : b ≤ n) (hn : n ≤ 140737488355328) :
    Calls Try.prog 76 #[.slice (some ⟨B, 0, none⟩) n cap, .int .i64 a, .int .i64 b] w fun e w' => e = .returned (.tuple #[]) ∧ SW w0 w' B (Sort.heapSort lt d a b) n := by
  have HR : Hid _ := hR
  clear hR
  obtain ⟨hi, hhi⟩ : ∃ hi, b - a = hi := ⟨_, rfl⟩
  obtain ⟨h1, hh1⟩ : ∃ h1, hi = h1 + 1 := ⟨hi - 1, by omega⟩
  obtain ⟨q, hq⟩ : ∃ q, h1 / 2 = q := ⟨_, rfl⟩
  have t1 : IntKind.i64.wrap ((b : Int) - (a : Int)) = (hi : Int) := wr_sub (by omega) (by omega)
  have t2 : IntKind.i64.wrap ((hi : Int) - 1) = (h1 : Int) := wr_dec (by omega) (by omega)
  have t3 : (h1 : Int) / 2 = (q : Int) := by omega
  have t3b : wrap64 (q : Int) = (q : Int) := by unfold wrap64; omega
  have HH : Hid _ := And.intro hhi (And.intro hh1 hq)
  clear hhi hh1 hq
  go_enter Try.func76, Try.ntmps76
  go_wp2
  simp only [t3b]
  clear t3 t3b
  go_loopw [9] (fun v wr => ∃ (z : Int) (k : Nat) (d' : Array Nat), v = .int .i64 z ∧ z = (k : Int) - 1 ∧ k ≤ q + 1 ∧ SW w0 wr B d' n ∧ Sort.heapBuild lt hi a k d' = Sort.heapBuild lt hi a (q + 1) d) (fun v _ => (intOf v + 1).toNat)
  case atStart => exact ⟨q, q + 1, d, rfl, by omega, Nat.le_refl _, HR.out, rfl⟩
  case round =>
    obtain ⟨z, k, d1, rfl, hz, hk, hS, hE⟩ := hrel
    have HS : Hid _ := hS
    have HE : Hid _ := hE
    clear hS hE
    cases k with
    | succ m =>
      obtain rfl : z = (m : Int) := by omega
      clear hz
      have g1 : decide ((0 : Int) ≤ (m : Int)) = true := decide_eq_true (by omega)
      have g2 : (0 : Int) ≤ (m : Int) := by omega
      have t4 : IntKind.i64.wrap ((m : Int) - 1) = (m : Int) - 1 := IntWalk.i64_in _ (by have := HH.out; omega)
      go_wp2_with (go_at_call 88; refine (sift_any B n cap m hi a d1 w0 _ (by (focus (repeat first | with_reducible exact HS.out | with_reducible refine SW.drw ?_ | with_reducible refine SW.drwN ?_ _))) (by have := HH.out; omega) hn (by have := HH.out; omega)).mono ?_; rintro e w1 ⟨rfl, hW⟩; have HW : Hid _ := hW; clear hW)
      go_roundw
      case rel => exact ⟨(m : Int) - 1, m, Sort.siftDown lt hi a m d1, rfl, rfl, by omega, by (focus (repeat first | with_reducible exact HW.out | with_reducible refine SW.drw ?_ | with_reducible refine SW.drwN ?_ _)), by rw [← HE.out, heapBuild_go]⟩
      case measure => first | (simp [intOf]; done) | (simp [intOf]; omega)
    | zero =>
      obtain rfl : z = -1 := by omega
      clear hz
      go_wp2
      go_loopw [10] (fun v wr => ∃ (z : Int) (k : Nat) (d' : Array Nat), v = .int .i64 z ∧ z = (k : Int) - 1 ∧ k ≤ hi ∧ SW w0 wr B d' n ∧ Sort.heapPop lt a k d' = Sort.heapPop lt a hi d1) (fun v _ => (intOf v + 1).toNat)
      case atStart => exact ⟨h1, hi, d1, rfl, by have := HH.out.2.1; omega, Nat.le_refl _, by (focus (repeat first | with_reducible exact HS.out | with_reducible refine SW.drw ?_ | with_reducible refine SW.drwN ?_ _)), rfl⟩
      case round =>
        clear HS
        obtain ⟨z, k, d2, rfl, hz, hk, hS, hE⟩ := hrel
        have HS : Hid _ := hS
        have HF : Hid _ := hE
        cases k with
        | succ m =>
          obtain rfl : z = (m : Int) := by omega
          clear hz
          obtain ⟨x, hx⟩ : ∃ x, a + m = x := ⟨_, rfl⟩
          have g1 : decide ((0 : Int) ≤ (m : Int)) = true := decide_eq_true (by omega)
          have g2 : (0 : Int) ≤ (m : Int) := by omega
          have t4 : IntKind.i64.wrap ((m : Int) - 1) = (m : Int) - 1 := IntWalk.i64_in _ (by have := HH.out; omega)
          have t5 : IntKind.i64.wrap ((a : Int) + (m : Int)) = (x : Int) := wr_add hx (by have := HH.out; omega)
          have c1 := hS.at a (by omega)
          have c0 := hS.at x (by have := HH.out; omega)
          have f1 := hS.r.fz a
          have f0 := hS.r.fz x
          have lB := hS.r.lt
          have p0 : (0 : Int) ≤ (a : Int) := by omega
          have p1 : (a : Int) < n := by omega
          have q0 : (0 : Int) ≤ (x : Int) := by omega
          have q1 : (x : Int) < n := by have := HH.out; omega
          have HB : Hid (a < n ∧ x < n) := ⟨by omega, by omega⟩
          have HX : Hid _ := hx
          clear hS hE hx
          by_cases hax : a = x
          · subst hax
            go_upto_region 10 with fail
            go_region
            all_goals go_wp2_with (go_at_call 88; refine (sift0_any B n cap m a (Sort.swp d2 a a) w0 _ (by (focus (repeat first | with_reducible exact HS.out.swp a a HB.out.1 HB.out.2 | with_reducible exact (HS.out.drwN _).swp a a HB.out.1 HB.out.2 | with_reducible refine SW.drw ?_ | with_reducible refine SW.drwN ?_ _))) (by have := HH.out; omega) hn).mono ?_; rintro e w1 ⟨rfl, hW⟩; have HW : Hid _ := hW; clear hW)
            all_goals go_roundw
            case rel => exact ⟨(m : Int) - 1, m, _, rfl, rfl, by omega, by (focus (repeat first | with_reducible exact HW.out | with_reducible refine SW.drw ?_ | with_reducible refine SW.drwN ?_ _)), by rw [← HF.out, heapPop_go, HX.out]⟩
            case measure => first | (simp [intOf]; done) | (simp [intOf]; omega)
          · have nx : ¬ x = a := fun h => hax h.symm
            go_upto_region 10 with fail
            go_region
            all_goals go_wp2_with (go_at_call 88; refine (sift0_any B n cap m a (Sort.swp d2 a x) w0 _ (by (focus (repeat first | with_reducible exact HS.out.swp a x HB.out.1 HB.out.2 | with_reducible exact (HS.out.drwN _).swp a x HB.out.1 HB.out.2 | with_reducible refine SW.drw ?_ | with_reducible refine SW.drwN ?_ _))) (by have := HX.out; have := HH.out; omega) hn).mono ?_; rintro e w1 ⟨rfl, hW⟩; have HW : Hid _ := hW; clear hW)
            all_goals go_roundw
            case rel => exact ⟨(m : Int) - 1, m, _, rfl, rfl, by omega, by (focus (repeat first | with_reducible exact HW.out | with_reducible refine SW.drw ?_ | with_reducible refine SW.drwN ?_ _)), by rw [← HF.out, heapPop_go, HX.out]⟩
            case measure => first | (simp [intOf]; done) | (simp [intOf]; omega)
        | zero =>
          obtain rfl : z = -1 := by omega
          clear hz
          clear hS hE
          go_wp2
          go_end0
          refine ⟨rfl, ?_⟩
          rw [Sort.heapSort, show b - a = hi from HH.out.1, show (hi - 1) / 2 + 1 = q + 1 by rw [HH.out.2.1]; simp [HH.out.2.2], ← HE.out]
          show SW w0 _ B (Sort.heapPop lt a hi d1) n
          rw [← HF.out]
          exact HS.out
set_option maxHeartbeats 1000000 in
theorem rev_any (B n cap a b : Nat) (d : Array Nat) (w0 w : World) (hR : SW w0 w B d n) (hab : a < b) (hb : b ≤ n) (hn : n ≤ 140737488355328) :
    Calls Try.prog 79 #[.slice (some ⟨B, 0, none⟩) n cap, .int .i64 a, .int .i64 b] w fun e w' => e = .returned (.tuple #[]) ∧ SW w0 w' B (Sort.reverseRange d a b) n := by
  have HR : Hid _ := hR
  clear hR
  obtain ⟨b1, hb1⟩ : ∃ b1, b = b1 + 1 := ⟨b - 1, by omega⟩
  have t1 : IntKind.i64.wrap ((b : Int) - 1) = (b1 : Int) := wr_dec (by omega) (by omega)
  go_enter Try.func79, Try.ntmps79
  go_wp2
  go_loopw [6, 7] (fun u v wr => ∃ (i j : Nat) (d' : Array Nat), u = .int .i64 i ∧ v = .int .i64 j ∧ i ≤ n ∧ j < n ∧ SW w0 wr B d' n ∧ Sort.reverseLoop i j d' = Sort.reverseRange d a b) (fun _ v _ => (intOf v).toNat)
  case atStart => exact ⟨a, b1, d, rfl, rfl, by omega, by omega, HR.out, by rw [Sort.reverseRange, hb1]; rfl⟩
  case round =>
    obtain ⟨i, j, d1, rfl, rfl, hin, hjn, hS, hE⟩ := hrel
    have HS : Hid _ := hS
    have HE : Hid _ := hE
    by_cases hij : i < j
    · have g1 : decide ((i : Int) < (j : Int)) = true := decide_eq_true (by omega)
      obtain ⟨i1, hi1⟩ : ∃ i1, i + 1 = i1 := ⟨_, rfl⟩
      obtain ⟨j1, hj1⟩ : ∃ j1, j = j1 + 1 := ⟨j - 1, by omega⟩
      have t2 : IntKind.i64.wrap ((i : Int) + 1) = (i1 : Int) := wr_one hi1 (by omega)
      have t3 : IntKind.i64.wrap ((j : Int) - 1) = (j1 : Int) := wr_dec hj1 (by omega)
      have c1 := hS.at i (by omega)
      have c0 := hS.at j (by omega)
      have f1 := hS.r.fz i
      have f0 := hS.r.fz j
      have lB := hS.r.lt
      have p0 : (0 : Int) ≤ (i : Int) := by omega
      have p1 : (i : Int) < n := by omega
      have q0 : (0 : Int) ≤ (j : Int) := by omega
      have q1 : (j : Int) < n := by omega
      have u1 : ¬ i = j := by omega
      have u2 : ¬ j = i := by omega
      have HB : Hid (i < n ∧ j < n) := ⟨by omega, by omega⟩
      have HI : Hid _ := And.intro hi1 hj1
      clear hS hE hi1 hj1
      go_upto_region 3 with fail
      go_region
      all_goals go_wp2
      all_goals go_roundw
      case rel => exact ⟨i1, j1, Sort.swp d1 i j, rfl, rfl, by have := HI.out.1; omega, by have := HI.out.2; omega, by (focus (repeat first | with_reducible exact HS.out.swp i j HB.out.1 HB.out.2 | with_reducible exact (HS.out.drwN _).swp i j HB.out.1 HB.out.2 | with_reducible refine SW.drw ?_ | with_reducible refine SW.drwN ?_ _)), by rw [← HE.out, Sort.reverseLoop.eq_1 i j d1, if_pos hij, ← HI.out.1, show j - 1 = j1 by rw [HI.out.2]; rfl]⟩
      case measure => have := HI.out.2; simp [intOf]; omega
    · have g1 : decide ((i : Int) < (j : Int)) = false := decide_eq_false (by omega)
      clear hS hE
      go_wp2
      go_end0
      exact ⟨rfl, by rw [← HE.out, Sort.reverseLoop, if_neg hij]; exact by (focus (repeat first | with_reducible exact HS.out | with_reducible refine SW.drw ?_ | with_reducible refine SW.drwN ?_ _))⟩
end Go.Proofs.Ytgkkghphlbgcoaa.So
namespace Go.Proofs.Ytgkkghphlbgcoaa.So
open Go.RowKit
set_option maxRecDepth 100000
set_option linter.unusedVariables false
set_option linter.unusedSimpArgs false
structure SO (w wr : World) (B : Nat) (d : Array Nat) (n S c : Nat) : Prop where
  s : SW w wr B d n
  c : wr.cell? ⟨S, 0, none⟩ = some (.int .i64 c)
  f : wr.frozen? ⟨S, 0, none⟩ = false
  l : S < wr.heap.size
  g : w.heap.size ≤ S
  ne : B ≠ S
theorem SO.drw {w wr : World} {B n S c : Nat} {d : Array Nat} (h : SO w wr B d n S c) : SO w wr.drew B d n S c := ⟨h.s.drw, h.c, h.f, h.l, h.g, h.ne⟩
theorem SO.drwN {w wr : World} {B n S c : Nat} {d : Array Nat} (h : SO w wr B d n S c) (k : Nat) : SO w (wr.drewN k) B d n S c := ⟨h.s.drwN k, h.c, h.f, h.l, h.g, h.ne⟩
theorem SO.up {w wr : World} {B n S c : Nat} {d : Array Nat} (h : SO w wr B d n S c) (v : Nat) : SO w (wr.setCell ⟨S, 0, none⟩ (.int .i64 v)) B d n S v :=
  ⟨⟨⟨fun i hi => by rw [World.cell?_setCell_other _ _ _ _ (by intro e; cases e; exact h.ne rfl)]; exact h.s.r.c i hi, fun i => by rw [World.frozen?_setCell]; exact h.s.r.fz i, by simpa using h.s.r.lt⟩, h.s.z, ⟨h.s.ch.os, h.s.ch.tape, h.s.ch.output, by simpa using h.s.ch.size, fun k hk hs => (Below.heap_setCell _ _ _ k (fun e => by have := h.g; have e : k = S := e; omega)).trans (h.s.ch.block k hk hs)⟩⟩, World.cell?_setCell_same _ _ _ h.c, by rw [World.frozen?_setCell]; exact h.f, by simpa using h.l, h.g, h.ne⟩
theorem o2_any (B n cap a b S c : Nat) (d : Array Nat) (w0 w : World) (hR : SO w0 w B d n S c) (ha : a < n) (hb : b < n) (hc : c < 1000) :
    Calls Try.prog 94 #[.slice (some ⟨B, 0, none⟩) n cap, .int .i64 a, .int .i64 b, .pointer (some ⟨S, 0, none⟩)] w fun e w' => e = .returned (.tuple #[.int .i64 (Sort.order2 lt d a b c).1, .int .i64 (Sort.order2 lt d a b c).2.1]) ∧ SO w0 w' B d n S (Sort.order2 lt d a b c).2.2 := by
  have HR : Hid _ := hR
  have ka := hR.s.at a ha
  have kb := hR.s.at b hb
  have fa := hR.s.r.fz a
  have fb := hR.s.r.fz b
  have lB := hR.s.r.lt
  have kS := hR.c
  have fS := hR.f
  have lS := hR.l
  have p0 : (0 : Int) ≤ (a : Int) := by omega
  have p1 : (a : Int) < n := by omega
  have q0 : (0 : Int) ≤ (b : Int) := by omega
  have q1 : (b : Int) < n := by omega
  obtain ⟨c1, hc1⟩ : ∃ c1, c + 1 = c1 := ⟨_, rfl⟩
  have t1 : IntKind.i64.wrap ((c : Int) + 1) = (c1 : Int) := wr_one hc1 (by omega)
  have HC : Hid _ := hc1
  clear hR hc1
  go_enter Try.func94, Try.ntmps94
  cases hl : lt d[b]! d[a]! with
  | true =>
    have E : Sort.order2 lt d a b c = (b, a, c1) := by rw [Sort.order2, hl, HC.out]; rfl
    rw [E]
    clear E
    dsimp only
    go_upto_region 1 with fail
    go_quiet ((refine Calls.mono (less_any _ _ _) ?_; intro e w3 hq; exact ⟨hq.1, _, hq.2.symm⟩))
    go_wp2
    all_goals try exact absurd (hl.symm.trans ‹lt d[b]! d[a]! = false›) (by simp)
    go_ret2
    exact ⟨rfl, by (focus (repeat first | with_reducible exact HR.out.up c1 | with_reducible exact (HR.out.drwN _).up c1 | with_reducible refine SO.drw ?_ | with_reducible refine SO.drwN ?_ _))⟩
  | false =>
    have E : Sort.order2 lt d a b c = (a, b, c) := by rw [Sort.order2, hl]; rfl
    rw [E]
    clear E
    dsimp only
    go_upto_region 1 with fail
    go_quiet ((refine Calls.mono (less_any _ _ _) ?_; intro e w3 hq; exact ⟨hq.1, _, hq.2.symm⟩))
    go_wp2
    all_goals try exact absurd (hl.symm.trans ‹lt d[b]! d[a]! = true›) (by simp)
    go_ret2
    exact ⟨rfl, by (focus (repeat first | with_reducible exact HR.out | with_reducible refine SO.drw ?_ | with_reducible refine SO.drwN ?_ _))⟩
theorem o2_lt {n a b : Nat} (d : Array Nat) (c : Nat) (ha : a < n) (hb : b < n) : (Sort.order2 lt d a b c).1 < n ∧ (Sort.order2 lt d a b c).2.1 < n ∧ (Sort.order2 lt d a b c).2.2 ≤ c + 1 := by
  unfold Sort.order2
  split <;> exact ⟨by assumption, by assumption, by dsimp only; omega⟩
theorem med_lt {n a b x : Nat} (d : Array Nat) (c : Nat) (ha : a < n) (hb : b < n) (hx : x < n) : (Sort.median lt d a b x c).1 < n ∧ (Sort.median lt d a b x c).2 ≤ c + 3 := by
  have h1 := o2_lt d c ha hb
  have h2 := o2_lt d (Sort.order2 lt d a b c).2.2 h1.2.1 hx
  have h3 := o2_lt d (Sort.order2 lt d (Sort.order2 lt d a b c).2.1 x (Sort.order2 lt d a b c).2.2).2.2 h1.1 h2.1
  exact ⟨h3.2.1, by show _ ≤ _; have := h1.2.2; have := h2.2.2; have := h3.2.2; simp only [Sort.median]; omega⟩
set_option maxHeartbeats 1000000 in
theorem med_any (B n cap a b x S c : Nat) (d : Array Nat) (w0 w : World) (hR : SO w0 w B d n S c) (ha : a < n) (hb : b < n) (hx : x < n) (hc : c < 100) :
    Calls Try.prog 92 #[.slice (some ⟨B, 0, none⟩) n cap, .int .i64 a, .int .i64 b, .int .i64 x, .pointer (some ⟨S, 0, none⟩)] w fun e w' => e = .returned (.int .i64 (Sort.median lt d a b x c).1) ∧ SO w0 w' B d n S (Sort.median lt d a b x c).2 := by
  have HR : Hid _ := hR
  clear hR
  have g1 := o2_lt d c ha hb
  have e1 : ∃ r, Sort.order2 lt d a b c = r := ⟨_, rfl⟩
  obtain ⟨⟨a1, b1, c1⟩, e1⟩ := e1
  rw [e1] at g1
  dsimp only at g1
  have g2 := o2_lt d c1 g1.2.1 hx
  have e2 : ∃ r, Sort.order2 lt d b1 x c1 = r := ⟨_, rfl⟩
  obtain ⟨⟨b2, x2, c2⟩, e2⟩ := e2
  rw [e2] at g2
  dsimp only at g2
  have e3 : ∃ r, Sort.order2 lt d a1 b2 c2 = r := ⟨_, rfl⟩
  obtain ⟨⟨a3, b3, c3⟩, e3⟩ := e3
  have E : Sort.median lt d a b x c = (b3, c3) := by simp only [Sort.median, e1, e2, e3]
  rw [E]
  dsimp only
  have G : Hid _ := And.intro g1 g2
  clear g1 g2 E
  have h1 := o2_any B n cap a b S c d w0
  rw [e1] at h1
  dsimp only at h1
  have h2 := o2_any B n cap b1 x S c1 d w0
  rw [e2] at h2
  dsimp only at h2
  have h3 := o2_any B n cap a1 b2 S c2 d w0
  rw [e3] at h3
  dsimp only at h3
  have H1 : Hid _ := h1
  have H2 : Hid _ := h2
  have H3 : Hid _ := h3
  clear h1 h2 h3 e1 e2 e3
  go_enter Try.func92, Try.ntmps92
  go_wp2_with (go_at_call 94; fail)
  with_reducible refine (H1.out _ HR.out (by omega) (by omega) (by omega)).mono ?_
  rintro e w1 ⟨rfl, hW⟩
  have HW1 : Hid _ := hW
  clear hW
  dsimp only
  go_wp2_with (go_at_call 94; fail)
  with_reducible refine (H2.out _ HW1.out (by have := G.out; omega) (by omega) (by have := G.out; omega)).mono ?_
  rintro e w2 ⟨rfl, hW⟩
  have HW2 : Hid _ := hW
  clear hW
  dsimp only
  go_wp2_with (go_at_call 94; fail)
  with_reducible refine (H3.out _ HW2.out (by have := G.out; omega) (by have := G.out; omega) (by have := G.out; omega)).mono ?_
  rintro e w3 ⟨rfl, hW⟩
  have HW3 : Hid _ := hW
  clear hW
  dsimp only
  go_wp2
  go_ret
  exact ⟨rfl, HW3.out⟩
theorem ma_any (B n cap a S c : Nat) (d : Array Nat) (w0 w : World) (hR : SO w0 w B d n S c) (h0 : 0 < a) (ha : a + 1 < n) (hn : n ≤ 140737488355328) (hc : c < 100) :
    Calls Try.prog 91 #[.slice (some ⟨B, 0, none⟩) n cap, .int .i64 a, .pointer (some ⟨S, 0, none⟩)] w fun e w' => e = .returned (.int .i64 (Sort.medianAdjacent lt d a c).1) ∧ SO w0 w' B d n S (Sort.medianAdjacent lt d a c).2 := by
  have HR : Hid _ := hR
  clear hR
  unfold Sort.medianAdjacent
  obtain ⟨a0, h0'⟩ : ∃ a0, a - 1 = a0 := ⟨_, rfl⟩
  obtain ⟨a2, h2'⟩ : ∃ a2, a + 1 = a2 := ⟨_, rfl⟩
  rw [h0', h2']
  have t1 : IntKind.i64.wrap ((a : Int) - 1) = (a0 : Int) := wr_dec (by omega) (by omega)
  have t2 : IntKind.i64.wrap ((a : Int) + 1) = (a2 : Int) := wr_one h2' (by omega)
  go_enter Try.func91, Try.ntmps91
  go_wp2_with (go_at_call 92; go_loud (refine (med_any B n cap a0 a a2 S c d w0 _ HR.out (by omega) (by omega) (by omega) hc).mono ?_); rintro e w1 ⟨rfl, hW⟩; have HW1 : Hid _ := hW; clear hW)
  go_ret
  exact ⟨rfl, HW1.out⟩
end Go.Proofs.Ytgkkghphlbgcoaa.So
namespace Go.Proofs.Ytgkkghphlbgcoaa.So
open Go.RowKit
set_option maxRecDepth 100000
set_option linter.unusedVariables false
set_option linter.unusedSimpArgs false
def hintN : Sort.Hint → Int
  | .unknown => 0
  | .increasing => 1
  | .decreasing => 2
theorem SO.new {w wr : World} {B n : Nat} {d : Array Nat} (h : SW w wr B d n) : SO w (wr.alloc (.cells #[.int .i64 0] 3)) B d n wr.heap.size 0 :=
  ⟨⟨⟨fun i hi => by rw [World.cell?_alloc_past _ _ _ h.r.lt]; exact h.r.c i hi, fun i => by rw [World.frozen?_alloc_past _ _ _ h.r.lt]; exact h.r.fz i, by have := h.r.lt; simp only [World.size_alloc]; omega⟩, h.z, h.ch.alloc _⟩, by simp, World.frozen?_alloc_at _ _ _ _ rfl, by simp, h.ch.size, Nat.ne_of_lt h.r.lt⟩
set_option maxHeartbeats 1000000 in
theorem cp_any (B n cap a b : Nat) (d : Array Nat) (w0 w : World) (hR : SW w0 w B d n) (hab : 12 < b - a) (hb : b ≤ n) (hn : n ≤ 140737488355328) :
    Calls Try.prog 78 #[.slice (some ⟨B, 0, none⟩) n cap, .int .i64 a, .int .i64 b] w fun e w' => e = .returned (.tuple #[.int .i64 (Sort.choosePivot lt d a b).1, .int .i64 (hintN (Sort.choosePivot lt d a b).2)]) ∧ SW w0 w' B d n := by
  have HR : Hid _ := hR
  have lB := hR.r.lt
  clear hR
  obtain ⟨l, hl⟩ : ∃ l, b - a = l := ⟨_, rfl⟩
  obtain ⟨q2, hq2⟩ : ∃ q2, l / 4 * 2 = q2 := ⟨_, rfl⟩
  obtain ⟨q3, hq3⟩ : ∃ q3, l / 4 * 3 = q3 := ⟨_, rfl⟩
  obtain ⟨i, hi⟩ : ∃ i, a + l / 4 = i := ⟨_, rfl⟩
  obtain ⟨j, hj⟩ : ∃ j, a + q2 = j := ⟨_, rfl⟩
  obtain ⟨k, hk⟩ : ∃ k, a + q3 = k := ⟨_, rfl⟩
  have t1 : IntKind.i64.wrap ((b : Int) - (a : Int)) = (l : Int) := wr_sub (by omega) (by omega)
  have t2 : IntKind.i64.wrap ((l : Int) / 4 * 2) = (q2 : Int) := by rw [IntWalk.i64_in _ (by omega)]; omega
  have t3 : IntKind.i64.wrap ((l : Int) / 4 * 3) = (q3 : Int) := by rw [IntWalk.i64_in _ (by omega)]; omega
  have t4 : IntKind.i64.wrap ((a : Int) + (l : Int) / 4) = (i : Int) := by rw [IntWalk.i64_in _ (by omega)]; omega
  have t5 : IntKind.i64.wrap ((a : Int) + (q2 : Int)) = (j : Int) := wr_add hj (by omega)
  have t6 : IntKind.i64.wrap ((a : Int) + (q3 : Int)) = (k : Int) := wr_add hk (by omega)
  have g8 : decide ((8 : Int) ≤ (l : Int)) = true := decide_eq_true (by omega)
  have HH : Hid _ := And.intro hl (And.intro hq2 (And.intro hq3 (And.intro hi (And.intro hj hk))))
  clear hl hq2 hq3 hi hj hk
  have h8 : 8 ≤ l := by have := HH.out; omega
  have hl9 : l ≤ 140737488355328 := by have := HH.out; omega
  have B1 : Hid (0 < i ∧ i + 1 < n ∧ 0 < j ∧ j + 1 < n ∧ 0 < k ∧ k + 1 < n) := (by have := HH.out; omega : 0 < i ∧ i + 1 < n ∧ 0 < j ∧ j + 1 < n ∧ 0 < k ∧ k + 1 < n)
  by_cases h50 : 50 ≤ l
  · have g50 : decide ((50 : Int) ≤ (l : Int)) = true := decide_eq_true (by omega)
    have b1 := med_lt (n := n) d 0 (a := i - 1) (b := i) (x := i + 1) (by have := B1.out; omega) (by have := B1.out; omega) (by have := B1.out; omega)
    obtain ⟨⟨i1, c1⟩, e1⟩ : ∃ r, Sort.median lt d (i - 1) i (i + 1) 0 = r := ⟨_, rfl⟩
    rw [e1] at b1
    have b2 := med_lt (n := n) d c1 (a := j - 1) (b := j) (x := j + 1) (by have := B1.out; omega) (by have := B1.out; omega) (by have := B1.out; omega)
    obtain ⟨⟨j1, c2⟩, e2⟩ : ∃ r, Sort.median lt d (j - 1) j (j + 1) c1 = r := ⟨_, rfl⟩
    rw [e2] at b2
    have b3 := med_lt (n := n) d c2 (a := k - 1) (b := k) (x := k + 1) (by have := B1.out; omega) (by have := B1.out; omega) (by have := B1.out; omega)
    obtain ⟨⟨k1, c3⟩, e3⟩ : ∃ r, Sort.median lt d (k - 1) k (k + 1) c2 = r := ⟨_, rfl⟩
    rw [e3] at b3
    dsimp only at b1 b2 b3
    have b4 := med_lt (n := n) d c3 b1.1 b2.1 b3.1
    obtain ⟨⟨m4, c4⟩, e4⟩ : ∃ r, Sort.median lt d i1 j1 k1 c3 = r := ⟨_, rfl⟩
    rw [e4] at b4
    dsimp only at b4
    have E : Sort.choosePivot lt d a b = (m4, if c4 = 0 then .increasing else if c4 = 12 then .decreasing else .unknown) := by
      have h := HH.out
      unfold Sort.choosePivot
      simp only [h.1, Nat.mul_one, h.2.1, h.2.2.1, h.2.2.2.1, h.2.2.2.2.1, h.2.2.2.2.2, ge_iff_le, if_pos h8, if_pos h50, Sort.medianAdjacent, e1, e2, e3, e4]
    rw [E]
    clear E
    go_enter Try.func78, Try.ntmps78
    have m1 := ma_any B n cap i w.heap.size 0 d w0
    have m2 := ma_any B n cap j w.heap.size c1 d w0
    have m3 := ma_any B n cap k w.heap.size c2 d w0
    have m4' := med_any B n cap i1 j1 k1 w.heap.size c3 d w0
    rw [Sort.medianAdjacent, e1] at m1
    rw [Sort.medianAdjacent, e2] at m2
    rw [Sort.medianAdjacent, e3] at m3
    rw [e4] at m4'
    dsimp only at m1 m2 m3 m4'
    have M1 : Hid _ := m1
    have M2 : Hid _ := m2
    have M3 : Hid _ := m3
    have M4 : Hid _ := m4'
    have G : Hid _ := And.intro b1 (And.intro b2 (And.intro b3 b4))
    clear m1 m2 m3 m4' b1 b2 b3 b4 e1 e2 e3 e4
    go_wp2_with (go_at_call 91; fail)
    with_reducible refine (M1.out _ (SO.new HR.out) (by have := B1.out; omega) (by have := B1.out; omega) hn (by have := G.out; omega)).mono ?_
    rintro e w1 ⟨rfl, hW⟩
    have HW1 : Hid _ := hW
    clear hW
    dsimp only
    go_wp2_with (go_at_call 91; fail)
    with_reducible refine (M2.out _ HW1.out (by have := B1.out; omega) (by have := B1.out; omega) hn (by have := G.out; omega)).mono ?_
    rintro e w2 ⟨rfl, hW⟩
    have HW2 : Hid _ := hW
    clear hW
    dsimp only
    go_wp2_with (go_at_call 91; fail)
    with_reducible refine (M3.out _ HW2.out (by have := B1.out; omega) (by have := B1.out; omega) hn (by have := G.out; omega)).mono ?_
    rintro e w3 ⟨rfl, hW⟩
    have HW3 : Hid _ := hW
    clear hW
    dsimp only
    go_wp2_with (go_at_call 92; fail)
    with_reducible refine (M4.out _ HW3.out (by have := G.out; omega) (by have := G.out; omega) (by have := G.out; omega) (by have := G.out; omega)).mono ?_
    rintro e w4 ⟨rfl, hW⟩
    have HW4 : Hid _ := hW
    clear hW
    dsimp only
    obtain ⟨S, hS⟩ : ∃ S, w.heap.size = S := ⟨_, rfl⟩
    rw [hS] at HW4
    simp only [hS]
    clear hS
    have kS := HW4.out.c
    have fS := HW4.out.f
    have lS := HW4.out.l
    have LC : c4 ≤ 12 := by have := G.out; omega
    by_cases z0 : c4 = 0
    · subst z0
      go_wp2
      go_ret2
      exact ⟨rfl, HW4.out.s⟩
    · by_cases z1 : c4 = 12
      · subst z1
        go_wp2
        go_ret2
        exact ⟨rfl, HW4.out.s⟩
      · have y0 : ((c4 : Int) == 0) = false := by simpa using (show ¬ (c4 : Int) = 0 by omega)
        have y1 : ((c4 : Int) == 12) = false := by simpa using (show ¬ (c4 : Int) = 12 by omega)
        have x0 : ¬ (c4 : Int) = 0 := by omega
        have x1 : ¬ (c4 : Int) = 12 := by omega
        go_wp2
        go_ret2
        exact ⟨rfl, HW4.out.s⟩
  · have g50 : decide ((50 : Int) ≤ (l : Int)) = false := decide_eq_false (by omega)
    have b4 := med_lt (n := n) d 0 (a := i) (b := j) (x := k) (by have := B1.out; omega) (by have := B1.out; omega) (by have := B1.out; omega)
    obtain ⟨⟨m4, c4⟩, e4⟩ : ∃ r, Sort.median lt d i j k 0 = r := ⟨_, rfl⟩
    rw [e4] at b4
    dsimp only at b4
    have E : Sort.choosePivot lt d a b = (m4, if c4 = 0 then .increasing else if c4 = 12 then .decreasing else .unknown) := by
      have h := HH.out
      unfold Sort.choosePivot
      simp only [h.1, Nat.mul_one, h.2.1, h.2.2.1, h.2.2.2.1, h.2.2.2.2.1, h.2.2.2.2.2, ge_iff_le, if_pos h8, if_neg h50, e4]
    rw [E]
    clear E
    go_enter Try.func78, Try.ntmps78
    have m4' := med_any B n cap i j k w.heap.size 0 d w0
    rw [e4] at m4'
    dsimp only at m4'
    have M4 : Hid _ := m4'
    have G : Hid _ := b4
    clear m4' b4 e4
    go_wp2_with (go_at_call 92; fail)
    with_reducible refine (M4.out _ (SO.new HR.out) (by have := B1.out; omega) (by have := B1.out; omega) (by have := B1.out; omega) (by omega)).mono ?_
    rintro e w4 ⟨rfl, hW⟩
    have HW4 : Hid _ := hW
    clear hW
    dsimp only
    obtain ⟨S, hS⟩ : ∃ S, w.heap.size = S := ⟨_, rfl⟩
    rw [hS] at HW4
    simp only [hS]
    clear hS
    have kS := HW4.out.c
    have fS := HW4.out.f
    have lS := HW4.out.l
    have LC : c4 ≤ 12 := by have := G.out; omega
    by_cases z0 : c4 = 0
    · subst z0
      go_wp2
      go_ret2
      exact ⟨rfl, HW4.out.s⟩
    · by_cases z1 : c4 = 12
      · subst z1
        go_wp2
        go_ret2
        exact ⟨rfl, HW4.out.s⟩
      · have y0 : ((c4 : Int) == 0) = false := by simpa using (show ¬ (c4 : Int) = 0 by omega)
        have y1 : ((c4 : Int) == 12) = false := by simpa using (show ¬ (c4 : Int) = 12 by omega)
        have x0 : ¬ (c4 : Int) = 0 := by omega
        have x1 : ¬ (c4 : Int) = 12 := by omega
        go_wp2
        go_ret2
        exact ⟨rfl, HW4.out.s⟩
end Go.Proofs.Ytgkkghphlbgcoaa.So
