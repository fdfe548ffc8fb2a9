import Derived.Test.YtkhaajbhgenicaaMI
namespace Go.Proofs.Ytkhaajbhgenicaa
open Go.RowKit
set_option maxRecDepth 100000
set_option linter.unusedVariables false

/-- Byte j of a number. -/
def zv (v : Nat) (j : Nat) : Int := ((v / 256 ^ j % 256 : Nat) : Int)

theorem store_none (X a v : Nat) (n : Int) (w : World) (hn : ¬ (n = 1 ∨ n = 2 ∨ n = 4)) :
    Calls Try.prog 37 #[.pointer (some ⟨X, 0, none⟩), .int .u32 a, .int .i64 n, .int .u32 v] w fun e w' => e = .returned goV ∧ Below w.heap.size w w' := by
  have HN : Hid (¬ (n = 1 ∨ n = 2 ∨ n = 4)) := hn
  clear hn
  go_enter Try.func37, Try.ntmps37
  go_wp2_with (go_at_call 62; refine (wid_no _ _ HN.out).mono ?_; rintro e w' ⟨rfl, rfl⟩)
  exact bodyPost_ret (v := goV) (by simp [results, Try.results37, go_sem]) rfl ⟨rfl, by first | exact ((Below.refl _ _).alloc (Nat.le_refl _) _).setCell (Nat.le_refl _) _ | exact (Below.refl _ _).alloc (Nat.le_refl _) _⟩

theorem store_bad (X a v x : Nat) (n : Int) (s : MS) (w : World) (hn : n = 1 ∨ n = 2 ∨ n = 4) (ha : a < 4294967296) (hs : s.Ok) (h : PM w X s) (hb : badN s 2 a n.toNat = some x) :
    Calls Try.prog 37 #[.pointer (some ⟨X, 0, none⟩), .int .u32 a, .int .i64 n, .int .u32 v] w fun e w' => e = .returned (stV 6 x) ∧ Below w.heap.size w w' := by
  have HN : Hid (n = 1 ∨ n = 2 ∨ n = 4) := hn
  have HP : Hid (PM w X s) := h
  have HB : Hid (badN s 2 a n.toNat = some x) := hb
  clear hn h hb
  go_enter Try.func37, Try.ntmps37
  go_wp2_with first
    | (go_at_call 62; refine (wid_yes _ _ HN.out).mono ?_; rintro e w' ⟨rfl, rfl⟩)
    | (go_at_call 61; refine (allowed_bad X a x n 2 s _ ha (.inr (.inl rfl)) hs (HP.out.alloc _) HB.out).mono ?_; rintro e w' ⟨rfl, rfl⟩)
  exact bodyPost_ret (v := stV 6 x) (by simp [results, Try.results37, go_sem]) rfl ⟨rfl, by first | exact (((Below.refl _ _).alloc (Nat.le_refl _) _).setCell (Nat.le_refl _) _).setCell (Nat.le_refl _) _ | exact ((Below.refl _ _).alloc (Nat.le_refl _) _).setCell (Nat.le_refl _) _ | exact (Below.refl _ _).alloc (Nat.le_refl _) _⟩

theorem Chg.res {S : List Nat} {w w' : World} {o : Obj} (h : Chg S (w.alloc o) w') (v0 v1 : Value) : Chg S w ((w'.setCell ⟨w.heap.size, 0, none⟩ v0).setCell ⟨w.heap.size, 1, none⟩ v1) := by
  have h1 : Chg S w w' := (Chg.of_below S ((Below.refl w.heap.size w).alloc (Nat.le_refl _) o)).trans h
  exact (h1.new (Nat.le_refl _) ((Only.refl _ _).setCell 0 v0)).new (Nat.le_refl _) ((Only.refl _ _).setCell 1 v1)
theorem Chg.own2 {S : List Nat} {w w' : World} {v0 v1 : Value} {t : TypeId} (hb : Chg S (w.alloc (.cells #[v0, v1] t)) w') (hS : w.heap.size ∉ S) :
    w'.cell? ⟨w.heap.size, 0, none⟩ = some v0 ∧ w'.cell? ⟨w.heap.size, 1, none⟩ = some v1 ∧ (∀ o, w'.frozen? ⟨w.heap.size, o, none⟩ = false) ∧ w.heap.size < w'.heap.size := by
  have h1 : w'.heap[w.heap.size]? = some (.cells #[v0, v1] t (0, 0)) := (hb.block _ (by simp) hS).trans (heap_alloc_last w _)
  refine ⟨(cell_of_row _ _ 0 _ t (0, 0) h1).trans rfl, (cell_of_row _ _ 1 _ t (0, 0) h1).trans rfl, fun o => by simp only [World.frozen?, h1]; simp, ?_⟩
  have := hb.size
  simp at this
  omega

theorem zv_eq (v j : Nat) (h : j = 0 ∨ j = 1 ∨ j = 2 ∨ j = 3) : (v : Int) / 2 ^ min (8 * j) 32 % 256 = zv v j := by
  unfold zv
  rcases h with rfl | rfl | rfl | rfl
  · simp
  · show (v : Int) / 256 % 256 = _; omega
  · show (v : Int) / 65536 % 256 = _; omega
  · show (v : Int) / 16777216 % 256 = _; omega
theorem Chg.drew {S : List Nat} {w w' : World} (h : Chg S w w') : Chg S w w'.drew := ⟨h.os, h.tape, h.output, h.size, h.block⟩
theorem below_res2' {w w' : World} {o : Obj} (hb : Below (w.alloc o).heap.size (w.alloc o) w') (v0 v1 : Value) (o2 : Obj) : Below w.heap.size w (((w'.setCell ⟨w.heap.size, 0, none⟩ v0).setCell ⟨w.heap.size, 1, none⟩ v1).alloc o2) :=
  (below_res hb v0 v1).alloc (below_res hb v0 v1).size o2

set_option maxHeartbeats 1000000 in
theorem store_ok (X a v n : Nat) (s : MS) (w : World) (hn : n = 1 ∨ n = 2 ∨ n = 4) (ha : a < 4294967296) (hv : v < 4294967296) (hs : s.Ok) (h : PM w X s) (hb : badN s 2 a n = none) :
    Calls Try.prog 37 #[.pointer (some ⟨X, 0, none⟩), .int .u32 a, .int .i64 n, .int .u32 v] w fun e w' => e = .returned goV ∧ PM w' X (pokeS s a n (zv v)) ∧ Chg [X] w w' := by
  have HN : Hid ((n : Int) = 1 ∨ (n : Int) = 2 ∨ (n : Int) = 4) := show _ ∨ _ ∨ _ by omega
  have HN4 : Hid (n ≤ 4 ∧ 0 < n) := show _ ∧ _ by omega
  have hl := badN_lt hb (show 0 < n by omega)
  have HL : Hid (a + n ≤ 65536) := hl
  have ha0 : (0 : Int) ≤ a := by omega
  have ha1 : (a : Int) < 4294967296 := by omega
  have hv0 : (0 : Int) ≤ v := by omega
  have hv1 : (v : Int) < 4294967296 := by omega
  have HP : Hid (PM w X s) := h
  have HB : Hid (badN s 2 a (n : Int).toNat = none) := hb
  clear hn h hb hl
  go_enter Try.func37, Try.ntmps37
  go_wp2_with first
    | (go_at_call 62; refine (wid_yes _ _ HN.out).mono ?_; rintro e w' ⟨rfl, rfl⟩)
    | (go_at_call 61; refine (allowed_ok X a n 2 s _ ha (.inr (.inl rfl)) hs (HP.out.alloc _) HB.out).mono ?_; rintro e w' ⟨rfl, rfl⟩)
  go_loopw [28] (fun i wr => ∃ j : Nat, i = .int .i64 j ∧ j ≤ n ∧ PM wr X { s with B := ovr s.B a j (zv v) } ∧ Chg [X] (w.alloc (.cells #[.int .i64 0, .int .u32 0] 75)) wr) (fun i _ => n - (intOf i).toNat)
  case atStart => exact ⟨0, rfl, by omega, by rw [ovr_zero]; exact HP.out.alloc _, Chg.refl _ _⟩
  case round =>
    obtain ⟨j, rfl, hj, hR, hC⟩ := hrel
    have HR : Hid (PM wr X { s with B := ovr s.B a j (zv v) }) := hR
    have HC : Hid (Chg [X] (w.alloc (.cells #[.int .i64 0, .int .u32 0] 75)) wr) := hC
    clear hC
    by_cases hlt : j < n
    · have hai : a + j < 65536 := by have := HL.out; omega
      have hcb := hR.by_ (a + j) hai
      have hfb := hR.fr (a + j)
      have hji : (j : Int) < n := by omega
      have hj4 : j = 0 ∨ j = 1 ∨ j = 2 ∨ j = 3 := by have := HN4.out; omega
      have hwa : IntKind.i64.wrap (a : Int) = a := by rw [IntKind.wrap_i64]; omega
      have hwb : IntKind.i64.wrap ((a : Int) + (j : Int)) = (a : Int) + (j : Int) := by rw [IntKind.wrap_i64]; omega
      have htn : ((a : Int) + (j : Int)).toNat = a + j := by omega
      have hb0 : (0 : Int) ≤ (a : Int) + (j : Int) := by omega
      have hb1 : (a : Int) + (j : Int) < 65536 := by omega
      have hm8 : IntKind.i64.wrap (8 * (j : Int)) = 8 * (j : Int) := by rw [IntKind.wrap_i64]; omega
      have h80 : (0 : Int) ≤ 8 * (j : Int) := by omega
      have HJ : Hid (j = 0 ∨ j = 1 ∨ j = 2 ∨ j = 3) := hj4
      clear hR hj hj4
      go_wp2
      go_region
      go_wp2
      go_roundw
      case rel => exact ⟨j + 1, by go_num, by omega, by
        have := (HR.out.setByte (a + j) hai (zv v j)).drew
        simp only [ovr_next] at this
        rw [zv_eq v j HJ.out]
        exact this, (HC.out.set).drew⟩
      case measure => simp [intOf]; omega
    · have hjn : j = n := by omega
      subst hjn
      have hX : X < w.heap.size := HP.out.lt
      clear hR hj
      have hlj : (j : Int) ≤ 4 := by have := HN4.out; omega
      have hlj0 : (0 : Int) ≤ j := by omega
      go_wp2_with (go_at_call 59; refine (change_any X a j _ _ HL.out HR.out).mono ?_; rintro e w' ⟨rfl, hP', hC'⟩; have hCC := HC.out.trans hC'; obtain ⟨q0, q1, q2, q3⟩ := hCC.own2 (by simp; omega); have HQ : Hid _ := hP'; have HCC : Hid _ := hCC; clear hP' hC' hCC)
      refine bodyPost_ret (v := goV) (by simp [results, Try.results37, go_sem, q0, q1]) rfl ⟨rfl, ?_, HCC.out.res _ _⟩
      exact HQ.out.of_block (by rw [Below.heap_setCell _ _ _ _ (by simp; omega), Below.heap_setCell _ _ _ _ (by simp; omega)])

theorem rstore_none (k : RB) (a v : Nat) (n : Int) (w : World) (hn : ¬ (n = 1 ∨ n = 2 ∨ n = 4)) :
    Calls Try.prog 38 #[.pointer (some ⟨k.y, 0, none⟩), .int .u32 a, .int .i64 n, .int .u32 v] w fun e w' => e = .returned goV ∧ Below w.heap.size w w' := by
  have h1 : (n == 1) = false := by simp; omega
  have h2 : (n == 2) = false := by simp; omega
  have h4 : (n == 4) = false := by simp; omega
  have g1 : (n != 1) = true := by simp [bne, h1]
  have g2 : (n != 2) = true := by simp [bne, h2]
  have g4 : (n != 4) = true := by simp [bne, h4]
  clear hn
  go_enter Try.func38, Try.ntmps38
  go_wp2
  exact bodyPost_ret (v := goV) (by simp [results, Try.results38, go_sem]) rfl ⟨rfl, by first | exact ((Below.refl _ _).alloc (Nat.le_refl _) _).setCell (Nat.le_refl _) _ | exact (Below.refl _ _).alloc (Nat.le_refl _) _⟩

set_option maxHeartbeats 400000 in
theorem rstore_bad (k : RB) (a v x : Nat) (n : Int) (s : MS) (w : World) (hn : n = 1 ∨ n = 2 ∨ n = 4) (ha : a < 4294967296) (hs : s.Ok) (h : RM w k s) (hb : badN s 2 a n.toNat = some x) :
    Calls Try.prog 38 #[.pointer (some ⟨k.y, 0, none⟩), .int .u32 a, .int .i64 n, .int .u32 v] w fun e w' => e = .returned (stV 6 x) ∧ Below w.heap.size w w' := by
  have HP : Hid (RM w k s) := h
  have HB : Hid (badN s 2 a n.toNat = some x) := hb
  clear h hb
  rcases hn with rfl | rfl | rfl
  all_goals
    go_enter Try.func38, Try.ntmps38
    go_wp2_with (go_at_call 63; refine (use_bad k a x _ 2 6 s _ ha (.inr (.inl rfl)) hs (HP.out.alloc _) HB.out).mono ?_; rintro e w' ⟨rfl, hBl⟩; obtain ⟨q0, q1, q2, q3⟩ := own2 hBl; have HBl : Hid _ := hBl; clear hBl)
    exact bodyPost_ret (v := stV 6 x) (by simp [results, Try.results38, go_sem, q0, q1, q3]) rfl ⟨rfl, by first | exact below_res2' HBl.out _ _ _ | exact below_res2 HBl.out _ _ _⟩

/-- Behind j bytes: what is left of the number. -/
theorem zv_next (v j : Nat) : zv v j = (((v / 256 ^ j : Nat) : Int) % 256) := by unfold zv; omega
theorem pow_next (v j : Nat) : ((v / 256 ^ j : Nat) : Int) / 256 = ((v / 256 ^ (j + 1) : Nat) : Int) := by
  rw [Nat.pow_succ, ← Nat.div_div_eq_div_mul]; omega

structure StR (k : RB) (s : MS) (a v : Nat) (w w1 : World) (j : Nat) (wr : World) : Prop where
  rm : RM wr k (pokeS s a j (zv v))
  chg : Chg k.all w1 wr

set_option maxHeartbeats 2000000 in
theorem rstore_N (k : RB) (a v N : Nat) (n : Int) (s : MS) (w : World) (hN : n = (N : Int)) (hn : n = 1 ∨ n = 2 ∨ n = 4) (ha : a < 4294967296) (hv : v < 4294967296) (hs : s.Ok) (h : RM w k s) (hb : badN s 2 a n.toNat = none) :
    Calls Try.prog 38 #[.pointer (some ⟨k.y, 0, none⟩), .int .u32 a, .int .i64 n, .int .u32 v] w fun e w' => e = .returned goV ∧ RM w' k (pokeS s a N (zv v)) ∧ Chg k.all w w' := by
  have HN : Hid (n = (N : Int)) := hN
  have HN4 : Hid (N ≤ 4 ∧ 0 < N) := show _ ∧ _ by omega
  have hl := badN_lt hb (show 0 < n.toNat by omega)
  have HL : Hid (a + N ≤ 65536) := show a + N ≤ 65536 by omega
  have ha0 : (0 : Int) ≤ a := by omega
  have ha1 : (a : Int) < 4294967296 := by omega
  have HV : Hid (v < 4294967296) := hv
  have HP : Hid (RM w k s) := h
  have HB : Hid (badN s 2 a n.toNat = none) := hb
  have hn4 : n ≤ 4 := by omega
  have hn0 : 0 ≤ n := by omega
  clear hb hl hv
  have key : ∀ w', Below (w.alloc (.cells #[.int .i64 0, .int .u32 0] 75)).heap.size (w.alloc (.cells #[.int .i64 0, .int .u32 0] 75)) w' → RM (w'.alloc (.cells #[.int .i64 0, .int .u32 0] 75)) k s ∧ Chg k.all (w.alloc (.cells #[.int .i64 0, .int .u32 0] 75)) (w'.alloc (.cells #[.int .i64 0, .int .u32 0] 75)) ∧ w.heap.size ∉ k.all ∧ w'.heap.size ∉ k.all ∧ w.heap.size < w'.heap.size := by
    intro w' hb
    have h1 : RM w' k s := (h.alloc _).below hb (Nat.le_refl _)
    obtain ⟨-, -, -, q3⟩ := own2 hb
    refine ⟨h1.alloc _, Chg.of_below _ (hb.alloc hb.size _), fun hm => ?_, fun hm => ?_, q3⟩
    · have := h.lt _ (List.mem_cons_of_mem _ hm); omega
    · have := h1.lt _ (List.mem_cons_of_mem _ hm); omega
  have HK : Hid _ := key
  clear key h hN
  have hcase : (n == 1) = true ∨ ((n == 1) = false ∧ (n == 2) = true) ∨ ((n == 1) = false ∧ (n == 2) = false ∧ (n == 4) = true) := by
    rcases hn with rfl | rfl | rfl
    · exact .inl rfl
    · exact .inr (.inl ⟨rfl, rfl⟩)
    · exact .inr (.inr ⟨rfl, rfl, rfl⟩)
  clear hn
  have hcase' : (n != 1) = false ∨ ((n != 1) = true ∧ (n != 2) = false) ∨ ((n != 1) = true ∧ (n != 2) = true ∧ (n != 4) = false) := by
    rcases hcase with h | h | h
    · exact .inl (by simp [bne, h])
    · exact .inr (.inl ⟨by simp [bne, h.1], by simp [bne, h.2]⟩)
    · exact .inr (.inr ⟨by simp [bne, h.1], by simp [bne, h.2.1], by simp [bne, h.2.2]⟩)
  clear hcase
  rcases hcase' with g1 | ⟨g1, g2⟩ | ⟨g1, g2, g4⟩
  all_goals
    go_enter Try.func38, Try.ntmps38
    go_wp2_with (go_at_call 63; refine (use_ok k a n 2 6 s _ ha (.inr (.inl rfl)) hs (HP.out.alloc _) HB.out).mono ?_; rintro e w' ⟨rfl, hBl⟩; obtain ⟨q0, q1, q2, q3⟩ := own2 hBl; have HKK := HK.out w' hBl; have HKH : Hid _ := HKK; have HBl : Hid _ := hBl; clear hBl HKK)
    go_loopw [3, 10] (fun vv i wr => ∃ j p : Nat, i = .int .i64 j ∧ vv = .int .u32 p ∧ (j ≤ N ∧ p = v / 256 ^ j) ∧ StR k s a v w (w'.alloc (.cells #[.int .i64 0, .int .u32 0] 75)) j wr) (fun _ i _ => N - (intOf i).toNat)
    case atStart => exact ⟨0, v, rfl, rfl, ⟨by omega, by simp⟩, ⟨by rw [pokeS_zero]; exact HKH.out.1, Chg.refl _ _⟩⟩
    case round =>
      obtain ⟨j, p, rfl, rfl, ⟨hj, hp⟩, hR, hC⟩ := hrel
      have HR : Hid (RM wr k (pokeS s a j (zv v))) := hR
      have HC : Hid (Chg k.all (w'.alloc (.cells #[.int .i64 0, .int .u32 0] 75)) wr) := hC
      have hNn := HN.out
      clear hC
      by_cases hlt : j < N
      · have hlt' : (j : Int) < n := by omega
        have hai : a + j < 65536 := by have := HL.out; omega
        have hd0 := hR.c0
        have hcb := hR.by_ (a + j) hai
        have hfb := hR.fb (a + j)
        have hj0 : (0 : Int) ≤ j := by omega
        obtain ⟨x, hx⟩ : ∃ x, a + j = x := ⟨_, rfl⟩
        obtain ⟨q, hq⟩ : ∃ q, x / 256 = q := ⟨_, rfl⟩
        have hsum : (a : Int) + j = x := by omega
        have hdiv : (x : Int) / 256 = q := by omega
        have hx0 : (0 : Int) ≤ x := by omega
        have hx1 : (x : Int) < 65536 := by omega
        have hq1 : q < 256 := by omega
        have hp0 : (0 : Int) ≤ p := by omega
        have hp1 : (p : Int) < 4294967296 := by
          have h1 := HV.out
          have h2 : v / 256 ^ j ≤ v := Nat.div_le_self _ _
          omega
        have HZ : Hid (zv v j = (p : Int) % 256) := show _ = _ by rw [zv_next, ← hp]
        have HPP : Hid (p / 256 = v / 256 ^ (j + 1)) := show _ = _ by rw [hp, Nat.pow_succ, ← Nat.div_div_eq_div_mul]
        have hz0 : (0 : Int) ≤ (p : Int) % 256 := by omega
        have hz1 : (p : Int) % 256 < 256 := by omega
        rw [hx] at hcb hfb
        have HX : Hid (a + j = x ∧ x / 256 = q) := ⟨hx, hq⟩
        clear hR hai hx hq hj hp hNn
        go_wp2_with (go_at_call 57; refine (rchange_any k q _ _ hq1 (HR.out.setByte x (by omega) ((p : Int) % 256))).mono ?_; rintro e w2 ⟨rfl, hP', hC'⟩)
        have HQ' : Hid (RM w2 k (tellS { pokeS s a j (zv v) with B := upd (pokeS s a j (zv v)).B x ((p : Int) % 256) } q)) := hP'
        have HC' : Hid (Chg k.all (wr.setCell ⟨k.b, x, none⟩ (.int .u8 ((p : Int) % 256))) w2) := hC'
        clear hP' hC'
        go_roundw
        case rel => exact ⟨j + 1, p / 256, by go_num, by go_num, ⟨by omega, HPP.out⟩, ⟨by
          have := HQ'.out
          rw [← HX.out.2, ← HX.out.1, ← HZ.out, pokeS_next] at this
          exact this, (HC.out.setIn (by simp [RB.all])).trans HC'.out⟩⟩
        case measure => simp [intOf]; omega
      · have hjn : j = N := by omega
        subst hjn
        have hlt' : ¬ (j : Int) < n := by omega
        have hCw := HKH.out.2.1.trans HC.out
        obtain ⟨e0, e1, ef, -⟩ := Chg.own2 hCw HKH.out.2.2.1
        obtain ⟨e2, e3, eg, e5⟩ := Chg.own2 HC.out HKH.out.2.2.2.1
        have HCW : Hid _ := hCw
        clear hR hj hp hNn hCw
        go_wp2
        refine bodyPost_ret (v := goV) (by simp [results, Try.results38, go_sem, e0, e1]) rfl ⟨rfl, ?_, HCW.out.res _ _⟩
        refine HR.out.of_blocks fun x hx => ?_
        have hne : x ≠ w.heap.size := by have := HP.out.lt x hx; omega
        rw [Below.heap_setCell _ _ _ _ hne, Below.heap_setCell _ _ _ _ hne]

theorem rstore_ok (k : RB) (a v n : Nat) (s : MS) (w : World) (hn : n = 1 ∨ n = 2 ∨ n = 4) (ha : a < 4294967296) (hv : v < 4294967296) (hs : s.Ok) (h : RM w k s) (hb : badN s 2 a n = none) :
    Calls Try.prog 38 #[.pointer (some ⟨k.y, 0, none⟩), .int .u32 a, .int .i64 n, .int .u32 v] w fun e w' => e = .returned goV ∧ RM w' k (pokeS s a n (zv v)) ∧ Chg k.all w w' :=
  rstore_N k a v n n s w rfl (by omega) ha hv hs h hb
end Go.Proofs.Ytkhaajbhgenicaa
