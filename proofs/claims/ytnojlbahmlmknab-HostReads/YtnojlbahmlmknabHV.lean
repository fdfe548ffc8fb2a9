import Derived.Test.YtnojlbahmlmknabHU
namespace Go.Proofs.Ytnojlbahmlmknab
open Go.RowKit
set_option maxRecDepth 100000
set_option linter.unusedVariables false
set_option linter.unusedSimpArgs false
theorem Lies.wds {w0 w : World} {sv : Value} {l : List Nat} (h : Lies w0 w sv l) : ∃ a c, sv = .slice a l.length c ∧ Wds w a l.length c (wsF l) := by
  rcases h with ⟨rfl, rfl⟩ | ⟨b, c, rfl, -, hc, h3, hr⟩
  · exact ⟨none, 0, rfl, .inl rfl⟩
  · exact ⟨_, c, rfl, .inr ⟨b, 0, rfl, hc, by omega, hr⟩⟩
theorem words_any (a : Option Addr) (len cap : Nat) (ws : Nat → Nat) (w : World) (h : Wds w a len cap ws) (hl : len ≤ 35184372088832) :
    Calls Try.prog 22 #[.slice a len cap] w fun e w' => ∃ a' c', e = .returned (.slice a' len c') ∧ Wds w' a' len c' ws ∧ Below w.heap.size w w' := by
  by_cases h0 : len = 0
  · subst h0
    refine (words_zero a cap w).mono ?_
    rintro e w' ⟨rfl, hb⟩
    exact ⟨none, 0, rfl, .inl rfl, hb⟩
  · rcases h with h | ⟨b, off, rfl, h1, h2, hr⟩
    · exact absurd h h0
    · refine (words_some b off len cap ws w hr (by omega) hl).mono ?_
      rintro e w' ⟨c, rfl, hr2, hb2, hc⟩
      exact ⟨_, c, rfl, .inr ⟨_, 0, rfl, hc, h2, hr2⟩, hb2⟩
/-- What was read is written as it was. -/
theorem enc_back {ws : Nat → Nat} {len a k : Nat} (hlt : ∀ i, ws i < 4294967296) (R : Red ws len a k) :
    (encP (decP ws len a).x).1 = 0 ∧ (encP (decP ws len a).x).2.length = (decP ws len a).n ∧ (∀ i, i < (decP ws len a).n → wsF (encP (decP ws len a).x).2 i = ws (a + i)) ∧ (decP ws len a).x.k < 4294967296 ∧ (decP ws len a).x.x < 4294967296 := by
  have hv := hlt a
  have L := link_some (Nat.mod_lt _ (by decide)) R.hit
  have hly := ly_back (ws a) (ws (a + 1)) (ws (a + 2)) hv L R.ok
  have hxk : (xR (fmR ((ws a % 256 : Nat) : Int)) (ws a) (ws (a + 1)) (ws (a + 2))).k = if 1 < szN (foOf k).has then ws (a + 1) else 0 := by unfold xR; rw [L.n]
  have hxx : (xR (fmR ((ws a % 256 : Nat) : Int)) (ws a) (ws (a + 1)) (ws (a + 2))).x = if 2 < szN (foOf k).has then ws (a + 2) else 0 := by unfold xR; rw [L.n]
  have hop : (xR (fmR ((ws a % 256 : Nat) : Int)) (ws a) (ws (a + 1)) (ws (a + 2))).op = ((ws a % 256 : Nat) : Int) := rfl
  have b1 := hlt (a + 1)
  have b2 := hlt (a + 2)
  have kb : (xR (fmR ((ws a % 256 : Nat) : Int)) (ws a) (ws (a + 1)) (ws (a + 2))).k < 4294967296 := by rw [hxk]; split <;> omega
  have xb : (xR (fmR ((ws a % 256 : Nat) : Int)) (ws a) (ws (a + 1)) (ws (a + 2))).x < 4294967296 := by rw [hxx]; split <;> omega
  rw [R.x, R.n]
  have hok := R.ok
  have hxr : ∀ p q, (1 < szN (foOf k).has → p = ws (a + 1)) → (2 < szN (foOf k).has → q = ws (a + 2)) → xR (fmR ((ws a % 256 : Nat) : Int)) (ws a) p q = xR (fmR ((ws a % 256 : Nat) : Int)) (ws a) (ws (a + 1)) (ws (a + 2)) := fun p q hp hq => by
    unfold xR
    rw [L.n]
    by_cases h1 : 1 < szN (foOf k).has
    · by_cases h2 : 2 < szN (foOf k).has
      · rw [hp h1, hq h2]
      · rw [hp h1]; simp [h2]
    · have h2 : ¬ 2 < szN (foOf k).has := by omega
      simp [h1, h2]
  have hm := hxr
  clear hxr
  generalize hX : xR (fmR ((ws a % 256 : Nat) : Int)) (ws a) (ws (a + 1)) (ws (a + 2)) = X at *
  have hk : hit X.op = some k := by rw [hop]; exact R.hit
  have w0 : wsF (wsE (szN (foOf k).has) (ws a) X.k X.x) 0 = ws a := ws_zero _ _ _ _
  have w1 : 1 < szN (foOf k).has → wsF (wsE (szN (foOf k).has) (ws a) X.k X.x) 1 = ws (a + 1) := fun h => by
    rw [if_pos h] at hxk
    rcases szN_cases (foOf k).has with e | e | e
    · omega
    · rw [e, hxk]; rfl
    · rw [e, hxk]; rfl
  have w2 : 2 < szN (foOf k).has → wsF (wsE (szN (foOf k).has) (ws a) X.k X.x) 2 = ws (a + 2) := fun h => by
    rw [if_pos h] at hxx
    rcases szN_cases (foOf k).has with e | e | e
    · omega
    · omega
    · rw [e, hxx]; rfl
  have hmk := decP_make (len := szN (foOf k).has) (a := 0) (k := k) (ws_lt (szN (foOf k).has) (ws a) X.k X.x hv kb xb) (by rw [w0]; exact R.hit) (by omega) (by
    rw [w0, hm _ _ w1 w2]; exact hok)
  rw [w0, hm _ _ w1 w2] at hmk
  have hy := encP_yes hk (by rw [hly]; exact hmk.1) (by rw [hly]; exact hmk.2)
  rw [hly] at hy
  rw [hy]
  refine ⟨rfl, wsE_len, fun i hi => ?_, kb, xb⟩
  rcases i with _ | _ | _ | i
  · exact w0
  · exact w1 hi
  · exact w2 hi
  · have := szN_le3 (foOf k).has; omega
set_option maxHeartbeats 1000000 in
theorem writes_walk (x : Cd) (w : World) (h1 : x.k < 4294967296) (h2 : x.x < 4294967296) :
    Calls Try.prog 6 #[cdV x] w fun e w' => e = .returned (.bool true) ∧ Below w.heap.size w w' := by
  go_enter Try.func6, Try.ntmps6
  go_wp2_with (first
    | (go_at_call 26; refine (Encode_any x (w.alloc (.cells (cdA x) 57)) h1 h2).mono ?_; rintro e w1 ⟨sv1, rfl, hl1, hb1⟩; obtain ⟨a1, c1, rfl, hd1⟩ := hl1.wds; have bx : w1.heap[w.heap.size]? = some (.cells (cdA x) 57) := (hb1.block w.heap.size (by simp)).trans (heap_alloc_last w _); have k0 : w1.cell? ⟨w.heap.size, 0, none⟩ = some (.int .i64 x.op) := row_cell bx 0; have k1 : w1.cell? ⟨w.heap.size, 1, none⟩ = some (.int .i64 x.d) := row_cell bx 1; have k2 : w1.cell? ⟨w.heap.size, 2, none⟩ = some (.int .i64 x.a) := row_cell bx 2; have k3 : w1.cell? ⟨w.heap.size, 3, none⟩ = some (.int .i64 x.b) := row_cell bx 3; have k4 : w1.cell? ⟨w.heap.size, 4, none⟩ = some (.int .i64 x.c) := row_cell bx 4; have k5 : w1.cell? ⟨w.heap.size, 5, none⟩ = some (.int .i64 x.n) := row_cell bx 5; have k6 : w1.cell? ⟨w.heap.size, 6, none⟩ = some (.int .u32 x.k) := row_cell bx 6; have k7 : w1.cell? ⟨w.heap.size, 7, none⟩ = some (.int .u32 x.x) := row_cell bx 7; have lx := row_lt bx; have HD1 : Hid _ := hd1; have HB1 : Hid _ := hb1; clear hd1 hb1 hl1 bx)
    | (go_at_call 27; refine (rEncode_any x w1 h1 h2).mono ?_; rintro e w2 ⟨sv2, rfl, hl2, hb2⟩; obtain ⟨a2, c2, rfl, hd2⟩ := hl2.wds; have HD2 : Hid _ := hd2; have HB2 : Hid _ := hb2; clear hd2 hb2 hl2)
    | (go_at_call 25; refine (same_true a1 a2 (encP x).2.length c1 c2 (wsF (encP x).2) w2 (wds_keep HD1.out HB2.out) HD2.out).mono ?_; rintro e w3 ⟨rfl, hb3⟩; have HB3 : Hid _ := hb3; clear hb3))
  go_ret
  have s1 := HB1.out.size
  have s2 := HB2.out.size
  simp at s1
  exact ⟨rfl, ((((Below.refl w.heap.size w).alloc (Nat.le_refl _) _).trans (HB1.out.mono (by simp))).trans (HB2.out.mono (by omega))).trans (HB3.out.mono (by omega))⟩
theorem wds_part {w : World} {a : Option Addr} {len cap m n : Nat} {ws : Nat → Nat} (h : Wds w a len cap ws) (hm : m + n ≤ len) (hn : 0 < n) : ∃ b off, a = some ⟨b, off, none⟩ ∧ len ≤ cap ∧ WR w b (off + m) n (fun i => ws (m + i)) := by
  rcases h with h | ⟨b, off, rfl, h1, h2, hr⟩
  · omega
  · exact ⟨b, off, rfl, h1, fun i hi => by rw [Nat.add_assoc]; exact hr.cell (m + i) (by omega), fun i => hr.lt _, hr.lb⟩
theorem wds_congr {w : World} {a : Option Addr} {len cap : Nat} {ws ws' : Nat → Nat} (h : Wds w a len cap ws) (he : ∀ i, i < len → ws' i = ws i) (hl : ∀ i, ws' i < 4294967296) : Wds w a len cap ws' := by
  rcases h with h | ⟨b, off, rfl, h1, h2, hr⟩
  · exact .inl h
  · exact .inr ⟨b, off, rfl, h1, h2, fun i hi => by rw [he i hi]; exact hr.cell i hi, hl, hr.lb⟩
theorem wsF_lt (l : List Nat) (h : ∀ u ∈ l, u < 4294967296) : ∀ i, wsF l i < 4294967296 := by
  intro i
  unfold wsF
  rw [List.getD_eq_getElem?_getD]
  cases hi : l[i]? with
  | none => simp
  | some u => simp; exact h u (List.mem_of_getElem? hi)
theorem reads_bel {w w1 w2 w3 w4 : World} {o1 o2 : Obj} (h1 : Below w.heap.size w w1) (h2 : Below w1.heap.size w1 w2) (h3 : Below (w2.alloc o1).heap.size (w2.alloc o1) w3) (h4 : Below (w3.alloc o2).heap.size (w3.alloc o2) w4) : Below w.heap.size w w4 := by
  have s1 := h1.size
  have s2 := h2.size
  have s3 := h3.size
  simp at s3
  exact ((((h1.trans (h2.mono s1)).alloc (by omega) _).trans (h3.mono (by simp; omega))).alloc (by omega) _).trans (h4.mono (by simp; omega))
set_option maxHeartbeats 2000000 in
theorem reads_bad (a : Option Addr) (len cap : Nat) (at' : Int) (ws : Nat → Nat) (w : World) (hw : Wds w a len cap ws) (hl : len ≤ 35184372088832) (D : Dc) (hD : decP ws len at' = D) (he : D.e ≠ 0) :
    Calls Try.prog 5 #[.slice a len cap, .int .i64 at'] w fun e w' => e = .returned (.bool true) ∧ Below w.heap.size w w' := by
  have HW : Hid _ := hw
  have HL : Hid _ := hl
  have HD : Hid _ := hD
  have g0 : (D.e != 0) = true := by simpa using he
  clear hw hl hD he
  go_enter Try.func5, Try.ntmps5
  go_wp2_with (first
    | (go_at_call 22; refine (words_any a len cap ws w HW.out HL.out).mono ?_; rintro e w1 ⟨ao, co, rfl, ho1, hb1⟩; have HO1 : Hid _ := ho1; have HB1 : Hid _ := hb1; clear ho1 hb1)
    | (go_at_call 23; refine (Decode_any a len cap at' ws w1 (wds_keep HW.out HB1.out)).mono ?_; rintro e w2 ⟨rfl, hb2⟩; rw [HD.out]; have HB2 : Hid _ := hb2; clear hb2)
    | (go_at_call 24; refine (rDecode_any ao len co at' ws (w2.alloc (.cells (cdA D.x) 57)) (wds_keep (wds_keep HO1.out HB2.out) (Below.alloc (Below.refl _ _) (Nat.le_refl _) _))).mono ?_; rintro e w3 ⟨rfl, hb3⟩; rw [HD.out]; have xb : w3.heap[w2.heap.size]? = some (.cells (cdA D.x) 57) := (hb3.block w2.heap.size (by simp)).trans (heap_alloc_last w2 _); have x0 : w3.cell? ⟨w2.heap.size, 0, none⟩ = some (.int .i64 D.x.op) := row_cell xb 0; have x1 : w3.cell? ⟨w2.heap.size, 1, none⟩ = some (.int .i64 D.x.d) := row_cell xb 1; have x2 : w3.cell? ⟨w2.heap.size, 2, none⟩ = some (.int .i64 D.x.a) := row_cell xb 2; have x3 : w3.cell? ⟨w2.heap.size, 3, none⟩ = some (.int .i64 D.x.b) := row_cell xb 3; have x4 : w3.cell? ⟨w2.heap.size, 4, none⟩ = some (.int .i64 D.x.c) := row_cell xb 4; have x5 : w3.cell? ⟨w2.heap.size, 5, none⟩ = some (.int .i64 D.x.n) := row_cell xb 5; have x6 : w3.cell? ⟨w2.heap.size, 6, none⟩ = some (.int .u32 D.x.k) := row_cell xb 6; have x7 : w3.cell? ⟨w2.heap.size, 7, none⟩ = some (.int .u32 D.x.x) := row_cell xb 7; have lx := row_lt xb; have HXB : Hid _ := xb; have HB3 : Hid _ := hb3; clear hb3 xb)
    | (go_at_call 25; refine (same_true a ao len cap co ws (w3.alloc (.cells (cdA D.x) 57)) (wds_keep (wds_keep (wds_keep (wds_keep (wds_keep HW.out HB1.out) HB2.out) (Below.alloc (Below.refl _ _) (Nat.le_refl _) _)) HB3.out) (Below.alloc (Below.refl _ _) (Nat.le_refl _) _)) (wds_keep (wds_keep (wds_keep (wds_keep HO1.out HB2.out) (Below.alloc (Below.refl _ _) (Nat.le_refl _) _)) HB3.out) (Below.alloc (Below.refl _ _) (Nat.le_refl _) _))).mono ?_; rintro e w4 ⟨rfl, hb4⟩; have HB4 : Hid _ := hb4; clear hb4))
  go_ret
  exact ⟨rfl, reads_bel HB1.out HB2.out HB3.out HB4.out⟩
set_option maxHeartbeats 4000000 in
theorem reads_ok (b off len cap m k p : Nat) (ws : Nat → Nat) (w : World) (hw : Wds w (some ⟨b, off, none⟩) len cap ws) (hlt : ∀ i, ws i < 4294967296) (hl : len ≤ 35184372088832) (hc : len ≤ cap) (hcap : cap ≤ 140737488355328) (D : Dc) (hD : decP ws len m = D) (he : D.e = 0) (R : Red ws len m k) (hp : p = m + D.n) :
    Calls Try.prog 5 #[.slice (some ⟨b, off, none⟩) len cap, .int .i64 m] w fun e w' => e = .returned (.bool true) ∧ Below w.heap.size w w' := by
  have HW : Hid _ := hw
  have HL : Hid _ := hl
  have HD : Hid _ := hD
  have g0 : (D.e != 0) = false := by simp [he]
  obtain ⟨q1, q2, q3, q4, q5⟩ := enc_back hlt R
  rw [hD] at q1 q2 q3 q4 q5
  have hn := R.n
  rw [hD] at hn
  have hle := R.le
  have hz := szN_cases (foOf k).has
  have HE1 : Hid ((encP D.x).1 = 0) := q1
  have HLEN : Hid ((encP D.x).2.length = D.n) := q2
  have HWS : Hid _ := q3
  have HKB : Hid _ := q4
  have HXX : Hid _ := q5
  have m0 : (0 : Int) ≤ m := by omega
  have m1 : (m : Int) ≤ p := by omega
  have m2 : (p : Int) ≤ len := by omega
  have m3 : (p : Int) ≤ cap := by omega
  have m4 : (m : Int) < cap := by omega
  have hw2 : IntKind.i64.wrap ((m : Int) + D.n) = p := by rw [IntWalk.i64_in _ (by omega)]; omega
  have HP : Hid (p = m + D.n) := hp
  have HLE : Hid (m + D.n ≤ len ∧ 0 < D.n) := ⟨by omega, by omega⟩
  have HLT : Hid _ := hlt
  have HC : Hid _ := hc
  clear hw hl hD he R q1 q2 q3 q4 q5 hn hle hz hp hlt hc hcap
  go_enter Try.func5, Try.ntmps5
  go_upto_region 9 with (first
    | (go_at_call 26; refine (Encode_any D.x w4 HKB.out HXX.out).mono ?_; rintro e w5 ⟨sv5, rfl, hl5, hb5⟩; rw [HE1.out]; obtain ⟨a5, c5, rfl, hd5⟩ := hl5.wds; have HD5 : Hid _ := hd5; have HB5 : Hid _ := hb5; clear hd5 hb5 hl5)
    | (go_at_call 22; refine (words_any (some ⟨b, off, none⟩) len cap ws w HW.out HL.out).mono ?_; rintro e w1 ⟨ao, co, rfl, ho1, hb1⟩; have HO1 : Hid _ := ho1; have HB1 : Hid _ := hb1; clear ho1 hb1)
    | (go_at_call 23; refine (Decode_any (some ⟨b, off, none⟩) len cap m ws w1 (wds_keep HW.out HB1.out)).mono ?_; rintro e w2 ⟨rfl, hb2⟩; rw [HD.out]; have HB2 : Hid _ := hb2; clear hb2)
    | (go_at_call 24; refine (rDecode_any ao len co m ws (w2.alloc (.cells (cdA D.x) 57)) (wds_keep (wds_keep HO1.out HB2.out) (Below.alloc (Below.refl _ _) (Nat.le_refl _) _))).mono ?_; rintro e w3 ⟨rfl, hb3⟩; rw [HD.out]; have xb : w3.heap[w2.heap.size]? = some (.cells (cdA D.x) 57) := (hb3.block w2.heap.size (by simp)).trans (heap_alloc_last w2 _); have x0 : w3.cell? ⟨w2.heap.size, 0, none⟩ = some (.int .i64 D.x.op) := row_cell xb 0; have x1 : w3.cell? ⟨w2.heap.size, 1, none⟩ = some (.int .i64 D.x.d) := row_cell xb 1; have x2 : w3.cell? ⟨w2.heap.size, 2, none⟩ = some (.int .i64 D.x.a) := row_cell xb 2; have x3 : w3.cell? ⟨w2.heap.size, 3, none⟩ = some (.int .i64 D.x.b) := row_cell xb 3; have x4 : w3.cell? ⟨w2.heap.size, 4, none⟩ = some (.int .i64 D.x.c) := row_cell xb 4; have x5 : w3.cell? ⟨w2.heap.size, 5, none⟩ = some (.int .i64 D.x.n) := row_cell xb 5; have x6 : w3.cell? ⟨w2.heap.size, 6, none⟩ = some (.int .u32 D.x.k) := row_cell xb 6; have x7 : w3.cell? ⟨w2.heap.size, 7, none⟩ = some (.int .u32 D.x.x) := row_cell xb 7; have lx := row_lt xb; have HXB : Hid _ := xb; have HB3 : Hid _ := hb3; clear hb3 xb)
    | (go_at_call 25; refine (same_true (some ⟨b, off, none⟩) ao len cap co ws (w3.alloc (.cells (cdA D.x) 57)) (wds_keep (wds_keep (wds_keep (wds_keep (wds_keep HW.out HB1.out) HB2.out) (Below.alloc (Below.refl _ _) (Nat.le_refl _) _)) HB3.out) (Below.alloc (Below.refl _ _) (Nat.le_refl _) _)) (wds_keep (wds_keep (wds_keep (wds_keep HO1.out HB2.out) (Below.alloc (Below.refl _ _) (Nat.le_refl _) _)) HB3.out) (Below.alloc (Below.refl _ _) (Nat.le_refl _) _))).mono ?_; rintro e w4 ⟨rfl, hb4⟩; have ub : w4.heap[w2.heap.size]? = some (.cells (cdA D.x) 57) := (hb4.block w2.heap.size (by simp; omega)).trans ((Below.heap_alloc _ _ _ lx).trans HXB.out); have u0 : w4.cell? ⟨w2.heap.size, 0, none⟩ = some (.int .i64 D.x.op) := row_cell ub 0; have u1 : w4.cell? ⟨w2.heap.size, 1, none⟩ = some (.int .i64 D.x.d) := row_cell ub 1; have u2 : w4.cell? ⟨w2.heap.size, 2, none⟩ = some (.int .i64 D.x.a) := row_cell ub 2; have u3 : w4.cell? ⟨w2.heap.size, 3, none⟩ = some (.int .i64 D.x.b) := row_cell ub 3; have u4 : w4.cell? ⟨w2.heap.size, 4, none⟩ = some (.int .i64 D.x.c) := row_cell ub 4; have u5 : w4.cell? ⟨w2.heap.size, 5, none⟩ = some (.int .i64 D.x.n) := row_cell ub 5; have u6 : w4.cell? ⟨w2.heap.size, 6, none⟩ = some (.int .u32 D.x.k) := row_cell ub 6; have u7 : w4.cell? ⟨w2.heap.size, 7, none⟩ = some (.int .u32 D.x.x) := row_cell ub 7; have lu := row_lt ub; have HB4 : Hid _ := hb4; clear hb4 ub))
  go_wp2_with fail
  rw [HLEN.out, show p - m = D.n from by have := HP.out; omega]
  have hd5 := HD5.out
  rw [HLEN.out] at hd5
  have hw4 := wds_keep (wds_keep (wds_keep (wds_keep (wds_keep (wds_keep HW.out HB1.out) HB2.out) (Below.alloc (Below.refl _ _) (Nat.le_refl _) _)) HB3.out) (Below.alloc (Below.refl _ _) (Nat.le_refl _) _)) HB4.out
  have hw5 := wds_keep hw4 HB5.out
  obtain ⟨b', off', e', hcc, hpart⟩ := wds_part hw5 HLE.out.1 HLE.out.2
  injection e' with e'
  injection e' with e1 e2 e3
  subst e1 e2
  refine (same_true a5 (some ⟨b, off + m, none⟩) D.n c5 (cap - m) (fun i => ws (m + i)) w5 (wds_congr hd5 (fun i hi => (HWS.out i hi).symm) (fun i => HLT.out _)) (.inr ⟨b, off + m, rfl, by have := HLE.out; omega, by have := HLE.out; have := HL.out; omega, hpart⟩)).mono ?_
  rintro e w6 ⟨rfl, hb6⟩
  have HB6 : Hid _ := hb6
  clear hb6 hpart hcc hw5 hw4 hd5
  go_wp2
  go_ret
  have h4 := reads_bel HB1.out HB2.out HB3.out HB4.out
  have s4 := h4.size
  have s5 := HB5.out.size
  exact ⟨rfl, (h4.trans (HB5.out.mono s4)).trans (HB6.out.mono (by omega))⟩
theorem reads_walk (a : Option Addr) (len cap : Nat) (at' : Int) (ws : Nat → Nat) (w : World) (hw : Wds w a len cap ws) (hlt : ∀ i, ws i < 4294967296) (hl : len ≤ 35184372088832) (hcap : cap ≤ 140737488355328) :
    Calls Try.prog 5 #[.slice a len cap, .int .i64 at'] w fun e w' => e = .returned (.bool true) ∧ Below w.heap.size w w' := by
  by_cases he : (decP ws len at').e = 0
  · obtain ⟨m, k, rfl, R⟩ := decP_ok hlt he
    have hz := szN_cases (foOf k).has
    have hle := R.le
    rcases hw with h | ⟨b, off, rfl, hc, h2, hr⟩
    · omega
    · exact reads_ok b off len cap m k _ ws w (.inr ⟨b, off, rfl, hc, h2, hr⟩) hlt hl hc hcap _ rfl he R rfl
  · exact reads_bad a len cap at' ws w hw hl _ rfl he
end Go.Proofs.Ytnojlbahmlmknab
