import Derived.Test.YtgkkghphlbgcoaaHG1
import Derived.Test.YtgkkghphlbgcoaaHG2
import Derived.Test.YtgkkghphlbgcoaaHG3
import Derived.Test.YtgkkghphlbgcoaaHH
namespace Go.Proofs.Ytgkkghphlbgcoaa.Ho
open Go.RowKit
set_option maxRecDepth 100000
set_option linter.unusedVariables false
set_option linter.unusedSimpArgs false
/-- What decode answers: an error, or an instruction, its format and how many words it has. -/
structure Dc where
  e : Int
  x : Cd
  f : Fo
  n : Nat
def zC : Cd := ⟨0, 0, 0, 0, 0, 0, 0, 0⟩
def zF : Fo := ⟨0, 0, 0, 0, 0⟩
def decP (ws : Nat → Nat) (len : Nat) (at' : Int) : Dc :=
  if at' < 0 ∨ (len : Int) < at' then ⟨4, zC, zF, 0⟩ else if at' = len then ⟨1, zC, zF, 0⟩
  else match hit ((ws at'.toNat % 256 : Nat) : Int) with
    | none => ⟨2, zC, zF, 0⟩
    | some k =>
      if (len : Int) < at' + szN (foOf k).has then ⟨1, zC, zF, 0⟩
      else let x := rdX (foOf k).has (ws at'.toNat) (if 1 < szN (foOf k).has then ws (at'.toNat + 1) else 0) (if 2 < szN (foOf k).has then ws (at'.toNat + 2) else 0)
        if dcE (foOf k) (ws at'.toNat) x = 0 then ⟨0, x, foOf k, szN (foOf k).has⟩ else ⟨3, zC, zF, 0⟩
theorem szN_cases (h : Int) : szN h = 1 ∨ szN h = 2 ∨ szN h = 3 := by unfold szN; split <;> (try split) <;> simp
theorem dcE_cases (f : Fo) (v : Nat) (x : Cd) : dcE f v x = 0 ∨ dcE f v x = 3 := by unfold dcE; split <;> simp
theorem dc_if (c : Prop) [Decidable c] (x : Cd) (f : Fo) (n : Nat) : (if c then (⟨0, x, f, n⟩ : Dc) else ⟨3, zC, zF, 0⟩).e ≠ 0 → (if c then (⟨0, x, f, n⟩ : Dc) else ⟨3, zC, zF, 0⟩).x = zC ∧ (if c then (⟨0, x, f, n⟩ : Dc) else ⟨3, zC, zF, 0⟩).n = 0 := by
  split
  · intro h; exact absurd rfl h
  · intro _; exact ⟨rfl, rfl⟩
theorem decP_bad (ws : Nat → Nat) (len : Nat) (at' : Int) : (decP ws len at').e ≠ 0 → (decP ws len at').x = zC ∧ (decP ws len at').n = 0 := by
  unfold decP
  split
  · intro _; exact ⟨rfl, rfl⟩
  · split
    · intro _; exact ⟨rfl, rfl⟩
    · split
      · intro _; exact ⟨rfl, rfl⟩
      · split
        · intro _; exact ⟨rfl, rfl⟩
        · exact dc_if _ _ _ _
/-- Words that came in: none, or a row. -/
def Wds (w : World) (a : Option Addr) (len cap : Nat) (ws : Nat → Nat) : Prop := len = 0 ∨ ∃ b off, a = some ⟨b, off, none⟩ ∧ len ≤ cap ∧ len ≤ 140737488355328 ∧ WR w b off len ws
theorem decode_any (I : Nat) (a : Option Addr) (len cap : Nat) (at' : Int) (ws : Nat → Nat) (x0 : Cd) (f0 : Fo) (n0 : Int) (w : World) (hI : w.heap[I]? = some (.cells (fdA x0 f0 n0) 119)) (hw : Wds w a len cap ws) (hne : ∀ b off, a = some ⟨b, off, none⟩ → b ≠ I) :
    Calls Try.prog 64 #[.pointer (some ⟨I, 0, none⟩), .slice a len cap, .int .i64 at'] w fun e w' => e = .returned (.int .i64 (decP ws len at').e) ∧ ((decP ws len at').e = 0 → w'.heap[I]? = some (.cells (fdA (decP ws len at').x (decP ws len at').f (decP ws len at').n) 119)) ∧ Chg [I] w w' := by
  have hl : len ≤ 140737488355328 := by rcases hw with h | ⟨b, off, _, _, h, _⟩ <;> omega
  by_cases h1 : at' < 0 ∨ (len : Int) < at'
  · refine (dec_arg _ a len cap at' w (by omega) h1).mono ?_
    rintro e w' ⟨rfl, rfl⟩
    unfold decP; rw [if_pos h1]
    exact ⟨rfl, fun h => absurd h (by decide), Chg.refl _ _⟩
  · by_cases h2 : at' = len
    · subst h2
      refine (dec_end _ a len cap w (by omega)).mono ?_
      rintro e w' ⟨rfl, rfl⟩
      unfold decP; rw [if_neg h1, if_pos rfl]
      exact ⟨rfl, fun h => absurd h (by decide), Chg.refl _ _⟩
    · rcases hw with h | ⟨b, off, rfl, hcap, _, hr⟩
      · exfalso; omega
      · obtain ⟨m, rfl⟩ : ∃ m : Nat, at' = m := ⟨at'.toNat, by omega⟩
        have hm : m < len := by omega
        have hb := hne b off rfl
        unfold decP
        rw [if_neg h1, if_neg h2]
        simp only [Int.toNat_natCast]
        cases hk : hit ((ws m % 256 : Nat) : Int) with
        | none =>
          dsimp only
          refine (dec_none I b off len cap m ws x0 f0 n0 w hI hr hb hcap hl hm hk).mono ?_
          rintro e w' ⟨rfl, hc⟩
          exact ⟨rfl, fun h => absurd h (by decide), hc⟩
        | some k =>
          simp only []
          by_cases h3 : (len : Int) < m + szN (foOf k).has
          · rw [if_pos h3]
            rcases szN_cases (foOf k).has with hz | hz | hz
            · exfalso; omega
            · refine (dec2_short I b off len cap m ws x0 f0 n0 k w hI hr hb hcap hl ⟨hm, by omega⟩ hk hz).mono ?_
              rintro e w' ⟨rfl, hc⟩
              exact ⟨rfl, fun h => absurd h (by decide), hc⟩
            · refine (dec3_short I b off len cap m ws x0 f0 n0 k w hI hr hb hcap hl ⟨hm, by omega⟩ hk hz).mono ?_
              rintro e w' ⟨rfl, hc⟩
              exact ⟨rfl, fun h => absurd h (by decide), hc⟩
          · rw [if_neg h3]
            rcases szN_cases (foOf k).has with hz | hz | hz
            · rw [hz]
              refine (dec1_ok I b off len cap m ws x0 f0 n0 k w hI hr hb hcap hl (by omega) hk hz).mono ?_
              rintro e w' ⟨rfl, hB, hc⟩
              simp only [show ¬ (1 : Nat) < 1 from by decide, show ¬ (2 : Nat) < 1 from by decide, if_true, if_false]
              rcases dcE_cases (foOf k) (ws m) (rdX (foOf k).has (ws m) 0 0) with he | he
              · rw [if_pos he, he]; exact ⟨rfl, fun _ => hB, hc⟩
              · rw [if_neg (by rw [he]; decide), he]; exact ⟨rfl, fun h => absurd h (by decide), hc⟩
            · rw [hz]
              refine (dec2_ok I b off len cap m ws x0 f0 n0 k w hI hr hb hcap hl (by omega) hk hz).mono ?_
              rintro e w' ⟨rfl, hB, hc⟩
              simp only [show (1 : Nat) < 2 from by decide, show ¬ (2 : Nat) < 2 from by decide, if_true, if_false]
              rcases dcE_cases (foOf k) (ws m) (rdX (foOf k).has (ws m) (ws (m + 1)) 0) with he | he
              · rw [if_pos he, he]; exact ⟨rfl, fun _ => hB, hc⟩
              · rw [if_neg (by rw [he]; decide), he]; exact ⟨rfl, fun h => absurd h (by decide), hc⟩
            · rw [hz]
              refine (dec3_ok I b off len cap m ws x0 f0 n0 k w hI hr hb hcap hl (by omega) hk hz).mono ?_
              rintro e w' ⟨rfl, hB, hc⟩
              simp only [show (1 : Nat) < 3 from by decide, show (2 : Nat) < 3 from by decide, if_true, if_false]
              rcases dcE_cases (foOf k) (ws m) (rdX (foOf k).has (ws m) (ws (m + 1)) (ws (m + 2))) with he | he
              · rw [if_pos he, he]; exact ⟨rfl, fun _ => hB, hc⟩
              · rw [if_neg (by rw [he]; decide), he]; exact ⟨rfl, fun h => absurd h (by decide), hc⟩
theorem wds_keep {w w' : World} {a : Option Addr} {len cap : Nat} {ws : Nat → Nat} (h : Wds w a len cap ws) (b : Below w.heap.size w w') : Wds w' a len cap ws := by
  rcases h with h | ⟨B, off, ha, h1, h2, h3⟩
  · exact .inl h
  · exact .inr ⟨B, off, ha, h1, h2, fun i hi => (b.cell (p := ⟨B, off + i, none⟩) h3.lb).trans (h3.cell i hi), h3.lt, Nat.lt_of_lt_of_le h3.lb b.size⟩
theorem Wds.lt {w : World} {a : Option Addr} {len cap : Nat} {ws : Nat → Nat} (h : Wds w a len cap ws) : len = 0 ∨ ∃ b off, a = some ⟨b, off, none⟩ ∧ b < w.heap.size := by
  rcases h with h | ⟨B, off, ha, h1, h2, h3⟩
  · exact .inl h
  · exact .inr ⟨B, off, ha, h3.lb⟩
abbrev W2z (w : World) : World := (w.alloc (.cells (cdA ⟨0, 0, 0, 0, 0, 0, 0, 0⟩) 41)).alloc (.cells (fdA ⟨0, 0, 0, 0, 0, 0, 0, 0⟩ ⟨0, 0, 0, 0, 0⟩ 0) 119)
theorem w2z_bel (w : World) : Below w.heap.size w (W2z w) := ((Below.refl _ _).alloc (Nat.le_refl _) _).alloc (by simp) _
theorem w2z_I (w : World) : (W2z w).heap[w.heap.size + 1]? = some (.cells (fdA ⟨0, 0, 0, 0, 0, 0, 0, 0⟩ ⟨0, 0, 0, 0, 0⟩ 0) 119) := by
  have e2 := heap_alloc_last (w.alloc (.cells (cdA ⟨0, 0, 0, 0, 0, 0, 0, 0⟩) 41)) (.cells (fdA ⟨0, 0, 0, 0, 0, 0, 0, 0⟩ ⟨0, 0, 0, 0, 0⟩ 0) 119)
  simp only [World.size_alloc] at e2
  exact e2
theorem w2z_r (w : World) : (W2z w).heap[w.heap.size]? = some (.cells (cdA ⟨0, 0, 0, 0, 0, 0, 0, 0⟩) 41) := by
  unfold W2z
  rw [Below.heap_alloc _ _ _ (by simp)]; exact heap_alloc_last w _
/-- decode, called by Decode. -/
theorem dec_call (a : Option Addr) (len cap : Nat) (at' : Int) (ws : Nat → Nat) (w : World) (hw : Wds w a len cap ws) :
    Calls Try.prog 64 #[.pointer (some ⟨w.heap.size + 1, 0, none⟩), .slice a len cap, .int .i64 at'] (W2z w) fun e w' => e = .returned (.int .i64 (decP ws len at').e) ∧ ((decP ws len at').e = 0 → w'.heap[w.heap.size + 1]? = some (.cells (fdA (decP ws len at').x (decP ws len at').f (decP ws len at').n) 119)) ∧ Chg [w.heap.size + 1] (W2z w) w' := by
  by_cases h0 : len = 0
  · subst h0
    by_cases h1 : at' < 0 ∨ ((0 : Nat) : Int) < at'
    · refine (dec_arg _ a 0 cap at' _ (by omega) h1).mono ?_
      rintro e w' ⟨rfl, rfl⟩
      have hd : decP ws 0 at' = ⟨4, zC, zF, 0⟩ := by unfold decP; rw [if_pos h1]
      rw [hd]
      exact ⟨rfl, fun h => absurd h (by decide), Chg.refl _ _⟩
    · have h2 : at' = ((0 : Nat) : Int) := by omega
      subst h2
      refine (dec_end _ a 0 cap _ (by omega)).mono ?_
      rintro e w' ⟨rfl, rfl⟩
      have hd : decP ws 0 ((0 : Nat) : Int) = ⟨1, zC, zF, 0⟩ := by unfold decP; rw [if_neg h1, if_pos rfl]
      rw [hd]
      exact ⟨rfl, fun h => absurd h (by decide), Chg.refl _ _⟩
  · rcases hw with h | ⟨B, off, rfl, h1, h2, h3⟩
    · exact absurd h h0
    · exact decode_any (w.heap.size + 1) _ len cap at' ws _ _ _ _ (w2z_I w) (wds_keep (.inr ⟨B, off, rfl, h1, h2, h3⟩) (w2z_bel w)) (fun b o e => by injection e with e; injection e with e1 e2 e3; have := h3.lb; omega)
set_option maxHeartbeats 1000000 in
theorem Decode_any (a : Option Addr) (len cap : Nat) (at' : Int) (ws : Nat → Nat) (w : World) (hw : Wds w a len cap ws) :
    Calls Try.prog 57 #[.slice a len cap, .int .i64 at'] w fun e w' => e = .returned (.tuple #[cdV (decP ws len at').x, .int .i64 (decP ws len at').n, .int .i64 (decP ws len at').e]) ∧ Below w.heap.size w w' := by
  have HC : Hid _ := dec_call a len cap at' ws w hw
  have HZ : Hid ((decP ws len at').e ≠ 0 → (decP ws len at').x = zC ∧ (decP ws len at').n = 0) := decP_bad ws len at'
  generalize eD : decP ws len at' = D at *
  by_cases h0 : D.e = 0
  · have hne : (D.e != 0) = false := by simp [h0]
    go_enter Try.func57, Try.ntmps57
    go_upto_region 5 with (go_at_call 64; refine Calls.mono HC.out ?_; rintro e w1 ⟨rfl, hb1, hc1⟩; have HB1 : Hid _ := hb1; have HC1 : Hid _ := hc1; clear hb1 hc1)
    have hb := HB1.out h0
    have hr := HC1.out.keep (w2z_r w) (by simp)
    have HBe : Hid (Below w.heap.size w w1) := (w2z_bel w).trans (HC1.out.below (by simp; omega) (by simp))
    have k0 : w1.cell? ⟨w.heap.size + 1, 0, none⟩ = some (.int .i64 D.x.op) := row_cell hb 0
    have k1 : w1.cell? ⟨w.heap.size + 1, 1, none⟩ = some (.int .i64 D.x.d) := row_cell hb 1
    have k2 : w1.cell? ⟨w.heap.size + 1, 2, none⟩ = some (.int .i64 D.x.a) := row_cell hb 2
    have k3 : w1.cell? ⟨w.heap.size + 1, 3, none⟩ = some (.int .i64 D.x.b) := row_cell hb 3
    have k4 : w1.cell? ⟨w.heap.size + 1, 4, none⟩ = some (.int .i64 D.x.c) := row_cell hb 4
    have k5 : w1.cell? ⟨w.heap.size + 1, 5, none⟩ = some (.int .i64 D.x.n) := row_cell hb 5
    have k6 : w1.cell? ⟨w.heap.size + 1, 6, none⟩ = some (.int .u32 D.x.k) := row_cell hb 6
    have k7 : w1.cell? ⟨w.heap.size + 1, 7, none⟩ = some (.int .u32 D.x.x) := row_cell hb 7
    have k13 : w1.cell? ⟨w.heap.size + 1, 13, none⟩ = some (.int .i64 D.n) := row_cell hb 13
    have r0 : w1.cell? ⟨w.heap.size, 0, none⟩ = some (.int .i64 0) := row_cell hr 0
    have z0 := row_fr hr 0
    have r1 : w1.cell? ⟨w.heap.size, 1, none⟩ = some (.int .i64 0) := row_cell hr 1
    have z1 := row_fr hr 1
    have r2 : w1.cell? ⟨w.heap.size, 2, none⟩ = some (.int .i64 0) := row_cell hr 2
    have z2 := row_fr hr 2
    have r3 : w1.cell? ⟨w.heap.size, 3, none⟩ = some (.int .i64 0) := row_cell hr 3
    have z3 := row_fr hr 3
    have r4 : w1.cell? ⟨w.heap.size, 4, none⟩ = some (.int .i64 0) := row_cell hr 4
    have z4 := row_fr hr 4
    have r5 : w1.cell? ⟨w.heap.size, 5, none⟩ = some (.int .i64 0) := row_cell hr 5
    have z5 := row_fr hr 5
    have r6 : w1.cell? ⟨w.heap.size, 6, none⟩ = some (.int .u32 0) := row_cell hr 6
    have z6 := row_fr hr 6
    have r7 : w1.cell? ⟨w.heap.size, 7, none⟩ = some (.int .u32 0) := row_cell hr 7
    have z7 := row_fr hr 7
    have lI := row_lt hb
    have lr := row_lt hr
    clear hb hr HB1 HC1
    go_region_held3 (fun W' => W'.cell? ⟨w.heap.size + 1, 0, none⟩ = some (.int .i64 D.x.op) ∧ W'.cell? ⟨w.heap.size + 1, 1, none⟩ = some (.int .i64 D.x.d) ∧ W'.cell? ⟨w.heap.size + 1, 2, none⟩ = some (.int .i64 D.x.a) ∧ W'.cell? ⟨w.heap.size + 1, 3, none⟩ = some (.int .i64 D.x.b) ∧ W'.cell? ⟨w.heap.size + 1, 4, none⟩ = some (.int .i64 D.x.c) ∧ W'.cell? ⟨w.heap.size + 1, 5, none⟩ = some (.int .i64 D.x.n) ∧ W'.cell? ⟨w.heap.size + 1, 6, none⟩ = some (.int .u32 D.x.k) ∧ W'.cell? ⟨w.heap.size + 1, 7, none⟩ = some (.int .u32 D.x.x) ∧ W'.cell? ⟨w.heap.size + 1, 13, none⟩ = some (.int .i64 D.n)) ((simp [go_sem, k0, k1, k2, k3, k4, k5, k6, k7, k13]; done)) (fail)
    go_wp2
    refine bodyPost_ret (v := .tuple #[cdV D.x, .int .i64 D.n, .int .i64 0]) (by simp [results, Try.results57, go_sem, r0, r1, r2, r3, r4, r5, r6, r7, lr]) rfl ⟨by rw [h0], ?_⟩
    exact (by have hB := HBe.out; repeat first | with_reducible exact hB | with_reducible refine Below.setCell ?_ (by first | exact Nat.le_refl _ | (simp; done)) _ | with_reducible refine Below.drew ?_)
  · have hne : (D.e != 0) = true := by simp [h0]
    obtain ⟨hx, hn⟩ := HZ.out h0
    go_enter Try.func57, Try.ntmps57
    go_upto_region 4 with (go_at_call 64; refine Calls.mono HC.out ?_; rintro e w1 ⟨rfl, hb1, hc1⟩; have HC1 : Hid _ := hc1; clear hb1 hc1)
    have hr := HC1.out.keep (w2z_r w) (by simp)
    have HBe : Hid (Below w.heap.size w w1) := (w2z_bel w).trans (HC1.out.below (by simp; omega) (by simp))
    have r0 : w1.cell? ⟨w.heap.size, 0, none⟩ = some (.int .i64 0) := row_cell hr 0
    have z0 := row_fr hr 0
    have r1 : w1.cell? ⟨w.heap.size, 1, none⟩ = some (.int .i64 0) := row_cell hr 1
    have z1 := row_fr hr 1
    have r2 : w1.cell? ⟨w.heap.size, 2, none⟩ = some (.int .i64 0) := row_cell hr 2
    have z2 := row_fr hr 2
    have r3 : w1.cell? ⟨w.heap.size, 3, none⟩ = some (.int .i64 0) := row_cell hr 3
    have z3 := row_fr hr 3
    have r4 : w1.cell? ⟨w.heap.size, 4, none⟩ = some (.int .i64 0) := row_cell hr 4
    have z4 := row_fr hr 4
    have r5 : w1.cell? ⟨w.heap.size, 5, none⟩ = some (.int .i64 0) := row_cell hr 5
    have z5 := row_fr hr 5
    have r6 : w1.cell? ⟨w.heap.size, 6, none⟩ = some (.int .u32 0) := row_cell hr 6
    have z6 := row_fr hr 6
    have r7 : w1.cell? ⟨w.heap.size, 7, none⟩ = some (.int .u32 0) := row_cell hr 7
    have z7 := row_fr hr 7
    have lr := row_lt hr
    clear hr HC1
    go_wp2
    refine bodyPost_ret (v := .tuple #[cdV zC, .int .i64 0, .int .i64 D.e]) (by simp [results, Try.results57, go_sem, zC, r0, r1, r2, r3, r4, r5, r6, r7, lr]) rfl ⟨by rw [hx, hn]; rfl, ?_⟩
    exact (by have hB := HBe.out; repeat first | with_reducible exact hB | with_reducible refine Below.setCell ?_ (by first | exact Nat.le_refl _ | (simp; done)) _ | with_reducible refine Below.drew ?_)
end Go.Proofs.Ytgkkghphlbgcoaa.Ho
