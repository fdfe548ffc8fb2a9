import Derived.Test.YtgkkghphlbgcoaaHI
import Derived.Test.YtgkkghphlbgcoaaHN3
namespace Go.Proofs.Ytgkkghphlbgcoaa.Ho
open Go.RowKit
set_option maxRecDepth 100000
set_option linter.unusedVariables false
set_option linter.unusedSimpArgs false
/-- An instruction's words, as so many as it has. -/
def wsE (n w0 k y : Nat) : List Nat := ([w0, k, y] : List Nat).take n
def wsF (l : List Nat) : Nat → Nat := fun i => l.getD i 0
theorem wsE_len {h : Int} {w0 k y : Nat} : (wsE (szN h) w0 k y).length = szN h := by
  rcases szN_cases h with e | e | e <;> rw [e] <;> rfl
theorem szN_le3 (h : Int) : szN h ≤ 3 := by rcases szN_cases h with e | e | e <;> rw [e] <;> decide
theorem cd_ext (a b : Cd) (h1 : a.op = b.op) (h2 : a.d = b.d) (h3 : a.a = b.a) (h4 : a.b = b.b) (h5 : a.c = b.c) (h6 : a.n = b.n) (h7 : (a.k : Int) = b.k) (h8 : (a.x : Int) = b.x) : a = b := by
  cases a; cases b; simp only at h1 h2 h3 h4 h5 h6 h7 h8
  have h7' := Int.ofNat.inj h7
  have h8' := Int.ofNat.inj h8
  subst h1 h2 h3 h4 h5 h6 h7' h8'; rfl
/-- What is written. -/
def encP (x : Cd) : Int × List Nat :=
  match hit x.op with
  | none => (2, [])
  | some k => if (decP (wsF (wsE (szN (foOf k).has) (ly5 (foOf k).has x) x.k x.x)) (szN (foOf k).has) 0).e = 0 ∧ (decP (wsF (wsE (szN (foOf k).has) (ly5 (foOf k).has x) x.k x.x)) (szN (foOf k).has) 0).x = x then (0, wsE (szN (foOf k).has) (ly5 (foOf k).has x) x.k x.x) else (3, [])
theorem encP_yes {x : Cd} {k : Nat} (hk : hit x.op = some k) (h0 : (decP (wsF (wsE (szN (foOf k).has) (ly5 (foOf k).has x) x.k x.x)) (szN (foOf k).has) 0).e = 0) (hx : (decP (wsF (wsE (szN (foOf k).has) (ly5 (foOf k).has x) x.k x.x)) (szN (foOf k).has) 0).x = x) : encP x = (0, wsE (szN (foOf k).has) (ly5 (foOf k).has x) x.k x.x) := by
  unfold encP; rw [hk]; exact if_pos ⟨h0, hx⟩
theorem encP_no {x : Cd} {k : Nat} (hk : hit x.op = some k) (h : ¬ ((decP (wsF (wsE (szN (foOf k).has) (ly5 (foOf k).has x) x.k x.x)) (szN (foOf k).has) 0).e = 0 ∧ (decP (wsF (wsE (szN (foOf k).has) (ly5 (foOf k).has x) x.k x.x)) (szN (foOf k).has) 0).x = x)) : encP x = (3, []) := by
  unfold encP; rw [hk]; exact if_neg h
/-- A list of words that lies in new memory; or none. -/
def Lies (w0 w : World) (sv : Value) (l : List Nat) : Prop :=
  (l = [] ∧ sv = .slice none 0 0) ∨ ∃ b cap, sv = .slice (some ⟨b, 0, none⟩) l.length cap ∧ w0.heap.size ≤ b ∧ l.length ≤ cap ∧ l.length ≤ 3 ∧ WR w b 0 l.length (wsF l)
theorem szN_le (h : Int) : szN h ≤ 140737488355328 := by rcases szN_cases h with e | e | e <;> rw [e] <;> decide
theorem lay_any (f : Fo) (x : Cd) (w : World) (hk : x.k < 4294967296) (hy : x.x < 4294967296) :
    Calls Try.prog 66 #[.agg (foA f), cdV x] w fun e w' => ∃ b, e = .returned (.slice (some ⟨b, 0, none⟩) (szN f.has) (szN f.has)) ∧ w.heap.size ≤ b ∧ WR w' b 0 (szN f.has) (wsF (wsE (szN f.has) (ly5 f.has x) x.k x.x)) ∧ Below w.heap.size w w' := by
  rcases szN_cases f.has with h | h | h
  · refine (lay1_any f x w h).mono ?_
    rintro e w' ⟨rfl, hb, hbel⟩
    rw [h]
    refine ⟨_, rfl, by omega, ⟨fun i hi => ?_, fun i => ?_, row_lt hb⟩, hbel⟩
    · rw [row_cell hb, Nat.zero_add]
      rcases (by omega : i = 0) with rfl <;> rfl
    · have h5 := ly5_lt f.has x
      rcases i with _ | _ | _ | i <;> simp [wsF, wsE] <;> omega
  · refine (lay2_any f x w h).mono ?_
    rintro e w' ⟨rfl, hb, hbel⟩
    rw [h]
    refine ⟨_, rfl, by omega, ⟨fun i hi => ?_, fun i => ?_, row_lt hb⟩, hbel⟩
    · rw [row_cell hb, Nat.zero_add]
      rcases (by omega : i = 0 ∨ i = 1) with rfl | rfl <;> rfl
    · have h5 := ly5_lt f.has x
      rcases i with _ | _ | _ | i <;> simp [wsF, wsE] <;> omega
  · refine (lay3_any f x w h).mono ?_
    rintro e w' ⟨rfl, hb, hbel⟩
    rw [h]
    refine ⟨_, rfl, by omega, ⟨fun i hi => ?_, fun i => ?_, row_lt hb⟩, hbel⟩
    · rw [row_cell hb, Nat.zero_add]
      rcases (by omega : i = 0 ∨ i = 1 ∨ i = 2) with rfl | rfl | rfl <;> rfl
    · have h5 := ly5_lt f.has x
      rcases i with _ | _ | _ | i <;> simp [wsF, wsE] <;> omega
end Go.Proofs.Ytgkkghphlbgcoaa.Ho
namespace Go.Proofs.Ytgkkghphlbgcoaa.Ho
open Go.RowKit
set_option maxRecDepth 100000
set_option linter.unusedVariables false
set_option linter.unusedSimpArgs false
structure EN1 (w W : World) (x : Cd) (f : Fo) (BF : Nat) : Prop where
  bx : W.heap[w.heap.size]? = some (.cells (cdA x) 41)
  bf : W.heap[BF]? = some (.cells (foA f) 117)
  bel : Below w.heap.size w W
theorem en1_start {w w1 : World} {x : Cd} (f : Fo) (h : Below (w.alloc (.cells (cdA x) 41)).heap.size (w.alloc (.cells (cdA x) 41)) w1) : EN1 w (w1.alloc (.cells (foA f) 117)) x f w1.heap.size := by
  have hs := h.size
  simp at hs
  refine ⟨?_, heap_alloc_last _ _, (((Below.refl w.heap.size w).alloc (Nat.le_refl _) (.cells (cdA x) 41)).trans (h.mono (by simp))).alloc (by omega) _⟩
  rw [Below.heap_alloc _ _ _ (by omega), h.block _ (by simp)]; exact heap_alloc_last _ _
/-- Behind the words: the instruction, what was read back, the words. -/
structure EN2 (w W : World) (x y : Cd) (BY b n : Nat) (ws : Nat → Nat) : Prop where
  bx : W.heap[w.heap.size]? = some (.cells (cdA x) 41)
  by_ : W.heap[BY]? = some (.cells (cdA y) 41)
  wr : WR W b 0 n ws
  gb : w.heap.size ≤ b
  bel : Below w.heap.size w W
theorem en2_start {w W w2 w3 : World} {x : Cd} {f : Fo} {BF b n : Nat} {ws : Nat → Nat} (y : Cd) (h : EN1 w W x f BF) (hb : W.heap.size ≤ b) (hr : WR w2 b 0 n ws) (h2 : Below W.heap.size W w2) (h3 : Below w2.heap.size w2 w3) : EN2 w (w3.alloc (.cells (cdA y) 41)) x y w3.heap.size b n ws := by
  have l1 := row_lt h.bx
  have s2 := h2.size
  have s3 := h3.size
  have s1 := h.bel.size
  refine ⟨?_, heap_alloc_last _ _, ⟨fun i hi => ?_, hr.lt, ?_⟩, by omega, ((h.bel.trans (h2.mono s1)).trans (h3.mono (by omega))).alloc (by omega) _⟩
  · rw [Below.heap_alloc _ _ _ (by omega), h3.block _ (by omega), h2.block _ l1]; exact h.bx
  · rw [World.cell?_alloc_past _ _ _ (by have := hr.lb; show b < _; omega), h3.cell (p := ⟨b, 0 + i, none⟩) hr.lb]; exact hr.cell i hi
  · have := hr.lb; simp; omega
theorem enc_none (x : Cd) (w : World) (hk : hit x.op = none) :
    Calls Try.prog 59 #[cdV x] w fun e w' => e = .returned (.tuple #[.slice none 0 0, .int .i64 2]) ∧ Below w.heap.size w w' := by
  have HK : Hid _ := hk
  clear hk
  go_enter Try.func59, Try.ntmps59
  go_wp2_with (go_at_call 65; refine (format_any _ _).mono ?_; rintro e w1 ⟨rfl, hb1⟩; rw [HK.out]; have HB1 : Hid _ := hb1; clear hb1)
  go_ret2
  exact ⟨rfl, (((Below.refl w.heap.size w).alloc (Nat.le_refl _) (.cells (cdA x) 41)).trans (HB1.out.mono (by simp))).alloc (by have := HB1.out.size; simp at this; omega) _⟩
set_option maxHeartbeats 1000000 in
theorem enc_some (x : Cd) (k : Nat) (w : World) (hk : hit x.op = some k) (h1 : x.k < 4294967296) (h2 : x.x < 4294967296) (D : Dc) (hD : decP (wsF (wsE (szN (foOf k).has) (ly5 (foOf k).has x) x.k x.x)) (szN (foOf k).has) 0 = D) :
    Calls Try.prog 59 #[cdV x] w fun e w' => ∃ sv, e = .returned (.tuple #[sv, .int .i64 (encP x).1]) ∧ Lies w w' sv (encP x).2 ∧ Below w.heap.size w w' := by
  have HK : Hid _ := hk
  have HD : Hid _ := hD
  clear hk hD
  go_enter Try.func59, Try.ntmps59
  go_upto_region 4 with (go_at_call 65; refine (format_any _ _).mono ?_; rintro e w1 ⟨rfl, hb1⟩; rw [HK.out]; have HB1 : Hid _ := hb1; clear hb1)
  refine wp_gen (fun W' => EN1 w W' x (foOf k) w1.heap.size) (en1_start (foOf k) HB1.out) ?_
  intro W hE
  have k0 : W.cell? ⟨w.heap.size, 0, none⟩ = some (.int .i64 x.op) := row_cell hE.bx 0
  have k1 : W.cell? ⟨w.heap.size, 1, none⟩ = some (.int .i64 x.d) := row_cell hE.bx 1
  have k2 : W.cell? ⟨w.heap.size, 2, none⟩ = some (.int .i64 x.a) := row_cell hE.bx 2
  have k3 : W.cell? ⟨w.heap.size, 3, none⟩ = some (.int .i64 x.b) := row_cell hE.bx 3
  have k4 : W.cell? ⟨w.heap.size, 4, none⟩ = some (.int .i64 x.c) := row_cell hE.bx 4
  have k5 : W.cell? ⟨w.heap.size, 5, none⟩ = some (.int .i64 x.n) := row_cell hE.bx 5
  have k6 : W.cell? ⟨w.heap.size, 6, none⟩ = some (.int .u32 x.k) := row_cell hE.bx 6
  have k7 : W.cell? ⟨w.heap.size, 7, none⟩ = some (.int .u32 x.x) := row_cell hE.bx 7
  have p0 : W.cell? ⟨w1.heap.size, 0, none⟩ = some (.int .u8 (foOf k).first) := row_cell hE.bf 0
  have p1 : W.cell? ⟨w1.heap.size, 1, none⟩ = some (.int .u8 (foOf k).last) := row_cell hE.bf 1
  have p2 : W.cell? ⟨w1.heap.size, 2, none⟩ = some (.int .u8 (foOf k).kind) := row_cell hE.bf 2
  have p3 : W.cell? ⟨w1.heap.size, 3, none⟩ = some (.int .u16 (foOf k).has) := row_cell hE.bf 3
  have p4 : W.cell? ⟨w1.heap.size, 4, none⟩ = some (.int .u16 (foOf k).most) := row_cell hE.bf 4
  have lx := row_lt hE.bx
  have lf := row_lt hE.bf
  have HE : Hid _ := hE
  clear hE
  go_upto_region 6 with (first | (go_at_call 66; refine (lay_any (foOf k) x W h1 h2).mono ?_; rintro e w2 ⟨b, rfl, hb2, hr2, hl2⟩; have HB2 : Hid _ := hb2; have HR2 : Hid _ := hr2; have HL2 : Hid _ := hl2; clear hb2 hr2 hl2) | (go_at_call 57; refine (Decode_any (some ⟨b, 0, none⟩) (szN (foOf k).has) (szN (foOf k).has) 0 (wsF (wsE (szN (foOf k).has) (ly5 (foOf k).has x) x.k x.x)) w2 (.inr ⟨b, 0, rfl, Nat.le_refl _, szN_le _, HR2.out⟩)).mono ?_; rintro e w3 ⟨rfl, hb3⟩; rw [HD.out]; have HB3 : Hid _ := hb3; clear hb3))
  refine wp_gen (fun W' => EN2 w W' x D.x w3.heap.size b (szN (foOf k).has) (wsF (wsE (szN (foOf k).has) (ly5 (foOf k).has x) x.k x.x))) (en2_start D.x HE.out HB2.out HR2.out HL2.out HB3.out) ?_
  clear HE k0 k1 k2 k3 k4 k5 k6 k7 p0 p1 p2 p3 p4 lx lf HB1 HB2 HR2 HL2 HB3
  intro V hV
  have k0 : V.cell? ⟨w.heap.size, 0, none⟩ = some (.int .i64 x.op) := row_cell hV.bx 0
  have y0 : V.cell? ⟨w3.heap.size, 0, none⟩ = some (.int .i64 D.x.op) := row_cell hV.by_ 0
  have k1 : V.cell? ⟨w.heap.size, 1, none⟩ = some (.int .i64 x.d) := row_cell hV.bx 1
  have y1 : V.cell? ⟨w3.heap.size, 1, none⟩ = some (.int .i64 D.x.d) := row_cell hV.by_ 1
  have k2 : V.cell? ⟨w.heap.size, 2, none⟩ = some (.int .i64 x.a) := row_cell hV.bx 2
  have y2 : V.cell? ⟨w3.heap.size, 2, none⟩ = some (.int .i64 D.x.a) := row_cell hV.by_ 2
  have k3 : V.cell? ⟨w.heap.size, 3, none⟩ = some (.int .i64 x.b) := row_cell hV.bx 3
  have y3 : V.cell? ⟨w3.heap.size, 3, none⟩ = some (.int .i64 D.x.b) := row_cell hV.by_ 3
  have k4 : V.cell? ⟨w.heap.size, 4, none⟩ = some (.int .i64 x.c) := row_cell hV.bx 4
  have y4 : V.cell? ⟨w3.heap.size, 4, none⟩ = some (.int .i64 D.x.c) := row_cell hV.by_ 4
  have k5 : V.cell? ⟨w.heap.size, 5, none⟩ = some (.int .i64 x.n) := row_cell hV.bx 5
  have y5 : V.cell? ⟨w3.heap.size, 5, none⟩ = some (.int .i64 D.x.n) := row_cell hV.by_ 5
  have k6 : V.cell? ⟨w.heap.size, 6, none⟩ = some (.int .u32 x.k) := row_cell hV.bx 6
  have y6 : V.cell? ⟨w3.heap.size, 6, none⟩ = some (.int .u32 D.x.k) := row_cell hV.by_ 6
  have k7 : V.cell? ⟨w.heap.size, 7, none⟩ = some (.int .u32 x.x) := row_cell hV.bx 7
  have y7 : V.cell? ⟨w3.heap.size, 7, none⟩ = some (.int .u32 D.x.x) := row_cell hV.by_ 7
  have lx := row_lt hV.bx
  have ly := row_lt hV.by_
  have HV : Hid _ := hV
  clear hV
  by_cases e0 : D.e = 0
  · have g0 : (D.e != 0) = false := by simp [e0]
    go_wp2
    · have hx : D.x = x := cd_ext _ _ (by assumption) (by assumption) (by assumption) (by assumption) (by assumption) (by assumption) (by assumption) (by assumption)
      go_ret2
      have hl := encP_yes HK.out (by rw [HD.out]; exact e0) (by rw [HD.out]; exact hx)
      exact ⟨_, by rw [hl]; rfl, by rw [hl]; exact .inr ⟨b, szN (foOf k).has, by rw [wsE_len]; rfl, HV.out.gb, by rw [wsE_len]; exact Nat.le_refl _, by rw [wsE_len]; exact szN_le3 _, by rw [wsE_len]; exact HV.out.wr⟩, HV.out.bel⟩
    all_goals
      have hx : ¬ D.x = x := by
        intro e; first | exact absurd (congrArg Cd.op e) (by assumption) | exact absurd (congrArg Cd.d e) (by assumption) | exact absurd (congrArg Cd.a e) (by assumption) | exact absurd (congrArg Cd.b e) (by assumption) | exact absurd (congrArg Cd.c e) (by assumption) | exact absurd (congrArg Cd.n e) (by assumption) | exact absurd (congrArg (fun z => ((Cd.k z : Nat) : Int)) e) (by assumption) | exact absurd (congrArg (fun z => ((Cd.x z : Nat) : Int)) e) (by assumption)
      go_ret2
      have hl := encP_no HK.out (by rw [HD.out]; exact fun h => hx h.2)
      exact ⟨_, by rw [hl]; rfl, by rw [hl]; exact .inl ⟨rfl, rfl⟩, HV.out.bel⟩
  · have g0 : (D.e != 0) = true := by simp [e0]
    go_wp2
    go_ret2
    have hl := encP_no HK.out (by rw [HD.out]; exact fun h => e0 h.1)
    exact ⟨_, by rw [hl]; rfl, by rw [hl]; exact .inl ⟨rfl, rfl⟩, HV.out.bel⟩
theorem Encode_any (x : Cd) (w : World) (h1 : x.k < 4294967296) (h2 : x.x < 4294967296) :
    Calls Try.prog 59 #[cdV x] w fun e w' => ∃ sv, e = .returned (.tuple #[sv, .int .i64 (encP x).1]) ∧ Lies w w' sv (encP x).2 ∧ Below w.heap.size w w' := by
  cases hk : hit x.op with
  | none =>
    refine (enc_none x w hk).mono ?_
    rintro e w' ⟨rfl, hb⟩
    have hl : encP x = (2, []) := by unfold encP; rw [hk]
    rw [hl]
    exact ⟨_, rfl, .inl ⟨rfl, rfl⟩, hb⟩
  | some k => exact enc_some x k w hk h1 h2 _ rfl
end Go.Proofs.Ytgkkghphlbgcoaa.Ho
