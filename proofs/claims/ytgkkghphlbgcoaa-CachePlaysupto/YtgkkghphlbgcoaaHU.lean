import Derived.Test.YtgkkghphlbgcoaaHS3
namespace Go.Proofs.Ytgkkghphlbgcoaa.Ho
open Go.RowKit
set_option maxRecDepth 100000
set_option linter.unusedVariables false
set_option linter.unusedSimpArgs false
theorem hit_out {op : Int} (h : op < 0 ∨ 255 < op) : hit op = none := hit_none fun j hj => by
  obtain ⟨⟨a, b⟩, c, d⟩ := tg_le j hj
  unfold fitB
  rw [Bool.and_eq_false_iff]
  rcases h with h | h
  · left; exact decide_eq_false (by omega)
  · right; exact decide_eq_false (by omega)
theorem fm_out {op : Int} (h : 255 < op) : fmR op = ⟨#[], 0, 0⟩ := by
  unfold fmR; repeat rw [if_neg (by omega)]
/-- What is read, is read so. -/
structure Red (ws : Nat → Nat) (len : Nat) (a k : Nat) : Prop where
  hit : hit ((ws a % 256 : Nat) : Int) = some k
  x : (decP ws len a).x = xR (fmR ((ws a % 256 : Nat) : Int)) (ws a) (ws (a + 1)) (ws (a + 2))
  n : (decP ws len a).n = szN (foOf k).has
  le : a + szN (foOf k).has ≤ len
  ok : okR (fmR ((ws a % 256 : Nat) : Int)) (ws a) (xR (fmR ((ws a % 256 : Nat) : Int)) (ws a) (ws (a + 1)) (ws (a + 2))) = true
theorem decP_ok {ws : Nat → Nat} {len : Nat} {at' : Int} (hlt : ∀ i, ws i < 4294967296) (h : (decP ws len at').e = 0) : ∃ a k : Nat, at' = a ∧ Red ws len a k := by
  by_cases h1 : at' < 0 ∨ (len : Int) < at'
  · unfold decP at h; rw [if_pos h1] at h; exact absurd h (by decide)
  · by_cases h2 : at' = len
    · unfold decP at h; rw [if_neg h1, if_pos h2] at h; exact absurd h (by decide)
    · obtain ⟨a, rfl⟩ : ∃ a : Nat, at' = a := ⟨at'.toNat, by omega⟩
      cases hk : Go.Proofs.Ytgkkghphlbgcoaa.Ho.hit ((ws a % 256 : Nat) : Int) with
      | none =>
        unfold decP at h; rw [if_neg h1, if_neg h2] at h; simp only [Int.toNat_natCast, hk] at h
        exact absurd h (by decide)
      | some k =>
        have L := link_some (Nat.mod_lt _ (by decide)) hk
        obtain ⟨e1, e2⟩ := dec_same (ws a) (ws (a + 1)) (ws (a + 2)) (hlt a) L
        by_cases h3 : (len : Int) < a + szN (foOf k).has
        · unfold decP at h; rw [if_neg h1, if_neg h2] at h; simp only [Int.toNat_natCast, hk] at h
          rw [if_pos h3] at h; exact absurd h (by decide)
        · have hd : decP ws len a = if dcE (foOf k) (ws a) (xR (fmR ((ws a % 256 : Nat) : Int)) (ws a) (ws (a + 1)) (ws (a + 2))) = 0 then ⟨0, xR (fmR ((ws a % 256 : Nat) : Int)) (ws a) (ws (a + 1)) (ws (a + 2)), foOf k, szN (foOf k).has⟩ else ⟨3, zC, zF, 0⟩ := by
            unfold decP; rw [if_neg h1, if_neg h2]; simp only [Int.toNat_natCast, hk]
            rw [if_neg h3, e1]
          by_cases h4 : dcE (foOf k) (ws a) (xR (fmR ((ws a % 256 : Nat) : Int)) (ws a) (ws (a + 1)) (ws (a + 2))) = 0
          · rw [if_pos h4] at hd
            exact ⟨a, k, rfl, hk, by rw [hd], by rw [hd], by omega, e2.1 h4⟩
          · rw [if_neg h4] at hd; rw [hd] at h; exact absurd h (by decide)
/-- .. and back. -/
theorem decP_make {ws : Nat → Nat} {len a k : Nat} (hlt : ∀ i, ws i < 4294967296) (hk : hit ((ws a % 256 : Nat) : Int) = some k) (hle : a + szN (foOf k).has ≤ len)
    (hok : okR (fmR ((ws a % 256 : Nat) : Int)) (ws a) (xR (fmR ((ws a % 256 : Nat) : Int)) (ws a) (ws (a + 1)) (ws (a + 2))) = true) :
    (decP ws len a).e = 0 ∧ (decP ws len a).x = xR (fmR ((ws a % 256 : Nat) : Int)) (ws a) (ws (a + 1)) (ws (a + 2)) := by
  have L := link_some (Nat.mod_lt _ (by decide)) hk
  obtain ⟨e1, e2⟩ := dec_same (ws a) (ws (a + 1)) (ws (a + 2)) (hlt a) L
  have hz := szN_cases (foOf k).has
  unfold decP
  rw [if_neg (by omega), if_neg (by omega)]
  simp only [Int.toNat_natCast, hk]
  rw [if_neg (by omega), e1, if_pos (e2.2 hok)]
  exact ⟨rfl, rfl⟩
theorem okR_fst {f : Fm} {v : Nat} {x : Cd} (h : okR f v x = true) : fst x = v := by
  unfold okR at h; simp at h; exact h.1.1
theorem lo_small (v : Int) (h0 : 0 ≤ v) (h1 : v < 4294967296) : lo32 v = v.toNat := by unfold lo32; omega
theorem or_add (u x l : Nat) (h : u < 2 ^ l) : u ||| (x * 2 ^ l) = u + x * 2 ^ l := by
  have := Nat.two_pow_add_eq_or_of_lt h x
  rw [Nat.or_comm, Nat.mul_comm, ← this]; omega
theorem orW_add (c : Bool) (l b u : Nat) (v : Int) (hu : u < 2 ^ l) (h0 : 0 ≤ v) (h1 : v < b) (hb : b ≤ 65536) : (orW c (2 ^ l) b u v : Int) = u + (if c then v * 2 ^ l else 0) := by
  unfold orW
  cases c
  · simp
  · rw [if_pos rfl, if_pos rfl, or_add _ _ _ hu, lo_small v h0 (by omega), Nat.mod_eq_of_lt (by omega)]
    have : ((v.toNat : Nat) : Int) = v := by omega
    push_cast
    rw [this]
set_option maxHeartbeats 1000000 in
/-- What was read is laid again. -/
theorem ly_back {k : Nat} (v u1 u2 : Nat) (hv : v < 4294967296) (L : Link (v % 256) k) (hok : okR (fmR ((v % 256 : Nat) : Int)) v (xR (fmR ((v % 256 : Nat) : Int)) v u1 u2) = true) :
    ly5 (foOf k).has (xR (fmR ((v % 256 : Nat) : Int)) v u1 u2) = v := by
  have hf := okR_fst hok
  unfold fst xR at hf
  rw [L.d, L.a, L.b, L.c, L.m] at hf
  have hex : hb (foOf k).has 8 = true → hb (foOf k).has 2 = false ∧ hb (foOf k).has 4 = false := fun h => by
    have := L.ex (by rw [L.m]; exact h)
    rw [L.b, L.c] at this; exact this
  unfold ly5 ly4 ly3 ly2 ly1 ly0 xR
  rw [L.d, L.a, L.b, L.c, L.m]
  simp only []
  generalize hb (foOf k).has 448 = D at *
  generalize hb (foOf k).has 1 = A at *
  generalize hb (foOf k).has 2 = B at *
  generalize hb (foOf k).has 4 = C at *
  generalize hb (foOf k).has 8 = M at *
  have d0 : 0 ≤ (if D = true then (v : Int) / 256 % 16 else 0) ∧ (if D = true then (v : Int) / 256 % 16 else 0) < 16 := by split <;> omega
  have a0 : 0 ≤ (if A = true then (v : Int) / 4096 % 16 else 0) ∧ (if A = true then (v : Int) / 4096 % 16 else 0) < 16 := by split <;> omega
  have b0 : 0 ≤ (if B = true then (v : Int) / 65536 % 16 else 0) ∧ (if B = true then (v : Int) / 65536 % 16 else 0) < 16 := by split <;> omega
  have c0 : 0 ≤ (if C = true then (v : Int) / 1048576 % 16 else 0) ∧ (if C = true then (v : Int) / 1048576 % 16 else 0) < 16 := by split <;> omega
  have m0 : 0 ≤ (if M = true then (v : Int) / 65536 else 0) ∧ (if M = true then (v : Int) / 65536 else 0) < 65536 := by split <;> omega
  have z0 : lo32 ((v % 256 : Nat) : Int) = v % 256 := by rw [lo_small _ (by omega) (by omega)]; omega
  rw [z0]
  have s1 := orW_add D 8 16 (v % 256) _ (by have := Nat.mod_lt v (show 256 > 0 by decide); omega) d0.1 d0.2 (by decide)
  simp only [Nat.reducePow] at s1
  generalize orW D 256 16 (v % 256) (if D = true then (v : Int) / 256 % 16 else 0) = r1 at *
  have s2 := orW_add A 12 16 r1 _ (by cases D <;> simp at s1 d0 <;> omega) a0.1 a0.2 (by decide)
  simp only [Nat.reducePow] at s2
  generalize orW A 4096 16 r1 (if A = true then (v : Int) / 4096 % 16 else 0) = r2 at *
  have h2 : r2 < 65536 := by cases D <;> cases A <;> simp at s1 s2 d0 a0 <;> omega
  have s3 := orW_add B 16 16 r2 _ (by omega) b0.1 b0.2 (by decide)
  simp only [Nat.reducePow] at s3
  generalize orW B 65536 16 r2 (if B = true then (v : Int) / 65536 % 16 else 0) = r3 at *
  have h3 : r3 < 1048576 := by cases B <;> simp at s3 b0 <;> omega
  have s4 := orW_add C 20 16 r3 _ (by omega) c0.1 c0.2 (by decide)
  simp only [Nat.reducePow] at s4
  generalize orW C 1048576 16 r3 (if C = true then (v : Int) / 1048576 % 16 else 0) = r4 at *
  cases M
  · simp only [orW, Bool.false_eq_true, if_false] at hf ⊢
    cases D <;> cases A <;> cases B <;> cases C <;> simp only [Bool.false_eq_true, if_false, if_true] at s1 s2 s3 s4 hf d0 a0 b0 c0 <;> omega
  · obtain ⟨rfl, rfl⟩ := hex rfl
    simp only [Bool.false_eq_true, if_false] at s3 s4
    have s5 := orW_add true 16 65536 r4 _ (by omega) m0.1 m0.2 (by decide)
    simp only [Nat.reducePow, if_true] at s5 m0 hf
    simp only [if_true]
    have : (orW true 65536 65536 r4 ((v : Int) / 65536) : Int) = v := by
      cases D <;> cases A <;> simp only [Bool.false_eq_true, if_false, if_true] at s1 s2 hf d0 a0 <;> omega
    omega
end Go.Proofs.Ytgkkghphlbgcoaa.Ho
namespace Go.Proofs.Ytgkkghphlbgcoaa.Ho
open Go.RowKit
set_option maxRecDepth 100000
set_option linter.unusedVariables false
set_option linter.unusedSimpArgs false
theorem ws_lt (n v k y : Nat) (hv : v < 4294967296) (hk : k < 4294967296) (hy : y < 4294967296) : ∀ i, wsF (wsE n v k y) i < 4294967296 := by
  intro i
  unfold wsF wsE
  rw [List.getD_eq_getElem?_getD, List.getElem?_take]
  split
  · rcases i with _ | _ | _ | i <;> simp <;> omega
  · simp
theorem ws_zero (h : Int) (v k y : Nat) : wsF (wsE (szN h) v k y) 0 = v := by rcases szN_cases h with e | e | e <;> rw [e] <;> rfl
theorem enc_eqn {x : Cd} {k : Nat} (hk : hit x.op = some k) (h1 : x.k < 4294967296) (h2 : x.x < 4294967296) {v : Nat} (hv : v < 4294967296) (h0 : (decP (wsF (wsE (szN (foOf k).has) v x.k x.x)) (szN (foOf k).has) 0).e = 0) (hx : (decP (wsF (wsE (szN (foOf k).has) v x.k x.x)) (szN (foOf k).has) 0).x = x) :
    fst x = v ∧ ly5 (foOf k).has x = v := by
  obtain ⟨a, k', ha, R⟩ := decP_ok (ws_lt _ _ _ _ hv h1 h2) h0
  have ha : a = 0 := by omega
  subst ha
  have hR := R.x
  have hh := R.hit
  have ho := R.ok
  have hX : (decP (wsF (wsE (szN (foOf k).has) v x.k x.x)) (szN (foOf k).has) ((0 : Nat) : Int)).x = x := hx
  rw [hX] at hR
  rw [← hR] at ho
  rw [ws_zero] at hR hh ho
  have hop : x.op = ((v % 256 : Nat) : Int) := by rw [hR]; rfl
  rw [← hop, hk] at hh
  injection hh with hh
  subst hh
  have L : Link (v % 256) k := link_some (Nat.mod_lt _ (by decide)) (by rw [← hop]; exact hk)
  refine ⟨okR_fst ho, ?_⟩
  have := ly_back v _ _ hv L (by rw [← hR]; exact ho)
  rw [← hR] at this
  exact this
theorem red_range {ws : Nat → Nat} {len a k : Nat} (hlt : ∀ i, ws i < 4294967296) (R : Red ws len a k) :
    ((0 ≤ (decP ws len a).x.d ∧ (decP ws len a).x.d ≤ 15) ∧ (0 ≤ (decP ws len a).x.a ∧ (decP ws len a).x.a ≤ 15) ∧ (0 ≤ (decP ws len a).x.b ∧ (decP ws len a).x.b ≤ 15) ∧ (0 ≤ (decP ws len a).x.c ∧ (decP ws len a).x.c ≤ 15)) ∧ 0 ≤ (decP ws len a).x.n ∧ (decP ws len a).x.n ≤ 65535 := by
  rw [R.x]
  unfold xR
  have := hlt a
  refine ⟨⟨?_, ?_, ?_, ?_⟩, ?_⟩ <;> (dsimp only; split <;> omega)
theorem enc_range {x : Cd} {k : Nat} (hk : hit x.op = some k) (h1 : x.k < 4294967296) (h2 : x.x < 4294967296) (h : ¬ (((0 ≤ x.d ∧ x.d ≤ 15) ∧ (0 ≤ x.a ∧ x.a ≤ 15) ∧ (0 ≤ x.b ∧ x.b ≤ 15) ∧ (0 ≤ x.c ∧ x.c ≤ 15)) ∧ 0 ≤ x.n ∧ x.n ≤ 65535)) : encP x = (3, []) :=
  encP_no hk fun hh => h (by
    have hl := ws_lt (szN (foOf k).has) (ly5 (foOf k).has x) x.k x.x (ly5_lt _ _) h1 h2
    obtain ⟨a, k', ha, R⟩ := decP_ok hl hh.1
    have ha : a = 0 := by omega
    subst ha
    have := red_range hl R
    have hX : (decP (wsF (wsE (szN (foOf k).has) (ly5 (foOf k).has x) x.k x.x)) (szN (foOf k).has) ((0 : Nat) : Int)).x = x := hh.2
    rw [hX] at this
    exact this)
theorem rEncode_any (x : Cd) (w : World) (h1 : x.k < 4294967296) (h2 : x.x < 4294967296) :
    Calls Try.prog 9 #[cdV x] w fun e w' => ∃ sv, e = .returned (.tuple #[sv, .int .i64 (encP x).1]) ∧ Lies w w' sv (encP x).2 ∧ Below w.heap.size w w' := by
  have two : hit x.op = none → encP x = (2, []) := fun hk => by unfold encP; rw [hk]
  have fin2 : encP x = (2, []) → (Calls Try.prog 9 #[cdV x] w fun e w' => e = .returned (.tuple #[.slice none 0 0, .int .i64 2]) ∧ Below w.heap.size w w') → Calls Try.prog 9 #[cdV x] w fun e w' => ∃ sv, e = .returned (.tuple #[sv, .int .i64 (encP x).1]) ∧ Lies w w' sv (encP x).2 ∧ Below w.heap.size w w' := fun he hc => by
    refine Calls.mono hc ?_
    rintro e w' ⟨rfl, hb⟩
    rw [he]
    exact ⟨_, rfl, .inl ⟨rfl, rfl⟩, hb⟩
  have fin3 : encP x = (3, []) → (Calls Try.prog 9 #[cdV x] w fun e w' => e = .returned (.tuple #[.slice none 0 0, .int .i64 3]) ∧ Below w.heap.size w w') → Calls Try.prog 9 #[cdV x] w fun e w' => ∃ sv, e = .returned (.tuple #[sv, .int .i64 (encP x).1]) ∧ Lies w w' sv (encP x).2 ∧ Below w.heap.size w w' := fun he hc => by
    refine Calls.mono hc ?_
    rintro e w' ⟨rfl, hb⟩
    rw [he]
    exact ⟨_, rfl, .inl ⟨rfl, rfl⟩, hb⟩
  by_cases h : x.op < 0
  · exact fin2 (two (hit_out (.inl h))) (renc_neg x w h)
  · by_cases hn : (fmR x.op).n = 0
    · refine fin2 (two ?_) (renc_none x w h _ _ (fm_eta _ rfl hn))
      by_cases hb : 255 < x.op
      · exact hit_out (.inr hb)
      · obtain ⟨o, ho⟩ : ∃ o : Nat, x.op = o := ⟨x.op.toNat, by omega⟩
        rw [ho] at hn ⊢
        cases hk : hit (o : Int) with
        | none => rfl
        | some k =>
          have L := link_some (show o < 256 by omega) hk
          rw [L.n] at hn
          rcases szN_cases (foOf k).has with e | e | e <;> omega
    · have hb : ¬ 255 < x.op := fun hb => hn (by rw [fm_out hb])
      obtain ⟨o, ho⟩ : ∃ o : Nat, x.op = o := ⟨x.op.toNat, by omega⟩
      cases hk : hit x.op with
      | none => exact absurd (by rw [ho] at hk ⊢; exact link_none (show o < 256 by omega) hk) hn
      | some k =>
        have L := link_some (show o < 256 by omega) (show hit (o : Int) = some k by rw [← ho]; exact hk)
        have hLn : (fmR x.op).n = szN (foOf k).has := by rw [ho]; exact L.n
        have hnn : (((fmR x.op).n : Int) == 0) = false := by simp; omega
        have rng := enc_range hk h1 h2
        have hF : fmR x.op = ⟨(fmR x.op).s, (fmR x.op).most, (fmR x.op).n⟩ := rfl
        by_cases d1 : x.d < 0
        · exact fin3 (rng (fun r => by omega)) (renc_dlo x w h _ _ _ hF hnn d1)
        by_cases d2 : 15 < x.d
        · exact fin3 (rng (fun r => by omega)) (renc_dhi x w h _ _ _ hF hnn d1 d2)
        by_cases a1 : x.a < 0
        · exact fin3 (rng (fun r => by omega)) (renc_alo x w h _ _ _ hF hnn d1 d2 a1)
        by_cases a2 : 15 < x.a
        · exact fin3 (rng (fun r => by omega)) (renc_ahi x w h _ _ _ hF hnn d1 d2 a1 a2)
        by_cases b1 : x.b < 0
        · exact fin3 (rng (fun r => by omega)) (renc_blo x w h _ _ _ hF hnn d1 d2 a1 a2 b1)
        by_cases b2 : 15 < x.b
        · exact fin3 (rng (fun r => by omega)) (renc_bhi x w h _ _ _ hF hnn d1 d2 a1 a2 b1 b2)
        by_cases c1 : x.c < 0
        · exact fin3 (rng (fun r => by omega)) (renc_clo x w h _ _ _ hF hnn d1 d2 a1 a2 b1 b2 c1)
        by_cases c2 : 15 < x.c
        · exact fin3 (rng (fun r => by omega)) (renc_chi x w h _ _ _ hF hnn d1 d2 a1 a2 b1 b2 c1 c2)
        by_cases n1 : x.n < 0
        · exact fin3 (rng (fun r => by omega)) (renc_nlo x w h _ _ _ hF hnn d1 d2 a1 a2 b1 b2 c1 c2 n1)
        by_cases n2 : 65535 < x.n
        · exact fin3 (rng (fun r => by omega)) (renc_nhi x w h _ _ _ hF hnn d1 d2 a1 a2 b1 b2 c1 c2 n1 n2)
        obtain ⟨f1, f2⟩ := fst_nat x
        have key : (decP (wsF (wsE (szN (foOf k).has) (fst x).toNat x.k x.x)) (szN (foOf k).has) 0).e = 0 ∧ (decP (wsF (wsE (szN (foOf k).has) (fst x).toNat x.k x.x)) (szN (foOf k).has) 0).x = x → encP x = (0, wsE (szN (foOf k).has) (fst x).toNat x.k x.x) := fun hh => by
          obtain ⟨-, e2⟩ := enc_eqn hk h1 h2 f2 hh.1 hh.2
          have := encP_yes hk (by rw [e2]; exact hh.1) (by rw [e2]; exact hh.2)
          rw [e2] at this; exact this
        have key3 : ¬ ((decP (wsF (wsE (szN (foOf k).has) (fst x).toNat x.k x.x)) (szN (foOf k).has) 0).e = 0 ∧ (decP (wsF (wsE (szN (foOf k).has) (fst x).toNat x.k x.x)) (szN (foOf k).has) 0).x = x) → encP x = (3, []) := fun hh => encP_no hk fun g => hh (by
          obtain ⟨e1, -⟩ := enc_eqn hk h1 h2 (ly5_lt _ _) g.1 g.2
          have e3 : (fst x).toNat = ly5 (foOf k).has x := by omega
          rw [e3]; exact g)
        rcases szN_cases (foOf k).has with hz | hz | hz
        · rw [hz] at key key3
          refine (renc_ok1 x w h1 h2 h _ _ (fm_eta _ rfl (hLn.trans hz)) d1 d2 a1 a2 b1 b2 c1 c2 n1 n2 _ rfl).mono ?_
          rintro e w' ⟨sv, er, l, rfl, hcase, hlies, hbel⟩
          rcases hcase with ⟨rfl, rfl, hh⟩ | ⟨rfl, rfl, hh⟩
          · rw [key hh]; exact ⟨sv, rfl, hlies, hbel⟩
          · rw [key3 hh]; exact ⟨sv, rfl, hlies, hbel⟩
        · rw [hz] at key key3
          refine (renc_ok2 x w h1 h2 h _ _ (fm_eta _ rfl (hLn.trans hz)) d1 d2 a1 a2 b1 b2 c1 c2 n1 n2 _ rfl).mono ?_
          rintro e w' ⟨sv, er, l, rfl, hcase, hlies, hbel⟩
          rcases hcase with ⟨rfl, rfl, hh⟩ | ⟨rfl, rfl, hh⟩
          · rw [key hh]; exact ⟨sv, rfl, hlies, hbel⟩
          · rw [key3 hh]; exact ⟨sv, rfl, hlies, hbel⟩
        · rw [hz] at key key3
          refine (renc_ok3 x w h1 h2 h _ _ (fm_eta _ rfl (hLn.trans hz)) d1 d2 a1 a2 b1 b2 c1 c2 n1 n2 _ rfl).mono ?_
          rintro e w' ⟨sv, er, l, rfl, hcase, hlies, hbel⟩
          rcases hcase with ⟨rfl, rfl, hh⟩ | ⟨rfl, rfl, hh⟩
          · rw [key hh]; exact ⟨sv, rfl, hlies, hbel⟩
          · rw [key3 hh]; exact ⟨sv, rfl, hlies, hbel⟩
end Go.Proofs.Ytgkkghphlbgcoaa.Ho
