import Derived.Test.YtnojlbahmlmknabHS1
import Derived.Test.YtnojlbahmlmknabHS2
import Derived.Test.YtnojlbahmlmknabHS3
namespace Go.Proofs.Ytnojlbahmlmknab
open Go.RowKit
set_option maxRecDepth 100000
set_option linter.unusedVariables false
set_option linter.unusedSimpArgs false
theorem hit_out {op : Int} (h : op < 0 ∨ 255 < op) : hit op = none := hit_none fun j hj => by
  obtain ⟨⟨a, b⟩, c, d⟩ := tg_le j hj
  unfold fitB
  rw [Bool.and_eq_false_iff]
  rcases h with h | h
  · left; exact decide_eq_false (by omega)
  · right; exact decide_eq_false (by omega)
theorem fm_out {op : Int} (h : 255 < op) : fmR op = ⟨#[], 0, 0⟩ := by
  unfold fmR; repeat rw [if_neg (by omega)]
/-- What is read, is read so. -/
structure Red (ws : Nat → Nat) (len : Nat) (a k : Nat) : Prop where
  hit : hit ((ws a % 256 : Nat) : Int) = some k
  x : (decP ws len a).x = xR (fmR ((ws a % 256 : Nat) : Int)) (ws a) (ws (a + 1)) (ws (a + 2))
  n : (decP ws len a).n = szN (foOf k).has
  le : a + szN (foOf k).has ≤ len
  ok : okR (fmR ((ws a % 256 : Nat) : Int)) (ws a) (xR (fmR ((ws a % 256 : Nat) : Int)) (ws a) (ws (a + 1)) (ws (a + 2))) = true
theorem decP_ok {ws : Nat → Nat} {len : Nat} {at' : Int} (hlt : ∀ i, ws i < 4294967296) (h : (decP ws len at').e = 0) : ∃ a k : Nat, at' = a ∧ Red ws len a k := by
  by_cases h1 : at' < 0 ∨ (len : Int) < at'
  · unfold decP at h; rw [if_pos h1] at h; exact absurd h (by decide)
  · by_cases h2 : at' = len
    · unfold decP at h; rw [if_neg h1, if_pos h2] at h; exact absurd h (by decide)
    · obtain ⟨a, rfl⟩ : ∃ a : Nat, at' = a := ⟨at'.toNat, by omega⟩
      cases hk : Go.Proofs.Ytnojlbahmlmknab.hit ((ws a % 256 : Nat) : Int) with
      | none =>
        unfold decP at h; rw [if_neg h1, if_neg h2] at h; simp only [Int.toNat_natCast, hk] at h
        exact absurd h (by decide)
      | some k =>
        have L := link_some (Nat.mod_lt _ (by decide)) hk
        obtain ⟨e1, e2⟩ := dec_same (ws a) (ws (a + 1)) (ws (a + 2)) (hlt a) L
        by_cases h3 : (len : Int) < a + szN (foOf k).has
        · unfold decP at h; rw [if_neg h1, if_neg h2] at h; simp only [Int.toNat_natCast, hk] at h
          rw [if_pos h3] at h; exact absurd h (by decide)
        · have hd : decP ws len a = if dcE (foOf k) (ws a) (xR (fmR ((ws a % 256 : Nat) : Int)) (ws a) (ws (a + 1)) (ws (a + 2))) = 0 then ⟨0, xR (fmR ((ws a % 256 : Nat) : Int)) (ws a) (ws (a + 1)) (ws (a + 2)), foOf k, szN (foOf k).has⟩ else ⟨3, zC, zF, 0⟩ := by
            unfold decP; rw [if_neg h1, if_neg h2]; simp only [Int.toNat_natCast, hk]
            rw [if_neg h3, e1]
          by_cases h4 : dcE (foOf k) (ws a) (xR (fmR ((ws a % 256 : Nat) : Int)) (ws a) (ws (a + 1)) (ws (a + 2))) = 0
          · rw [if_pos h4] at hd
            exact ⟨a, k, rfl, hk, by rw [hd], by rw [hd], by omega, e2.1 h4⟩
          · rw [if_neg h4] at hd; rw [hd] at h; exact absurd h (by decide)
/-- .. and back. -/
theorem decP_make {ws : Nat → Nat} {len a k : Nat} (hlt : ∀ i, ws i < 4294967296) (hk : hit ((ws a % 256 : Nat) : Int) = some k) (hle : a + szN (foOf k).has ≤ len)
    (hok : okR (fmR ((ws a % 256 : Nat) : Int)) (ws a) (xR (fmR ((ws a % 256 : Nat) : Int)) (ws a) (ws (a + 1)) (ws (a + 2))) = true) :
    (decP ws len a).e = 0 ∧ (decP ws len a).x = xR (fmR ((ws a % 256 : Nat) : Int)) (ws a) (ws (a + 1)) (ws (a + 2)) := by
  have L := link_some (Nat.mod_lt _ (by decide)) hk
  obtain ⟨e1, e2⟩ := dec_same (ws a) (ws (a + 1)) (ws (a + 2)) (hlt a) L
  have hz := szN_cases (foOf k).has
  unfold decP
  rw [if_neg (by omega), if_neg (by omega)]
  simp only [Int.toNat_natCast, hk]
  rw [if_neg (by omega), e1, if_pos (e2.2 hok)]
  exact ⟨rfl, rfl⟩
theorem okR_fst {f : Fm} {v : Nat} {x : Cd} (h : okR f v x = true) : fst x = v := by
  unfold okR at h; simp at h; exact h.1.1
theorem lo_small (v : Int) (h0 : 0 ≤ v) (h1 : v < 4294967296) : lo32 v = v.toNat := by unfold lo32; omega
theorem or_add (u x l : Nat) (h : u < 2 ^ l) : u ||| (x * 2 ^ l) = u + x * 2 ^ l := by
  have := Nat.two_pow_add_eq_or_of_lt h x
  rw [Nat.or_comm, Nat.mul_comm, ← this]; omega
theorem orW_add (c : Bool) (l b u : Nat) (v : Int) (hu : u < 2 ^ l) (h0 : 0 ≤ v) (h1 : v < b) (hb : b ≤ 65536) : (orW c (2 ^ l) b u v : Int) = u + (if c then v * 2 ^ l else 0) := by
  unfold orW
  cases c
  · simp
  · rw [if_pos rfl, if_pos rfl, or_add _ _ _ hu, lo_small v h0 (by omega), Nat.mod_eq_of_lt (by omega)]
    have : ((v.toNat : Nat) : Int) = v := by omega
    push_cast
    rw [this]
set_option maxHeartbeats 1000000 in
/-- What was read is laid again. -/
theorem ly_back {k : Nat} (v u1 u2 : Nat) (hv : v < 4294967296) (L : Link (v % 256) k) (hok : okR (fmR ((v % 256 : Nat) : Int)) v (xR (fmR ((v % 256 : Nat) : Int)) v u1 u2) = true) :
    ly5 (foOf k).has (xR (fmR ((v % 256 : Nat) : Int)) v u1 u2) = v := by
  have hf := okR_fst hok
  unfold fst xR at hf
  rw [L.d, L.a, L.b, L.c, L.m] at hf
  have hex : hb (foOf k).has 8 = true → hb (foOf k).has 2 = false ∧ hb (foOf k).has 4 = false := fun h => by
    have := L.ex (by rw [L.m]; exact h)
    rw [L.b, L.c] at this; exact this
  unfold ly5 ly4 ly3 ly2 ly1 ly0 xR
  rw [L.d, L.a, L.b, L.c, L.m]
  simp only []
  generalize hb (foOf k).has 448 = D at *
  generalize hb (foOf k).has 1 = A at *
  generalize hb (foOf k).has 2 = B at *
  generalize hb (foOf k).has 4 = C at *
  generalize hb (foOf k).has 8 = M at *
  have d0 : 0 ≤ (if D = true then (v : Int) / 256 % 16 else 0) ∧ (if D = true then (v : Int) / 256 % 16 else 0) < 16 := by split <;> omega
  have a0 : 0 ≤ (if A = true then (v : Int) / 4096 % 16 else 0) ∧ (if A = true then (v : Int) / 4096 % 16 else 0) < 16 := by split <;> omega
  have b0 : 0 ≤ (if B = true then (v : Int) / 65536 % 16 else 0) ∧ (if B = true then (v : Int) / 65536 % 16 else 0) < 16 := by split <;> omega
  have c0 : 0 ≤ (if C = true then (v : Int) / 1048576 % 16 else 0) ∧ (if C = true then (v : Int) / 1048576 % 16 else 0) < 16 := by split <;> omega
  have m0 : 0 ≤ (if M = true then (v : Int) / 65536 else 0) ∧ (if M = true then (v : Int) / 65536 else 0) < 65536 := by split <;> omega
  have z0 : lo32 ((v % 256 : Nat) : Int) = v % 256 := by rw [lo_small _ (by omega) (by omega)]; omega
  rw [z0]
  have s1 := orW_add D 8 16 (v % 256) _ (by have := Nat.mod_lt v (show 256 > 0 by decide); omega) d0.1 d0.2 (by decide)
  simp only [Nat.reducePow] at s1
  generalize orW D 256 16 (v % 256) (if D = true then (v : Int) / 256 % 16 else 0) = r1 at *
  have s2 := orW_add A 12 16 r1 _ (by cases D <;> simp at s1 d0 <;> omega) a0.1 a0.2 (by decide)
  simp only [Nat.reducePow] at s2
  generalize orW A 4096 16 r1 (if A = true then (v : Int) / 4096 % 16 else 0) = r2 at *
  have h2 : r2 < 65536 := by cases D <;> cases A <;> simp at s1 s2 d0 a0 <;> omega
  have s3 := orW_add B 16 16 r2 _ (by omega) b0.1 b0.2 (by decide)
  simp only [Nat.reducePow] at s3
  generalize orW B 65536 16 r2 (if B = true then (v : Int) / 65536 % 16 else 0) = r3 at *
  have h3 : r3 < 1048576 := by cases B <;> simp at s3 b0 <;> omega
  have s4 := orW_add C 20 16 r3 _ (by omega) c0.1 c0.2 (by decide)
  simp only [Nat.reducePow] at s4
  generalize orW C 1048576 16 r3 (if C = true then (v : Int) / 1048576 % 16 else 0) = r4 at *
  cases M
  · simp only [orW, Bool.false_eq_true, if_false] at hf ⊢
    cases D <;> cases A <;> cases B <;> cases C <;> simp only [Bool.false_eq_true, if_false, if_true] at s1 s2 s3 s4 hf d0 a0 b0 c0 <;> omega
  · obtain ⟨rfl, rfl⟩ := hex rfl
    simp only [Bool.false_eq_true, if_false] at s3 s4
    have s5 := orW_add true 16 65536 r4 _ (by omega) m0.1 m0.2 (by decide)
    simp only [Nat.reducePow, if_true] at s5 m0 hf
    simp only [if_true]
    have : (orW true 65536 65536 r4 ((v : Int) / 65536) : Int) = v := by
      cases D <;> cases A <;> simp only [Bool.false_eq_true, if_false, if_true] at s1 s2 hf d0 a0 <;> omega
    omega
end Go.Proofs.Ytnojlbahmlmknab
