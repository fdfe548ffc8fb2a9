import Derived.Test.YtkhaajbhgenicaaMC
namespace Go.Proofs.Ytkhaajbhgenicaa
open Go.RowKit
set_option maxRecDepth 100000

/-! ## Which bytes may be used -/
/-- The first of n bytes from x on that does not lie in the memory, in a page that has the right. -/
def badN (s : MS) (r : Int) (x : Nat) : Nat → Option Nat
  | 0 => none
  | n + 1 => if x < 65536 ∧ s.R (x / 256) / r % 2 = 1 then badN s r (x + 1) n else some x

theorem badN_none {s : MS} {r : Int} : ∀ {n x : Nat}, badN s r x n = none → ∀ i, i < n → x + i < 65536
  | 0, _, _, i, hi => by omega
  | n + 1, x, h, i, hi => by
    unfold badN at h
    split at h
    · rename_i hc
      by_cases e : i = 0
      · subst e; omega
      · have := badN_none h (i - 1) (by omega); omega
    · simp at h
theorem badN_lt {s : MS} {r : Int} {n x : Nat} (h : badN s r x n = none) (hn : 0 < n) : x + n ≤ 65536 := by
  have := badN_none h (n - 1) (by omega); omega
theorem badN_some {s : MS} {r : Int} : ∀ {n x y : Nat}, badN s r x n = some y → y = x ∨ y ≤ 65536
  | 0, _, _, h => by simp [badN] at h
  | n + 1, x, y, h => by
    unfold badN at h
    split at h
    · rename_i hc
      rcases badN_some h with e | e <;> omega
    · simp at h; omega

theorem and_right (R r : Int) (h0 : 0 ≤ R) (h7 : R ≤ 7) (hr : r = 1 ∨ r = 2 ∨ r = 4) : (bits .and .i64 R r == 0) = (R / r % 2 == 0) := by
  have hR : R = 0 ∨ R = 1 ∨ R = 2 ∨ R = 3 ∨ R = 4 ∨ R = 5 ∨ R = 6 ∨ R = 7 := by omega
  rcases hR with rfl | rfl | rfl | rfl | rfl | rfl | rfl | rfl <;> rcases hr with rfl | rfl | rfl <;> decide +kernel

def allV : Option Nat → Value
  | none => .tuple #[.int .u32 0, .bool true]
  | some x => .tuple #[.int .u32 x, .bool false]

theorem badN_go {s : MS} {r : Int} {x n : Nat} (h : x < 65536) (hr : s.R (x / 256) / r % 2 = 1) : badN s r x (n + 1) = badN s r (x + 1) n := by
  rw [badN, if_pos ⟨h, hr⟩]
theorem badN_no {s : MS} {r : Int} {x n : Nat} (h : ¬ (x < 65536 ∧ s.R (x / 256) / r % 2 = 1)) : badN s r x (n + 1) = some x := by
  rw [badN, if_neg h]

structure AlRel (s : MS) (r : Int) (a N : Nat) (o : Option Nat) (k : Nat) : Prop where
  le : k ≤ N
  lt : k = 0 ∨ a + k ≤ 65536
  eq : badN s r (a + k) (N - k) = o

set_option maxHeartbeats 1000000 in
theorem allowed_o (X a N : Nat) (n r : Int) (s : MS) (w : World) (o : Option Nat) (hN : N = n.toNat) (ho : badN s r a N = o) (ha : a < 4294967296) (hr : r = 1 ∨ r = 2 ∨ r = 4) (hs : s.Ok) (h : PM w X s) :
    Calls Try.prog 61 #[.pointer (some ⟨X, 0, none⟩), .int .u32 a, .int .i64 n, .int .i64 r] w fun e w' => e = .returned (allV o) ∧ w = w' := by
  have HR : Hid (r = 1 ∨ r = 2 ∨ r = 4) := hr
  have HN : Hid (N = n.toNat) := hN
  have HO : Hid (badN s r a N = o) := ho
  clear hr hN ho
  go_enter Try.func61, Try.ntmps61
  go_wp2
  go_loop [13] (fun i => ∃ k : Nat, i = .int .i64 k ∧ AlRel s r a N o k) (fun i => N - (intOf i).toNat)
  case atStart => exact ⟨0, rfl, by omega, .inl rfl, HO.out⟩
  case round =>
    obtain ⟨k, rfl, ⟨hk, hak, hb⟩⟩ := hrel
    have hN := HN.out
    clear HO
    by_cases hlt : (k : Int) < n
    · obtain ⟨x, hx⟩ : ∃ x, x = a + k := ⟨_, rfl⟩
      obtain ⟨q, hq⟩ : ∃ q, q = x / 256 := ⟨_, rfl⟩
      have hsum : (a : Int) + (k : Int) = (x : Int) := by omega
      have hdiv : (x : Int) / 256 = (q : Int) := by omega
      have hk0 : (0 : Int) ≤ k := by omega
      have hk1 : (k : Int) < 4294967296 := by omega
      have hx0 : (0 : Int) ≤ x := by omega
      have hx1 : (x : Int) < 4294967296 := by omega
      have hm : N - k = (N - (k + 1)) + 1 := by omega
      have hkN : k + 1 ≤ N := by omega
      rw [← hx, hm] at hb
      have HX : Hid (x = a + k) := hx
      by_cases hx2 : x < 65536
      · have hx3 : (x : Int) < 65536 := by omega
        have hge : decide (65536 ≤ (x : Int)) = false := decide_eq_false (by omega)
        have hq1 : q < 256 := by omega
        have hq2 : (q : Int) < 256 := by omega
        have hq0 : (0 : Int) ≤ q := by omega
        have c1 := h.ri q hq1
        have hR := hs.ri q
        have hand := and_right (s.R q) r hR.1 hR.2 HR.out
        by_cases hok : s.R q / r % 2 = 1
        · have hand' : (bits .and .i64 (s.R q) r == 0) = false := by rw [hand]; simp [hok]
          rw [badN_go hx2 (by rw [← hq]; exact hok)] at hb
          have HB : Hid (badN s r (x + 1) (N - (k + 1)) = o) := hb
          have HKN : Hid (k + 1 ≤ N) := hkN
          have HS : Hid ((a : Int) + (k : Int) = (x : Int)) := hsum
          clear hand hok hb hq hak hm hx hN hR hk hx2 hq1 hkN
          go_wp2
          go_round
          case rel => exact ⟨k + 1, by go_num, HKN.out, .inr (by have := HX.out; omega), by rw [← HB.out, HX.out, Nat.add_assoc]⟩
          case measure => have := HKN.out; simp [intOf]; omega
        · have hz : s.R q / r % 2 = 0 := by omega
          have hand' : (bits .and .i64 (s.R q) r == 0) = true := by rw [hand]; simp [hz]
          rw [badN_no (by rw [← hq]; exact fun h => hok h.2)] at hb
          have HB : Hid (some x = o) := hb
          clear hand hok hb hq hak hm hx hN hR hk hx2 hq1 hz
          go_wp2
          go_ret2
          exact ⟨by rw [← HB.out]; rfl, rfl⟩
      · have hx3 : ¬ (x : Int) < 65536 := by omega
        have hge : decide (65536 ≤ (x : Int)) = true := decide_eq_true (by omega)
        rw [badN_no (fun h => hx2 h.1)] at hb
        have HB : Hid (some x = o) := hb
        clear hb hq hak hm hx hN hk hx2
        go_wp2
        go_ret2
        exact ⟨by rw [← HB.out]; rfl, rfl⟩
    · have : N - k = 0 := by omega
      rw [this] at hb
      have HB : Hid (none = o) := hb
      clear hb this hN hk hak
      go_wp2
      go_ret2
      exact ⟨by rw [← HB.out]; rfl, rfl⟩

theorem allowed_any (X a : Nat) (n r : Int) (s : MS) (w : World) (ha : a < 4294967296) (hr : r = 1 ∨ r = 2 ∨ r = 4) (hs : s.Ok) (h : PM w X s) :
    Calls Try.prog 61 #[.pointer (some ⟨X, 0, none⟩), .int .u32 a, .int .i64 n, .int .i64 r] w fun e w' => e = .returned (allV (badN s r a n.toNat)) ∧ w = w' :=
  allowed_o X a n.toNat n r s w _ rfl rfl ha hr hs h


def stopV (kind : Int) : Option Nat → Value
  | none => .agg #[.int .i64 0, .int .u32 0]
  | some x => .agg #[.int .i64 kind, .int .u32 x]

set_option maxHeartbeats 1000000 in
theorem use_o (k' : RB) (a N : Nat) (n r kind : Int) (s : MS) (w : World) (o : Option Nat) (hN : N = n.toNat) (ho : badN s r a N = o) (ha : a < 4294967296) (hr : r = 1 ∨ r = 2 ∨ r = 4) (hs : s.Ok) (h : RM w k' s) :
    Calls Try.prog 63 #[.pointer (some ⟨k'.y, 0, none⟩), .int .u32 a, .int .i64 n, .int .i64 r, .int .i64 kind] w fun e w' => e = .returned (stopV kind o) ∧ Below w.heap.size w w' := by
  have hr0 : 0 < r := by omega
  have hr1 : (r == 0) = false := by simp; omega
  have hr4 : r ≤ 4 := by omega
  have hrn : ¬ r = -1 := by omega
  have HN : Hid (N = n.toNat) := hN
  have HO : Hid (badN s r a N = o) := ho
  have d1 := h.c1
  have ltr := h.ltr
  have lty := h.lty
  clear hr hN ho
  go_enter Try.func63, Try.ntmps63
  go_wp2
  go_loop [11] (fun i => ∃ k : Nat, i = .int .i64 k ∧ AlRel s r a N o k) (fun i => N - (intOf i).toNat)
  case atStart => exact ⟨0, rfl, by omega, .inl rfl, HO.out⟩
  case round =>
    obtain ⟨k, rfl, ⟨hk, hak, hb⟩⟩ := hrel
    have hN := HN.out
    clear HO
    by_cases hlt : (k : Int) < n
    · obtain ⟨x, hx⟩ : ∃ x, x = a + k := ⟨_, rfl⟩
      obtain ⟨q, hq⟩ : ∃ q, q = x / 256 := ⟨_, rfl⟩
      have hsum : (a : Int) + (k : Int) = (x : Int) := by omega
      have hdiv : (x : Int) / 256 = (q : Int) := by omega
      have hk0 : (0 : Int) ≤ k := by omega
      have hk1 : (k : Int) < 4294967296 := by omega
      have hx0 : (0 : Int) ≤ x := by omega
      have hx1 : (x : Int) < 4294967296 := by omega
      have hm : N - k = (N - (k + 1)) + 1 := by omega
      have HKN : Hid (k + 1 ≤ N) := show k + 1 ≤ N by omega
      rw [← hx, hm] at hb
      have HX : Hid (x = a + k) := hx
      by_cases hx2 : x < 65536
      · have hx3 : (x : Int) < 65536 := by omega
        have hge : decide (65535 < (x : Int)) = false := decide_eq_false (by omega)
        have hq1 : q < 256 := by omega
        have hq2 : (q : Int) < 256 := by omega
        have hq0 : (0 : Int) ≤ q := by omega
        have c1 := h.ri q hq1
        have hR := hs.ri q
        obtain ⟨R, hRe⟩ : ∃ R, R = s.R q := ⟨_, rfl⟩
        obtain ⟨Q, hQ⟩ : ∃ Q, R / r = Q := ⟨_, rfl⟩
        have hQ0 : 0 ≤ Q := by rw [← hQ]; exact Int.ediv_nonneg (by omega) (by omega)
        have hQ7 : Q ≤ 7 := by rw [← hQ]; exact Int.le_trans (Int.ediv_le_self _ (by omega)) (by omega)
        rw [← hRe] at c1 hR
        obtain ⟨hR0, hR7⟩ := hR
        by_cases hok : Q % 2 = 1
        · have hand' : (Q % 2 == 0) = false := by simp [hok]
          rw [badN_go hx2 (by rw [← hq, ← hRe, hQ]; exact hok)] at hb
          have HB : Hid (badN s r (x + 1) (N - (k + 1)) = o) := hb
          clear hok hb hq hak hm hx hN hk hx2 hq1 hRe
          go_wp2
          go_round
          case rel => exact ⟨k + 1, by go_num, HKN.out, .inr (by have := HX.out; omega), by rw [← HB.out, HX.out, Nat.add_assoc]⟩
          case measure => have := HKN.out; simp [intOf]; omega
        · have hz : Q % 2 = 0 := by omega
          have hand' : (Q % 2 == 0) = true := by simp [hz]
          rw [badN_no (by rw [← hq, ← hRe, hQ]; exact fun h => hok h.2)] at hb
          have HB : Hid (some x = o) := hb
          clear hok hb hq hak hm hx hN hk hx2 hq1 hRe hz
          go_wp2
          exact bodyPost_ret (v := stopV kind (some x)) (by simp [results, Try.results63, go_sem, stopV]) rfl ⟨by rw [← HB.out], by first | exact ((Below.refl _ _).alloc (Nat.le_refl _) _).setCell (Nat.le_refl _) _ | exact (Below.refl _ _).alloc (Nat.le_refl _) _⟩
      · have hx3 : ¬ (x : Int) < 65536 := by omega
        have hge : decide (65535 < (x : Int)) = true := decide_eq_true (by omega)
        rw [badN_no (fun h => hx2 h.1)] at hb
        have HB : Hid (some x = o) := hb
        clear hb hq hak hm hx hN hk hx2
        go_wp2
        exact bodyPost_ret (v := stopV kind (some x)) (by simp [results, Try.results63, go_sem, stopV]) rfl ⟨by rw [← HB.out], by first | exact ((Below.refl _ _).alloc (Nat.le_refl _) _).setCell (Nat.le_refl _) _ | exact (Below.refl _ _).alloc (Nat.le_refl _) _⟩
    · have : N - k = 0 := by omega
      rw [this] at hb
      have HB : Hid (none = o) := hb
      clear hb this hN hk hak
      go_wp2
      exact bodyPost_ret (v := stopV kind none) (by simp [results, Try.results63, go_sem, stopV]) rfl ⟨by rw [← HB.out], by first | exact ((Below.refl _ _).alloc (Nat.le_refl _) _).setCell (Nat.le_refl _) _ | exact (Below.refl _ _).alloc (Nat.le_refl _) _⟩

theorem use_any (k' : RB) (a : Nat) (n r kind : Int) (s : MS) (w : World) (ha : a < 4294967296) (hr : r = 1 ∨ r = 2 ∨ r = 4) (hs : s.Ok) (h : RM w k' s) :
    Calls Try.prog 63 #[.pointer (some ⟨k'.y, 0, none⟩), .int .u32 a, .int .i64 n, .int .i64 r, .int .i64 kind] w fun e w' => e = .returned (stopV kind (badN s r a n.toNat)) ∧ Below w.heap.size w w' :=
  use_o k' a n.toNat n r kind s w _ rfl rfl ha hr hs h

end Go.Proofs.Ytkhaajbhgenicaa
