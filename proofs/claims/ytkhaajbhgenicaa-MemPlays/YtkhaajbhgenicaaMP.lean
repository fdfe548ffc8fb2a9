import Derived.Test.YtkhaajbhgenicaaMO
namespace Go.Proofs.Ytkhaajbhgenicaa
open Go.RowKit
set_option maxRecDepth 100000
set_option linter.unusedVariables false

/-! ## The calls, whatever they are asked -/
theorem Chg.same (S : List Nat) {w w' : World} (h : w = w') : Chg S w w' := by subst h; exact Chg.refl _ _

/-! Protect -/
def protOk (p r : Int) : Prop := (0 ≤ p ∧ p < 256) ∧ 0 ≤ r ∧ r ≤ 7
instance (p r : Int) : Decidable (protOk p r) := by unfold protOk; infer_instance
def protE (p r : Int) : Int := if protOk p r then 0 else 4
def protT (s : MS) (p r : Int) : MS := if protOk p r then protS s p.toNat r else s
theorem prot_tot (X : Nat) (p r : Int) (s : MS) (w : World) (h : PM w X s) :
    Calls Try.prog 29 #[.pointer (some ⟨X, 0, none⟩), .int .i64 p, .int .i64 r] w fun e w' => e = .returned (.int .i64 (protE p r)) ∧ PM w' X (protT s p r) ∧ Chg [X] w w' := by
  by_cases hv : protOk p r
  · obtain ⟨n, rfl⟩ : ∃ n : Nat, p = n := ⟨p.toNat, by unfold protOk at hv; omega⟩
    have e1 : protE n r = 0 := if_pos hv
    have e2 : protT s n r = protS s n r := if_pos hv
    rw [e1, e2]
    exact prot_yes X n r s w (by unfold protOk at hv; omega) hv.2.1 hv.2.2 h
  · have e1 : protE p r = 4 := if_neg hv
    have e2 : protT s p r = s := if_neg hv
    rw [e1, e2]
    refine (prot_no X p r w (by unfold protOk at hv; omega)).mono fun e w' ⟨he, hw⟩ => ⟨he, ?_, Chg.same _ hw⟩
    subst hw; exact h
theorem rprot_tot (k : RB) (p r : Int) (s : MS) (w : World) (h : RM w k s) :
    Calls Try.prog 30 #[.pointer (some ⟨k.y, 0, none⟩), .int .i64 p, .int .i64 r] w fun e w' => e = .returned (.int .i64 (protE p r)) ∧ RM w' k (protT s p r) ∧ Chg k.all w w' := by
  by_cases hv : protOk p r
  · obtain ⟨n, rfl⟩ : ∃ n : Nat, p = n := ⟨p.toNat, by unfold protOk at hv; omega⟩
    have e1 : protE n r = 0 := if_pos hv
    have e2 : protT s n r = protS s n r := if_pos hv
    rw [e1, e2]
    exact rprot_yes k n r s w (by unfold protOk at hv; omega) hv.2.1 hv.2.2 h
  · have e1 : protE p r = 4 := if_neg hv
    have e2 : protT s p r = s := if_neg hv
    rw [e1, e2]
    refine (rprot_no k p r w (by unfold protOk at hv; omega)).mono fun e w' ⟨he, hw⟩ => ⟨he, ?_, Chg.same _ hw⟩
    subst hw; exact h

/-! Mark -/
def pageOk (p : Int) : Prop := 0 ≤ p ∧ p < 256
instance (p : Int) : Decidable (pageOk p) := by unfold pageOk; infer_instance
def markE (p : Int) : Int := if pageOk p then 0 else 4
def markT (s : MS) (p : Int) (on : Bool) : MS := if pageOk p then markS s p.toNat on else s
theorem mark_tot (X : Nat) (p : Int) (on : Bool) (s : MS) (w : World) (h : PM w X s) :
    Calls Try.prog 41 #[.pointer (some ⟨X, 0, none⟩), .int .i64 p, .bool on] w fun e w' => e = .returned (.int .i64 (markE p)) ∧ PM w' X (markT s p on) ∧ Chg [X] w w' := by
  by_cases hv : pageOk p
  · obtain ⟨n, rfl⟩ : ∃ n : Nat, p = n := ⟨p.toNat, by unfold pageOk at hv; omega⟩
    have e1 : markE n = 0 := if_pos hv
    have e2 : markT s n on = markS s n on := if_pos hv
    rw [e1, e2]
    exact mark_yes X n on s w (by unfold pageOk at hv; omega) h
  · have e1 : markE p = 4 := if_neg hv
    have e2 : markT s p on = s := if_neg hv
    rw [e1, e2]
    refine (mark_no X p on w (by unfold pageOk at hv; omega)).mono fun e w' ⟨he, hw⟩ => ⟨he, ?_, Chg.same _ hw⟩
    subst hw; exact h
theorem rmark_tot (k : RB) (p : Int) (on : Bool) (s : MS) (w : World) (h : RM w k s) :
    Calls Try.prog 42 #[.pointer (some ⟨k.y, 0, none⟩), .int .i64 p, .bool on] w fun e w' => e = .returned (.int .i64 (markE p)) ∧ RM w' k (markT s p on) ∧ Chg k.all w w' := by
  by_cases hv : pageOk p
  · obtain ⟨n, rfl⟩ : ∃ n : Nat, p = n := ⟨p.toNat, by unfold pageOk at hv; omega⟩
    have e1 : markE n = 0 := if_pos hv
    have e2 : markT s n on = markS s n on := if_pos hv
    rw [e1, e2]
    exact rmark_yes k n on s w (by unfold pageOk at hv; omega) h
  · have e1 : markE p = 4 := if_neg hv
    have e2 : markT s p on = s := if_neg hv
    rw [e1, e2]
    refine (rmark_no k p on w (by unfold pageOk at hv; omega)).mono fun e w' ⟨he, hw⟩ => ⟨he, ?_, Chg.same _ hw⟩
    subst hw; exact h

/-! Rights -/
def rightV (s : MS) (p : Int) : Int := if pageOk p then s.R p.toNat else 0
theorem rights_tot (X : Nat) (p : Int) (s : MS) (w : World) (h : PM w X s) :
    Calls Try.prog 45 #[.pointer (some ⟨X, 0, none⟩), .int .i64 p] w fun e w' => e = .returned (.int .i64 (rightV s p)) ∧ w = w' := by
  by_cases hv : pageOk p
  · obtain ⟨n, rfl⟩ : ∃ n : Nat, p = n := ⟨p.toNat, by unfold pageOk at hv; omega⟩
    have e1 : rightV s n = s.R n := if_pos hv
    rw [e1]
    exact rights_yes X n s w (by unfold pageOk at hv; omega) h
  · have e1 : rightV s p = 0 := if_neg hv
    rw [e1]
    exact rights_no X p w (by unfold pageOk at hv; omega)

/-! Poke -/
def liesOk (a n : Int) : Prop := 0 ≤ a ∧ a ≤ 65536 ∧ 0 ≤ n ∧ n ≤ 65536 - a
instance (a n : Int) : Decidable (liesOk a n) := by unfold liesOk; infer_instance
abbrev I64 (a : Int) : Prop := -9223372036854775808 ≤ a ∧ a ≤ 9223372036854775807
def pokeE (a : Int) (n : Nat) : Int := if liesOk a n then 0 else 4
def pokeT (s : MS) (a : Int) (n : Nat) (z : Nat → Int) : MS := if liesOk a n then pokeS s a.toNat n z else s
theorem poke_tot (X : Nat) (a : Int) (bp : Option Addr) (n c : Nat) (z : Nat → Int) (s : MS) (w : World) (ha : I64 a) (hz : SR w bp n z) (h : PM w X s) :
    Calls Try.prog 31 #[.pointer (some ⟨X, 0, none⟩), .int .i64 a, .slice bp n c] w fun e w' => e = .returned (.int .i64 (pokeE a n)) ∧ PM w' X (pokeT s a n z) ∧ Chg [X] w w' := by
  by_cases hv : liesOk a n
  · obtain ⟨m, rfl⟩ : ∃ m : Nat, a = m := ⟨a.toNat, by unfold liesOk at hv; omega⟩
    have e1 : pokeE m n = 0 := if_pos hv
    have e2 : pokeT s m n z = pokeS s m n z := if_pos hv
    rw [e1, e2]
    exact poke_yes X m bp n c z s w (by unfold liesOk at hv; omega) hz h
  · have e1 : pokeE a n = 4 := if_neg hv
    have e2 : pokeT s a n z = s := if_neg hv
    rw [e1, e2]
    refine (poke_no X a bp n c w ha (by unfold liesOk at hv; omega)).mono fun e w' ⟨he, hw⟩ => ⟨he, ?_, Chg.same _ hw⟩
    subst hw; exact h
theorem rpoke_tot (k : RB) (a : Int) (bp : Option Addr) (n c : Nat) (z : Nat → Int) (s : MS) (w : World) (ha : I64 a) (hn : n ≤ maxLen) (hz : SR w bp n z) (hb : 0 < n → ∀ b off, bp = some ⟨b, off, none⟩ → b ∉ k.all) (h : RM w k s) :
    Calls Try.prog 32 #[.pointer (some ⟨k.y, 0, none⟩), .int .i64 a, .slice bp n c] w fun e w' => e = .returned (.int .i64 (pokeE a n)) ∧ RM w' k (pokeT s a n z) ∧ Chg k.all w w' := by
  by_cases hv : liesOk a n
  · obtain ⟨m, rfl⟩ : ∃ m : Nat, a = m := ⟨a.toNat, by unfold liesOk at hv; omega⟩
    have e1 : pokeE m n = 0 := if_pos hv
    have e2 : pokeT s m n z = pokeS s m n z := if_pos hv
    rw [e1, e2]
    exact rpoke_yes k m bp n c z s w (by unfold liesOk at hv; omega) hz hb h
  · have e1 : pokeE a n = 4 := if_neg hv
    have e2 : pokeT s a n z = s := if_neg hv
    rw [e1, e2]
    refine (rpoke_no k a bp n c w ha hn (by unfold liesOk at hv; omega)).mono fun e w' ⟨he, hw⟩ => ⟨he, ?_, Chg.same _ hw⟩
    subst hw; exact h

/-! Peek -/
/-- A new row of bytes is handed out. -/
structure Out (w w' : World) (p : Option Addr) (m : Nat) (z : Nat → Int) : Prop where
  bel : Below w.heap.size w w'
  row : 0 < m → ∃ H, p = some ⟨H, 0, none⟩ ∧ w.heap.size ≤ H ∧ NR w' H m z
def peekM (a n : Int) : Nat := if liesOk a n then n.toNat else 0
def peekE (a n : Int) : Int := if liesOk a n then 0 else 4
theorem peek_tot (X : Nat) (a n : Int) (s : MS) (w : World) (ha : I64 a) (h : PM w X s) :
    Calls Try.prog 33 #[.pointer (some ⟨X, 0, none⟩), .int .i64 a, .int .i64 n] w fun e w' => ∃ p c, e = .returned (.tuple #[.slice p (peekM a n) c, .int .i64 (peekE a n)]) ∧ Out w w' p (peekM a n) (fun i => s.B (a.toNat + i)) := by
  by_cases hv : liesOk a n
  · obtain ⟨b, rfl⟩ : ∃ m : Nat, a = m := ⟨a.toNat, by unfold liesOk at hv; omega⟩
    obtain ⟨m, rfl⟩ : ∃ m : Nat, n = m := ⟨n.toNat, by unfold liesOk at hv; omega⟩
    have e1 : peekE b m = 0 := if_pos hv
    have e2 : peekM b m = m := if_pos hv
    rw [e1, e2]
    refine (peek_yes X b m s w (by unfold liesOk at hv; omega) h).mono fun e w' ⟨he, hN, hB, hS⟩ => ⟨_, _, he, hB, fun _ => ⟨_, rfl, Nat.le_refl _, hN⟩⟩
  · have e1 : peekE a n = 4 := if_neg hv
    have e2 : peekM a n = 0 := if_neg hv
    rw [e1, e2]
    refine (peek_no X a n w ha hv).mono fun e w' ⟨he, hw⟩ => ⟨_, _, he, ?_, fun h => by omega⟩
    subst hw; exact Below.refl _ _
theorem rpeek_tot (k : RB) (a n : Int) (s : MS) (w : World) (ha : I64 a) (h : RM w k s) :
    Calls Try.prog 34 #[.pointer (some ⟨k.y, 0, none⟩), .int .i64 a, .int .i64 n] w fun e w' => ∃ p c, e = .returned (.tuple #[.slice p (peekM a n) c, .int .i64 (peekE a n)]) ∧ SR w' p (peekM a n) (fun i => s.B (a.toNat + i)) ∧ Below w.heap.size w w' := by
  by_cases hv : liesOk a n
  · obtain ⟨b, rfl⟩ : ∃ m : Nat, a = m := ⟨a.toNat, by unfold liesOk at hv; omega⟩
    obtain ⟨m, rfl⟩ : ∃ m : Nat, n = m := ⟨n.toNat, by unfold liesOk at hv; omega⟩
    have e1 : peekE b m = 0 := if_pos hv
    have e2 : peekM b m = m := if_pos hv
    rw [e1, e2]
    exact rpeek_yes k b m s w (by unfold liesOk at hv; omega) h
  · have e1 : peekE a n = 4 := if_neg hv
    have e2 : peekM a n = 0 := if_neg hv
    rw [e1, e2]
    refine (rpeek_no k a n w ha hv).mono fun e w' ⟨he, hw⟩ => ⟨_, _, he, fun h => by omega, ?_⟩
    subst hw; exact Below.refl _ _

/-! Load, Store, Fetch -/
def stK (kind : Int) : Option Nat → Int
  | none => 0
  | some _ => kind
def stA : Option Nat → Int
  | none => 0
  | some x => x
abbrev stVV (kind : Int) (o : Option Nat) : Value := .agg #[.int .i64 (stK kind o), .int .u32 (stA o)]
def wid (n : Int) : Prop := n = 1 ∨ n = 2 ∨ n = 4
instance (n : Int) : Decidable (wid n) := by unfold wid; infer_instance
def ldX (s : MS) (a : Nat) (n : Int) : Int := if badN s 1 a n.toNat = none ∧ wid n then ldv s.B a n.toNat else 0
theorem load_tot (X a : Nat) (n : Int) (s : MS) (w : World) (ha : a < 4294967296) (hs : s.Ok) (h : PM w X s) :
    Calls Try.prog 35 #[.pointer (some ⟨X, 0, none⟩), .int .u32 a, .int .i64 n] w fun e w' => e = .returned (.tuple #[.int .u32 (ldX s a n), stVV 5 (badN s 1 a n.toNat)]) ∧ Below w.heap.size w w' := by
  cases hb : badN s 1 a n.toNat with
  | some x =>
    have e : ldX s a n = 0 := if_neg (by simp [hb])
    rw [e]
    exact load_bad X a x n s w ha hs h hb
  | none =>
    by_cases hw : wid n
    · have e : ldX s a n = ldv s.B a n.toNat := if_pos ⟨hb, hw⟩
      rw [e]
      obtain ⟨m, rfl⟩ : ∃ m : Nat, n = m := ⟨n.toNat, by unfold wid at hw; omega⟩
      exact load_ok X a m s w (by unfold wid at hw; omega) ha hs h hb
    · have e : ldX s a n = 0 := if_neg (fun h => hw h.2)
      rw [e]
      exact load_none X a n s w hw ha hs h hb
theorem rload_tot (k : RB) (a : Nat) (n : Int) (s : MS) (w : World) (ha : a < 4294967296) (hs : s.Ok) (h : RM w k s) :
    Calls Try.prog 36 #[.pointer (some ⟨k.y, 0, none⟩), .int .u32 a, .int .i64 n] w fun e w' => e = .returned (.tuple #[.int .u32 (ldX s a n), stVV 5 (badN s 1 a n.toNat)]) ∧ Below w.heap.size w w' := by
  cases hb : badN s 1 a n.toNat with
  | some x =>
    have e : ldX s a n = 0 := if_neg (by simp [hb])
    rw [e]
    exact rload_bad k a x n s w ha hs h hb
  | none =>
    by_cases hw : wid n
    · have e : ldX s a n = ldv s.B a n.toNat := if_pos ⟨hb, hw⟩
      rw [e]
      obtain ⟨m, rfl⟩ : ∃ m : Nat, n = m := ⟨n.toNat, by unfold wid at hw; omega⟩
      exact rload_ok k a m s w (by unfold wid at hw; omega) ha hs h hb
    · have e : ldX s a n = 0 := if_neg (fun h => hw h.2)
      rw [e]
      exact rload_none k a n s w hw ha hs h hb

def sto (s : MS) (a : Nat) (n : Int) : Option Nat := if wid n then badN s 2 a n.toNat else none
def storeT (s : MS) (a : Nat) (n : Int) (v : Nat) : MS := if wid n ∧ badN s 2 a n.toNat = none then pokeS s a n.toNat (zv v) else s
theorem store_tot (X a v : Nat) (n : Int) (s : MS) (w : World) (ha : a < 4294967296) (hv : v < 4294967296) (hs : s.Ok) (h : PM w X s) :
    Calls Try.prog 37 #[.pointer (some ⟨X, 0, none⟩), .int .u32 a, .int .i64 n, .int .u32 v] w fun e w' => e = .returned (stVV 6 (sto s a n)) ∧ PM w' X (storeT s a n v) ∧ Chg [X] w w' := by
  by_cases hw : wid n
  · have e0 : sto s a n = badN s 2 a n.toNat := if_pos hw
    rw [e0]
    cases hb : badN s 2 a n.toNat with
    | some x =>
      have e : storeT s a n v = s := if_neg (by simp [hb])
      rw [e]
      exact (store_bad X a v x n s w hw ha hs h hb).mono fun e w' ⟨he, hB⟩ => ⟨he, h.below hB h.lt, Chg.of_below _ hB⟩
    | none =>
      have e : storeT s a n v = pokeS s a n.toNat (zv v) := if_pos ⟨hw, hb⟩
      rw [e]
      obtain ⟨m, rfl⟩ : ∃ m : Nat, n = m := ⟨n.toNat, by unfold wid at hw; omega⟩
      exact store_ok X a v m s w (by unfold wid at hw; omega) ha hv hs h hb
  · have e0 : sto s a n = none := if_neg hw
    have e : storeT s a n v = s := if_neg (fun h => hw h.1)
    rw [e0, e]
    exact (store_none X a v n w hw).mono fun e w' ⟨he, hB⟩ => ⟨he, h.below hB h.lt, Chg.of_below _ hB⟩
theorem rstore_tot (k : RB) (a v : Nat) (n : Int) (s : MS) (w : World) (ha : a < 4294967296) (hv : v < 4294967296) (hs : s.Ok) (h : RM w k s) :
    Calls Try.prog 38 #[.pointer (some ⟨k.y, 0, none⟩), .int .u32 a, .int .i64 n, .int .u32 v] w fun e w' => e = .returned (stVV 6 (sto s a n)) ∧ RM w' k (storeT s a n v) ∧ Chg k.all w w' := by
  by_cases hw : wid n
  · have e0 : sto s a n = badN s 2 a n.toNat := if_pos hw
    rw [e0]
    cases hb : badN s 2 a n.toNat with
    | some x =>
      have e : storeT s a n v = s := if_neg (by simp [hb])
      rw [e]
      exact (rstore_bad k a v x n s w hw ha hs h hb).mono fun e w' ⟨he, hB⟩ => ⟨he, h.below hB (Nat.le_refl _), Chg.of_below _ hB⟩
    | none =>
      have e : storeT s a n v = pokeS s a n.toNat (zv v) := if_pos ⟨hw, hb⟩
      rw [e]
      obtain ⟨m, rfl⟩ : ∃ m : Nat, n = m := ⟨n.toNat, by unfold wid at hw; omega⟩
      exact rstore_ok k a v m s w (by unfold wid at hw; omega) ha hv hs h hb
  · have e0 : sto s a n = none := if_neg hw
    have e : storeT s a n v = s := if_neg (fun h => hw h.1)
    rw [e0, e]
    exact (rstore_none k a v n w hw).mono fun e w' ⟨he, hB⟩ => ⟨he, h.below hB (Nat.le_refl _), Chg.of_below _ hB⟩

def fet (s : MS) (a : Nat) (n : Int) : Option Nat := if 0 < n ∧ n ≤ 8 then badN s 4 a n.toNat else none
def fetM (s : MS) (a : Nat) (n : Int) : Nat := if (0 < n ∧ n ≤ 8) ∧ badN s 4 a n.toNat = none then n.toNat else 0
theorem fetch_tot (X a : Nat) (n : Int) (s : MS) (w : World) (ha : a < 4294967296) (hs : s.Ok) (h : PM w X s) :
    Calls Try.prog 39 #[.pointer (some ⟨X, 0, none⟩), .int .u32 a, .int .i64 n] w fun e w' => ∃ p c, e = .returned (.tuple #[.slice p (fetM s a n) c, stVV 4 (fet s a n)]) ∧ Out w w' p (fetM s a n) (fun i => s.B (a + i)) := by
  by_cases hw : 0 < n ∧ n ≤ 8
  · have e0 : fet s a n = badN s 4 a n.toNat := if_pos hw
    rw [e0]
    cases hb : badN s 4 a n.toNat with
    | some x =>
      have e : fetM s a n = 0 := if_neg (by simp [hb])
      rw [e]
      exact (fetch_bad X a x n s w hw.1 hw.2 ha hs h hb).mono fun e w' ⟨he, hB⟩ => ⟨_, _, he, hB, fun h => by omega⟩
    | none =>
      have e : fetM s a n = n.toNat := if_pos ⟨hw, hb⟩
      rw [e]
      obtain ⟨m, rfl⟩ : ∃ m : Nat, n = m := ⟨n.toNat, by omega⟩
      exact (fetch_ok X a m s w (by omega) (by omega) ha hs h hb).mono fun e w' ⟨he, hN, hB, hS⟩ => ⟨_, _, he, hB, fun _ => ⟨_, rfl, by omega, hN⟩⟩
  · have e0 : fet s a n = none := if_neg hw
    have e : fetM s a n = 0 := if_neg (fun h => hw h.1)
    rw [e0, e]
    exact (fetch_none X a n w (by omega)).mono fun e w' ⟨he, hB⟩ => ⟨_, _, he, hB, fun h => by omega⟩
theorem rfetch_tot (k : RB) (a : Nat) (n : Int) (s : MS) (w : World) (ha : a < 4294967296) (hs : s.Ok) (h : RM w k s) :
    Calls Try.prog 40 #[.pointer (some ⟨k.y, 0, none⟩), .int .u32 a, .int .i64 n] w fun e w' => ∃ p c, e = .returned (.tuple #[.slice p (fetM s a n) c, stVV 4 (fet s a n)]) ∧ SR w' p (fetM s a n) (fun i => s.B (a + i)) ∧ Below w.heap.size w w' := by
  by_cases hw : 0 < n ∧ n ≤ 8
  · have e0 : fet s a n = badN s 4 a n.toNat := if_pos hw
    rw [e0]
    cases hb : badN s 4 a n.toNat with
    | some x =>
      have e : fetM s a n = 0 := if_neg (by simp [hb])
      rw [e]
      exact (rfetch_bad k a x n s w hw.1 hw.2 ha hs h hb).mono fun e w' ⟨he, hB⟩ => ⟨_, _, he, fun h => by omega, hB⟩
    | none =>
      have e : fetM s a n = n.toNat := if_pos ⟨hw, hb⟩
      rw [e]
      obtain ⟨m, rfl⟩ : ∃ m : Nat, n = m := ⟨n.toNat, by omega⟩
      exact rfetch_ok k a m s w (by omega) (by omega) ha hs h hb
  · have e0 : fet s a n = none := if_neg hw
    have e : fetM s a n = 0 := if_neg (fun h => hw h.1)
    rw [e0, e]
    by_cases hn : n = 0
    · subst hn
      exact (rfetch_zero k a s w ha hs h).mono fun e w' ⟨he, hB⟩ => ⟨_, _, he, fun h => by omega, hB⟩
    · exact (rfetch_none k a n w (by omega)).mono fun e w' ⟨he, hB⟩ => ⟨_, _, he, fun h => by omega, hB⟩
end Go.Proofs.Ytkhaajbhgenicaa
