import Derived.Test.YtgkkghphlbgcoaaSC
import Derived.Laws.Bits64
import Derived.Laws.Bits64b
namespace Go.Proofs.Ytgkkghphlbgcoaa.Ca
open Go.RowKit
set_option maxRecDepth 100000
set_option linter.unusedVariables false
set_option linter.unusedSimpArgs false
def isP (p : Int) : Bool := decide (0 ≤ p) && decide (p < 256)
theorem isp_any (p : Int) (w : World) : Calls Try.prog 54 #[.int .i64 p] w fun e w' => e = .returned (.bool (isP p)) ∧ w' = w := by
  by_cases h0 : 0 ≤ p
  · have g0 : decide ((0 : Int) ≤ p) = true := decide_eq_true h0
    have E : isP p = decide (p < 256) := by unfold isP; rw [g0]; rfl
    rw [E]
    clear E
    go_enter Try.func54, Try.ntmps54
    go_wp2
    go_ret
    exact ⟨rfl, rfl⟩
  · have g0 : decide ((0 : Int) ≤ p) = false := decide_eq_false h0
    have E : isP p = false := by unfold isP; rw [g0]; rfl
    rw [E]
    clear E
    go_enter Try.func54, Try.ntmps54
    go_wp2
    go_ret
    exact ⟨rfl, rfl⟩
def othF (op : Int) : Int := if op = 14 then 15 else if op = 15 then 14 else if op = 11 then 96 else 11
theorem oth_any (op : Int) (w : World) : Calls Try.prog 58 #[.int .i64 op] w fun e w' => e = .returned (.int .i64 (othF op)) ∧ w' = w := by
  by_cases h1 : op = 14
  · subst h1
    go_enter Try.func58, Try.ntmps58
    go_wp2
    go_ret
    exact ⟨rfl, rfl⟩
  by_cases h2 : op = 15
  · subst h2
    go_enter Try.func58, Try.ntmps58
    go_wp2
    go_ret
    exact ⟨rfl, rfl⟩
  by_cases h3 : op = 11
  · subst h3
    go_enter Try.func58, Try.ntmps58
    go_wp2
    go_ret
    exact ⟨rfl, rfl⟩
  have E : othF op = 11 := by unfold othF; rw [if_neg h1, if_neg h2, if_neg h3]
  rw [E]
  clear E
  go_enter Try.func58, Try.ntmps58
  go_wp2
  go_ret
  exact ⟨rfl, rfl⟩
theorem none_any (w : World) : Calls Try.prog 16 #[] w fun e w' => e = .returned (.agg #[.int .u32 0, .int .i64 (-1)]) ∧ Below w.heap.size w w' := by
  go_enter Try.func16, Try.ntmps16
  go_wp2
  (try simp only [Exit.inBlock, Exit.then])
  refine bodyPost_ret (by simp [results, Try.results16, go_sem]; try rfl) rfl ?_
  exact ⟨rfl, (Below.refl _ _).alloc (Nat.le_refl _) _⟩
theorem ent_any (C tb n cap pc x : Nat) (w : World) (hm : w.cell? ⟨C, 2, none⟩ = some (.slice (some ⟨tb, 0, none⟩) n cap)) (h0 : 0 < n) (hn : n ≤ 65536) (hp : pc < 4294967296) (hx : pc % n = x) :
    Calls Try.prog 48 #[.pointer (some ⟨C, 0, none⟩), .int .u32 pc] w fun e w' => e = .returned (.pointer (some ⟨tb, x * 2, none⟩)) ∧ ∃ k, w' = w.drewN k := by
  have t1 : IntKind.u32.wrap (n : Int) = (n : Int) := by rw [IntKind.wrap_u32]; omega
  have t2 : (pc : Int) % (n : Int) = (x : Int) := by rw [← hx]; exact (Int.natCast_emod pc n).symm
  have t2' : (pc : Int).tmod (n : Int) = (x : Int) := by rw [← hx]; rfl
  have x1 : x < n := by rw [← hx]; exact Nat.mod_lt _ h0
  have q0 : (0 : Int) ≤ (x : Int) := by omega
  have q1 : (x : Int) < n := by omega
  have n0 : ¬ (n : Int) = 0 := by omega
  have n1 : ((n : Int) == 0) = false := by simpa using n0
  have t3 : IntKind.u32.wrap (x : Int) = (x : Int) := by rw [IntKind.wrap_u32]; omega
  clear hx
  go_enter Try.func48, Try.ntmps48
  go_wp2
  go_region
  all_goals go_wp2
  all_goals go_ret
  all_goals exact ⟨rfl, 1, rfl⟩
end Go.Proofs.Ytgkkghphlbgcoaa.Ca
namespace Go.Proofs.Ytgkkghphlbgcoaa.Ca
open Go.RowKit
set_option maxRecDepth 100000
set_option linter.unusedVariables false
set_option linter.unusedSimpArgs false
/-- A set of pages lies at a place: four numbers. -/
structure PS (w : World) (S o : Nat) (q : Nat → Nat) : Prop where
  c : ∀ i, i < 4 → w.cell? ⟨S, o + i, none⟩ = some (.int .u64 (q i : Nat))
  lt : ∀ i, i < 4 → q i < 18446744073709551616
def hasP (q : Nat → Nat) (p : Int) : Bool := isP p && (q (p.toNat / 64)).testBit (p.toNat % 64)
theorem bit_is (y r : Nat) (hy : y < 18446744073709551616) : (bits .and .u64 ((y : Int) / 2 ^ r) 1 != 0) = y.testBit r := by
  have e : (y : Int) / 2 ^ r = ((y / 2 ^ r : Nat) : Int) := by simp
  have hl : y / 2 ^ r < 18446744073709551616 := Nat.lt_of_le_of_lt (Nat.div_le_self _ _) hy
  rw [e, show (1 : Int) = ((1 : Nat) : Int) from rfl, bits_and_u64_nat _ _ hl (by decide)]
  unfold Nat.testBit
  rw [Nat.and_comm, Nat.shiftRight_eq_div_pow]
  generalize 1 &&& y / 2 ^ r = z
  cases z with
  | zero => rfl
  | succ n => simp [bne]; omega
set_option maxHeartbeats 1000000 in
theorem has_any (S o : Nat) (q : Nat → Nat) (p : Int) (w : World) (hS : PS w S o q) :
    Calls Try.prog 42 #[.pointer (some ⟨S, o, none⟩), .int .i64 p] w fun e w' => e = .returned (.bool (hasP q p)) ∧ w' = w := by
  have HI : Hid _ := isp_any p
  cases hp : isP p with
  | false =>
    have E : hasP q p = false := by unfold hasP; rw [hp]; rfl
    rw [E]
    clear E hS
    rw [hp] at HI
    clear hp
    go_enter Try.func42, Try.ntmps42
    go_wp2_with (go_at_call 54; fail)
    refine Calls.mono (HI.out _) ?_
    rintro e w1 ⟨rfl, rfl⟩
    dsimp only
    go_wp2
    go_ret
    exact ⟨rfl, rfl⟩
  | true =>
    have h0 : 0 ≤ p ∧ p < 256 := by unfold isP at hp; simpa using hp
    obtain ⟨m, rfl⟩ : ∃ m : Nat, p = (m : Int) := ⟨p.toNat, by omega⟩
    obtain ⟨j, hj⟩ : ∃ j, m / 64 = j := ⟨_, rfl⟩
    obtain ⟨r, hr⟩ : ∃ r, m % 64 = r := ⟨_, rfl⟩
    have E : hasP q m = (q j).testBit r := by unfold hasP; rw [hp, Int.toNat_natCast, hj, hr]; rfl
    rw [E]
    have c1 := hS.c j (by omega)
    have lq := hS.lt j (by omega)
    obtain ⟨y, hy⟩ : ∃ y, q j = y := ⟨_, rfl⟩
    rw [hy] at c1 lq ⊢
    have t1 : (m : Int) / 64 = (j : Int) := by omega
    have t2 : (m : Int) % 64 = (r : Int) := by omega
    have hj4 : j < 4 := by omega
    have hr6 : r < 64 := by omega
    have g1 : (0 : Int) ≤ (j : Int) := by omega
    have g2 : (j : Int) < 4 := by omega
    have g3 : (0 : Int) ≤ (r : Int) := by omega
    rw [hp] at HI
    clear hS E hj hr hp hy
    go_enter Try.func42, Try.ntmps42
    go_wp2_with (go_at_call 54; fail)
    refine Calls.mono (HI.out _) ?_
    rintro e w1 ⟨rfl, rfl⟩
    dsimp only
    go_wp2
    go_ret
    exact ⟨by rw [← bit_is y r lq]; rfl, rfl⟩
end Go.Proofs.Ytgkkghphlbgcoaa.Ca
namespace Go.Proofs.Ytgkkghphlbgcoaa.Ca
open Go.RowKit
set_option maxRecDepth 100000
set_option linter.unusedVariables false
set_option linter.unusedSimpArgs false
def addP (q : Nat → Nat) (m : Nat) : Nat → Nat := fun i => if i = m / 64 then q i ||| 2 ^ (m % 64) else q i
def setN (ps : Nat → Int) : Nat → Nat → Nat
  | 0 => fun _ => 0
  | k + 1 => addP (setN ps k) (ps k).toNat
structure SQ (w wr : World) (A B : Nat) (q : Nat → Nat) : Prop where
  p : PS wr B 0 q
  f : ∀ i, wr.frozen? ⟨B, i, none⟩ = false
  l : B < wr.heap.size
  b : Below w.heap.size w wr
  a : ∀ i, i < 4 → wr.cell? ⟨A, i, none⟩ = some (.int .u64 0)
  af : ∀ i, wr.frozen? ⟨A, i, none⟩ = false
  al : A < wr.heap.size
  ga : w.heap.size ≤ A
  gb : w.heap.size ≤ B
  ne : A ≠ B
theorem SQ.new (w : World) : SQ w ((w.alloc (.cells #[.int .u64 0, .int .u64 0, .int .u64 0, .int .u64 0] 77)).alloc (.cells #[.int .u64 0, .int .u64 0, .int .u64 0, .int .u64 0] 77)) w.heap.size (w.heap.size + 1) (fun _ => 0) := by
  have e1 : ∀ i, i < 4 → (#[Value.int .u64 0, .int .u64 0, .int .u64 0, .int .u64 0] : Array Value)[i]? = some (.int .u64 0) := fun i hi => by
    rcases (by omega : i = 0 ∨ i = 1 ∨ i = 2 ∨ i = 3) with rfl | rfl | rfl | rfl <;> rfl
  refine ⟨⟨fun i hi => ?_, fun i hi => by decide⟩, fun i => World.frozen?_alloc_at _ _ _ _ (by simp), by simp, ((Below.refl _ w).alloc (Nat.le_refl _) _).alloc (by simp) _, fun i hi => ?_, fun i => ?_, by simp; omega, Nat.le_refl _, by omega, by omega⟩
  · rw [Nat.zero_add, World.cell?_alloc_at _ _ _ _ (by simp), e1 i hi]; rfl
  · rw [World.cell?_alloc_past _ _ _ (by simp), World.cell?_alloc_at _ _ _ _ rfl, e1 i hi]
  · rw [World.frozen?_alloc_past _ _ _ (by simp), World.frozen?_alloc_at _ _ _ _ rfl]
theorem or_lt {y z : Nat} (hy : y < 18446744073709551616) (hz : z < 18446744073709551616) : y ||| z < 18446744073709551616 := Nat.or_lt_two_pow (n := 64) hy hz
theorem SQ.add {w wr : World} {A B : Nat} {q : Nat → Nat} (h : SQ w wr A B q) (m j v : Nat) (hj : m / 64 = j) (hm : j < 4) (hv : q j ||| 2 ^ (m % 64) = v) : SQ w (wr.setCell ⟨B, j, none⟩ (.int .u64 (v : Nat))) A B (addP q m) := by
  have h2 : 2 ^ (m % 64) < 18446744073709551616 := Nat.lt_of_le_of_lt (Nat.pow_le_pow_right (by decide) (by omega : m % 64 ≤ 63)) (by decide)
  refine ⟨⟨fun i hi => ?_, fun i hi => ?_⟩, fun i => by rw [World.frozen?_setCell]; exact h.f i, by simpa using h.l, h.b.setCell (p := ⟨B, j, none⟩) h.gb _, fun i hi => ?_, fun i => by rw [World.frozen?_setCell]; exact h.af i, by simpa using h.al, h.ga, h.gb, h.ne⟩
  · have c := h.p.c
    rw [Nat.zero_add]
    unfold addP
    rw [hj]
    by_cases e : i = j
    · subst e
      have ci := c i hi
      rw [Nat.zero_add] at ci
      rw [if_pos rfl, World.cell?_setCell_same _ _ _ ci, hv]
    · rw [if_neg e, World.cell?_setCell_other _ _ _ _ (by intro x; cases x; exact e rfl)]
      have ci := c i hi
      rw [Nat.zero_add] at ci
      exact ci
  · unfold addP
    split
    · exact or_lt (h.p.lt i hi) h2
    · exact h.p.lt i hi
  · rw [World.cell?_setCell_other _ _ _ _ (by intro x; cases x; exact h.ne rfl)]; exact h.a i hi
theorem SQ.drw {w wr : World} {A B : Nat} {q : Nat → Nat} (h : SQ w wr A B q) : SQ w wr.drew A B q := ⟨⟨h.p.c, h.p.lt⟩, h.f, h.l, h.b.drew, h.a, h.af, h.al, h.ga, h.gb, h.ne⟩
theorem bel4 {w W : World} {n A : Nat} (h : Below n w W) (ha : n ≤ A) (v0 v1 v2 v3 : Value) : Below n w ((((W.setCell ⟨A, 0, none⟩ v0).setCell ⟨A, 1, none⟩ v1).setCell ⟨A, 2, none⟩ v2).setCell ⟨A, 3, none⟩ v3) :=
  (((h.setCell (p := ⟨A, 0, none⟩) ha v0).setCell (p := ⟨A, 1, none⟩) ha v1).setCell (p := ⟨A, 2, none⟩) ha v2).setCell (p := ⟨A, 3, none⟩) ha v3
theorem four (W : World) (A : Nat) (u0 u1 u2 u3 v0 v1 v2 v3 : Value) (h0 : W.cell? ⟨A, 0, none⟩ = some u0) (h1 : W.cell? ⟨A, 1, none⟩ = some u1) (h2 : W.cell? ⟨A, 2, none⟩ = some u2) (h3 : W.cell? ⟨A, 3, none⟩ = some u3) :
    ((((W.setCell ⟨A, 0, none⟩ v0).setCell ⟨A, 1, none⟩ v1).setCell ⟨A, 2, none⟩ v2).setCell ⟨A, 3, none⟩ v3).cell? ⟨A, 0, none⟩ = some v0 ∧ ((((W.setCell ⟨A, 0, none⟩ v0).setCell ⟨A, 1, none⟩ v1).setCell ⟨A, 2, none⟩ v2).setCell ⟨A, 3, none⟩ v3).cell? ⟨A, 1, none⟩ = some v1 ∧ ((((W.setCell ⟨A, 0, none⟩ v0).setCell ⟨A, 1, none⟩ v1).setCell ⟨A, 2, none⟩ v2).setCell ⟨A, 3, none⟩ v3).cell? ⟨A, 2, none⟩ = some v2 ∧ ((((W.setCell ⟨A, 0, none⟩ v0).setCell ⟨A, 1, none⟩ v1).setCell ⟨A, 2, none⟩ v2).setCell ⟨A, 3, none⟩ v3).cell? ⟨A, 3, none⟩ = some v3 := by
  refine ⟨?_, ?_, ?_, ?_⟩
  · rw [World.cell?_setCell_other _ _ _ _ (by intro x; cases x), World.cell?_setCell_other _ _ _ _ (by intro x; cases x), World.cell?_setCell_other _ _ _ _ (by intro x; cases x), World.cell?_setCell_same _ _ _ h0]
  · rw [World.cell?_setCell_other _ _ _ _ (by intro x; cases x), World.cell?_setCell_other _ _ _ _ (by intro x; cases x)]
    exact World.cell?_setCell_same _ _ _ ((World.cell?_setCell_other _ _ _ _ (by intro x; cases x)).trans h1)
  · rw [World.cell?_setCell_other _ _ _ _ (by intro x; cases x)]
    exact World.cell?_setCell_same _ _ _ ((World.cell?_setCell_other _ _ _ _ (by intro x; cases x)).trans ((World.cell?_setCell_other _ _ _ _ (by intro x; cases x)).trans h2))
  · exact World.cell?_setCell_same _ _ _ ((World.cell?_setCell_other _ _ _ _ (by intro x; cases x)).trans ((World.cell?_setCell_other _ _ _ _ (by intro x; cases x)).trans ((World.cell?_setCell_other _ _ _ _ (by intro x; cases x)).trans h3)))
set_option maxHeartbeats 1000000 in
theorem set_any (Pb off n cap : Nat) (ps : Nat → Int) (w : World) (hP : ∀ i, i < n → w.cell? ⟨Pb, off + i, none⟩ = some (.int .i64 (ps i))) (hl : Pb < w.heap.size) (hn : n ≤ 140737488355328) :
    Calls Try.prog 38 #[.slice (some ⟨Pb, off, none⟩) n cap] w fun e w' => (e = .returned (.tuple #[.agg #[.int .u64 (setN ps n 0 : Nat), .int .u64 (setN ps n 1 : Nat), .int .u64 (setN ps n 2 : Nat), .int .u64 (setN ps n 3 : Nat)], .bool true]) ∧ (∀ i, i < n → isP (ps i) = true) ∨ e = .returned (.tuple #[.agg #[.int .u64 0, .int .u64 0, .int .u64 0, .int .u64 0], .bool false]) ∧ ∃ i, i < n ∧ isP (ps i) = false) ∧ Below w.heap.size w w' := by
  go_enter Try.func38, Try.ntmps38
  go_wp2
  go_loopw [9] (fun v wr => ∃ k : Nat, v = .int .i64 k ∧ k ≤ n ∧ SQ w wr w.heap.size (w.heap.size + 1) (setN ps k) ∧ ∀ i, i < k → isP (ps i) = true) (fun v _ => n - (intOf v).toNat)
  case atStart =>
    refine ⟨0, rfl, Nat.zero_le _, ?_, fun i hi => absurd hi (Nat.not_lt_zero _)⟩
    exact SQ.new w
  case round =>
    obtain ⟨k, rfl, hk, hS, hA⟩ := hrel
    have HS : Hid _ := hS
    have HA : Hid _ := hA
    by_cases hkn : k < n
    · have g0 : decide ((k : Int) < (n : Int)) = true := decide_eq_true (by omega)
      have hc : wr.cell? ⟨Pb, off + k, none⟩ = some (.int .i64 (ps k)) := (hS.b.cell (p := ⟨Pb, off + k, none⟩) hl).trans (hP k hkn)
      have p0 : (0 : Int) ≤ (k : Int) := by omega
      have p1 : (k : Int) < n := by omega
      obtain ⟨k1, hk1⟩ : ∃ k1, k + 1 = k1 := ⟨_, rfl⟩
      have t1 : IntKind.i64.wrap ((k : Int) + 1) = (k1 : Int) := So.wr_one hk1 (by omega)
      have HK : Hid _ := hk1
      obtain ⟨p, hpe⟩ : ∃ p, ps k = p := ⟨_, rfl⟩
      rw [hpe] at hc
      have HPE : Hid _ := hpe
      have HI : Hid _ := isp_any p
      clear hk1 hA hP hpe
      cases hp : isP p with
      | false =>
        have a0 := hS.a 0 (by decide)
        have a1 := hS.a 1 (by decide)
        have a2 := hS.a 2 (by decide)
        have a3 := hS.a 3 (by decide)
        have af0 := hS.af 0
        have af1 := hS.af 1
        have af2 := hS.af 2
        have af3 := hS.af 3
        have b0 := hS.p.c 0 (by decide)
        have b1 := hS.p.c 1 (by decide)
        have b2 := hS.p.c 2 (by decide)
        have b3 := hS.p.c 3 (by decide)
        simp only [Nat.zero_add] at b0 b1 b2 b3
        have al := hS.al
        have bl := hS.l
        rw [hp] at HI
        have HP : Hid _ := hp
        clear hp hS
        go_wp2_with (go_at_call 54; fail)
        refine Calls.mono (HI.out _) ?_
        rintro e w1 ⟨rfl, rfl⟩
        dsimp only
        go_wp2
        (try simp only [Exit.inBlock, Exit.then])
        obtain ⟨e0, e1, e2, e3⟩ := four w1 w.heap.size _ _ _ _ (.int .u64 0) (.int .u64 0) (.int .u64 0) (.int .u64 0) a0 a1 a2 a3
        refine bodyPost_ret (by simp [results, Try.results38, go_sem, e0, e1, e2, e3, Result.andThen]; try rfl) rfl ?_
        exact ⟨.inr ⟨rfl, k, hkn, by rw [HPE.out]; exact HP.out⟩, bel4 HS.out.b (Nat.le_refl _) _ _ _ _⟩
      | true =>
        have h0 : 0 ≤ p ∧ p < 256 := by unfold isP at hp; simpa using hp
        obtain ⟨m, rfl⟩ : ∃ m : Nat, p = (m : Int) := ⟨p.toNat, by omega⟩
        obtain ⟨j, hj⟩ : ∃ j, m / 64 = j := ⟨_, rfl⟩
        obtain ⟨r, hr⟩ : ∃ r, m % 64 = r := ⟨_, rfl⟩
        have hj4 : j < 4 := by omega
        have cj := hS.p.c j hj4
        have fj := hS.f j
        have bl := hS.l
        have lj := hS.p.lt j hj4
        rw [Nat.zero_add] at cj
        obtain ⟨y, hy⟩ : ∃ y, setN ps k j = y := ⟨_, rfl⟩
        obtain ⟨z, hz⟩ : ∃ z, 2 ^ r = z := ⟨_, rfl⟩
        obtain ⟨v, hv⟩ : ∃ v, y ||| z = v := ⟨_, rfl⟩
        rw [hy] at cj lj
        have lz : z < 18446744073709551616 := by rw [← hz]; exact Nat.lt_of_le_of_lt (Nat.pow_le_pow_right (by decide) (by omega : r ≤ 63)) (by decide)
        have t2 : (m : Int) / 64 = (j : Int) := by omega
        have t3 : (m : Int) % 64 = (r : Int) := by omega
        have t4 : IntKind.u64.wrap ((2 : Int) ^ r) = (z : Int) := by
          have e : ((2 : Int) ^ r) = ((2 ^ r : Nat) : Int) := by simp
          rw [IntKind.wrap_u64, e, hz]; omega
        have t5 : bits .or .u64 (y : Int) (z : Int) = (v : Int) := by rw [bits_or_u64_nat _ _ lj lz, hv]
        have g1 : (0 : Int) ≤ (j : Int) := by omega
        have g2 : (j : Int) < 4 := by omega
        have g3 : (0 : Int) ≤ (r : Int) := by omega
        have HQ : Hid _ := hS.add m j v hj hj4 (by rw [hy, hr, hz, hv])
        have HP : Hid _ := hp
        rw [hp] at HI
        clear hp hS hj hr hy hz hv
        go_wp2_with (go_at_call 54; fail)
        refine Calls.mono (HI.out _) ?_
        rintro e w1 ⟨rfl, rfl⟩
        dsimp only
        go_wp2
        go_region
        all_goals go_wp2
        all_goals go_roundw
        case rel =>
          refine ⟨k1, rfl, by have := HK.out; omega, ?_, fun i hi => ?_⟩
          · rw [← HK.out, setN, HPE.out, Int.toNat_natCast]
            exact HQ.out.drw
          · by_cases e : i = k
            · rw [e, HPE.out]; exact HP.out
            · exact HA.out i (by have := HK.out; omega)
        case measure => have := HK.out; simp [intOf]; omega
    · obtain rfl : k = n := by omega
      have g0 : decide ((k : Int) < (k : Int)) = false := decide_eq_false (by omega)
      have a0 := hS.a 0 (by decide)
      have a1 := hS.a 1 (by decide)
      have a2 := hS.a 2 (by decide)
      have a3 := hS.a 3 (by decide)
      have af0 := hS.af 0
      have af1 := hS.af 1
      have af2 := hS.af 2
      have af3 := hS.af 3
      have b0 := hS.p.c 0 (by decide)
      have b1 := hS.p.c 1 (by decide)
      have b2 := hS.p.c 2 (by decide)
      have b3 := hS.p.c 3 (by decide)
      simp only [Nat.zero_add] at b0 b1 b2 b3
      have al := hS.al
      have bl := hS.l
      clear hS hA hP
      go_wp2
      (try simp only [Exit.inBlock, Exit.then])
      obtain ⟨e0, e1, e2, e3⟩ := four wr w.heap.size _ _ _ _ (.int .u64 (setN ps k 0 : Nat)) (.int .u64 (setN ps k 1 : Nat)) (.int .u64 (setN ps k 2 : Nat)) (.int .u64 (setN ps k 3 : Nat)) a0 a1 a2 a3
      refine bodyPost_ret (by simp [results, Try.results38, go_sem, e0, e1, e2, e3, Result.andThen]; try rfl) rfl ?_
      exact ⟨.inl ⟨rfl, HA.out⟩, bel4 HS.out.b (Nat.le_refl _) _ _ _ _⟩
end Go.Proofs.Ytgkkghphlbgcoaa.Ca
namespace Go.Proofs.Ytgkkghphlbgcoaa.Ca
set_option linter.unusedVariables false
set_option linter.unusedSimpArgs false
theorem add_bit (q : Nat → Nat) (m0 m : Nat) : (addP q m0 (m / 64)).testBit (m % 64) = ((q (m / 64)).testBit (m % 64) || decide (m = m0)) := by
  unfold addP
  by_cases e : m / 64 = m0 / 64
  · rw [if_pos e, Nat.testBit_or, Nat.testBit_two_pow]
    congr 1
    exact decide_eq_decide.2 (by omega)
  · have h : ¬ m = m0 := fun h => e (by rw [h])
    rw [if_neg e, decide_eq_false h, Bool.or_false]
theorem set_bit (ps : Nat → Int) (k : Nat) (h : ∀ i, i < k → isP (ps i) = true) (m : Nat) : (setN ps k (m / 64)).testBit (m % 64) = decide (∃ i, i < k ∧ ps i = (m : Int)) := by
  induction k with
  | zero => simp [setN]
  | succ k ih =>
    have hk := h k (Nat.lt_succ_self k)
    unfold isP at hk
    have h0 : 0 ≤ ps k ∧ ps k < 256 := by simpa using hk
    rw [setN, add_bit, ih (fun i hi => h i (by omega))]
    rw [← Bool.decide_or]
    refine decide_eq_decide.2 ⟨?_, ?_⟩
    · rintro (⟨i, hi, e⟩ | e)
      · exact ⟨i, by omega, e⟩
      · exact ⟨k, by omega, by omega⟩
    · rintro ⟨i, hi, e⟩
      by_cases hik : i = k
      · subst hik; exact .inr (by omega)
      · exact .inl ⟨i, by omega, e⟩
/-- A page is in the set of a list of pages just where it is on the list. -/
theorem has_set (ps : Nat → Int) (n : Nat) (h : ∀ i, i < n → isP (ps i) = true) (x : Int) : hasP (setN ps n) x = decide (∃ i, i < n ∧ ps i = x) := by
  unfold hasP
  cases hx : isP x with
  | false =>
    refine (decide_eq_false ?_).symm
    rintro ⟨i, hi, rfl⟩
    rw [h i hi] at hx
    cases hx
  | true =>
    unfold isP at hx
    have h0 : 0 ≤ x ∧ x < 256 := by simpa using hx
    rw [Bool.true_and, set_bit ps n h]
    refine decide_eq_decide.2 ?_
    rw [show ((x.toNat : Nat) : Int) = x by omega]
end Go.Proofs.Ytgkkghphlbgcoaa.Ca
namespace Go.Proofs.Ytgkkghphlbgcoaa.Ca
open Go.RowKit
set_option maxRecDepth 100000
set_option linter.unusedVariables false
set_option linter.unusedSimpArgs false
set_option maxHeartbeats 1000000 in
theorem set_nil (a : Option Addr) (cap : Nat) (w : World) : Calls Try.prog 38 #[.slice a 0 cap] w fun e w' => e = .returned (.tuple #[.agg #[.int .u64 0, .int .u64 0, .int .u64 0, .int .u64 0], .bool true]) ∧ Below w.heap.size w w' := by
  go_enter Try.func38, Try.ntmps38
  go_wp2
  go_loopw [9] (fun v wr => v = .int .i64 0 ∧ SQ w wr w.heap.size (w.heap.size + 1) (fun _ => 0)) (fun _ _ => 0)
  case atStart => exact ⟨rfl, SQ.new w⟩
  case round =>
    obtain ⟨rfl, hS⟩ := hrel
    have HS : Hid _ := hS
    have a0 := hS.a 0 (by decide)
    have a1 := hS.a 1 (by decide)
    have a2 := hS.a 2 (by decide)
    have a3 := hS.a 3 (by decide)
    have af0 := hS.af 0
    have af1 := hS.af 1
    have af2 := hS.af 2
    have af3 := hS.af 3
    have b0 := hS.p.c 0 (by decide)
    have b1 := hS.p.c 1 (by decide)
    have b2 := hS.p.c 2 (by decide)
    have b3 := hS.p.c 3 (by decide)
    simp only [Nat.zero_add] at b0 b1 b2 b3
    have al := hS.al
    have bl := hS.l
    clear hS
    go_wp2
    (try simp only [Exit.inBlock, Exit.then])
    obtain ⟨e0, e1, e2, e3⟩ := four wr w.heap.size _ _ _ _ (.int .u64 0) (.int .u64 0) (.int .u64 0) (.int .u64 0) a0 a1 a2 a3
    refine bodyPost_ret (by simp [results, Try.results38, go_sem, e0, e1, e2, e3, Result.andThen]; try rfl) rfl ?_
    exact ⟨rfl, bel4 HS.out.b (Nat.le_refl _) _ _ _ _⟩
/-- Pages that came in. -/
def Pg (w : World) (a : Option Addr) (n : Nat) (ps : Nat → Int) : Prop := n = 0 ∨ ∃ b off, a = some ⟨b, off, none⟩ ∧ (∀ i, i < n → w.cell? ⟨b, off + i, none⟩ = some (.int .i64 (ps i))) ∧ b < w.heap.size ∧ n ≤ 140737488355328
def SetP (w : World) (n : Nat) (ps : Nat → Int) (e : Ending) (w' : World) : Prop := (e = .returned (.tuple #[.agg #[.int .u64 (setN ps n 0 : Nat), .int .u64 (setN ps n 1 : Nat), .int .u64 (setN ps n 2 : Nat), .int .u64 (setN ps n 3 : Nat)], .bool true]) ∧ (∀ i, i < n → isP (ps i) = true) ∨ e = .returned (.tuple #[.agg #[.int .u64 0, .int .u64 0, .int .u64 0, .int .u64 0], .bool false]) ∧ ∃ i, i < n ∧ isP (ps i) = false) ∧ Below w.heap.size w w'
theorem set_all (a : Option Addr) (n cap : Nat) (ps : Nat → Int) (w : World) (h : Pg w a n ps) : Calls Try.prog 38 #[.slice a n cap] w fun e w' => SetP w n ps e w' := by
  rcases h with rfl | ⟨b, off, rfl, h1, h2, h3⟩
  · refine Calls.mono (set_nil a cap w) ?_
    rintro _ w' ⟨rfl, hb⟩
    exact ⟨.inl ⟨rfl, fun i hi => absurd hi (Nat.not_lt_zero _)⟩, hb⟩
  · exact set_any b off n cap ps w h1 h2 h3
end Go.Proofs.Ytgkkghphlbgcoaa.Ca
