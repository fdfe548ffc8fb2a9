import Derived.Test.YtcdphcbjmpgjmaaJ04
import Derived.Test.YtcdphcbjmpgjmaaJ37
import Derived.Deep.CutBlock
import Derived.Deep.Cut
import Derived.Test.YtcdphcbjmpgjmaaRows
import Derived.ProofKit
import Derived.OpenShut
import Derived.ShutString
import Derived.ChangeOld
import Derived.Below
namespace Go.Proofs.Ytcdphcbjmpgjmaa.Fl
open Go.RowKit
set_option maxRecDepth 100000
set_option linter.unusedVariables false

/-! ## What flags tell -/
def four (z n y v : Bool) : Int := isF z 1 + isF n 2 + isF y 4 + isF v 8
theorem four_bd (z n y v : Bool) : 0 ≤ four z n y v ∧ four z n y v ≤ 15 := by cases z <;> cases n <;> cases y <;> cases v <;> decide
theorem holds_four (c : Int) (z n y v : Bool) : holdsF c (four z n y v).toNat = holdsZ c z n y v := by
  unfold holdsF
  have h : ∀ z n y v : Bool, (((four z n y v).toNat : Int) % 2 == 1) = z ∧ (((four z n y v).toNat : Int) / 2 % 2 == 1) = n ∧ (((four z n y v).toNat : Int) / 4 % 2 == 1) = y ∧ (((four z n y v).toNat : Int) / 8 % 2 == 1) = v := by decide
  obtain ⟨h1, h2, h3, h4⟩ := h z n y v
  rw [h1, h2, h3, h4]
theorem carF_four (z n y v : Bool) : carF (four z n y v).toNat = isF y 1 := by
  have h : ∀ z n y v : Bool, carF (four z n y v).toNat = isF y 1 := by decide
  exact h z n y v
theorem subF_four (a b : Nat) (c : Int) : subF a b c = four (((a : Int) - b - c) % 4294967296 == 0) (decide (2147483648 ≤ ((a : Int) - b - c) % 4294967296)) (decide ((a : Int) - b - c < 0)) (pastB (sgn a - sgn b - c)) := rfl
theorem addF_four (a b : Nat) (c : Int) : addF a b c = four (((a : Int) + b + c) % 4294967296 == 0) (decide (2147483648 ≤ ((a : Int) + b + c) % 4294967296)) (decide (4294967296 ≤ (a : Int) + b + c)) (pastB (sgn a + sgn b + c)) := rfl

theorem cmp_z (a b : Nat) (ha : a < 4294967296) (hb : b < 4294967296) : (((a : Int) - b - 0) % 4294967296 == 0) = decide (a = b) := by
  rw [Bool.eq_iff_iff]; simp; omega
theorem cmp_c (a b : Nat) (ha : a < 4294967296) (hb : b < 4294967296) : decide ((a : Int) - b - 0 < 0) = decide (a < b) := by
  rw [decide_eq_decide]; omega
theorem cmp_s (a b : Nat) (ha : a < 4294967296) (hb : b < 4294967296) : (decide (2147483648 ≤ ((a : Int) - b - 0) % 4294967296) != pastB (sgn a - sgn b - 0)) = decide (sgn a < sgn b) := by
  have h : (2147483648 ≤ ((a : Int) - b - 0) % 4294967296 ↔ (2147483648 ≤ sgn a - sgn b - 0 ∨ sgn a - sgn b - 0 < -2147483648)) ↔ ¬ sgn a < sgn b := by
    unfold sgn; split <;> split <;> omega
  unfold pastB
  by_cases h1 : 2147483648 ≤ ((a : Int) - b - 0) % 4294967296 <;> by_cases h2 : (2147483648 ≤ sgn a - sgn b - 0 ∨ sgn a - sgn b - 0 < -2147483648) <;> by_cases h3 : sgn (a : Int) < sgn b <;> simp only [h1, h2, h3, decide_true, decide_false, bne_self_eq_false] <;> first | rfl | (exfalso; revert h; simp only [h1, h2, h3]; simp)
theorem sgn_eq (a b : Nat) (ha : a < 4294967296) (hb : b < 4294967296) : sgn (a : Int) = sgn b ↔ a = b := by
  unfold sgn; split <;> split <;> omega

/-- What is below what. -/
theorem order_2 (a b : Nat) (ha : a < 4294967296) (hb : b < 4294967296) : holdsF 2 (subF a b 0).toNat = decide (a < b) := by
  rw [subF_four, holds_four, cmp_c a b ha hb]; rfl
theorem order_4 (a b : Nat) (ha : a < 4294967296) (hb : b < 4294967296) : holdsF 4 (subF a b 0).toNat = decide (a = b) := by
  rw [subF_four, holds_four, cmp_z a b ha hb]; rfl
theorem order_6 (a b : Nat) (ha : a < 4294967296) (hb : b < 4294967296) : holdsF 6 (subF a b 0).toNat = decide (a ≤ b) := by
  rw [subF_four, holds_four, cmp_c a b ha hb, cmp_z a b ha hb]
  show (decide (a < b) || decide (a = b)) = _
  rw [Bool.eq_iff_iff]; simp; omega
theorem order_10 (a b : Nat) (ha : a < 4294967296) (hb : b < 4294967296) : holdsF 10 (subF a b 0).toNat = decide (sgn a < sgn b) := by
  rw [subF_four, holds_four]
  show (_ != _) = _
  exact cmp_s a b ha hb
theorem order_12 (a b : Nat) (ha : a < 4294967296) (hb : b < 4294967296) : holdsF 12 (subF a b 0).toNat = decide (sgn a ≤ sgn b) := by
  rw [subF_four, holds_four, cmp_z a b ha hb]
  show (decide (a = b) || (_ != _)) = _
  rw [cmp_s a b ha hb, Bool.eq_iff_iff]
  have := sgn_eq a b ha hb
  simp
  omega
theorem order_13 (a b : Nat) (ha : a < 4294967296) (hb : b < 4294967296) : holdsF 13 (subF a b 0).toNat = decide (sgn b < sgn a) := by
  rw [subF_four, holds_four, cmp_z a b ha hb]
  show (!(decide (a = b) || (_ != _))) = _
  rw [cmp_s a b ha hb, Bool.eq_iff_iff]
  have := sgn_eq a b ha hb
  simp
  omega
/-- Sums and differences by halves. -/
theorem halves_add (a b c d : Nat) (ha : a < 4294967296) (hb : b < 4294967296) (hc : c < 4294967296) (hd : d < 4294967296) :
    ((b : Int) * 4294967296 + a + (d * 4294967296 + c)) % 18446744073709551616 = (((b : Int) + d + carF (addF a c 0).toNat) % 4294967296) * 4294967296 + ((a : Int) + c) % 4294967296 := by
  rw [addF_four, carF_four]
  unfold isF
  by_cases h : 4294967296 ≤ (a : Int) + c + 0
  · rw [decide_eq_true h]; simp only [if_true]; omega
  · rw [decide_eq_false h]; simp only [Bool.false_eq_true, if_false]; omega
theorem halves_sub (a b c d : Nat) (ha : a < 4294967296) (hb : b < 4294967296) (hc : c < 4294967296) (hd : d < 4294967296) :
    ((b : Int) * 4294967296 + a - (d * 4294967296 + c)) % 18446744073709551616 = (((b : Int) - d - carF (subF a c 0).toNat) % 4294967296) * 4294967296 + ((a : Int) - c) % 4294967296 := by
  rw [subF_four, carF_four]
  unfold isF
  by_cases h : (a : Int) - c - 0 < 0
  · rw [decide_eq_true h]; simp only [if_true]; omega
  · rw [decide_eq_false h]; simp only [Bool.false_eq_true, if_false]; omega
end Go.Proofs.Ytcdphcbjmpgjmaa.Fl

namespace Go.Proofs.Ytcdphcbjmpgjmaa
open Go.RowKit
set_option maxRecDepth 100000
set_option linter.unusedVariables false
set_option linter.unusedSimpArgs false

theorem or64 (x y : Nat) (hx : x < 4294967296) (hy : y < 4294967296) : bits .or .u64 ((x : Int) * 4294967296) (y : Int) = (x : Int) * 4294967296 + y := by
  have e : (x : Int) * 4294967296 = ((x * 4294967296 : Nat) : Int) := by omega
  rw [e, Go.u64_or_nat _ _ (by omega) (by omega), Go.nat_join 32 (x * 4294967296) y (by omega) (by omega)]
  omega
/-- What the statement asks of the program, by names. -/
structure OrIn (a b c d F lo f1 hi f2 lw g1 hg g2 : Nat) : Prop where
  r7 : ∀ w, Calls Try.prog 25 #[.int .i64 7, .int .u32 a, .int .u32 b, .int .u32 0] w fun e w' => e = .returned (.tuple #[.int .u32 a, .int .u32 F, .bool true]) ∧ Below w.heap.size w w'
  r0 : ∀ w, Calls Try.prog 25 #[.int .i64 0, .int .u32 a, .int .u32 c, .int .u32 0] w fun e w' => e = .returned (.tuple #[.int .u32 lo, .int .u32 f1, .bool true]) ∧ Below w.heap.size w w'
  r1 : ∀ w, Calls Try.prog 25 #[.int .i64 1, .int .u32 b, .int .u32 d, .int .u32 f1] w fun e w' => e = .returned (.tuple #[.int .u32 hi, .int .u32 f2, .bool true]) ∧ Below w.heap.size w w'
  r2 : ∀ w, Calls Try.prog 25 #[.int .i64 2, .int .u32 a, .int .u32 c, .int .u32 0] w fun e w' => e = .returned (.tuple #[.int .u32 lw, .int .u32 g1, .bool true]) ∧ Below w.heap.size w w'
  r3 : ∀ w, Calls Try.prog 25 #[.int .i64 3, .int .u32 b, .int .u32 d, .int .u32 g1] w fun e w' => e = .returned (.tuple #[.int .u32 hg, .int .u32 g2, .bool true]) ∧ Below w.heap.size w w'
  hF : F < 4294967296
  hlo : lo < 4294967296
  hhi : hi < 4294967296
  hlw : lw < 4294967296
  hhg : hg < 4294967296
  add : ((b : Int) * 4294967296 + a + (d * 4294967296 + c)) % 18446744073709551616 = (hi : Int) * 4294967296 + lo
  sub : ((b : Int) * 4294967296 + a - (d * 4294967296 + c)) % 18446744073709551616 = (hg : Int) * 4294967296 + lw
theorem wrap64u (x : Int) : IntKind.u64.wrap x = x % 18446744073709551616 := by simp [IntKind.wrap, IntKind.bits, IntKind.signed]
theorem below_on {W w w1 : World} (h : Below W.heap.size W w) (k : Below w.heap.size w w1) : Below W.heap.size W w1 := h.trans (k.mono h.size)
theorem wrap_small (x : Nat) (h : x < 4294967296) : IntKind.u64.wrap (x : Int) = x := by rw [wrap64u]; omega
structure OrC (a b F : Nat) (sa sb : Int) (lt eq le slt sle sgt : Bool) : Prop where
  o2 : Fl.holdsF 2 F = lt
  o4 : Fl.holdsF 4 F = eq
  o6 : Fl.holdsF 6 F = le
  o10 : Fl.holdsF 10 F = slt
  o12 : Fl.holdsF 12 F = sle
  o13 : Fl.holdsF 13 F = sgt
  e1 : decide ((a : Int) < b) = lt
  e2 : ((a : Int) == (b : Int)) = eq
  e3 : decide ((a : Int) ≤ b) = le
  e4 : decide (sa < sb) = slt
  e5 : decide (sa ≤ sb) = sle
  e6 : decide (sb < sa) = sgt
set_option maxHeartbeats 8000000 in
theorem ord_walk (a b c d F lo f1 hi f2 lw g1 hg g2 : Nat) (sa sb : Int) (W : World) (ha : a < 4294967296) (hb : b < 4294967296) (hc : c < 4294967296) (hd : d < 4294967296) (H : OrIn a b c d F lo f1 hi f2 lw g1 hg g2)
    (wa : wrap32 (a : Int) = sa) (wb : wrap32 (b : Int) = sb) (hC : OrC a b F sa sb true false true true true false ∨ OrC a b F sa sb true false true false false true ∨ OrC a b F sa sb false false false true true false ∨ OrC a b F sa sb false false false false false true ∨ OrC a b F sa sb false true true false true false) :
    Calls Try.prog 8 #[.int .u32 a, .int .u32 b, .int .u32 c, .int .u32 d] W fun e w' => e = .returned (.bool true) ∧ Below W.heap.size W w' := by
  have HF := H.hF
  have hlo := H.hlo
  have hhi := H.hhi
  have hlw := H.hlw
  have hhg := H.hhg
  have R7 : Hid _ := H.r7
  have R0 : Hid _ := H.r0
  have R1 : Hid _ := H.r1
  have R2 : Hid _ := H.r2
  have R3 : Hid _ := H.r3
  have HQs : Hid _ := And.intro (or64 b a hb ha) (And.intro (or64 d c hd hc) (And.intro (or64 hi lo hhi hlo) (or64 hg lw hhg hlw)))
  have HAS : Hid (IntKind.u64.wrap ((b : Int) * 4294967296 + a + (d * 4294967296 + c)) = (hi : Int) * 4294967296 + lo ∧ IntKind.u64.wrap ((b : Int) * 4294967296 + a - (d * 4294967296 + c)) = (hg : Int) * 4294967296 + lw) := And.intro ((wrap64u _).trans H.add) ((wrap64u _).trans H.sub)
  have HB : Hid (Below W.heap.size W W) := Below.refl _ _
  have HC : Hid _ := hC
  clear H hC
  go_enter Try.func8, Try.ntmps8
  go_upto_region 2 with (go_at_call 25; have HQ := R7; refine (R7.out _).mono ?_; rintro e w1 ⟨rfl, hB1⟩; have HBn : Hid (Below W.heap.size W w1) := below_on HB.out hB1; clear R7 HQ HB hB1; have HB := HBn; clear HBn)
  go_cut [92] from 32 (fun cc wx => cc = .bool false ∧ Below W.heap.size W wx)
  case first =>
    rcases HC.out with hC | hC | hC | hC | hC
    · obtain ⟨o2, o4, o6, o10, o12, o13, e1, e2, e3, e4, e5, e6⟩ := hC
      have p1 : a < b := by simpa using e1
      have p2 : ¬ a = b := by have := e2; simp at this; omega
      have p3 : a ≤ b := by simpa using e3
      have p4 : sa < sb := by simpa using e4
      have p5 : sa ≤ sb := by simpa using e5
      have p6 : ¬ sb < sa := by simpa using e6
      go_wp2_with (go_at_call 29; refine (pholds_any _ F _ HF ?_).mono ?_; (focus (first | decide | omega)); rintro e w1 ⟨rfl, hB1⟩; have HBn : Hid (Below W.heap.size W w1) := below_on HB.out hB1; clear HB hB1; have HB := HBn; clear HBn)
      go_meet
      case rel => exact ⟨rfl, HB.out⟩
    · obtain ⟨o2, o4, o6, o10, o12, o13, e1, e2, e3, e4, e5, e6⟩ := hC
      have p1 : a < b := by simpa using e1
      have p2 : ¬ a = b := by have := e2; simp at this; omega
      have p3 : a ≤ b := by simpa using e3
      have p4 : ¬ sa < sb := by simpa using e4
      have p5 : ¬ sa ≤ sb := by simpa using e5
      have p6 : sb < sa := by simpa using e6
      go_wp2_with (go_at_call 29; refine (pholds_any _ F _ HF ?_).mono ?_; (focus (first | decide | omega)); rintro e w1 ⟨rfl, hB1⟩; have HBn : Hid (Below W.heap.size W w1) := below_on HB.out hB1; clear HB hB1; have HB := HBn; clear HBn)
      go_meet
      case rel => exact ⟨rfl, HB.out⟩
    · obtain ⟨o2, o4, o6, o10, o12, o13, e1, e2, e3, e4, e5, e6⟩ := hC
      have p1 : ¬ a < b := by simpa using e1
      have p2 : ¬ a = b := by have := e2; simp at this; omega
      have p3 : ¬ a ≤ b := by simpa using e3
      have p4 : sa < sb := by simpa using e4
      have p5 : sa ≤ sb := by simpa using e5
      have p6 : ¬ sb < sa := by simpa using e6
      go_wp2_with (go_at_call 29; refine (pholds_any _ F _ HF ?_).mono ?_; (focus (first | decide | omega)); rintro e w1 ⟨rfl, hB1⟩; have HBn : Hid (Below W.heap.size W w1) := below_on HB.out hB1; clear HB hB1; have HB := HBn; clear HBn)
      go_meet
      case rel => exact ⟨rfl, HB.out⟩
    · obtain ⟨o2, o4, o6, o10, o12, o13, e1, e2, e3, e4, e5, e6⟩ := hC
      have p1 : ¬ a < b := by simpa using e1
      have p2 : ¬ a = b := by have := e2; simp at this; omega
      have p3 : ¬ a ≤ b := by simpa using e3
      have p4 : ¬ sa < sb := by simpa using e4
      have p5 : ¬ sa ≤ sb := by simpa using e5
      have p6 : sb < sa := by simpa using e6
      go_wp2_with (go_at_call 29; refine (pholds_any _ F _ HF ?_).mono ?_; (focus (first | decide | omega)); rintro e w1 ⟨rfl, hB1⟩; have HBn : Hid (Below W.heap.size W w1) := below_on HB.out hB1; clear HB hB1; have HB := HBn; clear HBn)
      go_meet
      case rel => exact ⟨rfl, HB.out⟩
    · obtain ⟨o2, o4, o6, o10, o12, o13, e1, e2, e3, e4, e5, e6⟩ := hC
      have p1 : ¬ a < b := by simpa using e1
      have p3 : a ≤ b := by simpa using e3
      have p4 : ¬ sa < sb := by simpa using e4
      have p5 : sa ≤ sb := by simpa using e5
      have p6 : ¬ sb < sa := by simpa using e6
      go_wp2_with (go_at_call 29; refine (pholds_any _ F _ HF ?_).mono ?_; (focus (first | decide | omega)); rintro e w1 ⟨rfl, hB1⟩; have HBn : Hid (Below W.heap.size W w1) := below_on HB.out hB1; clear HB hB1; have HB := HBn; clear HBn)
      go_meet
      case rel => exact ⟨rfl, HB.out⟩
  case rest =>
    obtain ⟨rfl, hB⟩ := hcut
    clear HB
    have HB : Hid _ := hB
    clear hB
    obtain ⟨q1, q2, q3, q4⟩ := HQs.out
    obtain ⟨hA, hS⟩ := HAS.out
    clear wa wb
    have k1 : IntKind.u64.wrap (lo : Int) = lo := wrap_small lo hlo
    have k2 : IntKind.u64.wrap (lw : Int) = lw := wrap_small lw hlw
    have k3 : IntKind.u64.wrap (hi : Int) = hi := wrap_small hi hhi
    have k4 : IntKind.u64.wrap (hg : Int) = hg := wrap_small hg hhg
    go_wp2_with (first
      | (go_at_call 25; have HQ := R0; refine (R0.out _).mono ?_; rintro e w1 ⟨rfl, hB1⟩; have HBn : Hid (Below W.heap.size W w1) := below_on HB.out hB1; clear R0 HQ HB hB1; have HB := HBn; clear HBn)
      | (go_at_call 25; have HQ := R1; refine (R1.out _).mono ?_; rintro e w1 ⟨rfl, hB1⟩; have HBn : Hid (Below W.heap.size W w1) := below_on HB.out hB1; clear R1 HQ HB hB1; have HB := HBn; clear HBn)
      | (go_at_call 25; have HQ := R2; refine (R2.out _).mono ?_; rintro e w1 ⟨rfl, hB1⟩; have HBn : Hid (Below W.heap.size W w1) := below_on HB.out hB1; clear R2 HQ HB hB1; have HB := HBn; clear HBn)
      | (go_at_call 25; have HQ := R3; refine (R3.out _).mono ?_; rintro e w1 ⟨rfl, hB1⟩; have HBn : Hid (Below W.heap.size W w1) := below_on HB.out hB1; clear R3 HQ HB hB1; have HB := HBn; clear HBn))
    go_ret
    exact ⟨by first | rfl | (simp [k2, q4]; done) | (show Ending.returned (Value.bool _) = _; rw [k2, q4]; simp), HB.out⟩
end Go.Proofs.Ytcdphcbjmpgjmaa

namespace Go.Proofs.Ytcdphcbjmpgjmaa
open Go.ChangeShapes Go.WideShapes Go.ChangeAt Go.RowKit
set_option linter.unusedVariables false
set_option maxRecDepth 100000

theorem reck_me (o : Int) (a b f x g : Nat) (hx : Fl.recX o a b f = x) (hg : Fl.recFl o a b f = g) (hk : Fl.recOk o b = true) (ha : a < 4294967296) (hb : b < 4294967296) (hf : f < 4294967296) (w : World) :
    Calls Try.prog 25 #[.int .i64 o, .int .u32 a, .int .u32 b, .int .u32 f] w fun e w' => e = .returned (.tuple #[.int .u32 x, .int .u32 g, .bool true]) ∧ Below w.heap.size w w' := by
  have := preck_any o a b f w ha hb hf
  rw [hx, hg, hk] at this; exact this
theorem four_nat (V : Int) (c d : Bool) (h : 0 ≤ V ∧ V ≤ 3) : 0 ≤ V + Fl.isF c 4 + Fl.isF d 8 ∧ V + Fl.isF c 4 + Fl.isF d 8 < 16 := by
  unfold Fl.isF; cases c <;> cases d <;> simp <;> omega
theorem addF_16 (a b : Nat) (c : Int) : 0 ≤ Fl.addF a b c ∧ Fl.addF a b c < 16 := four_nat _ _ _ (Fl.valF_bd _)
theorem subF_16 (a b : Nat) (c : Int) : 0 ≤ Fl.subF a b c ∧ Fl.subF a b c < 16 := four_nat _ _ _ (Fl.valF_bd _)
theorem or_in (a b c d : Nat) (ha : a < 4294967296) (hb : b < 4294967296) (hc : c < 4294967296) (hd : d < 4294967296) : ∃ lo f1 hi f2 lw g1 hg g2, OrIn a b c d (Fl.subF a b 0).toNat lo f1 hi f2 lw g1 hg g2 := by
  have s1 := subF_16 a b 0
  have s2 := addF_16 a c 0
  have s3 := subF_16 a c 0
  have s4 := addF_16 b d (Fl.carF (Fl.addF a c 0).toNat)
  have s5 := subF_16 b d (Fl.carF (Fl.subF a c 0).toNat)
  refine ⟨(((a : Int) + c) % 4294967296).toNat, (Fl.addF a c 0).toNat, (((b : Int) + d + Fl.carF (Fl.addF a c 0).toNat) % 4294967296).toNat, (Fl.addF b d (Fl.carF (Fl.addF a c 0).toNat)).toNat, (((a : Int) - c) % 4294967296).toNat, (Fl.subF a c 0).toNat, (((b : Int) - d - Fl.carF (Fl.subF a c 0).toNat) % 4294967296).toNat, (Fl.subF b d (Fl.carF (Fl.subF a c 0).toNat)).toNat, ?_⟩
  refine ⟨?_, ?_, ?_, ?_, ?_, by omega, by omega, by omega, by omega, by omega, ?_, ?_⟩
  · exact fun w => reck_me 7 a b 0 a _ (by simp [Fl.recX]) (by rw [Int.toNat_of_nonneg s1.1]; simp [Fl.recFl, Fl.flagsF]) (by simp [Fl.recOk]) ha hb (by omega) w
  · exact fun w => reck_me 0 a c 0 _ _ (by rw [Int.toNat_of_nonneg (by omega)]; simp [Fl.recX]) (by rw [Int.toNat_of_nonneg s2.1]; simp [Fl.recFl, Fl.flagsF]) (by simp [Fl.recOk]) ha hc (by omega) w
  · exact fun w => reck_me 1 b d _ _ _ (by rw [Int.toNat_of_nonneg (by omega)]; simp [Fl.recX]) (by rw [Int.toNat_of_nonneg s4.1]; simp [Fl.recFl, Fl.flagsF]) (by simp [Fl.recOk]) hb hd (by omega) w
  · exact fun w => reck_me 2 a c 0 _ _ (by rw [Int.toNat_of_nonneg (by omega)]; simp [Fl.recX]) (by rw [Int.toNat_of_nonneg s3.1]; simp [Fl.recFl, Fl.flagsF]) (by simp [Fl.recOk]) ha hc (by omega) w
  · exact fun w => reck_me 3 b d _ _ _ (by rw [Int.toNat_of_nonneg (by omega)]; simp [Fl.recX]) (by rw [Int.toNat_of_nonneg s5.1]; simp [Fl.recFl, Fl.flagsF]) (by simp [Fl.recOk]) hb hd (by omega) w
  · have := Fl.halves_add a b c d ha hb hc hd
    rw [Int.toNat_of_nonneg (by omega), Int.toNat_of_nonneg (by omega)]; exact this
  · have := Fl.halves_sub a b c d ha hb hc hd
    rw [Int.toNat_of_nonneg (by omega), Int.toNat_of_nonneg (by omega)]; exact this
theorem or_c (a b : Nat) (ha : a < 4294967296) (hb : b < 4294967296) (lt eq le slt sle sgt : Bool) (h1 : decide (a < b) = lt) (h2 : decide (a = b) = eq) (h3 : decide (a ≤ b) = le) (h4 : decide (Fl.sgn a < Fl.sgn b) = slt) (h5 : decide (Fl.sgn a ≤ Fl.sgn b) = sle) (h6 : decide (Fl.sgn b < Fl.sgn a) = sgt) :
    OrC a b (Fl.subF a b 0).toNat (Fl.sgn a) (Fl.sgn b) lt eq le slt sle sgt :=
  ⟨(Fl.order_2 a b ha hb).trans h1, (Fl.order_4 a b ha hb).trans h2, (Fl.order_6 a b ha hb).trans h3, (Fl.order_10 a b ha hb).trans h4, (Fl.order_12 a b ha hb).trans h5, (Fl.order_13 a b ha hb).trans h6,
    by rw [← h1]; exact decide_eq_decide.mpr (by omega), by rw [← h2, Bool.eq_iff_iff]; simp; omega, by rw [← h3]; exact decide_eq_decide.mpr (by omega), h4, h5, h6⟩
theorem order_walk (a b c d : Nat) (W : World) (ha : a < 4294967296) (hb : b < 4294967296) (hc : c < 4294967296) (hd : d < 4294967296) :
    Calls Try.prog 8 #[.int .u32 a, .int .u32 b, .int .u32 c, .int .u32 d] W fun e w' => e = .returned (.bool true) ∧ Below W.heap.size W w' := by
  obtain ⟨lo, f1, hi, f2, lw, g1, hg, g2, H⟩ := or_in a b c d ha hb hc hd
  refine ord_walk a b c d _ lo f1 hi f2 lw g1 hg g2 (Fl.sgn a) (Fl.sgn b) W ha hb hc hd H (wrap32_sgn a ha) (wrap32_sgn b hb) ?_
  have hs := Fl.sgn_eq a b ha hb
  rcases Nat.lt_trichotomy a b with h | h | h
  · have hne : ¬ Fl.sgn (a : Int) = Fl.sgn b := fun e => by have := hs.mp e; omega
    by_cases hl : Fl.sgn (a : Int) < Fl.sgn b
    · exact .inl (or_c a b ha hb _ _ _ _ _ _ (decide_eq_true h) (decide_eq_false (by omega)) (decide_eq_true (by omega)) (decide_eq_true hl) (decide_eq_true (by omega)) (decide_eq_false (by omega)))
    · exact .inr (.inl (or_c a b ha hb _ _ _ _ _ _ (decide_eq_true h) (decide_eq_false (by omega)) (decide_eq_true (by omega)) (decide_eq_false hl) (decide_eq_false (by omega)) (decide_eq_true (by omega))))
  · have he := hs.mpr h
    exact .inr (.inr (.inr (.inr (or_c a b ha hb _ _ _ _ _ _ (decide_eq_false (by omega)) (decide_eq_true h) (decide_eq_true (by omega)) (decide_eq_false (by omega)) (decide_eq_true (by omega)) (decide_eq_false (by omega))))))
  · have hne : ¬ Fl.sgn (a : Int) = Fl.sgn b := fun e => by have := hs.mp e; omega
    by_cases hl : Fl.sgn (a : Int) < Fl.sgn b
    · exact .inr (.inr (.inl (or_c a b ha hb _ _ _ _ _ _ (decide_eq_false (by omega)) (decide_eq_false (by omega)) (decide_eq_false (by omega)) (decide_eq_true hl) (decide_eq_true (by omega)) (decide_eq_false (by omega)))))
    · exact .inr (.inr (.inr (.inl (or_c a b ha hb _ _ _ _ _ _ (decide_eq_false (by omega)) (decide_eq_false (by omega)) (decide_eq_false (by omega)) (decide_eq_false hl) (decide_eq_false (by omega)) (decide_eq_true (by omega))))))
theorem own_o : ownKnob Try.prog.godebug = none := by kernel_rfl
theorem order_lifted (os : Os) (started : os.Started) (H : Type) (enc : TypeId × Value → H) :
    ReturnsInHanded {} Try.checked os 8 .any (Rows.flagsOrderSpec.pre6 enc Try.prog Try.f8 Rows.flagsOrderRow.domain false) (Rows.flagsOrderSpec.post enc Try.prog Try.f8 false true false false) := by
  refine returnsInHanded_of_change (C := Try.checked) own_o started (by kernel_rfl) Try.func8
    (ChangeSpec.witness6 (enc := enc) (C := Try.checked) false ⟨#[], #[.int .u32 0, .int .u32 0, .int .u32 0, .int .u32 0], []⟩ 8 (by kernel_rfl) (by kernel_rfl) (by kernel_rfl) (by kernel_rfl)) ?_
  intro W base args ds gs before hval0 hW hcnd _
  have hval : ∀ (j : Nat) t v, Try.f8.params[j]? = some t → args[j]? = some v → Value.okWide Try.prog W .any base t v := hval0
  have hW' := hW
  obtain ⟨p, q, hA0, hV, rfl, hfz, hnd⟩ := hW
  have hA : DataW.TrodAll enc Try.prog W 0 (fun _ => true) true Try.f8.params.toList args.toList ds p := hA0
  rw [Try.params8] at hA hval
  obtain ⟨v0, v1, v2, v3, d0, d1, d2, d3, p0, p1, p2, p3, rfl, rfl, rfl, h0, h1, h2, h3⟩ := trodAll_four hA
  obtain ⟨rfl, rfl⟩ := trodVars_none hV
  obtain ⟨a0, rfl, rfl, rfl, w0⟩ := open_int Try.underlying24 (hval 0 24 v0 rfl rfl) h0
  obtain ⟨a1, rfl, rfl, rfl, w1⟩ := open_int Try.underlying24 (hval 1 24 v1 rfl rfl) h1
  obtain ⟨a2, rfl, rfl, rfl, w2⟩ := open_int Try.underlying24 (hval 2 24 v2 rfl rfl) h2
  obtain ⟨a3, rfl, rfl, rfl, w3⟩ := open_int Try.underlying24 (hval 3 24 v3 rfl rfl) h3
  have b0 := bounds_u32 w0
  have b1 := bounds_u32 w1
  have b2 := bounds_u32 w2
  have b3 := bounds_u32 w3
  obtain ⟨n0, rfl⟩ : ∃ n : Nat, a0 = n := ⟨a0.toNat, by omega⟩
  obtain ⟨n1, rfl⟩ : ∃ n : Nat, a1 = n := ⟨a1.toNat, by omega⟩
  obtain ⟨n2, rfl⟩ : ∃ n : Nat, a2 = n := ⟨a2.toNat, by omega⟩
  obtain ⟨n3, rfl⟩ : ∃ n : Nat, a3 = n := ⟨a3.toNat, by omega⟩
  clear hA0 hval0
  refine (order_walk n0 n1 n2 n3 W (by omega) (by omega) (by omega) (by omega)).mono fun e W' ⟨he, bel⟩ => ?_
  subst he
  exact ⟨_, rfl, _, _, _, [], _, [], hW', trodAll_mk1 (shut_bool Try.underlying4 _), trodAll_mk4 (shut_int Try.underlying24 w0) (shut_int Try.underlying24 w1) (shut_int Try.underlying24 w2) (shut_int Try.underlying24 w3), rfl, bel.frame _, fun h => by cases h⟩
theorem order_holds : Rows.FlagsOrderSaid :=
  OpenClaim.holds_of_wide 8 Try.f8 rfl rfl rfl rfl rfl rfl rfl ⟨rfl, rfl, rfl, rfl, rfl⟩ rfl rfl rfl rfl rfl (by kernel_rfl) Try.func8 (by kernel_rfl)
    (of_decide_eq_true (by kernel_rfl)) (by unfold Func.isWrapper; first | (rw [if_pos (by decide +kernel)]; kernel_rfl) | (rw [if_neg (by decide +kernel)]; exact ⟨rfl, rfl⟩))
    (fun os started H enc _ => order_lifted os started H enc)
#print axioms order_holds
end Go.Proofs.Ytcdphcbjmpgjmaa
