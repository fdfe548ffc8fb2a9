import Derived.Test.YtkgbjpdoigdjnaaJ48
import Derived.Test.YtkgbjpdoigdjnaaJ49
import Derived.Test.YtkgbjpdoigdjnaaJ22
import Derived.Test.YtkgbjpdoigdjnaaJ47
import Derived.Test.YtkgbjpdoigdjnaaJ25
namespace Go.Proofs.Ytkgbjpdoigdjnaa
open Go.RowKit
set_option maxRecDepth 100000
set_option linter.unusedVariables false
set_option linter.unusedSimpArgs false

/-- What do must do: the meaning's step, behind the reading. -/
def DoOk (U X : Nat) (m : MS) (t : GS) (o : SO) (ins : Value) (w : World) : Prop :=
  Calls Try.prog 96 #[.pointer (some ⟨U, 0, none⟩), ins] w fun e w' => e = .returned (.agg #[.int .i64 o.k, .int .u32 o.a]) ∧ ∃ t', TuW w w' U X o.m t' ∧ (o.k = 0 ∨ o.k = 1 → t' = o.t)
theorem DoOk.of {U X : Nat} {m m' : MS} {t t' : GS} {o : SO} {ins : Value} {w : World} {k a : Int} (h : Calls Try.prog 96 #[.pointer (some ⟨U, 0, none⟩), ins] w fun e w' => e = .returned (.agg #[.int .i64 k, .int .u32 a]) ∧ TuW w w' U X m' t') (hk : o.k = k) (ha : o.a = a) (hm : o.m = m') (ht : o.k = 0 ∨ o.k = 1 → t' = o.t) : DoOk U X m t o ins w :=
  h.mono fun e w' ⟨he, hT⟩ => ⟨by rw [hk, ha]; exact he, t', by rw [hm]; exact hT, ht⟩
theorem storeT_bad {m : MS} {a x : Nat} {n : Int} {v : Nat} (hb : sto m a n = some x) : storeT m a n v = m := by
  unfold sto at hb
  unfold storeT
  split at hb
  · rw [if_neg (by rw [hb]; simp)]
  · cases hb
theorem DoOk.ld {U X : Nat} {m : MS} {s t : GS} {ins : Value} {w : World} {at' : Nat} {n : Int} {g : Nat → GS} (h : Calls Try.prog 96 #[.pointer (some ⟨U, 0, none⟩), ins] w fun e w' => e = .returned (stVV 5 (badN m 1 at' n.toNat)) ∧ TuW w w' U X m (g (ldN m at' n))) : DoOk U X m t (ldG m s at' n g) ins w := by
  unfold ldG
  cases hb : badN m 1 at' n.toNat with
  | some x => rw [hb] at h; exact DoOk.of h rfl rfl rfl (fun hh => by simp at hh)
  | none => rw [hb] at h; exact DoOk.of h rfl rfl rfl (fun _ => rfl)
theorem DoOk.st {U X : Nat} {m : MS} {s t t' : GS} {ins : Value} {w : World} {at' v : Nat} {n : Int} (h : Calls Try.prog 96 #[.pointer (some ⟨U, 0, none⟩), ins] w fun e w' => e = .returned (stVV 6 (sto m at' n)) ∧ TuW w w' U X (storeT m at' n v) t') : DoOk U X m t (stG m s at' n v t') ins w := by
  unfold stG
  cases hb : sto m at' n with
  | some x =>
    have e : storeT m at' n v = m := storeT_bad hb
    rw [hb, e] at h; exact DoOk.of h rfl rfl rfl (fun hh => by simp at hh)
  | none => rw [hb] at h; exact DoOk.of h rfl rfl rfl (fun _ => rfl)
theorem setPC_ok {s : GS} (h : s.Ok) (x : Int) : (s.setPC (w32 x)).Ok := h.setPC _ (w32_lt x)
theorem z1 (U X : Nat) (m : MS) (s : GS) (D S : Nat) (O : Int) (imm n : Nat) (a : Int) (w : World) (hm : m.Ok) (hs : s.Ok) (hi : imm < 4294967296) (hD : D < 8) (hS : S < 8) (H : TuW w w U X m (s.setPC (w32 ((s.pc : Int) + n)))) : DoOk U X m (s.setPC (w32 ((s.pc : Int) + n))) (stepH m s ⟨1, D, S, O, imm, n, 0, a⟩) (insA 1 D S O imm) w := by
  have ht := setPC_ok hs ((s.pc : Int) + n)
  have e : stepH m s ⟨1, D, S, O, imm, n, 0, a⟩ = ⟨s, 2, 0, m⟩ := by
    simp [stepH, memF, ldW, stW]
  rw [e]
  exact DoOk.of (do1 U X m (s.setPC (w32 ((s.pc : Int) + n))) D S O imm w H ht hi) rfl rfl rfl (fun hh => by simp at hh)
theorem z5 (U X : Nat) (m : MS) (s : GS) (D S : Nat) (O : Int) (imm n : Nat) (a : Int) (w : World) (hm : m.Ok) (hs : s.Ok) (hi : imm < 4294967296) (hD : D < 8) (hS : S < 8) (H : TuW w w U X m (s.setPC (w32 ((s.pc : Int) + n)))) : DoOk U X m (s.setPC (w32 ((s.pc : Int) + n))) (stepH m s ⟨5, D, S, O, imm, n, 0, a⟩) (insA 5 D S O imm) w := by
  have ht := setPC_ok hs ((s.pc : Int) + n)
  have e : stepH m s ⟨5, D, S, O, imm, n, 0, a⟩ = ⟨(s.setPC (w32 ((s.pc : Int) + n))), 1, imm, m⟩ := by
    simp [stepH, memF, ldW, stW]
  rw [e]
  exact DoOk.of (do5 U X m (s.setPC (w32 ((s.pc : Int) + n))) D S O imm w H ht hi) rfl rfl rfl (fun _ => rfl)
theorem z6 (U X : Nat) (m : MS) (s : GS) (D S : Nat) (O : Int) (imm n : Nat) (a : Int) (w : World) (hm : m.Ok) (hs : s.Ok) (hi : imm < 4294967296) (hD : D < 8) (hS : S < 8) (H : TuW w w U X m (s.setPC (w32 ((s.pc : Int) + n)))) : DoOk U X m (s.setPC (w32 ((s.pc : Int) + n))) (stepH m s ⟨6, D, S, O, imm, n, 0, a⟩) (insA 6 D S O imm) w := by
  have ht := setPC_ok hs ((s.pc : Int) + n)
  have e : stepH m s ⟨6, D, S, O, imm, n, 0, a⟩ = ⟨(s.setPC (w32 ((s.pc : Int) + n))).setPC (w32 ((w32 ((s.pc : Int) + n) : Int) + imm)), 0, 0, m⟩ := by
    simp [stepH, memF, ldW, stW]
  rw [e]
  exact DoOk.of (do6 U X m (s.setPC (w32 ((s.pc : Int) + n))) D S O imm w H ht hi) rfl rfl rfl (fun _ => rfl)
theorem z7 (U X : Nat) (m : MS) (s : GS) (D S : Nat) (O : Int) (imm n : Nat) (a : Int) (w : World) (hm : m.Ok) (hs : s.Ok) (hi : imm < 4294967296) (hD : D < 8) (hS : S < 8) (H : TuW w w U X m (s.setPC (w32 ((s.pc : Int) + n)))) : DoOk U X m (s.setPC (w32 ((s.pc : Int) + n))) (stepH m s ⟨7, D, S, O, imm, n, 0, a⟩) (insA 7 D S O imm) w := by
  have ht := setPC_ok hs ((s.pc : Int) + n)
  have e : stepH m s ⟨7, D, S, O, imm, n, 0, a⟩ = ⟨(s.setPC (w32 ((s.pc : Int) + n))).setPC (w32 ((w32 ((s.pc : Int) + n) : Int) + imm)), 0, 0, m⟩ := by
    simp [stepH, memF, ldW, stW]
  rw [e]
  exact DoOk.of (do7 U X m (s.setPC (w32 ((s.pc : Int) + n))) D S O imm w H ht hi) rfl rfl rfl (fun _ => rfl)
theorem z12 (U X : Nat) (m : MS) (s : GS) (D S : Nat) (O : Int) (imm n : Nat) (a : Int) (w : World) (hm : m.Ok) (hs : s.Ok) (hi : imm < 4294967296) (hD : D < 8) (hS : S < 8) (H : TuW w w U X m (s.setPC (w32 ((s.pc : Int) + n)))) (hO : O ≤ 9223372036854775807) : DoOk U X m (s.setPC (w32 ((s.pc : Int) + n))) (stepH m s ⟨12, D, S, O, imm, n, 0, a⟩) (insA 12 D S O imm) w := by
  have ht := setPC_ok hs ((s.pc : Int) + n)
  have e : stepH m s ⟨12, D, S, O, imm, n, 0, a⟩ = ⟨if Fl.holdsF O s.f then (s.setPC (w32 ((s.pc : Int) + n))).setPC (w32 ((w32 ((s.pc : Int) + n) : Int) + imm)) else (s.setPC (w32 ((s.pc : Int) + n))), 0, 0, m⟩ := by
    simp [stepH, memF, ldW, stW]
  rw [e]
  cases hb : Fl.holdsF O s.f
  · exact DoOk.of (do12f U X m (s.setPC (w32 ((s.pc : Int) + n))) D S O imm w H ht hi hO hb) rfl rfl rfl (fun _ => rfl)
  · exact DoOk.of (do12t U X m (s.setPC (w32 ((s.pc : Int) + n))) D S O imm w H ht hi hO hb) rfl rfl rfl (fun _ => rfl)
theorem z13 (U X : Nat) (m : MS) (s : GS) (D S : Nat) (O : Int) (imm n : Nat) (a : Int) (w : World) (hm : m.Ok) (hs : s.Ok) (hi : imm < 4294967296) (hD : D < 8) (hS : S < 8) (H : TuW w w U X m (s.setPC (w32 ((s.pc : Int) + n)))) (hO : O ≤ 9223372036854775807) : DoOk U X m (s.setPC (w32 ((s.pc : Int) + n))) (stepH m s ⟨13, D, S, O, imm, n, 0, a⟩) (insA 13 D S O imm) w := by
  have ht := setPC_ok hs ((s.pc : Int) + n)
  have e : stepH m s ⟨13, D, S, O, imm, n, 0, a⟩ = ⟨if Fl.holdsF O s.f then (s.setPC (w32 ((s.pc : Int) + n))).setPC (w32 ((w32 ((s.pc : Int) + n) : Int) + imm)) else (s.setPC (w32 ((s.pc : Int) + n))), 0, 0, m⟩ := by
    simp [stepH, memF, ldW, stW]
  rw [e]
  cases hb : Fl.holdsF O s.f
  · exact DoOk.of (do13f U X m (s.setPC (w32 ((s.pc : Int) + n))) D S O imm w H ht hi hO hb) rfl rfl rfl (fun _ => rfl)
  · exact DoOk.of (do13t U X m (s.setPC (w32 ((s.pc : Int) + n))) D S O imm w H ht hi hO hb) rfl rfl rfl (fun _ => rfl)
theorem z9 (U X : Nat) (m : MS) (s : GS) (D S : Nat) (O : Int) (imm n : Nat) (a : Int) (w : World) (hm : m.Ok) (hs : s.Ok) (hi : imm < 4294967296) (hD : D < 8) (hS : S < 8) (H : TuW w w U X m (s.setPC (w32 ((s.pc : Int) + n)))) : DoOk U X m (s.setPC (w32 ((s.pc : Int) + n))) (stepH m s ⟨9, D, S, O, imm, n, 0, a⟩) (insA 9 D S O imm) w := by
  have ht := setPC_ok hs ((s.pc : Int) + n)
  have e : stepH m s ⟨9, D, S, O, imm, n, 0, a⟩ = ⟨(s.setPC (w32 ((s.pc : Int) + n))).setPC (s.R S), 0, 0, m⟩ := by
    simp [stepH, memF, ldW, stW]
  rw [e]
  exact DoOk.of (do9 U X m (s.setPC (w32 ((s.pc : Int) + n))) D S O imm w H ht hi hS) rfl rfl rfl (fun _ => rfl)
theorem z16 (U X : Nat) (m : MS) (s : GS) (D S : Nat) (O : Int) (imm n : Nat) (a : Int) (w : World) (hm : m.Ok) (hs : s.Ok) (hi : imm < 4294967296) (hD : D < 8) (hS : S < 8) (H : TuW w w U X m (s.setPC (w32 ((s.pc : Int) + n)))) : DoOk U X m (s.setPC (w32 ((s.pc : Int) + n))) (stepH m s ⟨16, D, S, O, imm, n, 0, a⟩) (insA 16 D S O imm) w := by
  have ht := setPC_ok hs ((s.pc : Int) + n)
  have e : stepH m s ⟨16, D, S, O, imm, n, 0, a⟩ = ⟨(s.setPC (w32 ((s.pc : Int) + n))).setR D imm, 0, 0, m⟩ := by
    simp [stepH, memF, ldW, stW]
  rw [e]
  exact DoOk.of (do16 U X m (s.setPC (w32 ((s.pc : Int) + n))) D S O imm w H ht hi hD) rfl rfl rfl (fun _ => rfl)
theorem z22 (U X : Nat) (m : MS) (s : GS) (D S : Nat) (O : Int) (imm n : Nat) (a : Int) (w : World) (hm : m.Ok) (hs : s.Ok) (hi : imm < 4294967296) (hD : D < 8) (hS : S < 8) (H : TuW w w U X m (s.setPC (w32 ((s.pc : Int) + n)))) : DoOk U X m (s.setPC (w32 ((s.pc : Int) + n))) (stepH m s ⟨22, D, S, O, imm, n, 0, a⟩) (insA 22 D S O imm) w := by
  have ht := setPC_ok hs ((s.pc : Int) + n)
  have e : stepH m s ⟨22, D, S, O, imm, n, 0, a⟩ = ⟨(s.setPC (w32 ((s.pc : Int) + n))).setR D (s.R S), 0, 0, m⟩ := by
    simp [stepH, memF, ldW, stW]
  rw [e]
  exact DoOk.of (do22 U X m (s.setPC (w32 ((s.pc : Int) + n))) D S O imm w H ht hi hS hD) rfl rfl rfl (fun _ => rfl)
theorem z23 (U X : Nat) (m : MS) (s : GS) (D S : Nat) (O : Int) (imm n : Nat) (a : Int) (w : World) (hm : m.Ok) (hs : s.Ok) (hi : imm < 4294967296) (hD : D < 8) (hS : S < 8) (H : TuW w w U X m (s.setPC (w32 ((s.pc : Int) + n)))) : DoOk U X m (s.setPC (w32 ((s.pc : Int) + n))) (stepH m s ⟨23, D, S, O, imm, n, 0, a⟩) (insA 23 D S O imm) w := by
  have ht := setPC_ok hs ((s.pc : Int) + n)
  have e : stepH m s ⟨23, D, S, O, imm, n, 0, a⟩ = ⟨(s.setPC (w32 ((s.pc : Int) + n))).setR D (w32 ((s.R S : Int) + imm)), 0, 0, m⟩ := by
    simp [stepH, memF, ldW, stW]
  rw [e]
  exact DoOk.of (do23 U X m (s.setPC (w32 ((s.pc : Int) + n))) D S O imm w H ht hi hS hD) rfl rfl rfl (fun _ => rfl)
theorem z20 (U X : Nat) (m : MS) (s : GS) (D S : Nat) (O : Int) (imm n : Nat) (a : Int) (w : World) (hm : m.Ok) (hs : s.Ok) (hi : imm < 4294967296) (hD : D < 8) (hS : S < 8) (H : TuW w w U X m (s.setPC (w32 ((s.pc : Int) + n)))) : DoOk U X m (s.setPC (w32 ((s.pc : Int) + n))) (stepH m s ⟨20, D, S, O, imm, n, 0, a⟩) (insA 20 D S O imm) w := by
  have ht := setPC_ok hs ((s.pc : Int) + n)
  have e : stepH m s ⟨20, D, S, O, imm, n, 0, a⟩ = ⟨(s.setPC (w32 ((s.pc : Int) + n))).setR D (w32 (4294967295 - (s.R D : Int))), 0, 0, m⟩ := by
    simp [stepH, memF, ldW, stW]
  rw [e]
  exact DoOk.of (do20 U X m (s.setPC (w32 ((s.pc : Int) + n))) D S O imm w H ht hi hD) rfl rfl rfl (fun _ => rfl)
theorem z17 (U X : Nat) (m : MS) (s : GS) (D S : Nat) (O : Int) (imm n : Nat) (a : Int) (w : World) (hm : m.Ok) (hs : s.Ok) (hi : imm < 4294967296) (hD : D < 8) (hS : S < 8) (H : TuW w w U X m (s.setPC (w32 ((s.pc : Int) + n)))) : DoOk U X m (s.setPC (w32 ((s.pc : Int) + n))) (stepH m s ⟨17, D, S, O, imm, n, 0, a⟩) (insA 17 D S O imm) w := by
  have ht := setPC_ok hs ((s.pc : Int) + n)
  have e : stepH m s ⟨17, D, S, O, imm, n, 0, a⟩ = ⟨((s.setPC (w32 ((s.pc : Int) + n))).setR D (w32 ((s.R D : Int) + 1))).setF (Fl.flagsF 11 (s.R D) 0 s.f).toNat, 0, 0, m⟩ := by
    simp [stepH, memF, ldW, stW]
  rw [e]
  exact DoOk.of (do17 U X m (s.setPC (w32 ((s.pc : Int) + n))) D S O imm w H ht hi hD) rfl rfl rfl (fun _ => rfl)
theorem z18 (U X : Nat) (m : MS) (s : GS) (D S : Nat) (O : Int) (imm n : Nat) (a : Int) (w : World) (hm : m.Ok) (hs : s.Ok) (hi : imm < 4294967296) (hD : D < 8) (hS : S < 8) (H : TuW w w U X m (s.setPC (w32 ((s.pc : Int) + n)))) : DoOk U X m (s.setPC (w32 ((s.pc : Int) + n))) (stepH m s ⟨18, D, S, O, imm, n, 0, a⟩) (insA 18 D S O imm) w := by
  have ht := setPC_ok hs ((s.pc : Int) + n)
  have e : stepH m s ⟨18, D, S, O, imm, n, 0, a⟩ = ⟨((s.setPC (w32 ((s.pc : Int) + n))).setR D (w32 ((s.R D : Int) - 1))).setF (Fl.flagsF 12 (s.R D) 0 s.f).toNat, 0, 0, m⟩ := by
    simp [stepH, memF, ldW, stW]
  rw [e]
  exact DoOk.of (do18 U X m (s.setPC (w32 ((s.pc : Int) + n))) D S O imm w H ht hi hD) rfl rfl rfl (fun _ => rfl)
theorem z19 (U X : Nat) (m : MS) (s : GS) (D S : Nat) (O : Int) (imm n : Nat) (a : Int) (w : World) (hm : m.Ok) (hs : s.Ok) (hi : imm < 4294967296) (hD : D < 8) (hS : S < 8) (H : TuW w w U X m (s.setPC (w32 ((s.pc : Int) + n)))) : DoOk U X m (s.setPC (w32 ((s.pc : Int) + n))) (stepH m s ⟨19, D, S, O, imm, n, 0, a⟩) (insA 19 D S O imm) w := by
  have ht := setPC_ok hs ((s.pc : Int) + n)
  have e : stepH m s ⟨19, D, S, O, imm, n, 0, a⟩ = ⟨((s.setPC (w32 ((s.pc : Int) + n))).setR D (w32 (0 - (s.R D : Int)))).setF (Fl.flagsF 3 0 (s.R D) s.f).toNat, 0, 0, m⟩ := by
    simp [stepH, memF, ldW, stW]
  rw [e]
  exact DoOk.of (do19 U X m (s.setPC (w32 ((s.pc : Int) + n))) D S O imm w H ht hi hD) rfl rfl rfl (fun _ => rfl)
theorem z21 (U X : Nat) (m : MS) (s : GS) (D S : Nat) (O : Int) (imm n : Nat) (a : Int) (w : World) (hm : m.Ok) (hs : s.Ok) (hi : imm < 4294967296) (hD : D < 8) (hS : S < 8) (H : TuW w w U X m (s.setPC (w32 ((s.pc : Int) + n)))) (hO : O ≤ 9223372036854775807) : DoOk U X m (s.setPC (w32 ((s.pc : Int) + n))) (stepH m s ⟨21, D, S, O, imm, n, 0, a⟩) (insA 21 D S O imm) w := by
  have ht := setPC_ok hs ((s.pc : Int) + n)
  have e : stepH m s ⟨21, D, S, O, imm, n, 0, a⟩ = ⟨(s.setPC (w32 ((s.pc : Int) + n))).setR D (if Fl.holdsF O s.f then 1 else 0), 0, 0, m⟩ := by
    simp [stepH, memF, ldW, stW]
  rw [e]
  cases hb : Fl.holdsF O s.f
  · exact DoOk.of (do21f U X m (s.setPC (w32 ((s.pc : Int) + n))) D S O imm w H ht hi hD hO hb) rfl rfl rfl (fun _ => rfl)
  · exact DoOk.of (do21t U X m (s.setPC (w32 ((s.pc : Int) + n))) D S O imm w H ht hi hD hO hb) rfl rfl rfl (fun _ => rfl)
theorem z27 (U X : Nat) (m : MS) (s : GS) (D S : Nat) (O : Int) (imm n : Nat) (a : Int) (w : World) (hm : m.Ok) (hs : s.Ok) (hi : imm < 4294967296) (hD : D < 8) (hS : S < 8) (H : TuW w w U X m (s.setPC (w32 ((s.pc : Int) + n)))) : DoOk U X m (s.setPC (w32 ((s.pc : Int) + n))) (stepH m s ⟨27, D, S, O, imm, n, 0, a⟩) (insA 27 D S O imm) w := by
  have ht := setPC_ok hs ((s.pc : Int) + n)
  have e : stepH m s ⟨27, D, S, O, imm, n, 0, a⟩ = if Fl.recOk O (s.R S) then ⟨((s.setPC (w32 ((s.pc : Int) + n))).setR D (Fl.recX O (s.R D) (s.R S) s.f).toNat).setF (Fl.recFl O (s.R D) (s.R S) s.f).toNat, 0, 0, m⟩ else ⟨s, 7, 0, m⟩ := by
    simp [stepH, memF, ldW, stW]
  rw [e]
  cases hb : Fl.recOk O (s.R S)
  · exact DoOk.of (do27f U X m (s.setPC (w32 ((s.pc : Int) + n))) D S O imm w H ht hi hS hD hb) rfl rfl rfl (fun hh => by simp at hh)
  · exact DoOk.of (do27t U X m (s.setPC (w32 ((s.pc : Int) + n))) D S O imm w H ht hi hS hD hb) rfl rfl rfl (fun _ => rfl)
theorem z28 (U X : Nat) (m : MS) (s : GS) (D S : Nat) (O : Int) (imm n : Nat) (a : Int) (w : World) (hm : m.Ok) (hs : s.Ok) (hi : imm < 4294967296) (hD : D < 8) (hS : S < 8) (H : TuW w w U X m (s.setPC (w32 ((s.pc : Int) + n)))) : DoOk U X m (s.setPC (w32 ((s.pc : Int) + n))) (stepH m s ⟨28, D, S, O, imm, n, 0, a⟩) (insA 28 D S O imm) w := by
  have ht := setPC_ok hs ((s.pc : Int) + n)
  have e : stepH m s ⟨28, D, S, O, imm, n, 0, a⟩ = if Fl.recOk O imm then ⟨((s.setPC (w32 ((s.pc : Int) + n))).setR D (Fl.recX O (s.R D) imm s.f).toNat).setF (Fl.recFl O (s.R D) imm s.f).toNat, 0, 0, m⟩ else ⟨s, 7, 0, m⟩ := by
    simp [stepH, memF, ldW, stW]
  rw [e]
  cases hb : Fl.recOk O imm
  · exact DoOk.of (do28f U X m (s.setPC (w32 ((s.pc : Int) + n))) D S O imm w H ht hi hD hb) rfl rfl rfl (fun hh => by simp at hh)
  · exact DoOk.of (do28t U X m (s.setPC (w32 ((s.pc : Int) + n))) D S O imm w H ht hi hD hb) rfl rfl rfl (fun _ => rfl)
theorem z29 (U X : Nat) (m : MS) (s : GS) (D S : Nat) (O : Int) (imm n : Nat) (a : Int) (w : World) (hm : m.Ok) (hs : s.Ok) (hi : imm < 4294967296) (hD : D < 8) (hS : S < 8) (H : TuW w w U X m (s.setPC (w32 ((s.pc : Int) + n)))) : DoOk U X m (s.setPC (w32 ((s.pc : Int) + n))) (stepH m s ⟨29, D, S, O, imm, n, 0, a⟩) (insA 29 D S O imm) w := by
  have ht := setPC_ok hs ((s.pc : Int) + n)
  have e : stepH m s ⟨29, D, S, O, imm, n, 0, a⟩ = if Fl.recOk O imm then ⟨((s.setPC (w32 ((s.pc : Int) + n))).setR D (Fl.recX O (s.R D) imm s.f).toNat).setF (Fl.recFl O (s.R D) imm s.f).toNat, 0, 0, m⟩ else ⟨s, 7, 0, m⟩ := by
    simp [stepH, memF, ldW, stW]
  rw [e]
  cases hb : Fl.recOk O imm
  · exact DoOk.of (do29f U X m (s.setPC (w32 ((s.pc : Int) + n))) D S O imm w H ht hi hD hb) rfl rfl rfl (fun hh => by simp at hh)
  · exact DoOk.of (do29t U X m (s.setPC (w32 ((s.pc : Int) + n))) D S O imm w H ht hi hD hb) rfl rfl rfl (fun _ => rfl)
theorem z0 (U X : Nat) (m : MS) (s : GS) (D S : Nat) (O : Int) (imm n : Nat) (a : Int) (w : World) (hm : m.Ok) (hs : s.Ok) (hi : imm < 4294967296) (hD : D < 8) (hS : S < 8) (H : TuW w w U X m (s.setPC (w32 ((s.pc : Int) + n)))) : DoOk U X m (s.setPC (w32 ((s.pc : Int) + n))) (stepH m s ⟨0, D, S, O, imm, n, 0, a⟩) (insA 0 D S O imm) w := by
  have ht := setPC_ok hs ((s.pc : Int) + n)
  have e : stepH m s ⟨0, D, S, O, imm, n, 0, a⟩ = ⟨(s.setPC (w32 ((s.pc : Int) + n))), 0, 0, m⟩ := by
    simp [stepH, memF, ldW, stW]
  rw [e]
  exact DoOk.of (do0 U X m (s.setPC (w32 ((s.pc : Int) + n))) D S O imm w H ht hi hD) rfl rfl rfl (fun _ => rfl)
theorem z11 (U X : Nat) (m : MS) (s : GS) (D S : Nat) (O : Int) (imm n : Nat) (a : Int) (w : World) (hm : m.Ok) (hs : s.Ok) (hi : imm < 4294967296) (hD : D < 8) (hS : S < 8) (H : TuW w w U X m (s.setPC (w32 ((s.pc : Int) + n)))) : DoOk U X m (s.setPC (w32 ((s.pc : Int) + n))) (stepH m s ⟨11, D, S, O, imm, n, 0, a⟩) (insA 11 D S O imm) w := by
  have ht := setPC_ok hs ((s.pc : Int) + n)
  have e : stepH m s ⟨11, D, S, O, imm, n, 0, a⟩ = ldG m s (w32 ((s.R S : Int) + imm)) 4 fun v => (s.setPC (w32 ((s.pc : Int) + n))).setPC v := by
    simp [stepH, memF, ldW, stW]
  rw [e]
  exact DoOk.ld (g := fun v => (s.setPC (w32 ((s.pc : Int) + n))).setPC v) (do11 U X m (s.setPC (w32 ((s.pc : Int) + n))) D S O imm w H ht hi hS hm)
theorem z14 (U X : Nat) (m : MS) (s : GS) (D S : Nat) (O : Int) (imm n : Nat) (a : Int) (w : World) (hm : m.Ok) (hs : s.Ok) (hi : imm < 4294967296) (hD : D < 8) (hS : S < 8) (H : TuW w w U X m (s.setPC (w32 ((s.pc : Int) + n)))) : DoOk U X m (s.setPC (w32 ((s.pc : Int) + n))) (stepH m s ⟨14, D, S, O, imm, n, 0, a⟩) (insA 14 D S O imm) w := by
  have ht := setPC_ok hs ((s.pc : Int) + n)
  have e : stepH m s ⟨14, D, S, O, imm, n, 0, a⟩ = stG m s (w32 ((s.R 7 : Int) - 4)) 4 (s.R S) ((s.setPC (w32 ((s.pc : Int) + n))).setR 7 (w32 ((s.R 7 : Int) - 4))) := by
    simp [stepH, memF, ldW, stW]
  rw [e]
  exact DoOk.st (do14 U X m (s.setPC (w32 ((s.pc : Int) + n))) D S O imm w H ht hi hS hm)
theorem z3 (U X : Nat) (m : MS) (s : GS) (D S : Nat) (O : Int) (imm n : Nat) (a : Int) (w : World) (hm : m.Ok) (hs : s.Ok) (hi : imm < 4294967296) (hD : D < 8) (hS : S < 8) (H : TuW w w U X m (s.setPC (w32 ((s.pc : Int) + n)))) : DoOk U X m (s.setPC (w32 ((s.pc : Int) + n))) (stepH m s ⟨3, D, S, O, imm, n, 0, a⟩) (insA 3 D S O imm) w := by
  have ht := setPC_ok hs ((s.pc : Int) + n)
  have e : stepH m s ⟨3, D, S, O, imm, n, 0, a⟩ = stG m s (w32 ((s.R 7 : Int) - 4)) 4 s.f ((s.setPC (w32 ((s.pc : Int) + n))).setR 7 (w32 ((s.R 7 : Int) - 4))) := by
    simp [stepH, memF, ldW, stW]
  rw [e]
  exact DoOk.st (do3 U X m (s.setPC (w32 ((s.pc : Int) + n))) D S O imm w H ht hi hS hm)
theorem z8 (U X : Nat) (m : MS) (s : GS) (D S : Nat) (O : Int) (imm n : Nat) (a : Int) (w : World) (hm : m.Ok) (hs : s.Ok) (hi : imm < 4294967296) (hD : D < 8) (hS : S < 8) (H : TuW w w U X m (s.setPC (w32 ((s.pc : Int) + n)))) : DoOk U X m (s.setPC (w32 ((s.pc : Int) + n))) (stepH m s ⟨8, D, S, O, imm, n, 0, a⟩) (insA 8 D S O imm) w := by
  have ht := setPC_ok hs ((s.pc : Int) + n)
  have e : stepH m s ⟨8, D, S, O, imm, n, 0, a⟩ = stG m s (w32 ((s.R 7 : Int) - 4)) 4 (s.setPC (w32 ((s.pc : Int) + n))).pc (((s.setPC (w32 ((s.pc : Int) + n))).setR 7 (w32 ((s.R 7 : Int) - 4))).setPC (w32 (((s.setPC (w32 ((s.pc : Int) + n))).pc : Int) + imm))) := by
    simp [stepH, memF, ldW, stW]
  rw [e]
  exact DoOk.st (do8 U X m (s.setPC (w32 ((s.pc : Int) + n))) D S O imm w H ht hi hS hm)
theorem z10 (U X : Nat) (m : MS) (s : GS) (D S : Nat) (O : Int) (imm n : Nat) (a : Int) (w : World) (hm : m.Ok) (hs : s.Ok) (hi : imm < 4294967296) (hD : D < 8) (hS : S < 8) (H : TuW w w U X m (s.setPC (w32 ((s.pc : Int) + n)))) : DoOk U X m (s.setPC (w32 ((s.pc : Int) + n))) (stepH m s ⟨10, D, S, O, imm, n, 0, a⟩) (insA 10 D S O imm) w := by
  have ht := setPC_ok hs ((s.pc : Int) + n)
  have e : stepH m s ⟨10, D, S, O, imm, n, 0, a⟩ = stG m s (w32 ((s.R 7 : Int) - 4)) 4 (s.setPC (w32 ((s.pc : Int) + n))).pc (((s.setPC (w32 ((s.pc : Int) + n))).setR 7 (w32 ((s.R 7 : Int) - 4))).setPC (s.R S)) := by
    simp [stepH, memF, ldW, stW]
  rw [e]
  exact DoOk.st (do10 U X m (s.setPC (w32 ((s.pc : Int) + n))) D S O imm w H ht hi hS hm)
theorem z15 (U X : Nat) (m : MS) (s : GS) (D S : Nat) (O : Int) (imm n : Nat) (a : Int) (w : World) (hm : m.Ok) (hs : s.Ok) (hi : imm < 4294967296) (hD : D < 8) (hS : S < 8) (H : TuW w w U X m (s.setPC (w32 ((s.pc : Int) + n)))) : DoOk U X m (s.setPC (w32 ((s.pc : Int) + n))) (stepH m s ⟨15, D, S, O, imm, n, 0, a⟩) (insA 15 D S O imm) w := by
  have ht := setPC_ok hs ((s.pc : Int) + n)
  have e : stepH m s ⟨15, D, S, O, imm, n, 0, a⟩ = ldG m s (s.R 7) 4 fun v => ((s.setPC (w32 ((s.pc : Int) + n))).setR 7 (w32 ((s.R 7 : Int) + 4))).setR D v := by
    simp [stepH, memF, ldW, stW]
  rw [e]
  by_cases h7 : D = 7
  · subst h7; exact DoOk.ld (g := fun v => ((s.setPC (w32 ((s.pc : Int) + n))).setR 7 (w32 ((s.R 7 : Int) + 4))).setR 7 v) (do15a U X m (s.setPC (w32 ((s.pc : Int) + n))) 7 S O imm w H ht hi hm)
  · exact DoOk.ld (g := fun v => ((s.setPC (w32 ((s.pc : Int) + n))).setR 7 (w32 ((s.R 7 : Int) + 4))).setR D v) (do15b U X m (s.setPC (w32 ((s.pc : Int) + n))) D S O imm w H ht hi hD hm (by omega))
theorem z4 (U X : Nat) (m : MS) (s : GS) (D S : Nat) (O : Int) (imm n : Nat) (a : Int) (w : World) (hm : m.Ok) (hs : s.Ok) (hi : imm < 4294967296) (hD : D < 8) (hS : S < 8) (H : TuW w w U X m (s.setPC (w32 ((s.pc : Int) + n)))) : DoOk U X m (s.setPC (w32 ((s.pc : Int) + n))) (stepH m s ⟨4, D, S, O, imm, n, 0, a⟩) (insA 4 D S O imm) w := by
  have ht := setPC_ok hs ((s.pc : Int) + n)
  have e : stepH m s ⟨4, D, S, O, imm, n, 0, a⟩ = ldG m s (s.R 7) 4 fun v => ((s.setPC (w32 ((s.pc : Int) + n))).setR 7 (w32 ((s.R 7 : Int) + 4))).setF (v % 16) := by
    simp [stepH, memF, ldW, stW]
  rw [e]
  exact DoOk.ld (g := fun v => ((s.setPC (w32 ((s.pc : Int) + n))).setR 7 (w32 ((s.R 7 : Int) + 4))).setF (v % 16)) (do4 U X m (s.setPC (w32 ((s.pc : Int) + n))) D S O imm w H ht hi hm)
theorem z2 (U X : Nat) (m : MS) (s : GS) (D S : Nat) (O : Int) (imm n : Nat) (a : Int) (w : World) (hm : m.Ok) (hs : s.Ok) (hi : imm < 4294967296) (hD : D < 8) (hS : S < 8) (H : TuW w w U X m (s.setPC (w32 ((s.pc : Int) + n)))) : DoOk U X m (s.setPC (w32 ((s.pc : Int) + n))) (stepH m s ⟨2, D, S, O, imm, n, 0, a⟩) (insA 2 D S O imm) w := by
  have ht := setPC_ok hs ((s.pc : Int) + n)
  have e : stepH m s ⟨2, D, S, O, imm, n, 0, a⟩ = ldG m s (s.R 7) 4 fun v => ((s.setPC (w32 ((s.pc : Int) + n))).setR 7 (w32 ((s.R 7 : Int) + 4))).setPC v := by
    simp [stepH, memF, ldW, stW]
  rw [e]
  exact DoOk.ld (g := fun v => ((s.setPC (w32 ((s.pc : Int) + n))).setR 7 (w32 ((s.R 7 : Int) + 4))).setPC v) (do2 U X m (s.setPC (w32 ((s.pc : Int) + n))) D S O imm w H ht hi hm)
theorem z30o0 (U X : Nat) (m : MS) (s : GS) (D S : Nat) (O : Int) (imm n : Nat) (a : Int) (w : World) (hm : m.Ok) (hs : s.Ok) (hi : imm < 4294967296) (hD : D < 8) (hS : S < 8) (H : TuW w w U X m (s.setPC (w32 ((s.pc : Int) + n)))) : DoOk U X m (s.setPC (w32 ((s.pc : Int) + n))) (stepH m s ⟨30, D, S, 0, imm, n, 0, a⟩) (insA 30 D S 0 imm) w := by
  have ht := setPC_ok hs ((s.pc : Int) + n)
  have e : stepH m s ⟨30, D, S, 0, imm, n, 0, a⟩ = ldG m s (w32 ((s.R S : Int) + imm)) 1 fun v => (s.setPC (w32 ((s.pc : Int) + n))).setR D (sx 0 v) := by
    simp [stepH, memF, ldW, stW]
  rw [e]
  exact DoOk.ld (g := fun v => (s.setPC (w32 ((s.pc : Int) + n))).setR D (sx 0 v)) (do300 U X m (s.setPC (w32 ((s.pc : Int) + n))) D S imm w H ht hi hS hD hm)
theorem z30o1 (U X : Nat) (m : MS) (s : GS) (D S : Nat) (O : Int) (imm n : Nat) (a : Int) (w : World) (hm : m.Ok) (hs : s.Ok) (hi : imm < 4294967296) (hD : D < 8) (hS : S < 8) (H : TuW w w U X m (s.setPC (w32 ((s.pc : Int) + n)))) : DoOk U X m (s.setPC (w32 ((s.pc : Int) + n))) (stepH m s ⟨30, D, S, 1, imm, n, 0, a⟩) (insA 30 D S 1 imm) w := by
  have ht := setPC_ok hs ((s.pc : Int) + n)
  have e : stepH m s ⟨30, D, S, 1, imm, n, 0, a⟩ = ldG m s (w32 ((s.R S : Int) + imm)) 1 fun v => (s.setPC (w32 ((s.pc : Int) + n))).setR D (sx 1 v) := by
    simp [stepH, memF, ldW, stW]
  rw [e]
  exact DoOk.ld (g := fun v => (s.setPC (w32 ((s.pc : Int) + n))).setR D (sx 1 v)) (do301 U X m (s.setPC (w32 ((s.pc : Int) + n))) D S imm w H ht hi hS hD hm)
theorem z30o2 (U X : Nat) (m : MS) (s : GS) (D S : Nat) (O : Int) (imm n : Nat) (a : Int) (w : World) (hm : m.Ok) (hs : s.Ok) (hi : imm < 4294967296) (hD : D < 8) (hS : S < 8) (H : TuW w w U X m (s.setPC (w32 ((s.pc : Int) + n)))) : DoOk U X m (s.setPC (w32 ((s.pc : Int) + n))) (stepH m s ⟨30, D, S, 2, imm, n, 0, a⟩) (insA 30 D S 2 imm) w := by
  have ht := setPC_ok hs ((s.pc : Int) + n)
  have e : stepH m s ⟨30, D, S, 2, imm, n, 0, a⟩ = ldG m s (w32 ((s.R S : Int) + imm)) 2 fun v => (s.setPC (w32 ((s.pc : Int) + n))).setR D (sx 2 v) := by
    simp [stepH, memF, ldW, stW]
  rw [e]
  exact DoOk.ld (g := fun v => (s.setPC (w32 ((s.pc : Int) + n))).setR D (sx 2 v)) (do302 U X m (s.setPC (w32 ((s.pc : Int) + n))) D S imm w H ht hi hS hD hm)
theorem z30o3 (U X : Nat) (m : MS) (s : GS) (D S : Nat) (O : Int) (imm n : Nat) (a : Int) (w : World) (hm : m.Ok) (hs : s.Ok) (hi : imm < 4294967296) (hD : D < 8) (hS : S < 8) (H : TuW w w U X m (s.setPC (w32 ((s.pc : Int) + n)))) : DoOk U X m (s.setPC (w32 ((s.pc : Int) + n))) (stepH m s ⟨30, D, S, 3, imm, n, 0, a⟩) (insA 30 D S 3 imm) w := by
  have ht := setPC_ok hs ((s.pc : Int) + n)
  have e : stepH m s ⟨30, D, S, 3, imm, n, 0, a⟩ = ldG m s (w32 ((s.R S : Int) + imm)) 2 fun v => (s.setPC (w32 ((s.pc : Int) + n))).setR D (sx 3 v) := by
    simp [stepH, memF, ldW, stW]
  rw [e]
  exact DoOk.ld (g := fun v => (s.setPC (w32 ((s.pc : Int) + n))).setR D (sx 3 v)) (do303 U X m (s.setPC (w32 ((s.pc : Int) + n))) D S imm w H ht hi hS hD hm)
theorem z30o4 (U X : Nat) (m : MS) (s : GS) (D S : Nat) (O : Int) (imm n : Nat) (a : Int) (w : World) (hm : m.Ok) (hs : s.Ok) (hi : imm < 4294967296) (hD : D < 8) (hS : S < 8) (H : TuW w w U X m (s.setPC (w32 ((s.pc : Int) + n)))) : DoOk U X m (s.setPC (w32 ((s.pc : Int) + n))) (stepH m s ⟨30, D, S, 4, imm, n, 0, a⟩) (insA 30 D S 4 imm) w := by
  have ht := setPC_ok hs ((s.pc : Int) + n)
  have e : stepH m s ⟨30, D, S, 4, imm, n, 0, a⟩ = ldG m s (w32 ((s.R S : Int) + imm)) 4 fun v => (s.setPC (w32 ((s.pc : Int) + n))).setR D (sx 4 v) := by
    simp [stepH, memF, ldW, stW]
  rw [e]
  exact DoOk.ld (g := fun v => (s.setPC (w32 ((s.pc : Int) + n))).setR D (sx 4 v)) (do304 U X m (s.setPC (w32 ((s.pc : Int) + n))) D S imm w H ht hi hS hD hm)
theorem z31o0 (U X : Nat) (m : MS) (s : GS) (D S : Nat) (O : Int) (imm n : Nat) (a : Int) (w : World) (hm : m.Ok) (hs : s.Ok) (hi : imm < 4294967296) (hD : D < 8) (hS : S < 8) (H : TuW w w U X m (s.setPC (w32 ((s.pc : Int) + n)))) : DoOk U X m (s.setPC (w32 ((s.pc : Int) + n))) (stepH m s ⟨31, D, S, 0, imm, n, 0, a⟩) (insA 31 D S 0 imm) w := by
  have ht := setPC_ok hs ((s.pc : Int) + n)
  have e : stepH m s ⟨31, D, S, 0, imm, n, 0, a⟩ = stG m s (w32 ((s.R S : Int) + imm)) 1 (s.R D) (s.setPC (w32 ((s.pc : Int) + n))) := by
    simp [stepH, memF, ldW, stW]
  rw [e]
  exact DoOk.st (do310 U X m (s.setPC (w32 ((s.pc : Int) + n))) D S imm w H ht hi hS hD hm)
theorem z31o1 (U X : Nat) (m : MS) (s : GS) (D S : Nat) (O : Int) (imm n : Nat) (a : Int) (w : World) (hm : m.Ok) (hs : s.Ok) (hi : imm < 4294967296) (hD : D < 8) (hS : S < 8) (H : TuW w w U X m (s.setPC (w32 ((s.pc : Int) + n)))) : DoOk U X m (s.setPC (w32 ((s.pc : Int) + n))) (stepH m s ⟨31, D, S, 1, imm, n, 0, a⟩) (insA 31 D S 1 imm) w := by
  have ht := setPC_ok hs ((s.pc : Int) + n)
  have e : stepH m s ⟨31, D, S, 1, imm, n, 0, a⟩ = stG m s (w32 ((s.R S : Int) + imm)) 2 (s.R D) (s.setPC (w32 ((s.pc : Int) + n))) := by
    simp [stepH, memF, ldW, stW]
  rw [e]
  exact DoOk.st (do311 U X m (s.setPC (w32 ((s.pc : Int) + n))) D S imm w H ht hi hS hD hm)
theorem z31o2 (U X : Nat) (m : MS) (s : GS) (D S : Nat) (O : Int) (imm n : Nat) (a : Int) (w : World) (hm : m.Ok) (hs : s.Ok) (hi : imm < 4294967296) (hD : D < 8) (hS : S < 8) (H : TuW w w U X m (s.setPC (w32 ((s.pc : Int) + n)))) : DoOk U X m (s.setPC (w32 ((s.pc : Int) + n))) (stepH m s ⟨31, D, S, 2, imm, n, 0, a⟩) (insA 31 D S 2 imm) w := by
  have ht := setPC_ok hs ((s.pc : Int) + n)
  have e : stepH m s ⟨31, D, S, 2, imm, n, 0, a⟩ = stG m s (w32 ((s.R S : Int) + imm)) 4 (s.R D) (s.setPC (w32 ((s.pc : Int) + n))) := by
    simp [stepH, memF, ldW, stW]
  rw [e]
  exact DoOk.st (do312 U X m (s.setPC (w32 ((s.pc : Int) + n))) D S imm w H ht hi hS hD hm)
theorem z24 (U X : Nat) (m : MS) (s : GS) (D S : Nat) (O : Int) (imm n : Nat) (a : Int) (w : World) (hm : m.Ok) (hs : s.Ok) (hi : imm < 4294967296) (hD : D < 8) (hS : S < 8) (H : TuW w w U X m (s.setPC (w32 ((s.pc : Int) + n)))) : DoOk U X m (s.setPC (w32 ((s.pc : Int) + n))) (stepH m s ⟨24, D, S, O, imm, n, 0, a⟩) (insA 24 D S O imm) w := by
  have ht := setPC_ok hs ((s.pc : Int) + n)
  have e : stepH m s ⟨24, D, S, O, imm, n, 0, a⟩ = match badN m 1 (w32 ((s.R S : Int) + imm)) 4 with | some x => ⟨s, 5, x, m⟩ | none => swG m ⟨24, D, S, O, imm, n, 0, a⟩ s (s.setPC (w32 ((s.pc : Int) + n))) (w32 ((s.R S : Int) + imm)) (ldN m (w32 ((s.R S : Int) + imm)) 4) := by
    simp [stepH, memF, ldW, stW]
    cases badN m 1 (w32 ((s.R S : Int) + imm)) 4 <;> rfl
  rw [e]
  cases hb : badN m 1 (w32 ((s.R S : Int) + imm)) 4 with
  | some x => exact DoOk.of (do24b U X m (s.setPC (w32 ((s.pc : Int) + n))) D S O imm w H ht hi hS hD hm x hb) rfl rfl rfl (fun hh => by simp at hh)
  | none =>
    simp only
    unfold swG; rw [show swV ⟨24, D, S, O, imm, n, 0, a⟩ s (ldN m (w32 ((s.R S : Int) + imm)) 4) = s.R D from by simp [swV], show swT ⟨24, D, S, O, imm, n, 0, a⟩ s (s.setPC (w32 ((s.pc : Int) + n))) (ldN m (w32 ((s.R S : Int) + imm)) 4) = (s.setPC (w32 ((s.pc : Int) + n))).setR D (ldN m (w32 ((s.R S : Int) + imm)) 4) from by simp [swT]]
    exact DoOk.st (do24 U X m (s.setPC (w32 ((s.pc : Int) + n))) D S O imm w H ht hi hS hD hm hb)
theorem z25 (U X : Nat) (m : MS) (s : GS) (D S : Nat) (O : Int) (imm n : Nat) (a : Int) (w : World) (hm : m.Ok) (hs : s.Ok) (hi : imm < 4294967296) (hD : D < 8) (hS : S < 8) (H : TuW w w U X m (s.setPC (w32 ((s.pc : Int) + n)))) : DoOk U X m (s.setPC (w32 ((s.pc : Int) + n))) (stepH m s ⟨25, D, S, O, imm, n, 0, a⟩) (insA 25 D S O imm) w := by
  have ht := setPC_ok hs ((s.pc : Int) + n)
  have e : stepH m s ⟨25, D, S, O, imm, n, 0, a⟩ = match badN m 1 (w32 ((s.R S : Int) + imm)) 4 with | some x => ⟨s, 5, x, m⟩ | none => swG m ⟨25, D, S, O, imm, n, 0, a⟩ s (s.setPC (w32 ((s.pc : Int) + n))) (w32 ((s.R S : Int) + imm)) (ldN m (w32 ((s.R S : Int) + imm)) 4) := by
    simp [stepH, memF, ldW, stW]
    cases badN m 1 (w32 ((s.R S : Int) + imm)) 4 <;> rfl
  rw [e]
  cases hb : badN m 1 (w32 ((s.R S : Int) + imm)) 4 with
  | some x => exact DoOk.of (do25b U X m (s.setPC (w32 ((s.pc : Int) + n))) D S O imm w H ht hi hS hD hm x hb) rfl rfl rfl (fun hh => by simp at hh)
  | none =>
    simp only
    unfold swG; rw [show swV ⟨25, D, S, O, imm, n, 0, a⟩ s (ldN m (w32 ((s.R S : Int) + imm)) 4) = w32 (((ldN m (w32 ((s.R S : Int) + imm)) 4) : Int) + s.R D) from by simp [swV], show swT ⟨25, D, S, O, imm, n, 0, a⟩ s (s.setPC (w32 ((s.pc : Int) + n))) (ldN m (w32 ((s.R S : Int) + imm)) 4) = ((s.setPC (w32 ((s.pc : Int) + n))).setR D (ldN m (w32 ((s.R S : Int) + imm)) 4)).setF (Fl.flagsF 1 (ldN m (w32 ((s.R S : Int) + imm)) 4) (s.R D) s.f).toNat from by simp [swT]]
    have hv : (wkX 1 (ldN m (w32 ((s.R S : Int) + imm)) 4) (s.R D) s.f).toNat = w32 (((ldN m (w32 ((s.R S : Int) + imm)) 4) : Int) + s.R D) := by unfold w32; simp [wkX]
    have h := do25 U X m (s.setPC (w32 ((s.pc : Int) + n))) D S O imm w H ht hi hS hD hm hb
    rw [show (s.setPC (w32 ((s.pc : Int) + n))).R D = s.R D from rfl, show (s.setPC (w32 ((s.pc : Int) + n))).f = s.f from rfl, show (s.setPC (w32 ((s.pc : Int) + n))).R S = s.R S from rfl, hv] at h
    exact DoOk.st h
theorem z26 (U X : Nat) (m : MS) (s : GS) (D S : Nat) (O : Int) (imm n : Nat) (a : Int) (w : World) (hm : m.Ok) (hs : s.Ok) (hi : imm < 4294967296) (hD : D < 8) (hS : S < 8) (H : TuW w w U X m (s.setPC (w32 ((s.pc : Int) + n)))) : DoOk U X m (s.setPC (w32 ((s.pc : Int) + n))) (stepH m s ⟨26, D, S, O, imm, n, 0, a⟩) (insA 26 D S O imm) w := by
  have ht := setPC_ok hs ((s.pc : Int) + n)
  have e : stepH m s ⟨26, D, S, O, imm, n, 0, a⟩ = match badN m 1 (w32 ((s.R S : Int) + imm)) 4 with | some x => ⟨s, 5, x, m⟩ | none => swG m ⟨26, D, S, O, imm, n, 0, a⟩ s (s.setPC (w32 ((s.pc : Int) + n))) (w32 ((s.R S : Int) + imm)) (ldN m (w32 ((s.R S : Int) + imm)) 4) := by
    simp [stepH, memF, ldW, stW]
    cases badN m 1 (w32 ((s.R S : Int) + imm)) 4 <;> rfl
  rw [e]
  cases hb : badN m 1 (w32 ((s.R S : Int) + imm)) 4 with
  | some x => exact DoOk.of (do26b U X m (s.setPC (w32 ((s.pc : Int) + n))) D S O imm w H ht hi hS hD hm x hb) rfl rfl rfl (fun hh => by simp at hh)
  | none =>
    simp only
    by_cases hq : (ldN m (w32 ((s.R S : Int) + imm)) 4) = s.R 0
    · have e1 : swV ⟨26, D, S, O, imm, n, 0, a⟩ s (ldN m (w32 ((s.R S : Int) + imm)) 4) = s.R D := by unfold swV; simp [hq]
      have e2 : swT ⟨26, D, S, O, imm, n, 0, a⟩ s (s.setPC (w32 ((s.pc : Int) + n))) (ldN m (w32 ((s.R S : Int) + imm)) 4) = (s.setPC (w32 ((s.pc : Int) + n))).setF (Fl.flagsF 3 (s.R 0) (ldN m (w32 ((s.R S : Int) + imm)) 4) s.f).toNat := by unfold swT; simp [hq]
      unfold swG; rw [e1, e2]
      exact DoOk.st (do26e U X m (s.setPC (w32 ((s.pc : Int) + n))) D S O imm w H ht hi hS hD hm hb hq)
    · have e1 : swV ⟨26, D, S, O, imm, n, 0, a⟩ s (ldN m (w32 ((s.R S : Int) + imm)) 4) = (ldN m (w32 ((s.R S : Int) + imm)) 4) := by unfold swV; simp [hq]
      have e2 : swT ⟨26, D, S, O, imm, n, 0, a⟩ s (s.setPC (w32 ((s.pc : Int) + n))) (ldN m (w32 ((s.R S : Int) + imm)) 4) = ((s.setPC (w32 ((s.pc : Int) + n))).setF (Fl.flagsF 3 (s.R 0) (ldN m (w32 ((s.R S : Int) + imm)) 4) s.f).toNat).setR 0 (ldN m (w32 ((s.R S : Int) + imm)) 4) := by unfold swT; simp [hq]
      unfold swG; rw [e1, e2]
      exact DoOk.st (do26n U X m (s.setPC (w32 ((s.pc : Int) + n))) D S O imm w H ht hi hS hD hm hb hq)
theorem do_any (U X : Nat) (m : MS) (s : GS) (i : IR) (w : World) (hm : m.Ok) (hs : s.Ok) (hi : InsOk i) (hk : i.k = 0) (H : TuW w w U X m (s.setPC (w32 ((s.pc : Int) + i.n)))) :
    DoOk U X m (s.setPC (w32 ((s.pc : Int) + i.n))) (stepH m s i) (insA i.op i.D i.S i.O i.imm) w := by
  obtain ⟨op, D, S, O, imm, n, k, a⟩ := i
  obtain ⟨h0, h1, hD, hS, him, -, hO0, hO1, hld, hst⟩ := hi
  simp only at hk h0 h1 hD hS him hO0 hO1 hld hst H ⊢
  subst hk
  have hD' : D < 8 := by omega
  have hS' : S < 8 := by omega
  have hO : O ≤ 9223372036854775807 := by omega
  have hc : op = 0 ∨ op = 1 ∨ op = 2 ∨ op = 3 ∨ op = 4 ∨ op = 5 ∨ op = 6 ∨ op = 7 ∨ op = 8 ∨ op = 9 ∨ op = 10 ∨ op = 11 ∨ op = 12 ∨ op = 13 ∨ op = 14 ∨ op = 15 ∨ op = 16 ∨ op = 17 ∨ op = 18 ∨ op = 19 ∨ op = 20 ∨ op = 21 ∨ op = 22 ∨ op = 23 ∨ op = 24 ∨ op = 25 ∨ op = 26 ∨ op = 27 ∨ op = 28 ∨ op = 29 ∨ op = 30 ∨ op = 31 := by omega
  rcases hc with rfl | rfl | rfl | rfl | rfl | rfl | rfl | rfl | rfl | rfl | rfl | rfl | rfl | rfl | rfl | rfl | rfl | rfl | rfl | rfl | rfl | rfl | rfl | rfl | rfl | rfl | rfl | rfl | rfl | rfl | rfl | rfl
  · exact z0 U X m s D S O imm n a w hm hs him hD' hS' H
  · exact z1 U X m s D S O imm n a w hm hs him hD' hS' H
  · exact z2 U X m s D S O imm n a w hm hs him hD' hS' H
  · exact z3 U X m s D S O imm n a w hm hs him hD' hS' H
  · exact z4 U X m s D S O imm n a w hm hs him hD' hS' H
  · exact z5 U X m s D S O imm n a w hm hs him hD' hS' H
  · exact z6 U X m s D S O imm n a w hm hs him hD' hS' H
  · exact z7 U X m s D S O imm n a w hm hs him hD' hS' H
  · exact z8 U X m s D S O imm n a w hm hs him hD' hS' H
  · exact z9 U X m s D S O imm n a w hm hs him hD' hS' H
  · exact z10 U X m s D S O imm n a w hm hs him hD' hS' H
  · exact z11 U X m s D S O imm n a w hm hs him hD' hS' H
  · exact z12 U X m s D S O imm n a w hm hs him hD' hS' H hO
  · exact z13 U X m s D S O imm n a w hm hs him hD' hS' H hO
  · exact z14 U X m s D S O imm n a w hm hs him hD' hS' H
  · exact z15 U X m s D S O imm n a w hm hs him hD' hS' H
  · exact z16 U X m s D S O imm n a w hm hs him hD' hS' H
  · exact z17 U X m s D S O imm n a w hm hs him hD' hS' H
  · exact z18 U X m s D S O imm n a w hm hs him hD' hS' H
  · exact z19 U X m s D S O imm n a w hm hs him hD' hS' H
  · exact z20 U X m s D S O imm n a w hm hs him hD' hS' H
  · exact z21 U X m s D S O imm n a w hm hs him hD' hS' H hO
  · exact z22 U X m s D S O imm n a w hm hs him hD' hS' H
  · exact z23 U X m s D S O imm n a w hm hs him hD' hS' H
  · exact z24 U X m s D S O imm n a w hm hs him hD' hS' H
  · exact z25 U X m s D S O imm n a w hm hs him hD' hS' H
  · exact z26 U X m s D S O imm n a w hm hs him hD' hS' H
  · exact z27 U X m s D S O imm n a w hm hs him hD' hS' H
  · exact z28 U X m s D S O imm n a w hm hs him hD' hS' H
  · exact z29 U X m s D S O imm n a w hm hs him hD' hS' H
  · have := hld rfl
    rcases (by omega : O = 0 ∨ O = 1 ∨ O = 2 ∨ O = 3 ∨ O = 4) with rfl | rfl | rfl | rfl | rfl
    · exact z30o0 U X m s D S 0 imm n a w hm hs him hD' hS' H
    · exact z30o1 U X m s D S 0 imm n a w hm hs him hD' hS' H
    · exact z30o2 U X m s D S 0 imm n a w hm hs him hD' hS' H
    · exact z30o3 U X m s D S 0 imm n a w hm hs him hD' hS' H
    · exact z30o4 U X m s D S 0 imm n a w hm hs him hD' hS' H
  · have := hst rfl
    rcases (by omega : O = 0 ∨ O = 1 ∨ O = 2) with rfl | rfl | rfl
    · exact z31o0 U X m s D S 0 imm n a w hm hs him hD' hS' H
    · exact z31o1 U X m s D S 0 imm n a w hm hs him hD' hS' H
    · exact z31o2 U X m s D S 0 imm n a w hm hs him hD' hS' H
end Go.Proofs.Ytkgbjpdoigdjnaa

namespace Go.Proofs.Ytkgbjpdoigdjnaa
open Go.RowKit
set_option maxRecDepth 100000
set_option linter.unusedVariables false
set_option linter.unusedSimpArgs false

/-! ## The program's Step -/
structure PSt (w W : World) (X : Nat) (m : MS) (s : GS) : Prop where
  pm : PM W X m
  chg : Chg [X] w W
  b0 : W.heap[w.heap.size]? = some (gsB s)
  b1 : W.heap[w.heap.size + 1]? = some (gsB gs0)
  b2 : W.heap[w.heap.size + 1 + 1]? = some (stopB 0 0)
  hX : X < w.heap.size
theorem pst_start {w : World} {X : Nat} {m : MS} {s : GS} (h : PM w X m) : PSt w (stW0 w s) X m s := by
  have hB : Below w.heap.size w (stW0 w s) := (((Below.refl _ _).alloc (Nat.le_refl _) _).alloc (by simp) _).alloc (by simp; omega) _
  refine ⟨h.below hB h.lt, Chg.of_below _ hB, ?_, ?_, ?_, h.lt⟩
  · exact alloc_at (w' := w) (alloc_at (w' := w) (last_at _ _ _ rfl))
  · exact alloc_at (w' := w) (last_at _ _ _ (by simp))
  · exact last_at _ _ _ (by simp)
theorem PSt.below {w W W' : World} {X : Nat} {m : MS} {s : GS} (h : PSt w W X m s) (hb : Below W.heap.size W W') : PSt w W' X m s :=
  ⟨h.pm.below hb h.pm.lt, h.chg.trans (Chg.of_below _ hb), (hb.block _ (lt_of_block h.b0)).trans h.b0, (hb.block _ (lt_of_block h.b1)).trans h.b1, (hb.block _ (lt_of_block h.b2)).trans h.b2, h.hX⟩
theorem PSt.alloc {w W : World} {X : Nat} {m : MS} {s : GS} (h : PSt w W X m s) (o : Obj) : PSt w (W.alloc o) X m s := h.below ((Below.refl W.heap.size W).alloc (Nat.le_refl _) o)
theorem PSt.drew {w W : World} {X : Nat} {m : MS} {s : GS} (h : PSt w W X m s) : PSt w W.drew X m s := ⟨h.pm.drew, h.chg.drew, h.b0, h.b1, h.b2, h.hX⟩
/-- Behind the turn. -/
theorem PSt.turn {w W w2 : World} {U X : Nat} {m m' : MS} {s t' : GS} (h : PSt w W X m s) (k : TuW W w2 U X m' t') (hU : w.heap.size + 1 + 1 < U) : PSt w w2 X m' s := by
  have hX := h.hX
  have l0 := lt_of_block h.b0
  have l1 := lt_of_block h.b1
  have l2 := lt_of_block h.b2
  have hc := k.chg
  refine ⟨k.pm, ⟨hc.os.trans h.chg.os, hc.tape.trans h.chg.tape, hc.output.trans h.chg.output, Nat.le_trans h.chg.size hc.size, fun b hb hs => ?_⟩, (hc.block _ l0 (by simp; omega)).trans h.b0, (hc.block _ l1 (by simp; omega)).trans h.b1, (hc.block _ l2 (by simp; omega)).trans h.b2, hX⟩
  have hbX : b ≠ X := fun e => hs (by simp [e])
  exact (hc.block b (Nat.lt_of_lt_of_le hb h.chg.size) (by simp; omega)).trans (h.chg.block b hb hs)
theorem PSt.new {w W : World} {X q : Nat} {m : MS} {s : GS} (h : PSt w W X m s) (hq : w.heap.size + 1 + 1 < q) (o : Nat) (v : Value) : PSt w (W.setCell ⟨q, o, none⟩ v) X m s := by
  have hX := h.hX
  have hO := (Only.refl q W).setCell o v
  exact ⟨h.pm.of_block (hO.block X (by omega)), h.chg.new (by omega) hO, (hO.block _ (by omega)).trans h.b0, (hO.block _ (by omega)).trans h.b1, (hO.block _ (by omega)).trans h.b2, hX⟩
/-- What is left when the answer is laid. -/
structure PFin (w W : World) (X : Nat) (m : MS) : Prop where
  pm : PM W X m
  chg : Chg [X] w W
theorem PSt.fin {w W : World} {X : Nat} {m : MS} {s : GS} (h : PSt w W X m s) : PFin w W X m := ⟨h.pm, h.chg⟩
theorem PFin.new {w W : World} {X q : Nat} {m : MS} (hX : X < w.heap.size) (h : PFin w W X m) (hq : w.heap.size ≤ q) (o : Nat) (v : Value) : PFin w (W.setCell ⟨q, o, none⟩ v) X m :=
  ⟨h.pm.of_block (((Only.refl q W).setCell o v).block X (by omega)), h.chg.new hq ((Only.refl q W).setCell o v)⟩
theorem PFin.drew {w W : World} {X : Nat} {m : MS} (h : PFin w W X m) : PFin w W.drew X m := ⟨h.pm.drew, h.chg.drew⟩
theorem PFin.alloc {w W : World} {X : Nat} {m : MS} (h : PFin w W X m) (o : Obj) : PFin w (W.alloc o) X m := ⟨h.pm.alloc o, h.chg.trans (Chg.of_below _ ((Below.refl W.heap.size W).alloc (Nat.le_refl _) o))⟩

set_option maxHeartbeats 2000000 in
theorem pstep_bad (X : Nat) (m : MS) (s0 s : GS) (i : IR) (w : World) (hpm : PM w X m) (hs0 : s0.Ok) (hs : s0.setF (s0.f % 16) = s)
    (hins : ∀ w1, PM w1 X m → Calls Try.prog 95 #[.pointer (some ⟨X, 0, none⟩), .int .u32 s.pc] w1 fun e w' => e = .returned (pinsV i) ∧ Below w1.heap.size w1 w') (hk : ¬ i.k = 0) :
    Calls Try.prog 36 #[.pointer (some ⟨X, 0, none⟩), gsV s0] w fun e w' => e = .returned (.tuple #[gsV s, .agg #[.int .i64 i.k, .int .u32 i.a]]) ∧ PFin w w' X m := by
  obtain ⟨op, d, e, O, im, n, ik, ia⟩ := i
  have h15 := and15 s0.f hs0.f
  have HA : Hid (PSt w (stW0 w (s0.setF (s0.f % 16))) X m (s0.setF (s0.f % 16))) := pst_start hpm
  have HX : Hid _ := hpm.lt
  have HF16 : Hid ((s0.f : Int) % 16 = ((s0.f % 16 : Nat) : Int)) := (Int.natCast_emod s0.f 16).symm
  have HI : Hid _ := hins
  have HS : Hid (s0.setF (s0.f % 16) = s) := hs
  have hk2 : (ik != 0) = true := by simpa using hk
  have hk' : ¬ ik = 0 := hk
  have hk3 : (ik == 0) = false := by simpa using hk
  clear hk hpm hins hs hs0
  go_enter Try.func36, Try.ntmps36
  go_upto_region 2 with fail
  rw [HF16.out]
  change Code.wp _ _ _ _ (stW0 w (s0.setF (s0.f % 16)))
  have HA' := HA.out
  rw [HS.out] at HA' ⊢
  clear HA
  have HA : Hid _ := HA'
  clear HA'
  generalize stW0 w s = W at HA ⊢
  have c8 := gs_pc HA.out.b0
  go_wp2_with (go_at_call 95; refine (HI.out _ HA.out.pm).mono ?_; rintro e1 w1 ⟨rfl, hb1⟩; have HA1 : Hid (PSt w w1 X m s) := HA.out.below hb1; clear hb1; obtain ⟨x0, x1, x2, x3, x4, x5, x6, x7, x8, x9⟩ := gs_all HA1.out.b0; have l0 := lt_of_block HA1.out.b0; have l1 := lt_of_block HA1.out.b1; have l2 := lt_of_block HA1.out.b2; obtain ⟨z0, z1, z2, z3, z4, z5, z6, z7, z8, z9⟩ := gs_all HA1.out.b1; have zf := gs_fr HA1.out.b1; obtain ⟨p0, p1, pf0, pf1⟩ := stop_cells HA1.out.b2)
  go_region
  all_goals
    go_wp2
    exact bodyPost_ret (v := .tuple #[gsV s, .agg #[.int .i64 ik, .int .u32 ia]]) (by simp [results, Try.results36, go_sem, x0, x1, x2, x3, x4, x5, x6, x7, x8, x9, z0, z1, z2, z3, z4, z5, z6, z7, z8, z9, p0, p1, l0, l1, l2]) rfl ⟨rfl, by
      have hB := HA1.out.fin
      have hX := HX.out
      repeat first
        | with_reducible exact hB
        | with_reducible refine PFin.drew ?_
        | with_reducible refine PFin.new hX ?_ (by omega) _ _
        | with_reducible refine PFin.alloc ?_ _⟩
end Go.Proofs.Ytkgbjpdoigdjnaa

namespace Go.Proofs.Ytkgbjpdoigdjnaa
open Go.RowKit
set_option maxRecDepth 100000
set_option linter.unusedVariables false
set_option linter.unusedSimpArgs false

theorem tu_all {w : World} {U X : Nat} {s : GS} (h : w.heap[U]? = some (tuB X s)) : w.cell? ⟨U, 1, none⟩ = some (.int .u32 (s.R 0)) ∧ w.cell? ⟨U, 2, none⟩ = some (.int .u32 (s.R 1)) ∧ w.cell? ⟨U, 3, none⟩ = some (.int .u32 (s.R 2)) ∧ w.cell? ⟨U, 4, none⟩ = some (.int .u32 (s.R 3)) ∧ w.cell? ⟨U, 5, none⟩ = some (.int .u32 (s.R 4)) ∧ w.cell? ⟨U, 6, none⟩ = some (.int .u32 (s.R 5)) ∧ w.cell? ⟨U, 7, none⟩ = some (.int .u32 (s.R 6)) ∧ w.cell? ⟨U, 8, none⟩ = some (.int .u32 (s.R 7)) ∧ w.cell? ⟨U, 9, none⟩ = some (.int .u32 s.pc) ∧ w.cell? ⟨U, 10, none⟩ = some (.int .u32 s.f) :=
  ⟨tu_reg h 0 (by omega), tu_reg h 1 (by omega), tu_reg h 2 (by omega), tu_reg h 3 (by omega), tu_reg h 4 (by omega), tu_reg h 5 (by omega), tu_reg h 6 (by omega), tu_reg h 7 (by omega), tu_pc h, tu_f h⟩
abbrev wTurn (w1 : World) (X : Nat) (op : Int) (d e : Nat) (O : Int) (im : Nat) (ia : Int) (t : GS) : World := ((w1.alloc (insO op d e O im)).alloc (stopB 0 ia)).alloc (tuB X t)
theorem turn_start {w1 : World} {X : Nat} {m : MS} (h : PM w1 X m) (op : Int) (d e : Nat) (O : Int) (im : Nat) (ia : Int) (t : GS) : TuW (wTurn w1 X op d e O im ia t) (wTurn w1 X op d e O im ia t) (w1.heap.size + 1 + 1) X m t := by
  have hl := heap_alloc_last ((w1.alloc (insO op d e O im)).alloc (stopB 0 ia)) (tuB X t)
  simp only [World.size_alloc] at hl
  exact TuW.start (((h.alloc _).alloc _).alloc _) hl (by have := h.lt; omega)
theorem turn_stop {w1 w2 : World} {X : Nat} {m' : MS} {op : Int} {d e : Nat} {O : Int} {im : Nat} {ia : Int} {t t' : GS} (hX : X < w1.heap.size) (h : TuW (wTurn w1 X op d e O im ia t) w2 (w1.heap.size + 1 + 1) X m' t') : w2.heap[w1.heap.size + 1]? = some (stopB 0 ia) := by
  have hl := heap_alloc_last (w1.alloc (insO op d e O im)) (stopB 0 ia)
  simp only [World.size_alloc] at hl
  have hb : (wTurn w1 X op d e O im ia t).heap[w1.heap.size + 1]? = some (stopB 0 ia) := (((Below.refl ((w1.alloc (insO op d e O im)).alloc (stopB 0 ia)).heap.size _).alloc (Nat.le_refl _) (tuB X t)).block _ (by simp)).trans hl
  exact (h.chg.block _ (lt_of_block hb) (by simp; omega)).trans hb
set_option maxHeartbeats 2000000 in
theorem pstep_go (X : Nat) (m m' : MS) (s0 s t' : GS) (op : Int) (d e : Nat) (O : Int) (im n nx : Nat) (ia oa : Int) (w : World) (hpm : PM w X m) (hs0 : s0.Ok) (hs : s0.setF (s0.f % 16) = s) (hnx : ((s.pc : Int) + n) % 4294967296 = nx) (hn9 : n ≤ 9)
    (hins : ∀ w1, PM w1 X m → Calls Try.prog 95 #[.pointer (some ⟨X, 0, none⟩), .int .u32 s.pc] w1 fun e' w' => e' = .returned (pinsV ⟨op, d, e, O, im, n, 0, ia⟩) ∧ Below w1.heap.size w1 w')
    (hdo : ∀ (U : Nat) (W : World), TuW W W U X m (s.setPC nx) → Calls Try.prog 96 #[.pointer (some ⟨U, 0, none⟩), insA op d e O im] W fun e' w' => e' = .returned (.agg #[.int .i64 0, .int .u32 oa]) ∧ ∃ t1, TuW W w' U X m' t1 ∧ t1 = t') :
    Calls Try.prog 36 #[.pointer (some ⟨X, 0, none⟩), gsV s0] w fun e' w' => e' = .returned (.tuple #[gsV t', .agg #[.int .i64 0, .int .u32 oa]]) ∧ PFin w w' X m' := by
  have n9 : (n : Int) ≤ 9 := by omega
  have n90 : (0 : Int) ≤ (n : Int) := by omega
  have h15 := and15 s0.f hs0.f
  have HA : Hid (PSt w (stW0 w (s0.setF (s0.f % 16))) X m (s0.setF (s0.f % 16))) := pst_start hpm
  have HX : Hid _ := hpm.lt
  have HF16 : Hid ((s0.f : Int) % 16 = ((s0.f % 16 : Nat) : Int)) := (Int.natCast_emod s0.f 16).symm
  have HI : Hid _ := hins
  have HD : Hid _ := hdo
  have HS : Hid (s0.setF (s0.f % 16) = s) := hs
  have hpc : s.pc < 4294967296 := by rw [← hs]; exact hs0.p
  clear hpm hins hs hs0 hdo
  go_enter Try.func36, Try.ntmps36
  go_upto_region 2 with fail
  rw [HF16.out]
  change Code.wp _ _ _ _ (stW0 w (s0.setF (s0.f % 16)))
  have HA' := HA.out
  rw [HS.out] at HA' ⊢
  clear HA
  have HA : Hid _ := HA'
  clear HA'
  generalize stW0 w s = W at HA ⊢
  have c8 := gs_pc HA.out.b0
  go_wp2_with (first
    | (go_at_call 95; refine (HI.out _ HA.out.pm).mono ?_; rintro e1 w1 ⟨rfl, hb1⟩; have HA1 : Hid (PSt w w1 X m s) := HA.out.below hb1; clear hb1; obtain ⟨x0, x1, x2, x3, x4, x5, x6, x7, x8, x9⟩ := gs_all HA1.out.b0; have l0 := lt_of_block HA1.out.b0; have l1 := lt_of_block HA1.out.b1; have l2 := lt_of_block HA1.out.b2; have l01 := Nat.lt_succ_of_lt l0; have l02 := Nat.lt_succ_of_lt l01)
    | (go_at_call 96; refine (HD.out (w1.heap.size + 1 + 1) (wTurn w1 X op d e O im ia (s.setPC nx)) (turn_start HA1.out.pm op d e O im ia (s.setPC nx))).mono ?_; rintro e2 w2 ⟨rfl, t1, hT, rfl⟩; have HT2 : Hid _ := hT; have HQ : Hid _ := turn_stop HA1.out.pm.lt hT; have HA2 : Hid (PSt w w2 X m' s) := (((HA1.out.alloc _).alloc _).alloc _).turn hT (by omega); clear hT; obtain ⟨q0, q1, qf0, qf1⟩ := stop_cells HQ.out; obtain ⟨y0, y1, y2, y3, y4, y5, y6, y7, y8, y9⟩ := tu_all HT2.out.bU; obtain ⟨v0, v1, v2, v3, v4, v5, v6, v7, v8, v9⟩ := gs_all HA2.out.b0; obtain ⟨z0, z1, z2, z3, z4, z5, z6, z7, z8, z9⟩ := gs_all HA2.out.b1; have zf := gs_fr HA2.out.b1; obtain ⟨p0, p1, pf0, pf1⟩ := stop_cells HA2.out.b2; have m0 := lt_of_block HA2.out.b0; have m1 := lt_of_block HA2.out.b1; have m2 := lt_of_block HA2.out.b2; have m3 := lt_of_block HQ.out; have m4 := lt_of_block HT2.out.bU))
  go_region
  all_goals
    go_wp2
    exact bodyPost_ret (v := .tuple #[gsV t1, .agg #[.int .i64 0, .int .u32 oa]]) (by simp [results, Try.results36, go_sem, y0, y1, y2, y3, y4, y5, y6, y7, y8, y9, v0, v1, v2, v3, v4, v5, v6, v7, v8, v9, z0, z1, z2, z3, z4, z5, z6, z7, z8, z9, p0, p1, q0, q1, m0, m1, m2, m3, m4, l0, l1, l2]) rfl ⟨rfl, by
      have hB := HA2.out.fin
      have hX := HX.out
      repeat first
        | with_reducible exact hB
        | with_reducible refine PFin.drew ?_
        | with_reducible refine PFin.new hX ?_ (by omega) _ _
        | with_reducible refine PFin.alloc ?_ _⟩
end Go.Proofs.Ytkgbjpdoigdjnaa

namespace Go.Proofs.Ytkgbjpdoigdjnaa
open Go.RowKit
set_option maxRecDepth 100000
set_option linter.unusedVariables false
set_option linter.unusedSimpArgs false

set_option maxHeartbeats 2000000 in
theorem pstep_sys (X : Nat) (m m' : MS) (s0 s t' : GS) (op : Int) (d e : Nat) (O : Int) (im n nx : Nat) (ia oa : Int) (w : World) (hpm : PM w X m) (hs0 : s0.Ok) (hs : s0.setF (s0.f % 16) = s) (hnx : ((s.pc : Int) + n) % 4294967296 = nx) (hn9 : n ≤ 9)
    (hins : ∀ w1, PM w1 X m → Calls Try.prog 95 #[.pointer (some ⟨X, 0, none⟩), .int .u32 s.pc] w1 fun e' w' => e' = .returned (pinsV ⟨op, d, e, O, im, n, 0, ia⟩) ∧ Below w1.heap.size w1 w')
    (hdo : ∀ (U : Nat) (W : World), TuW W W U X m (s.setPC nx) → Calls Try.prog 96 #[.pointer (some ⟨U, 0, none⟩), insA op d e O im] W fun e' w' => e' = .returned (.agg #[.int .i64 1, .int .u32 oa]) ∧ ∃ t1, TuW W w' U X m' t1 ∧ t1 = t') :
    Calls Try.prog 36 #[.pointer (some ⟨X, 0, none⟩), gsV s0] w fun e' w' => e' = .returned (.tuple #[gsV t', .agg #[.int .i64 1, .int .u32 oa]]) ∧ PFin w w' X m' := by
  have n9 : (n : Int) ≤ 9 := by omega
  have n90 : (0 : Int) ≤ (n : Int) := by omega
  have h15 := and15 s0.f hs0.f
  have HA : Hid (PSt w (stW0 w (s0.setF (s0.f % 16))) X m (s0.setF (s0.f % 16))) := pst_start hpm
  have HX : Hid _ := hpm.lt
  have HF16 : Hid ((s0.f : Int) % 16 = ((s0.f % 16 : Nat) : Int)) := (Int.natCast_emod s0.f 16).symm
  have HI : Hid _ := hins
  have HD : Hid _ := hdo
  have HS : Hid (s0.setF (s0.f % 16) = s) := hs
  have hpc : s.pc < 4294967296 := by rw [← hs]; exact hs0.p
  clear hpm hins hs hs0 hdo
  go_enter Try.func36, Try.ntmps36
  go_upto_region 2 with fail
  rw [HF16.out]
  change Code.wp _ _ _ _ (stW0 w (s0.setF (s0.f % 16)))
  have HA' := HA.out
  rw [HS.out] at HA' ⊢
  clear HA
  have HA : Hid _ := HA'
  clear HA'
  generalize stW0 w s = W at HA ⊢
  have c8 := gs_pc HA.out.b0
  go_wp2_with (first
    | (go_at_call 95; refine (HI.out _ HA.out.pm).mono ?_; rintro e1 w1 ⟨rfl, hb1⟩; have HA1 : Hid (PSt w w1 X m s) := HA.out.below hb1; clear hb1; obtain ⟨x0, x1, x2, x3, x4, x5, x6, x7, x8, x9⟩ := gs_all HA1.out.b0; have l0 := lt_of_block HA1.out.b0; have l1 := lt_of_block HA1.out.b1; have l2 := lt_of_block HA1.out.b2; have l01 := Nat.lt_succ_of_lt l0; have l02 := Nat.lt_succ_of_lt l01)
    | (go_at_call 96; refine (HD.out (w1.heap.size + 1 + 1) (wTurn w1 X op d e O im ia (s.setPC nx)) (turn_start HA1.out.pm op d e O im ia (s.setPC nx))).mono ?_; rintro e2 w2 ⟨rfl, t1, hT, rfl⟩; have HT2 : Hid _ := hT; have HQ : Hid _ := turn_stop HA1.out.pm.lt hT; have HA2 : Hid (PSt w w2 X m' s) := (((HA1.out.alloc _).alloc _).alloc _).turn hT (by omega); clear hT; obtain ⟨q0, q1, qf0, qf1⟩ := stop_cells HQ.out; obtain ⟨y0, y1, y2, y3, y4, y5, y6, y7, y8, y9⟩ := tu_all HT2.out.bU; obtain ⟨v0, v1, v2, v3, v4, v5, v6, v7, v8, v9⟩ := gs_all HA2.out.b0; obtain ⟨z0, z1, z2, z3, z4, z5, z6, z7, z8, z9⟩ := gs_all HA2.out.b1; have zf := gs_fr HA2.out.b1; obtain ⟨p0, p1, pf0, pf1⟩ := stop_cells HA2.out.b2; have m0 := lt_of_block HA2.out.b0; have m1 := lt_of_block HA2.out.b1; have m2 := lt_of_block HA2.out.b2; have m3 := lt_of_block HQ.out; have m4 := lt_of_block HT2.out.bU))
  go_region
  all_goals
    go_wp2
    exact bodyPost_ret (v := .tuple #[gsV t1, .agg #[.int .i64 1, .int .u32 oa]]) (by simp [results, Try.results36, go_sem, y0, y1, y2, y3, y4, y5, y6, y7, y8, y9, v0, v1, v2, v3, v4, v5, v6, v7, v8, v9, z0, z1, z2, z3, z4, z5, z6, z7, z8, z9, p0, p1, q0, q1, m0, m1, m2, m3, m4, l0, l1, l2]) rfl ⟨rfl, by
      have hB := HA2.out.fin
      have hX := HX.out
      repeat first
        | with_reducible exact hB
        | with_reducible refine PFin.drew ?_
        | with_reducible refine PFin.new hX ?_ (by omega) _ _
        | with_reducible refine PFin.alloc ?_ _⟩
end Go.Proofs.Ytkgbjpdoigdjnaa

namespace Go.Proofs.Ytkgbjpdoigdjnaa
open Go.RowKit
set_option maxRecDepth 100000
set_option linter.unusedVariables false
set_option linter.unusedSimpArgs false

set_option maxHeartbeats 2000000 in
theorem pstep_stop (X : Nat) (m m' : MS) (s0 s t' : GS) (op : Int) (d e : Nat) (O : Int) (im n nx : Nat) (ia oa ok : Int) (w : World) (hpm : PM w X m) (hs0 : s0.Ok) (hs : s0.setF (s0.f % 16) = s) (hnx : ((s.pc : Int) + n) % 4294967296 = nx) (hn9 : n ≤ 9)
    (hins : ∀ w1, PM w1 X m → Calls Try.prog 95 #[.pointer (some ⟨X, 0, none⟩), .int .u32 s.pc] w1 fun e' w' => e' = .returned (pinsV ⟨op, d, e, O, im, n, 0, ia⟩) ∧ Below w1.heap.size w1 w')
    (hdo : ∀ (U : Nat) (W : World), TuW W W U X m (s.setPC nx) → Calls Try.prog 96 #[.pointer (some ⟨U, 0, none⟩), insA op d e O im] W fun e' w' => e' = .returned (.agg #[.int .i64 ok, .int .u32 oa]) ∧ ∃ t1, TuW W w' U X m' t1) (hk0 : ¬ ok = 0) (hk1 : ¬ ok = 1) :
    Calls Try.prog 36 #[.pointer (some ⟨X, 0, none⟩), gsV s0] w fun e' w' => e' = .returned (.tuple #[gsV s, .agg #[.int .i64 ok, .int .u32 oa]]) ∧ PFin w w' X m' := by
  have n9 : (n : Int) ≤ 9 := by omega
  have n90 : (0 : Int) ≤ (n : Int) := by omega
  have h15 := and15 s0.f hs0.f
  have HA : Hid (PSt w (stW0 w (s0.setF (s0.f % 16))) X m (s0.setF (s0.f % 16))) := pst_start hpm
  have HX : Hid _ := hpm.lt
  have HF16 : Hid ((s0.f : Int) % 16 = ((s0.f % 16 : Nat) : Int)) := (Int.natCast_emod s0.f 16).symm
  have HI : Hid _ := hins
  have HD : Hid _ := hdo
  have HS : Hid (s0.setF (s0.f % 16) = s) := hs
  have hpc : s.pc < 4294967296 := by rw [← hs]; exact hs0.p
  have k0 : (ok != 0) = true := by simpa using hk0
  have k1 : (ok != 1) = true := by simpa using hk1
  have k2 : (ok == 0) = false := by simpa using hk0
  have k3 : (ok == 1) = false := by simpa using hk1
  clear hpm hins hs hs0 hdo
  go_enter Try.func36, Try.ntmps36
  go_upto_region 2 with fail
  rw [HF16.out]
  change Code.wp _ _ _ _ (stW0 w (s0.setF (s0.f % 16)))
  have HA' := HA.out
  rw [HS.out] at HA' ⊢
  clear HA
  have HA : Hid _ := HA'
  clear HA'
  generalize stW0 w s = W at HA ⊢
  have c8 := gs_pc HA.out.b0
  go_wp2_with (first
    | (go_at_call 95; refine (HI.out _ HA.out.pm).mono ?_; rintro e1 w1 ⟨rfl, hb1⟩; have HA1 : Hid (PSt w w1 X m s) := HA.out.below hb1; clear hb1; obtain ⟨x0, x1, x2, x3, x4, x5, x6, x7, x8, x9⟩ := gs_all HA1.out.b0; have l0 := lt_of_block HA1.out.b0; have l1 := lt_of_block HA1.out.b1; have l2 := lt_of_block HA1.out.b2; have l01 := Nat.lt_succ_of_lt l0; have l02 := Nat.lt_succ_of_lt l01)
    | (go_at_call 96; refine (HD.out (w1.heap.size + 1 + 1) (wTurn w1 X op d e O im ia (s.setPC nx)) (turn_start HA1.out.pm op d e O im ia (s.setPC nx))).mono ?_; rintro e2 w2 ⟨rfl, t1, hT⟩; have HT2 : Hid _ := hT; have HQ : Hid _ := turn_stop HA1.out.pm.lt hT; have HA2 : Hid (PSt w w2 X m' s) := (((HA1.out.alloc _).alloc _).alloc _).turn hT (by omega); clear hT; obtain ⟨q0, q1, qf0, qf1⟩ := stop_cells HQ.out; obtain ⟨y0, y1, y2, y3, y4, y5, y6, y7, y8, y9⟩ := tu_all HT2.out.bU; obtain ⟨v0, v1, v2, v3, v4, v5, v6, v7, v8, v9⟩ := gs_all HA2.out.b0; obtain ⟨z0, z1, z2, z3, z4, z5, z6, z7, z8, z9⟩ := gs_all HA2.out.b1; have zf := gs_fr HA2.out.b1; obtain ⟨p0, p1, pf0, pf1⟩ := stop_cells HA2.out.b2; have m0 := lt_of_block HA2.out.b0; have m1 := lt_of_block HA2.out.b1; have m2 := lt_of_block HA2.out.b2; have m3 := lt_of_block HQ.out; have m4 := lt_of_block HT2.out.bU))
  go_region
  all_goals
    go_wp2
    exact bodyPost_ret (v := .tuple #[gsV s, .agg #[.int .i64 ok, .int .u32 oa]]) (by simp [results, Try.results36, go_sem, y0, y1, y2, y3, y4, y5, y6, y7, y8, y9, v0, v1, v2, v3, v4, v5, v6, v7, v8, v9, z0, z1, z2, z3, z4, z5, z6, z7, z8, z9, p0, p1, q0, q1, m0, m1, m2, m3, m4, l0, l1, l2]) rfl ⟨rfl, by
      have hB := HA2.out.fin
      have hX := HX.out
      repeat first
        | with_reducible exact hB
        | with_reducible refine PFin.drew ?_
        | with_reducible refine PFin.new hX ?_ (by omega) _ _
        | with_reducible refine PFin.alloc ?_ _⟩
end Go.Proofs.Ytkgbjpdoigdjnaa
