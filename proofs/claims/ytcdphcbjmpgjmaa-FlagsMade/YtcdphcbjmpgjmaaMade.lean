import Derived.Test.YtcdphcbjmpgjmaaRows
import Derived.Test.YtcdphcbjmpgjmaaJ07
import Derived.ProofKit
import Derived.OpenShut
import Derived.ShutString
import Derived.ChangeOld
import Derived.Below
import Derived.Test.YtcdphcbjmpgjmaaJ37
/-
  FlagsMade: the statement, out of the contracts of the program's Flags, Holds and Reckon.
-/
namespace Go.Proofs.Ytcdphcbjmpgjmaa
open Go.ChangeShapes Go.WideShapes Go.ChangeAt Go.RowKit
set_option linter.unusedVariables false
set_option maxRecDepth 100000

def FlagsOk : Prop := ∀ (k : Int) (a b old : Nat) (w : World), a < 4294967296 → b < 4294967296 → old < 4294967296 →
  Calls Try.prog 27 #[.int .i64 k, .int .u32 a, .int .u32 b, .int .u32 old] w fun e w' => e = .returned (.int .u32 (Fl.flagsF k a b old)) ∧ Below w.heap.size w w'
def HoldsOk : Prop := ∀ (c : Int) (f : Nat) (w : World), f < 4294967296 → c ≤ 9223372036854775807 →
  Calls Try.prog 29 #[.int .i64 c, .int .u32 f] w fun e w' => e = .returned (.bool (Fl.holdsF c f)) ∧ Below w.heap.size w w'
def ReckOk : Prop := ∀ (o : Int) (a b f : Nat) (w : World), a < 4294967296 → b < 4294967296 → f < 4294967296 →
  Calls Try.prog 25 #[.int .i64 o, .int .u32 a, .int .u32 b, .int .u32 f] w fun e w' => e = .returned (.tuple #[.int .u32 (Fl.recX o a b f), .int .u32 (Fl.recFl o a b f), .bool (Fl.recOk o b)]) ∧ Below w.heap.size w w'

set_option maxHeartbeats 2000000 in
theorem made_walk (hF : FlagsOk) (hH : HoldsOk) (hR : ReckOk) (k c : Int) (a b old : Nat) (W : World) (ha : a < 4294967296) (hb : b < 4294967296) (ho : old < 4294967296) (hc : c ≤ 9223372036854775807) :
    Calls Try.prog 7 #[.int .i64 k, .int .u32 a, .int .u32 b, .int .u32 old, .int .i64 c] W fun e w' => e = .returned (.bool true) ∧ Below W.heap.size W w' := by
  have HF : Hid _ := hF
  have HH : Hid _ := hH
  have HR : Hid _ := hR
  clear hF hH hR
  go_enter Try.func7, Try.ntmps7
  go_wp2_with (first
    | (go_at_call 25; refine (HR.out c a b old _ ha hb ho).mono ?_; rintro e w1 ⟨rfl, h1⟩)
    | (go_at_call 26; refine (Fl.reck_any c a b old _ ha hb ho).mono ?_; rintro e w2 ⟨rfl, rfl⟩)
    | (go_at_call 27; refine (HF.out k a b old _ ha hb ho).mono ?_; rintro e w3 ⟨rfl, h3⟩)
    | (go_at_call 28; refine (Fl.flags_any k a b old _ ha hb ho).mono ?_; rintro e w4 ⟨rfl, rfl⟩)
    | (go_at_call 29; refine (HH.out c old _ ho hc).mono ?_; rintro e w5 ⟨rfl, h5⟩)
    | (go_at_call 30; refine (Fl.holds_any c old _ ho).mono ?_; rintro e w6 ⟨rfl, h6⟩))
  go_ret
  exact ⟨rfl, ((h1.trans (h3.mono h1.size)).trans (h5.mono (Nat.le_trans h1.size h3.size))).trans (h6.mono (Nat.le_trans h1.size (Nat.le_trans h3.size h5.size)))⟩
theorem open_five {H : Type} {enc : TypeId × Value → H} {P : Program} {w : World} {base : Nat} {spare : Nat → Bool} {held : Bool} {t t1 t2 t3 t4 : TypeId} {args : Array Value} {ds : List (DataW H)} {ps : List MemPlace} (h : DataW.TrodAll enc P w base spare held [t, t1, t2, t3, t4] args.toList ds ps) :
    ∃ v v1 v2 v3 v4 d d1 d2 d3 d4 p p1 p2 p3 p4, args = #[v, v1, v2, v3, v4] ∧ ds = [d, d1, d2, d3, d4] ∧ ps = p ++ (p1 ++ (p2 ++ (p3 ++ p4))) ∧ DataW.Trod enc P w base spare held t v d p ∧ DataW.Trod enc P w base spare held t1 v1 d1 p1 ∧ DataW.Trod enc P w base spare held t2 v2 d2 p2 ∧ DataW.Trod enc P w base spare held t3 v3 d3 p3 ∧ DataW.Trod enc P w base spare held t4 v4 d4 p4 := by
  obtain ⟨v, vs, d, ds', p, q, hargs, rfl, rfl, hd, hr⟩ := trodAll_cons h
  obtain ⟨v1, vs1, d1, ds1, p1, q1, rfl, rfl, rfl, hd1, hr1⟩ := trodAll_cons hr
  obtain ⟨v2, vs2, d2, ds2, p2, q2, rfl, rfl, rfl, hd2, hr2⟩ := trodAll_cons hr1
  obtain ⟨v3, vs3, d3, ds3, p3, q3, rfl, rfl, rfl, hd3, hr3⟩ := trodAll_cons hr2
  obtain ⟨v4, vs4, d4, ds4, p4, q4, rfl, rfl, rfl, hd4, hr4⟩ := trodAll_cons hr3
  obtain ⟨rfl, rfl, rfl⟩ := trodAll_nil hr4
  exact ⟨v, v1, v2, v3, v4, d, d1, d2, d3, d4, p, p1, p2, p3, p4, by cases args; simp_all, rfl, by simp, hd, hd1, hd2, hd3, hd4⟩
theorem mk_five {H : Type} {enc : TypeId × Value → H} {P : Program} {w : World} {base : Nat} {spare : Nat → Bool} {held : Bool} {t t1 t2 t3 t4 : TypeId} {v v1 v2 v3 v4 : Value} {d d1 d2 d3 d4 : DataW H} {p p1 p2 p3 p4 : List MemPlace} (h : DataW.Trod enc P w base spare held t v d p) (h1 : DataW.Trod enc P w base spare held t1 v1 d1 p1)
    (h2 : DataW.Trod enc P w base spare held t2 v2 d2 p2) (h3 : DataW.Trod enc P w base spare held t3 v3 d3 p3) (h4 : DataW.Trod enc P w base spare held t4 v4 d4 p4) : DataW.TrodAll enc P w base spare held [t, t1, t2, t3, t4] [v, v1, v2, v3, v4] [d, d1, d2, d3, d4] (p ++ (p1 ++ (p2 ++ (p3 ++ p4)))) := ⟨p, p1 ++ (p2 ++ (p3 ++ p4)), h, trodAll_mk4 h1 h2 h3 h4, rfl⟩
theorem own : ownKnob Try.prog.godebug = none := by kernel_rfl
theorem made_lifted (hF : FlagsOk) (hH : HoldsOk) (hR : ReckOk) (os : Os) (started : os.Started) (H : Type) (enc : TypeId × Value → H) :
    ReturnsInHanded {} Try.checked os 7 .any (Rows.flagsMadeSpec.pre6 enc Try.prog Try.f7 Rows.flagsMadeRow.domain false) (Rows.flagsMadeSpec.post enc Try.prog Try.f7 false true false false) := by
  refine returnsInHanded_of_change (C := Try.checked) own started (by kernel_rfl) Try.func7
    (ChangeSpec.witness6 (enc := enc) (C := Try.checked) false ⟨#[], #[.int .i64 0, .int .u32 0, .int .u32 0, .int .u32 0, .int .i64 0], []⟩ 8 (by kernel_rfl) (by kernel_rfl) (by kernel_rfl) (by kernel_rfl)) ?_
  intro W base args ds gs before hval0 hW hcnd _
  have hval : ∀ (j : Nat) t v, Try.f7.params[j]? = some t → args[j]? = some v → Value.okWide Try.prog W .any base t v := hval0
  have hW' := hW
  obtain ⟨p, q, hA0, hV, rfl, hfz, hnd⟩ := hW
  have hA : DataW.TrodAll enc Try.prog W 0 (fun _ => true) true Try.f7.params.toList args.toList ds p := hA0
  rw [Try.params7] at hA hval
  obtain ⟨v0, v1, v2, v3, v4, d0, d1, d2, d3, d4, p0, p1, p2, p3, p4, rfl, rfl, rfl, h0, h1, h2, h3, h4⟩ := open_five hA
  obtain ⟨rfl, rfl⟩ := trodVars_none hV
  obtain ⟨a0, rfl, rfl, rfl, w0⟩ := open_int Try.underlying3 (hval 0 3 v0 rfl rfl) h0
  obtain ⟨a1, rfl, rfl, rfl, w1⟩ := open_int Try.underlying24 (hval 1 24 v1 rfl rfl) h1
  obtain ⟨a2, rfl, rfl, rfl, w2⟩ := open_int Try.underlying24 (hval 2 24 v2 rfl rfl) h2
  obtain ⟨a3, rfl, rfl, rfl, w3⟩ := open_int Try.underlying24 (hval 3 24 v3 rfl rfl) h3
  obtain ⟨a4, rfl, rfl, rfl, w4⟩ := open_int Try.underlying3 (hval 4 3 v4 rfl rfl) h4
  have b1 := bounds_u32 w1
  have b2 := bounds_u32 w2
  have b3 := bounds_u32 w3
  obtain ⟨n1, rfl⟩ : ∃ n : Nat, a1 = n := ⟨a1.toNat, by omega⟩
  obtain ⟨n2, rfl⟩ : ∃ n : Nat, a2 = n := ⟨a2.toNat, by omega⟩
  obtain ⟨n3, rfl⟩ : ∃ n : Nat, a3 = n := ⟨a3.toNat, by omega⟩
  clear hA0 hval0
  refine (made_walk hF hH hR a0 a4 n1 n2 n3 W (by omega) (by omega) (by omega) (bounds_i64 w4).2).mono fun e W' ⟨he, bel⟩ => ?_
  subst he
  exact ⟨_, rfl, _, _, _, [], _, [], hW', trodAll_mk1 (shut_bool Try.underlying4 _), mk_five (shut_int Try.underlying3 w0) (shut_int Try.underlying24 w1) (shut_int Try.underlying24 w2) (shut_int Try.underlying24 w3) (shut_int Try.underlying3 w4), rfl, bel.frame _, fun h => by cases h⟩
theorem made_of (hF : FlagsOk) (hH : HoldsOk) (hR : ReckOk) : Rows.FlagsMadeSaid :=
  OpenClaim.holds_of_wide 7 Try.f7 rfl rfl rfl rfl rfl rfl rfl ⟨rfl, rfl, rfl, rfl, rfl⟩ rfl rfl rfl rfl rfl (by kernel_rfl) Try.func7 (by kernel_rfl)
    (of_decide_eq_true (by kernel_rfl)) (by unfold Func.isWrapper; first | (rw [if_pos (by decide +kernel)]; kernel_rfl) | (rw [if_neg (by decide +kernel)]; exact ⟨rfl, rfl⟩))
    (fun os started H enc _ => made_lifted hF hH hR os started H enc)
end Go.Proofs.Ytcdphcbjmpgjmaa

namespace Go.Proofs.Ytcdphcbjmpgjmaa
theorem made_holds : Rows.FlagsMadeSaid :=
  made_of (fun k a b old w ha hb ho => pflags_any k a b old w ha hb ho) (fun c f w hf hc => pholds_any c f w hf hc) (fun o a b f w ha hb hf => preck_any o a b f w ha hb hf)
#print axioms made_holds
end Go.Proofs.Ytcdphcbjmpgjmaa
