import Derived.Test.YtjmffijdojeghaaLQ
import Derived.Test.YtjmffijdojeghaaLN0
import Derived.Test.YtjmffijdojeghaaLN1
import Derived.Test.YtjmffijdojeghaaLN2
import Derived.Test.YtjmffijdojeghaaLN3
import Derived.Test.YtjmffijdojeghaaLN4
import Derived.Test.YtjmffijdojeghaaLN5
namespace Go.Proofs.Ytjmffijdojeghaa
open Go.RowKit
set_option maxRecDepth 100000
set_option linter.unusedVariables false
set_option linter.unusedSimpArgs false
theorem do_any (k : BK) (U : Nat) (x : XI) (l : List OpR) (m : Int) (w : World) (h : TU w k U x l) (hm : Ln l m) (hmx : m + 160 < 90000) (hd : 0 ≤ x.done ∧ x.done ≤ 64) (hx : XOk x) :
    Calls Try.prog 111 #[.pointer (some ⟨U, 0, none⟩)] w fun e w' => e = .returned (.tuple #[]) ∧ Em w w' k U x (l ++ liftF x m) := by
  obtain ⟨t, ht⟩ : ∃ t : Nat, x.op = t := ⟨x.op.toNat, by have := hx.op; omega⟩
  have hlt : t < 32 := by have := hx.op; omega
  have hnx : ((x.next : Int) + x.im) % 4294967296 = ((x.next + x.im) % 4294967296 : Nat) := by omega
  match t, hlt, ht with
  | 0, _, ht =>
    refine (do0 k U x l w h ht).mono ?_
    rintro e w' ⟨rfl, h1⟩
    have e1 : x.op.toNat = 0 := by omega
    exact ⟨rfl, by simpa only [liftF, e1, List.append_assoc, List.cons_append, List.nil_append, List.append_nil] using h1⟩
  | 1, _, ht =>
    refine (do1 k U x l m w h hm hmx hd ht).mono ?_
    rintro e w' ⟨rfl, h1⟩
    have e1 : x.op.toNat = 1 := by omega
    exact ⟨rfl, by simpa only [liftF, e1, List.append_assoc, List.cons_append, List.nil_append, List.append_nil] using h1⟩
  | 2, _, ht =>
    refine (do2 k U x l m w h hm hmx hd ht).mono ?_
    rintro e w' ⟨rfl, h1⟩
    have e1 : x.op.toNat = 2 := by omega
    exact ⟨rfl, by simpa only [liftF, e1, List.append_assoc, List.cons_append, List.nil_append, List.append_nil] using h1⟩
  | 3, _, ht =>
    refine (do3 k U x l m w h hm hmx hd ht).mono ?_
    rintro e w' ⟨rfl, h1⟩
    have e1 : x.op.toNat = 3 := by omega
    exact ⟨rfl, by simpa only [liftF, e1, List.append_assoc, List.cons_append, List.nil_append, List.append_nil] using h1⟩
  | 4, _, ht =>
    refine (do4 k U x l m w h hm hmx hd ht).mono ?_
    rintro e w' ⟨rfl, h1⟩
    have e1 : x.op.toNat = 4 := by omega
    exact ⟨rfl, by simpa only [liftF, e1, List.append_assoc, List.cons_append, List.nil_append, List.append_nil] using h1⟩
  | 5, _, ht =>
    refine (do5 k U x l m w h hm hmx hd hx.im ht).mono ?_
    rintro e w' ⟨rfl, h1⟩
    have e1 : x.op.toNat = 5 := by omega
    exact ⟨rfl, by simpa only [liftF, e1, List.append_assoc, List.cons_append, List.nil_append, List.append_nil] using h1⟩
  | 6, _, ht =>
    refine (do6 k U x l m _ w h hm hmx hd hnx ht).mono ?_
    rintro e w' ⟨rfl, h1⟩
    have e1 : x.op.toNat = 6 := by omega
    exact ⟨rfl, by simpa only [liftF, e1, List.append_assoc, List.cons_append, List.nil_append, List.append_nil] using h1⟩
  | 7, _, ht =>
    refine (do7 k U x l m _ w h hm hmx hd hnx ht).mono ?_
    rintro e w' ⟨rfl, h1⟩
    have e1 : x.op.toNat = 7 := by omega
    exact ⟨rfl, by simpa only [liftF, e1, List.append_assoc, List.cons_append, List.nil_append, List.append_nil] using h1⟩
  | 8, _, ht =>
    refine (do8 k U x l m _ w h hm hmx hd hnx ht).mono ?_
    rintro e w' ⟨rfl, h1⟩
    have e1 : x.op.toNat = 8 := by omega
    exact ⟨rfl, by simpa only [liftF, e1, List.append_assoc, List.cons_append, List.nil_append, List.append_nil] using h1⟩
  | 9, _, ht =>
    refine (do9 k U x l m w h hm hmx hd ht).mono ?_
    rintro e w' ⟨rfl, h1⟩
    have e1 : x.op.toNat = 9 := by omega
    exact ⟨rfl, by simpa only [liftF, e1, List.append_assoc, List.cons_append, List.nil_append, List.append_nil] using h1⟩
  | 10, _, ht =>
    refine (do10 k U x l m w h hm hmx hd ht).mono ?_
    rintro e w' ⟨rfl, h1⟩
    have e1 : x.op.toNat = 10 := by omega
    exact ⟨rfl, by simpa only [liftF, e1, List.append_assoc, List.cons_append, List.nil_append, List.append_nil] using h1⟩
  | 11, _, ht =>
    refine (do11 k U x l m w h hm hmx hd ht).mono ?_
    rintro e w' ⟨rfl, h1⟩
    have e1 : x.op.toNat = 11 := by omega
    exact ⟨rfl, by simpa only [liftF, e1, List.append_assoc, List.cons_append, List.nil_append, List.append_nil] using h1⟩
  | 12, _, ht =>
    refine (do12 k U x l m _ w h hm hmx hd hnx ht).mono ?_
    rintro e w' ⟨rfl, h1⟩
    have e1 : x.op.toNat = 12 := by omega
    exact ⟨rfl, by simpa only [liftF, e1, List.append_assoc, List.cons_append, List.nil_append, List.append_nil] using h1⟩
  | 13, _, ht =>
    refine (do13 k U x l m _ w h hm hmx hd hnx ht).mono ?_
    rintro e w' ⟨rfl, h1⟩
    have e1 : x.op.toNat = 13 := by omega
    exact ⟨rfl, by simpa only [liftF, e1, List.append_assoc, List.cons_append, List.nil_append, List.append_nil] using h1⟩
  | 14, _, ht =>
    refine (do14 k U x l m w h hm hmx hd ht).mono ?_
    rintro e w' ⟨rfl, h1⟩
    have e1 : x.op.toNat = 14 := by omega
    exact ⟨rfl, by simpa only [liftF, e1, List.append_assoc, List.cons_append, List.nil_append, List.append_nil] using h1⟩
  | 15, _, ht =>
    refine (do15 k U x l m w h hm hmx hd ht).mono ?_
    rintro e w' ⟨rfl, h1⟩
    have e1 : x.op.toNat = 15 := by omega
    exact ⟨rfl, by simpa only [liftF, e1, List.append_assoc, List.cons_append, List.nil_append, List.append_nil] using h1⟩
  | 16, _, ht =>
    refine (do16 k U x l m w h hm hmx hd ht).mono ?_
    rintro e w' ⟨rfl, h1⟩
    have e1 : x.op.toNat = 16 := by omega
    exact ⟨rfl, by simpa only [liftF, e1, List.append_assoc, List.cons_append, List.nil_append, List.append_nil] using h1⟩
  | 17, _, ht =>
    refine (do17 k U x l m w h hm hmx hd ht).mono ?_
    rintro e w' ⟨rfl, h1⟩
    have e1 : x.op.toNat = 17 := by omega
    exact ⟨rfl, by simpa only [liftF, e1, List.append_assoc, List.cons_append, List.nil_append, List.append_nil] using h1⟩
  | 18, _, ht =>
    refine (do18 k U x l m w h hm hmx hd ht).mono ?_
    rintro e w' ⟨rfl, h1⟩
    have e1 : x.op.toNat = 18 := by omega
    exact ⟨rfl, by simpa only [liftF, e1, List.append_assoc, List.cons_append, List.nil_append, List.append_nil] using h1⟩
  | 19, _, ht =>
    refine (do19 k U x l m w h hm hmx hd ht).mono ?_
    rintro e w' ⟨rfl, h1⟩
    have e1 : x.op.toNat = 19 := by omega
    exact ⟨rfl, by simpa only [liftF, e1, List.append_assoc, List.cons_append, List.nil_append, List.append_nil] using h1⟩
  | 20, _, ht =>
    refine (do20 k U x l m w h hm hmx hd ht).mono ?_
    rintro e w' ⟨rfl, h1⟩
    have e1 : x.op.toNat = 20 := by omega
    exact ⟨rfl, by simpa only [liftF, e1, List.append_assoc, List.cons_append, List.nil_append, List.append_nil] using h1⟩
  | 21, _, ht =>
    refine (do21 k U x l m w h hm hmx hd ht).mono ?_
    rintro e w' ⟨rfl, h1⟩
    have e1 : x.op.toNat = 21 := by omega
    exact ⟨rfl, by simpa only [liftF, e1, List.append_assoc, List.cons_append, List.nil_append, List.append_nil] using h1⟩
  | 22, _, ht =>
    refine (do22 k U x l m w h hm hmx hd ht).mono ?_
    rintro e w' ⟨rfl, h1⟩
    have e1 : x.op.toNat = 22 := by omega
    exact ⟨rfl, by simpa only [liftF, e1, List.append_assoc, List.cons_append, List.nil_append, List.append_nil] using h1⟩
  | 23, _, ht =>
    refine (do23 k U x l m w h hm hmx hd ht).mono ?_
    rintro e w' ⟨rfl, h1⟩
    have e1 : x.op.toNat = 23 := by omega
    exact ⟨rfl, by simpa only [liftF, e1, List.append_assoc, List.cons_append, List.nil_append, List.append_nil] using h1⟩
  | 24, _, ht =>
    refine (do24 k U x l m w h hm hmx hd ht).mono ?_
    rintro e w' ⟨rfl, h1⟩
    have e1 : x.op.toNat = 24 := by omega
    exact ⟨rfl, by simpa only [liftF, e1, List.append_assoc, List.cons_append, List.nil_append, List.append_nil] using h1⟩
  | 25, _, ht =>
    refine (do25 k U x l m w h hm hmx hd ht).mono ?_
    rintro e w' ⟨rfl, h1⟩
    have e1 : x.op.toNat = 25 := by omega
    exact ⟨rfl, by simpa only [liftF, e1, List.append_assoc, List.cons_append, List.nil_append, List.append_nil] using h1⟩
  | 26, _, ht =>
    refine (do26 k U x l m w h hm hmx hd ht).mono ?_
    rintro e w' ⟨rfl, h1⟩
    have e1 : x.op.toNat = 26 := by omega
    exact ⟨rfl, by simpa only [liftF, e1, List.append_assoc, List.cons_append, List.nil_append, List.append_nil] using h1⟩
  | 27, _, ht =>
    refine (do27 k U x l m w h hm hmx hd hx.O ht).mono ?_
    rintro e w' ⟨rfl, h1⟩
    have e1 : x.op.toNat = 27 := by omega
    exact ⟨rfl, by simpa only [liftF, e1, List.append_assoc, List.cons_append, List.nil_append, List.append_nil] using h1⟩
  | 28, _, ht =>
    refine (do28 k U x l m w h hm hmx hd hx.O ht).mono ?_
    rintro e w' ⟨rfl, h1⟩
    have e1 : x.op.toNat = 28 := by omega
    exact ⟨rfl, by simpa only [liftF, e1, List.append_assoc, List.cons_append, List.nil_append, List.append_nil] using h1⟩
  | 29, _, ht =>
    refine (do29 k U x l m w h hm hmx hd hx.O ht).mono ?_
    rintro e w' ⟨rfl, h1⟩
    have e1 : x.op.toNat = 29 := by omega
    exact ⟨rfl, by simpa only [liftF, e1, List.append_assoc, List.cons_append, List.nil_append, List.append_nil] using h1⟩
  | 30, _, ht =>
    refine (do30 k U x l m w h hm hmx hd ht).mono ?_
    rintro e w' ⟨rfl, h1⟩
    have e1 : x.op.toNat = 30 := by omega
    exact ⟨rfl, by simpa only [liftF, e1, List.append_assoc, List.cons_append, List.nil_append, List.append_nil] using h1⟩
  | 31, _, ht =>
    refine (do31 k U x l m w h hm hmx hd ht).mono ?_
    rintro e w' ⟨rfl, h1⟩
    have e1 : x.op.toNat = 31 := by omega
    exact ⟨rfl, by simpa only [liftF, e1, List.append_assoc, List.cons_append, List.nil_append, List.append_nil] using h1⟩
  | n + 32, h, _ => exact absurd h (by omega)
end Go.Proofs.Ytjmffijdojeghaa
