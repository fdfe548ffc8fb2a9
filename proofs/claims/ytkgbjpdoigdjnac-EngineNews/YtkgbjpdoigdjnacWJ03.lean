import Derived.Test.YtkgbjpdoigdjnacWJ02
import Derived.Laws.Tables
import Derived.Deep.RegionHeld3
import Derived.Deep.RegionWith
namespace Go.Proofs.Ytkgbjpdoigdjnac
open Go.RowKit
set_option maxRecDepth 100000
set_option linter.unusedVariables false

def isU : Value → Bool
  | .int .u8 (.ofNat 0) => true
  | _ => false
def isI : Value → Bool
  | .int .i64 (.ofNat 0) => true
  | _ => false
def isB : Value → Bool
  | .bool false => true
  | _ => false
def one (p : Value → Bool) : List Value → Option (List Value)
  | [] => none
  | x :: t => match p x with
    | true => some t
    | false => none
noncomputable def eat (p : Value → Bool) (k : Nat) : List Value → Option (List Value) :=
  Nat.rec (motive := fun _ => List Value → Option (List Value)) (fun l => one p l) (fun _ ih l => match ih l with
    | some t => ih t
    | none => none) k
def lastI : List Value → Bool
  | [x] => isI x
  | _ => false
noncomputable def chk (l : List Value) : Bool :=
  match eat isU 16 l with
  | none => false
  | some a => match eat isI 8 a with
    | none => false
    | some b => match eat isB 9 b with
      | none => false
      | some c => lastI c
noncomputable def zeroC : Array Value := match Try.t35.zero with
  | some v => v.cells
  | none => #[]
theorem zero_chk : chk zeroC.toList = true := by kernel_rfl

theorem eat_zero (p : Value → Bool) (l : List Value) : eat p 0 l = one p l := rfl
theorem eat_succ (p : Value → Bool) (k : Nat) (l : List Value) : eat p (k + 1) l = match eat p k l with | some t => eat p k t | none => none := rfl
theorem eat_spec (p : Value → Bool) : ∀ (k : Nat) (l t : List Value), eat p k l = some t → ∃ pre, l = pre ++ t ∧ pre.length = 2 ^ k ∧ ∀ x ∈ pre, p x = true
  | 0, l, t, h => by
    rw [eat_zero] at h
    cases l with
    | nil => simp [one] at h
    | cons x r =>
      cases hp : p x with
      | false => simp [one, hp] at h
      | true => simp [one, hp] at h; subst h; exact ⟨[x], rfl, rfl, by simpa using hp⟩
  | k + 1, l, t, h => by
    rw [eat_succ] at h
    cases he : eat p k l with
    | none => simp [he] at h
    | some u =>
      simp only [he] at h
      obtain ⟨p1, e1, l1, a1⟩ := eat_spec p k l u he
      obtain ⟨p2, e2, l2, a2⟩ := eat_spec p k u t h
      refine ⟨p1 ++ p2, by rw [e1, e2, List.append_assoc], by rw [List.length_append, l1, l2, Nat.pow_succ]; omega, fun x hx => ?_⟩
      rcases List.mem_append.1 hx with h | h
      · exact a1 x h
      · exact a2 x h
theorem isU_eq (x : Value) (h : isU x = true) : x = .int .u8 0 := by
  unfold isU at h; split at h
  · rfl
  · cases h
theorem isI_eq (x : Value) (h : isI x = true) : x = .int .i64 0 := by
  unfold isI at h; split at h
  · rfl
  · cases h
theorem isB_eq (x : Value) (h : isB x = true) : x = .bool false := by
  unfold isB at h; split at h
  · rfl
  · cases h

theorem zero_parts : ∃ a b c : List Value, ∃ z : Value, zeroC.toList = a ++ (b ++ (c ++ [z])) ∧ a.length = 65536 ∧ b.length = 256 ∧ c.length = 512 ∧ (∀ x ∈ a, x = .int .u8 0) ∧ (∀ x ∈ b, x = .int .i64 0) ∧ (∀ x ∈ c, x = .bool false) ∧ z = .int .i64 0 := by
  have h := zero_chk
  unfold chk at h
  cases h1 : eat isU 16 zeroC.toList with
  | none => simp [h1] at h
  | some l1 =>
    cases h2 : eat isI 8 l1 with
    | none => simp [h1, h2] at h
    | some l2 =>
      cases h3 : eat isB 9 l2 with
      | none => simp [h1, h2, h3] at h
      | some l3 =>
        simp only [h1, h2, h3] at h
        obtain ⟨a, e1, n1, p1⟩ := eat_spec _ _ _ _ h1
        obtain ⟨b, e2, n2, p2⟩ := eat_spec _ _ _ _ h2
        obtain ⟨c, e3, n3, p3⟩ := eat_spec _ _ _ _ h3
        unfold lastI at h
        split at h
        · rename_i z
          exact ⟨a, b, c, z, by rw [e1, e2, e3], n1, n2, n3, fun x hx => isU_eq x (p1 x hx), fun x hx => isI_eq x (p2 x hx), fun x hx => isB_eq x (p3 x hx), isI_eq z h⟩
        · cases h

theorem all_at {l : List Value} {v : Value} (h : ∀ x ∈ l, x = v) (i : Nat) (hi : i < l.length) : l[i]? = some v := by
  rw [List.getElem?_eq_getElem hi]; exact congrArg some (h _ (List.getElem_mem hi))

def newS : MS := ⟨fun _ => 0, fun _ => 0, fun _ => false, fun _ => false⟩
theorem new_pm (w : World) : PM (w.alloc (.cells zeroC 35)) w.heap.size newS := by
  obtain ⟨a, b, c, z, he, n1, n2, n3, p1, p2, p3, p4⟩ := zero_parts
  have hl := heap_alloc_last w (.cells zeroC 35)
  have hc : ∀ o, (w.alloc (.cells zeroC 35)).cell? ⟨w.heap.size, o, none⟩ = (a ++ (b ++ (c ++ [z])))[o]? := fun o => by
    rw [cell_of_row _ _ o _ 35 (0, 0) hl, ← he, Array.getElem?_toList]
  refine ⟨fun i hi => ?_, fun i hi => ?_, fun i hi => ?_, fun i hi => ?_, ?_, fun o => ?_⟩
  · rw [hc, List.getElem?_append_left (by omega)]; exact all_at p1 i (by omega)
  · rw [hc, List.getElem?_append_right (by omega), List.getElem?_append_left (by omega)]; exact all_at p2 _ (by omega)
  · rw [hc, List.getElem?_append_right (by omega), List.getElem?_append_right (by omega), List.getElem?_append_left (by omega)]; exact all_at p3 _ (by omega)
  · rw [hc, List.getElem?_append_right (by omega), List.getElem?_append_right (by omega), List.getElem?_append_left (by omega)]; exact all_at p3 _ (by omega)
  · rw [hc, List.getElem?_append_right (by omega), List.getElem?_append_right (by omega), List.getElem?_append_right (by omega), show 66304 - a.length - b.length - c.length = 0 by omega, p4]
    rw [cnt_none newS.T 256 (fun _ _ => rfl)]; rfl
  · simp only [World.frozen?, hl]; simp

theorem zero_built : Try.prog.built 35 [] = some zeroC := by kernel_rfl

theorem wpList_build_as {P : Program} {ops : Array Oper} {rest : List Oper} {o : Oper} {a : Act} {w : World} {Q : Exit → Act → World → Prop} (hg : o.guard = none) (t : TypeId) (parts : Array (Nat × Operand)) (ho : o.op = .build t parts) (cells : Array Value)
    (hc : P.built t (parts.map fun (i, x) => (i, a.eval x)).toList = some cells)
    (h : wpList P ops Q rest (a.put o.dst (.agg cells)) w) : wpList P ops Q (o :: rest) a w :=
  wpList_build hg t parts ho (by rw [hc]; rfl) (by rw [hc]; exact h)

theorem wpList_build_zero {P : Program} {ops : Array Oper} {rest : List Oper} {o : Oper} {a : Act} {w : World} {Q : Exit → Act → World → Prop} (hg : o.guard = none) (t : TypeId) (ho : o.op = .build t #[]) (cells : Array Value)
    (hc : P.built t [] = some cells) (h : wpList P ops Q rest (a.put o.dst (.agg cells)) w) : wpList P ops Q (o :: rest) a w :=
  wpList_build_as hg t #[] ho cells (by simpa using hc) h

theorem new_any (w : World) :
    Calls Try.prog 4 #[] w fun e w' => e = .returned (.pointer (some ⟨w.heap.size, 0, none⟩)) ∧ w.alloc (.cells zeroC 35) = w' := by
  go_enter Try.func4, Try.ntmps4
  go_wp2_with (refine wpList_build_zero rfl 35 rfl zeroC zero_built ?_)
  go_ret
  exact ⟨rfl, rfl⟩
end Go.Proofs.Ytkgbjpdoigdjnac

namespace Go.Proofs.Ytkgbjpdoigdjnac
open Go.RowKit
set_option maxRecDepth 100000
set_option linter.unusedVariables false

end Go.Proofs.Ytkgbjpdoigdjnac

namespace Go.Proofs.Ytkgbjpdoigdjnac
open Go.RowKit
set_option maxRecDepth 100000
set_option linter.unusedVariables false

def protOk (p r : Int) : Prop := (0 ≤ p ∧ p < 256) ∧ 0 ≤ r ∧ r ≤ 7
instance (p r : Int) : Decidable (protOk p r) := by unfold protOk; infer_instance
def liesOk (a n : Int) : Prop := 0 ≤ a ∧ a ≤ 65536 ∧ 0 ≤ n ∧ n ≤ 65536 - a
instance (a n : Int) : Decidable (liesOk a n) := by unfold liesOk; infer_instance
def wid (n : Int) : Prop := n = 1 ∨ n = 2 ∨ n = 4
instance (n : Int) : Decidable (wid n) := by unfold wid; infer_instance
end Go.Proofs.Ytkgbjpdoigdjnac

namespace Go.Proofs.Ytkgbjpdoigdjnac
open Go.RowKit
set_option maxRecDepth 100000
set_option linter.unusedVariables false

end Go.Proofs.Ytkgbjpdoigdjnac

namespace Go.Proofs.Ytkgbjpdoigdjnac
open Go.RowKit
set_option maxRecDepth 100000
set_option linter.unusedVariables false

structure Both (w : World) (X : Nat) (k : RB) (s : MS) : Prop where
  pm : PM w X s
  rm : RM w k s
  ok : s.Ok
  ne : X ∉ k.y :: k.all
theorem Both.alloc {w : World} {X : Nat} {k : RB} {s : MS} (h : Both w X k s) (o : Obj) : Both (w.alloc o) X k s := ⟨h.pm.alloc o, h.rm.alloc o, h.ok, h.ne⟩
theorem Both.below {w w' : World} {X n : Nat} {k : RB} {s : MS} (h : Both w X k s) (hb : Below n w w') (hn : w.heap.size ≤ n) : Both w' X k s := ⟨h.pm.below hb (Nat.lt_of_lt_of_le h.pm.lt hn), h.rm.below hb hn, h.ok, h.ne⟩
end Go.Proofs.Ytkgbjpdoigdjnac
