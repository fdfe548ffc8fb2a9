import Derived.Test.YtnnnmhpbdkalaaaE
import Derived.Laws.IdiomStrings
namespace Go.Proofs.Ytnnnmhpbdkalaaa
open Go.RowKit

/-! ## A string's bytes as a new row -/
def strL (s : ByteArray) : List Int := s.data.toList.map (fun b => (b.toNat : Int))
theorem strL_length (s : ByteArray) : (strL s).length = s.size := by simp [strL]
theorem strL_at (s : ByteArray) (j : Nat) (hj : j < s.data.size) : (strL s).getD j 0 = (s.data[j].toNat : Int) := by
  simp [strL, List.getD_eq_getElem?_getD, Array.getElem?_eq_getElem hj]

theorem wpList_bytes {P : Program} {ops : Array Oper} {rest : List Oper} {o : Oper} {a : Act} {w : World} {Q : Exit → Act → World → Prop} (hg : o.guard = none) (src dst e : TypeId) (x : Operand) (ho : o.op = .convert src dst x) (s : ByteArray) (hx : a.eval x = .string s)
    (hs : P.underlying src = some .string) (hd : P.underlying dst = some (.slice e)) (he : P.underlying e = some (.int .u8)) (H : Nat) (hH : w.heap.size = H)
    (h : ∀ cap w', Below w.heap.size w w' → H < w'.heap.size → (∀ j, j < (strL s).length → w'.cell? ⟨H, j, none⟩ = some (.int .u8 ((strL s).getD j 0))) →
      wpList P ops Q rest (a.put o.dst (.slice (some ⟨H, 0, none⟩) (strL s).length cap)) w') : wpList P ops Q (o :: rest) a w := by
  subst hH
  refine wpList_plain hg fun _ hK => ?_
  unfold Oper.wp execOp
  simp only [ho, hx, Sem.run_bind, run_bytes_of_string w src dst e s hs hd he, Result.andThen_ok, Sem.run_pure]
  refine hK _ _ ?_
  have := h (grownCap w s.size 0 e) (w.drew.alloc (.cells (bytesRow s (grownCap w s.size 0 e)) e ((bytesRow s (grownCap w s.size 0 e)).size, (bytesRow s (grownCap w s.size 0 e)).size + 1))) ((Below.refl _ _).drew.alloc (Nat.le_refl _) _) (by simp) (fun j hj => by
    have hj' : j < s.data.size := by simpa [strL] using hj
    rw [strL_at s j hj', ← bytesRow_at s (grownCap w s.size 0 e) j hj']
    exact World.cell?_alloc_mark w.drew _ e _ j)
  rw [strL_length] at this
  exact this

/-! ## crossgrainref1.Size -/
def formB (k : Nat) : List Int := strL (formS k 3)
def szL : List Int → Int
  | [] => 0
  | c :: l => (if c = 119 then 4 else 1) + szL l
theorem szL_snoc (l : List Int) (c : Int) : szL (l ++ [c]) = szL l + (if c = 119 then 4 else 1) := by
  induction l with
  | nil => simp [szL]
  | cons d l ih => simp only [List.cons_append, szL, ih]; omega
theorem szL_bd (l : List Int) : 0 ≤ szL l ∧ szL l ≤ 4 * l.length := by
  induction l with
  | nil => simp [szL]
  | cons d l ih => simp only [szL, List.length_cons]; split <;> omega
theorem take_next (l : List Int) (i : Nat) (h : i < l.length) : l.take (i + 1) = l.take i ++ [l.getD i 0] := by
  rw [List.take_succ_eq_append_getElem h]
  simp [List.getD_eq_getElem?_getD, h]
theorem formB_len : ∀ k : Fin 32, (formB k.val).length ≤ 2 := by decide +kernel

theorem hitF_lt {x : Int} {k : Nat} (h : hitF x = some k) : k < 32 := by
  have := List.mem_of_find?_eq_some h
  simpa using this

/-- How many bytes. -/
def sizeF (x : Int) : Int := match hitF x with | some k => 1 + szL (formB k) | none => 0

set_option maxRecDepth 100000 in
set_option maxHeartbeats 1000000 in
theorem resize_some (x : Int) (k : Nat) (w : World) (h0 : 0 ≤ x) (h1 : x ≤ 255) (hk : hitF x = some k) :
    Calls Try.prog 11 #[.int .i64 x] w fun e w' => e = .returned (.int .i64 (1 + szL (formB k))) ∧ Below w.heap.size w w' := by
  have hlt := hitF_lt hk
  have hop : opF x = (k : Int) := by simp [opF, hk]
  have hge : (0 : Int) ≤ (k : Int) := by omega
  have hl32 : (k : Int) < 32 := by omega
  have hneg : decide ((k : Int) < 0) = false := by simp
  have hlen := formB_len ⟨k, hlt⟩
  simp only at hlen
  obtain ⟨-, -, -, hs⟩ := form_ok k hlt
  clear hk
  go_enter Try.func11, Try.ntmps11
  go_wp2_with (first | (go_at_call 19; refine (refind_any x _ h0 h1).mono ?_; rintro e w1 ⟨rfl, hb1⟩; rw [hop]) | (go_at_call 20; refine (forms_any _).mono ?_; rintro e w2 ⟨rfl, rfl⟩; have c3 : (w1.alloc (.cells formCells 46)).cell? ⟨w1.heap.size, k * 4 + 3, none⟩ = some (.string (formS k 3)) := (cell_of_row _ _ _ _ 46 (0, 0) (heap_alloc_last w1 _)).trans (form_at k 3 _ hs)) | (refine wpList_bytes rfl 9 22 5 _ rfl (formS k 3) (by rfl) Try.underlying9 Try.underlying22 Try.underlying5 (w1.heap.size + 1) (by simp) ?_; intro cap w3 hb3 hz3 hc3; simp only [World.size_alloc] at hb3; rw [show strL (formS k 3) = formB k from rfl] at hc3 ⊢))
  have hb3' : Below w.heap.size w w3 := (hb1.alloc hb1.size _).trans (hb3.mono (by have := hb1.size; omega))
  clear hop c3 hs hb3
  have HC : Hid (∀ j, j < (formB k).length → w3.cell? ⟨w1.heap.size + 1, j, none⟩ = some (.int .u8 ((formB k).getD j 0))) := hc3
  clear hc3
  go_loop [4, 18] (fun n i => ∃ j : Nat, j ≤ (formB k).length ∧ i = .int .i64 j ∧ n = .int .i64 (1 + szL ((formB k).take j))) (fun _ i => (formB k).length - (intOf i).toNat)
  case atStart => exact ⟨0, by omega, rfl, rfl⟩
  case round =>
    obtain ⟨j, hj, rfl, rfl⟩ := hrel
    have hbd := szL_bd ((formB k).take j)
    have hl2 : ((formB k).take j).length ≤ 2 := by rw [List.length_take]; omega
    by_cases hjl : j < (formB k).length
    · have c := HC.out j hjl
      have hn := szL_snoc ((formB k).take j) ((formB k).getD j 0)
      rw [← take_next _ _ hjl] at hn
      have HN : Hid (szL ((formB k).take (j + 1)) = szL ((formB k).take j) + (if (formB k).getD j 0 = 119 then 4 else 1)) := hn
      clear hn
      generalize (formB k).getD j 0 = y at *
      by_cases hy : y = 119
      · subst hy
        go_wp2
        go_round
        case rel => exact ⟨j + 1, by omega, by go_num, by rw [HN.out]; go_num⟩
        case measure => simp [intOf]; omega
      · have hy' : (y == 119) = false := by simpa using hy
        rw [if_neg hy] at HN
        clear hy
        go_wp2
        go_round
        case rel => exact ⟨j + 1, by omega, by go_num, by rw [HN.out]; go_num⟩
        case measure => simp [intOf]; omega
    · go_wp2
      go_ret
      refine ⟨?_, hb3'⟩
      have : (formB k).take j = formB k := List.take_of_length_le (by omega)
      show Ending.returned (.int .i64 (1 + szL ((formB k).take j))) = _
      rw [this]

set_option maxRecDepth 100000 in
set_option maxHeartbeats 400000 in
theorem resize_any (x : Int) (w : World) (h0 : 0 ≤ x) (h1 : x ≤ 255) :
    Calls Try.prog 11 #[.int .i64 x] w fun e w' => e = .returned (.int .i64 (sizeF x)) ∧ Below w.heap.size w w' := by
  cases hk : hitF x with
  | some k =>
    have e : sizeF x = 1 + szL (formB k) := by simp [sizeF, hk]
    rw [e]; exact resize_some x k w h0 h1 hk
  | none =>
    have e : sizeF x = 0 := by simp [sizeF, hk]
    have hop : opF x = -1 := by simp [opF, hk]
    rw [e]
    clear e hk
    go_enter Try.func11, Try.ntmps11
    go_wp2_with (go_at_call 19; refine (refind_any x _ h0 h1).mono ?_; rintro e w1 ⟨rfl, hb1⟩; rw [hop])
    go_ret
    exact ⟨rfl, hb1⟩

end Go.Proofs.Ytnnnmhpbdkalaaa
