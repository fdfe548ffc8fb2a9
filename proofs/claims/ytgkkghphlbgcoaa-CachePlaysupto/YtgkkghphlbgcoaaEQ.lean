import Derived.Test.YtgkkghphlbgcoaaLK
import Derived.Test.YtgkkghphlbgcoaaKB
namespace Go.Proofs.Ytgkkghphlbgcoaa.Ca
open Go.RowKit Go.Maps Ho
set_option maxRecDepth 100000
set_option linter.unusedVariables false
set_option linter.unusedSimpArgs false
theorem infoP : (Try.prog.info? 87).map (fun i => (i.zero, i.size, i.bytes)) = some (some (.agg #[.int .i64 0, .int .u32 0]), 2, 16) := by kernel_rfl
/-- Parts, as cells. -/
def encs (ps : List (Nat × Nat)) : List Value := ps.flatMap fun p => [Value.int .i64 p.1, .int .u32 p.2]
theorem encs_app (ps : List (Nat × Nat)) (p : Nat × Nat) : encs (ps ++ [p]) = encs ps ++ [Value.int .i64 p.1, .int .u32 p.2] := by simp [encs]
def isX (o : Int) : Bool := o == 14 || o == 11
def thr (pc at' : Nat) (x : Cd) : Bool := if at' = 0 then x.op == 1 && x.k == pc else !(x.op == 1) && !(x.op == 15) && !(x.op == 96)
structure Ls (w0 w : World) (n0 L P pc : Nat) (ps : List (Nat × Nat)) : Prop where
  ex : ∃ lv, Boxed w L 80 lv ∧ w.ownsRow n0 87 2 lv ps.length (encs ps)
  p : Boxed w P 30 (.int .u32 pc)
  b : Below n0 w0 w
  n : n0 ≤ L ∧ n0 ≤ P ∧ L ≠ P
theorem Ls.below {w0 w w' : World} {n0 L P pc : Nat} {ps : List (Nat × Nat)} (h : Ls w0 w n0 L P pc ps) (hb : Below w.heap.size w w') (hn : n0 ≤ w.heap.size) : Ls w0 w' n0 L P pc ps := by
  obtain ⟨lv, h1, h2⟩ := h.ex
  have hg : w.grownBy w' none := ⟨hb.os, hb.tape, hb.output, hb.size, fun k hk _ => hb.block k hk⟩
  exact ⟨⟨lv, h1.kept hg (by simp), h2.kept hg (by cases e : lv.ownBlock with | none => exact .inl rfl | some k => exact .inr (by simp))⟩, h.p.kept hg (by simp), h.b.trans (hb.mono hn), h.n⟩
theorem new_two (W : World) (x y : Value) (t : TypeId) : ∀ j u, [x, y][j]? = some u → (W.alloc (.cells #[x, y] t)).cell? ((⟨W.heap.size, 0, none⟩ : Addr).add j) = some u := by
  intro j u hj
  match j, hj with
  | 0, hj => simp at hj; subst hj; simp [Addr.add]
  | 1, hj => simp at hj; subst hj; simp [Addr.add]
theorem new_twoR (w : World) (x y : Value) (o : Obj) (t : TypeId) : ∀ j u, [x, y][j]? = some u → ((w.alloc o).alloc (.cells #[x, y] t)).cell? ((⟨w.heap.size + 1, 0, none⟩ : Addr).add j) = some u := by
  have := new_two (w.alloc o) x y t
  simpa using this
theorem cell_keep {w w1 : World} {A : Array Value} {t e : TypeId} {ob : Obj} {lv : Value} {n0 size n off : Nat} {xs : List Value} (hr : w.ownsRow n0 e size lv n xs) (hg : ((w.alloc (.cells A t)).alloc ob).grownBy w1 lv.ownBlock) : w1.cell? ⟨w.heap.size, off, none⟩ = A[off]? := by
  have hne : some w.heap.size ≠ lv.ownBlock := fun e => by have := (hr.lt _ e.symm).2; omega
  have hb := hg.block w.heap.size (by simp; omega) hne
  have h1 : ((w.alloc (.cells A t)).alloc ob).heap[w.heap.size]? = some (.cells A t) := by
    rw [((Below.refl (w.alloc (.cells A t)).heap.size (w.alloc (.cells A t))).alloc (Nat.le_refl _) ob).block _ (by simp)]
    exact World.alloc_heap_new w _
  rw [h1] at hb
  exact So.row_cell hb off
set_option maxHeartbeats 4000000 in
theorem thr_x (L P n0 pc at' : Nat) (o d aa bb cc n : Int) (k y : Nat) (ps : List (Nat × Nat)) (w0 w : World) (h : Ls w0 w n0 L P pc ps) (hl : ps.length ≤ 1048576) (ho : o = 14 ∨ o = 11) :
    Calls Try.prog 56 #[.int .i64 at', cdV ⟨o, d, aa, bb, cc, n, k, y⟩, .pointer (some ⟨L, 0, none⟩), .pointer (some ⟨P, 0, none⟩)] w fun e w' => e = .returned (.bool (!decide (at' = 0))) ∧ Ls w0 w' n0 L P pc (ps ++ [(at', k)]) := by
  obtain ⟨i0, hi, hz0, hz1, hz2⟩ := info_parts infoP
  obtain ⟨lv, hL, hr⟩ := h.ex
  obtain ⟨n1, n2, n3⟩ := h.n
  have HH : Hid _ := h
  have HL : Hid (Boxed w L 80 lv) := hL
  have c0 := hL.cell
  have lL := hL.lt
  have HRow : Hid (w.ownsRow n0 87 2 lv ps.length (encs ps)) := hr
  have hc0 : (w.alloc (.cells #[.int .i64 o, .int .i64 d, .int .i64 aa, .int .i64 bb, .int .i64 cc, .int .i64 n, .int .u32 k, .int .u32 y] 41)).cell? ⟨L, 0, none⟩ = some lv := by rw [World.cell?_alloc_old _ _ _ (Nat.ne_of_lt lL)]; exact c0
  clear h hr hL
  by_cases ha : at' = 0
  · subst ha
    rcases ho with rfl | rfl
    ·
      have HN : Hid _ := new_twoR w (.int .i64 0) (.int .u32 k) (.cells #[.int .i64 14, .int .i64 d, .int .i64 aa, .int .i64 bb, .int .i64 cc, .int .i64 n, .int .u32 k, .int .u32 y] 41) 87
      go_enter Try.func56, Try.ntmps56
      go_wp2_with (at_builtin; refine wpList_append_own _ rfl _ _ 80 rfl n0 87 i0 (.agg #[.int .i64 0, .int .u32 0]) 2 16 Try.underlying80 hi hz0 hz1 hz2 rfl (by decide) _ _ _ rfl ((HRow.out.alloc _).alloc _) ⟨w.heap.size + 1, 0, none⟩ 1 1 [.int .i64 0, .int .u32 k] rfl rfl HN.out (by simp [Value.oneCell']) (by rw [show maxLen = 9223372036854775807 by decide]; omega) (by omega) (by simp; omega) ?_; intro v' w1 hown' hgrow _; obtain ⟨g', cap', rfl⟩ := ownsRow_succ hown'; obtain ⟨a1, a2, a3, _, a5⟩ := (HL.out.alloc _).appended (by decide) (HRow.out.alloc _) (by simp; omega) n1 hown' hgrow; have c1' := a1.cell; have f1' := a1.frozen; have x0 : w1.cell? ⟨w.heap.size, 0, none⟩ = some (.int .i64 14) := cell_keep (off := 0) HRow.out hgrow; have P1 := (((HH.out.p.alloc _).alloc _).kept hgrow (HH.out.p.not_row (by decide) HRow.out)))
      go_ret
      exact ⟨rfl, ⟨⟨_, a2, by rw [encs_app]; simpa using a3⟩, P1.kept (grownBy_setCell' _ _ _) (by simpa using Ne.symm n3), HH.out.b.trans (((Below.refl n0 w).alloc (by omega) _).trans a5), HH.out.n⟩⟩
    ·
      have HN : Hid _ := new_twoR w (.int .i64 0) (.int .u32 k) (.cells #[.int .i64 11, .int .i64 d, .int .i64 aa, .int .i64 bb, .int .i64 cc, .int .i64 n, .int .u32 k, .int .u32 y] 41) 87
      go_enter Try.func56, Try.ntmps56
      go_wp2_with (at_builtin; refine wpList_append_own _ rfl _ _ 80 rfl n0 87 i0 (.agg #[.int .i64 0, .int .u32 0]) 2 16 Try.underlying80 hi hz0 hz1 hz2 rfl (by decide) _ _ _ rfl ((HRow.out.alloc _).alloc _) ⟨w.heap.size + 1, 0, none⟩ 1 1 [.int .i64 0, .int .u32 k] rfl rfl HN.out (by simp [Value.oneCell']) (by rw [show maxLen = 9223372036854775807 by decide]; omega) (by omega) (by simp; omega) ?_; intro v' w1 hown' hgrow _; obtain ⟨g', cap', rfl⟩ := ownsRow_succ hown'; obtain ⟨a1, a2, a3, _, a5⟩ := (HL.out.alloc _).appended (by decide) (HRow.out.alloc _) (by simp; omega) n1 hown' hgrow; have c1' := a1.cell; have f1' := a1.frozen; have x0 : w1.cell? ⟨w.heap.size, 0, none⟩ = some (.int .i64 11) := cell_keep (off := 0) HRow.out hgrow; have P1 := (((HH.out.p.alloc _).alloc _).kept hgrow (HH.out.p.not_row (by decide) HRow.out)))
      go_ret
      exact ⟨rfl, ⟨⟨_, a2, by rw [encs_app]; simpa using a3⟩, P1.kept (grownBy_setCell' _ _ _) (by simpa using Ne.symm n3), HH.out.b.trans (((Below.refl n0 w).alloc (by omega) _).trans a5), HH.out.n⟩⟩
  · have a1 : ¬ (at' : Int) = 0 := by omega
    have a2 : decide ((at' : Int) = 0) = false := decide_eq_false a1
    have a3' : (!decide (at' = 0)) = true := by simp [ha]
    rw [a3']
    clear ha a3'
    rcases ho with rfl | rfl
    ·
      have HN : Hid _ := new_twoR w (.int .i64 at') (.int .u32 k) (.cells #[.int .i64 14, .int .i64 d, .int .i64 aa, .int .i64 bb, .int .i64 cc, .int .i64 n, .int .u32 k, .int .u32 y] 41) 87
      go_enter Try.func56, Try.ntmps56
      go_wp2_with (at_builtin; refine wpList_append_own _ rfl _ _ 80 rfl n0 87 i0 (.agg #[.int .i64 0, .int .u32 0]) 2 16 Try.underlying80 hi hz0 hz1 hz2 rfl (by decide) _ _ _ rfl ((HRow.out.alloc _).alloc _) ⟨w.heap.size + 1, 0, none⟩ 1 1 [.int .i64 at', .int .u32 k] rfl rfl HN.out (by simp [Value.oneCell']) (by rw [show maxLen = 9223372036854775807 by decide]; omega) (by omega) (by simp; omega) ?_; intro v' w1 hown' hgrow _; obtain ⟨g', cap', rfl⟩ := ownsRow_succ hown'; obtain ⟨a1, a2, a3, _, a5⟩ := (HL.out.alloc _).appended (by decide) (HRow.out.alloc _) (by simp; omega) n1 hown' hgrow; have c1' := a1.cell; have f1' := a1.frozen; have x0 : w1.cell? ⟨w.heap.size, 0, none⟩ = some (.int .i64 14) := cell_keep (off := 0) HRow.out hgrow; have P1 := (((HH.out.p.alloc _).alloc _).kept hgrow (HH.out.p.not_row (by decide) HRow.out)))
      go_ret
      exact ⟨rfl, ⟨⟨_, a2, by rw [encs_app]; simpa using a3⟩, P1.kept (grownBy_setCell' _ _ _) (by simpa using Ne.symm n3), HH.out.b.trans (((Below.refl n0 w).alloc (by omega) _).trans a5), HH.out.n⟩⟩
    ·
      have HN : Hid _ := new_twoR w (.int .i64 at') (.int .u32 k) (.cells #[.int .i64 11, .int .i64 d, .int .i64 aa, .int .i64 bb, .int .i64 cc, .int .i64 n, .int .u32 k, .int .u32 y] 41) 87
      go_enter Try.func56, Try.ntmps56
      go_wp2_with (at_builtin; refine wpList_append_own _ rfl _ _ 80 rfl n0 87 i0 (.agg #[.int .i64 0, .int .u32 0]) 2 16 Try.underlying80 hi hz0 hz1 hz2 rfl (by decide) _ _ _ rfl ((HRow.out.alloc _).alloc _) ⟨w.heap.size + 1, 0, none⟩ 1 1 [.int .i64 at', .int .u32 k] rfl rfl HN.out (by simp [Value.oneCell']) (by rw [show maxLen = 9223372036854775807 by decide]; omega) (by omega) (by simp; omega) ?_; intro v' w1 hown' hgrow _; obtain ⟨g', cap', rfl⟩ := ownsRow_succ hown'; obtain ⟨a1, a2, a3, _, a5⟩ := (HL.out.alloc _).appended (by decide) (HRow.out.alloc _) (by simp; omega) n1 hown' hgrow; have c1' := a1.cell; have f1' := a1.frozen; have x0 : w1.cell? ⟨w.heap.size, 0, none⟩ = some (.int .i64 11) := cell_keep (off := 0) HRow.out hgrow; have P1 := (((HH.out.p.alloc _).alloc _).kept hgrow (HH.out.p.not_row (by decide) HRow.out)))
      go_ret
      exact ⟨rfl, ⟨⟨_, a2, by rw [encs_app]; simpa using a3⟩, P1.kept (grownBy_setCell' _ _ _) (by simpa using Ne.symm n3), HH.out.b.trans (((Below.refl n0 w).alloc (by omega) _).trans a5), HH.out.n⟩⟩
end Go.Proofs.Ytgkkghphlbgcoaa.Ca
namespace Go.Proofs.Ytgkkghphlbgcoaa.Ca
open Go.RowKit Go.Maps Ho
set_option maxRecDepth 100000
set_option linter.unusedVariables false
set_option linter.unusedSimpArgs false
set_option maxHeartbeats 4000000 in
theorem thr_o (L P n0 pc at' : Nat) (o d aa bb cc n : Int) (k y : Nat) (ps : List (Nat × Nat)) (w0 w : World) (h : Ls w0 w n0 L P pc ps) (hn : n0 ≤ w.heap.size) (ho : ¬ (o = 14) ∧ ¬ (o = 11)) :
    Calls Try.prog 56 #[.int .i64 at', cdV ⟨o, d, aa, bb, cc, n, k, y⟩, .pointer (some ⟨L, 0, none⟩), .pointer (some ⟨P, 0, none⟩)] w fun e w' => e = .returned (.bool (thr pc at' ⟨o, d, aa, bb, cc, n, k, y⟩)) ∧ Ls w0 w' n0 L P pc ps := by
  obtain ⟨h14, h11⟩ := ho
  have g14 : decide (o = 14) = false := decide_eq_false h14; have b14 : (o == 14) = false := by simpa using h14
  have g11 : decide (o = 11) = false := decide_eq_false h11; have b11 : (o == 11) = false := by simpa using h11
  have HH : Hid _ := h
  have lP := h.p.lt
  have c1 : (w.alloc (.cells #[.int .i64 o, .int .i64 d, .int .i64 aa, .int .i64 bb, .int .i64 cc, .int .i64 n, .int .u32 k, .int .u32 y] 41)).cell? ⟨P, 0, none⟩ = some (.int .u32 pc) := by rw [World.cell?_alloc_old _ _ _ (Nat.ne_of_lt lP)]; exact h.p.cell
  clear h
  by_cases ha : at' = 0
  · subst ha
    by_cases h1 : o = 1
    · subst h1
      by_cases hk : k = pc
      · subst hk
        have E : thr k 0 ⟨1, d, aa, bb, cc, n, k, y⟩ = true := by simp [thr]
        rw [E]; clear E
        go_enter Try.func56, Try.ntmps56
        go_wp2
        go_ret
        exact ⟨rfl, HH.out.below ((Below.refl _ _).alloc (Nat.le_refl _) _) hn⟩
      · have hk1 : ¬ (k : Int) = (pc : Int) := by omega
        have hk2 : decide ((k : Int) = (pc : Int)) = false := decide_eq_false hk1
        have hk3 : ((k : Int) == (pc : Int)) = false := by simpa using hk1
        have E : thr pc 0 ⟨1, d, aa, bb, cc, n, k, y⟩ = false := by simp [thr, hk]
        rw [E]; clear E hk
        go_enter Try.func56, Try.ntmps56
        go_wp2
        go_ret
        exact ⟨rfl, HH.out.below ((Below.refl _ _).alloc (Nat.le_refl _) _) hn⟩
    · have g1 : decide (o = 1) = false := decide_eq_false h1; have b1 : (o == 1) = false := by simpa using h1
      have E : thr pc 0 ⟨o, d, aa, bb, cc, n, k, y⟩ = false := by simp [thr, h1]
      rw [E]; clear E
      go_enter Try.func56, Try.ntmps56
      go_wp2
      go_ret
      exact ⟨rfl, HH.out.below ((Below.refl _ _).alloc (Nat.le_refl _) _) hn⟩
  · have a1 : ¬ (at' : Int) = 0 := by omega
    have a2 : decide ((at' : Int) = 0) = false := decide_eq_false a1
    by_cases h1 : o = 1
    · subst h1
      have E : thr pc at' ⟨1, d, aa, bb, cc, n, k, y⟩ = false := by simp [thr, ha]
      rw [E]; clear E ha
      go_enter Try.func56, Try.ntmps56
      go_wp2
      go_ret
      exact ⟨rfl, HH.out.below ((Below.refl _ _).alloc (Nat.le_refl _) _) hn⟩
    · have g1 : decide (o = 1) = false := decide_eq_false h1; have b1 : (o == 1) = false := by simpa using h1
      by_cases h15 : o = 15
      · subst h15
        have E : thr pc at' ⟨15, d, aa, bb, cc, n, k, y⟩ = false := by simp [thr, ha]
        rw [E]; clear E ha
        go_enter Try.func56, Try.ntmps56
        go_wp2
        go_ret
        exact ⟨rfl, HH.out.below ((Below.refl _ _).alloc (Nat.le_refl _) _) hn⟩
      · have g15 : decide (o = 15) = false := decide_eq_false h15; have b15 : (o == 15) = false := by simpa using h15
        by_cases h96 : o = 96
        · subst h96
          have E : thr pc at' ⟨96, d, aa, bb, cc, n, k, y⟩ = false := by simp [thr, ha]
          rw [E]; clear E ha
          go_enter Try.func56, Try.ntmps56
          go_wp2
          go_ret
          exact ⟨rfl, HH.out.below ((Below.refl _ _).alloc (Nat.le_refl _) _) hn⟩
        · have g96 : decide (o = 96) = false := decide_eq_false h96; have b96 : (o == 96) = false := by simpa using h96
          have E : thr pc at' ⟨o, d, aa, bb, cc, n, k, y⟩ = true := by simp [thr, ha, h1, h15, h96]
          have n1 : (o != 1) = true := by simp [h1]
          have n15 : (o != 15) = true := by simp [h15]
          have n96 : (o != 96) = true := by simp [h96]
          rw [E]; clear E ha
          go_enter Try.func56, Try.ntmps56
          go_wp2
          go_ret
          exact ⟨rfl, HH.out.below ((Below.refl _ _).alloc (Nat.le_refl _) _) hn⟩
/-- One more part, where it is an exit. -/
def psN (ps : List (Nat × Nat)) (at' : Nat) (x : Cd) : List (Nat × Nat) := if isX x.op = true then ps ++ [(at', x.k)] else ps
theorem thr_any (L P n0 pc at' : Nat) (x : Cd) (ps : List (Nat × Nat)) (w0 w : World) (h : Ls w0 w n0 L P pc ps) (hn : n0 ≤ w.heap.size) (hl : ps.length ≤ 1048576) :
    Calls Try.prog 56 #[.int .i64 at', cdV x, .pointer (some ⟨L, 0, none⟩), .pointer (some ⟨P, 0, none⟩)] w fun e w' => e = .returned (.bool (thr pc at' x)) ∧ Ls w0 w' n0 L P pc (psN ps at' x) := by
  obtain ⟨o, d, aa, bb, cc, n, k, y⟩ := x
  by_cases ho : o = 14 ∨ o = 11
  · have e1 : isX o = true := by rcases ho with rfl | rfl <;> rfl
    have e2 : thr pc at' ⟨o, d, aa, bb, cc, n, k, y⟩ = !decide (at' = 0) := by
      by_cases ha : at' = 0
      · rcases ho with rfl | rfl <;> simp [thr, ha]
      · rcases ho with rfl | rfl <;> simp [thr, ha]
    unfold psN
    rw [if_pos e1, e2]
    exact thr_x L P n0 pc at' o d aa bb cc n k y ps w0 w h hl ho
  · have e1 : isX o = false := by simp [isX]; omega
    unfold psN
    rw [if_neg (by simp [e1])]
    exact thr_o L P n0 pc at' o d aa bb cc n k y ps w0 w h hn (by omega)
/-- Instructions one behind the other: L: where each begins. -/
def Til (ws : Nat → Nat) (len : Nat) : Nat → List Nat → Nat → Prop
  | a, [], e => a = e
  | a, s :: r, e => s = a ∧ (decP ws len a).e = 0 ∧ Til ws len (a + (decP ws len a).n) r e
theorem Til.snoc {ws : Nat → Nat} {len : Nat} : ∀ {L : List Nat} {a b : Nat}, Til ws len a L b → (decP ws len b).e = 0 → Til ws len a (L ++ [b]) (b + (decP ws len b).n)
  | [], a, b, h, hb => by cases h; exact ⟨rfl, hb, rfl⟩
  | s :: r, a, b, h, hb => ⟨h.1, h.2.1, Til.snoc h.2.2 hb⟩
def partsOf (ws : Nat → Nat) (len : Nat) (L : List Nat) : List (Nat × Nat) := L.foldl (fun ps s => psN ps s (decP ws len s).x) []
theorem parts_snoc (ws : Nat → Nat) (len : Nat) (L : List Nat) (s : Nat) : partsOf ws len (L ++ [s]) = psN (partsOf ws len L) s (decP ws len s).x := by simp [partsOf, List.foldl_append]
/-- What the walk has seen. -/
structure Sn (ws : Nat → Nat) (len pc at' : Nat) (L : List Nat) : Prop where
  t : Til ws len 0 L at'
  o : ∀ s ∈ L, thr pc s (decP ws len s).x = true
  l : L.length ≤ at'
  m : at' ≤ len
theorem psN_len (ps : List (Nat × Nat)) (s : Nat) (x : Cd) : (psN ps s x).length ≤ ps.length + 1 := by unfold psN; split <;> simp
theorem parts_len (ws : Nat → Nat) (len : Nat) : ∀ (L : List Nat) (ps : List (Nat × Nat)), (L.foldl (fun ps s => psN ps s (decP ws len s).x) ps).length ≤ ps.length + L.length
  | [], ps => by simp
  | s :: r, ps => by
    have h1 := parts_len ws len r (psN ps s (decP ws len s).x)
    have h2 := psN_len ps s (decP ws len s).x
    simp only [List.foldl_cons, List.length_cons]
    omega
theorem Sn.next {ws : Nat → Nat} {len pc at' : Nat} {L : List Nat} (hlt : ∀ i, ws i < 4294967296) (h : Sn ws len pc at' L) (hd : (decP ws len at').e = 0) (ht : thr pc at' (decP ws len at').x = true) : Sn ws len pc (at' + (decP ws len at').n) (L ++ [at']) := by
  obtain ⟨s1, s2, s3⟩ := dec_size hlt hd
  refine ⟨h.t.snoc hd, fun s hs => ?_, by have := h.l; simp; omega, s3⟩
  rcases List.mem_append.1 hs with h1 | h1
  · exact h.o s h1
  · simp at h1; subst h1; exact ht
/-- Good code, and code that is not. -/
def Good (ws : Nat → Nat) (len pc : Nat) (L : List Nat) : Prop := Sn ws len pc len L
def Bad (ws : Nat → Nat) (len pc : Nat) : Prop := ∃ at' L, Sn ws len pc at' L ∧ at' < len ∧ ((decP ws len at').e ≠ 0 ∨ thr pc at' (decP ws len at').x = false)
structure WkP (w0 : World) (n0 L P pc : Nat) (ws : Nat → Nat) (len : Nat) (e : Ending) (w' : World) : Prop where
  ex : ∃ r ps, e = .returned (.bool r) ∧ Ls w0 w' n0 L P pc ps ∧ (r = true → ∃ S, Good ws len pc S ∧ ps = partsOf ws len S) ∧ (r = false → Bad ws len pc)
structure WkI (w0 : World) (n0 L P pc : Nat) (ws : Nat → Nat) (len : Nat) (v : Value) (wr : World) : Prop where
  ex : ∃ (at' : Nat) (S : List Nat), v = .int .i64 at' ∧ Sn ws len pc at' S ∧ Ls w0 wr n0 L P pc (partsOf ws len S)
set_option maxHeartbeats 8000000 in
theorem walk_any (a : Option Addr) (len cap L P n0 pc : Nat) (ws : Nat → Nat) (w0 w : World) (hw : Ho.Wds w0 a len cap ws) (hlt : ∀ i, ws i < 4294967296) (hlen : len ≤ 1048576) (h : Ls w0 w n0 L P pc []) (hn : w0.heap.size = n0) :
    Calls Try.prog 55 #[.slice a len cap, .func (.func 56) #[] #[.pointer (some ⟨L, 0, none⟩), .pointer (some ⟨P, 0, none⟩)]] w fun e w' => WkP w0 n0 L P pc ws len e w' := by
  have HW : Hid (Ho.Wds w0 a len cap ws) := hw
  have HN : Hid _ := hn
  have HLT : Hid _ := hlt
  have HH : Hid _ := h
  clear h hw hn hlt
  go_enter Try.func55, Try.ntmps55
  go_wp2
  go_loopw [5] (fun v wr => WkI w0 n0 L P pc ws len v wr) (fun v _ => len - (intOf v).toNat)
  case atStart => exact ⟨0, [], rfl, ⟨rfl, by simp, Nat.le_refl _, Nat.zero_le _⟩, HH.out⟩
  case round =>
    obtain ⟨at', S, rfl, hS, hls⟩ := hrel
    have HS : Hid _ := hS
    have HLS : Hid _ := hls
    have hnr : n0 ≤ wr.heap.size := by have := hls.b.size; rw [HN.out] at this; exact this
    have hm := hS.m
    have hsl := hS.l
    have hpl : (partsOf ws len S).length ≤ 1048576 := by have := parts_len ws len S []; simp at this; unfold partsOf; omega
    clear hS hls
    by_cases hc : at' < len
    · have c1 : (at' : Int) < (len : Int) := by omega
      have c2 : decide ((at' : Int) < (len : Int)) = true := decide_eq_true c1
      have hwr : Ho.Wds wr a len cap ws := by
        have hb := HLS.out.b
        rw [← HN.out] at hb
        exact Ho.wds_keep HW.out hb
      obtain ⟨D, hD⟩ : ∃ D, decP ws len at' = D := ⟨_, rfl⟩
      have HD : Hid (decP ws len at' = D) := hD
      obtain ⟨de, x, df, dn⟩ := D
      have HWR : Hid _ := hwr
      clear hwr hD
      go_wp2_with (go_at_call 57; fail)
      refine Calls.mono (Ho.Decode_any a len cap at' ws _ HWR.out) ?_
      rw [HD.out]
      rintro _ w1 ⟨rfl, hb1⟩
      dsimp only
      have hls1 : Ls w0 (w1.alloc (.cells (cdA x) 41)) n0 L P pc (partsOf ws len S) := HLS.out.below (hb1.trans ((Below.refl _ _).alloc hb1.size _)) hnr
      have HL1 : Hid _ := hls1
      clear hls1
      by_cases he : de = 0
      · subst he
        have hd0 : (decP ws len at').e = 0 := by rw [HD.out]
        obtain ⟨z1, z2, z3⟩ := dec_size HLT.out hd0
        rw [HD.out] at z1 z2 z3
        dsimp only at z1 z2 z3
        have hd0H : Hid _ := hd0
        clear hd0
        go_wp2_with (go_at_call 56; fail)
        refine Calls.mono (thr_any L P n0 pc at' x (partsOf ws len S) w0 _ HL1.out (by have := hb1.size; simp; omega) hpl) ?_
        rintro _ w2 ⟨rfl, hls2⟩
        dsimp only
        have HL2 : Hid _ := hls2
        clear hls2
        cases ht : thr pc at' x with
        | true =>
          have HT : Hid _ := ht
          obtain ⟨at2, hat2⟩ : ∃ at2, at' + dn = at2 := ⟨_, rfl⟩
          have t1 : IntKind.i64.wrap ((at' : Int) + (dn : Int)) = (at2 : Int) := So.wr_add hat2 (by omega)
          have HA2 : Hid _ := hat2
          clear ht hat2
          go_wp2
          go_roundw
          case rel =>
            refine ⟨at2, S ++ [at'], rfl, ?_, ?_⟩
            · have := HS.out.next HLT.out hd0H.out (by rw [HD.out]; exact HT.out)
              rw [HD.out] at this
              dsimp only at this
              rw [HA2.out] at this
              exact this
            · rw [parts_snoc, HD.out]; exact HL2.out
          case measure => have := HA2.out; simp [intOf]; omega
        | false =>
          have HT : Hid _ := ht
          clear ht
          go_wp2
          go_ret
          refine ⟨false, _, rfl, HL2.out, by simp, fun _ => ⟨at', S, HS.out, hc, .inr (by rw [HD.out]; exact HT.out)⟩⟩
      · have ge : decide (de = 0) = false := decide_eq_false he
        go_wp2
        go_ret
        refine ⟨false, _, rfl, HL1.out, by simp, fun _ => ⟨at', S, HS.out, hc, .inl (by rw [HD.out]; exact he)⟩⟩
    · have c1 : ¬ (at' : Int) < (len : Int) := by omega
      have c2 : decide ((at' : Int) < (len : Int)) = false := decide_eq_false c1
      have he : at' = len := by omega
      have HE : Hid _ := he
      clear he
      go_wp2
      go_ret
      refine ⟨true, _, rfl, HLS.out, fun _ => ⟨S, ?_, rfl⟩, by simp⟩
      have := HS.out
      rw [HE.out] at this
      exact this
end Go.Proofs.Ytgkkghphlbgcoaa.Ca
namespace Go.Proofs.Ytgkkghphlbgcoaa.Ca
open Go.RowKit Go.Maps Ho
set_option maxRecDepth 100000
set_option linter.unusedVariables false
set_option linter.unusedSimpArgs false
/-- What exitsOf answers. -/
structure ExP (w : World) (pc : Nat) (ws : Nat → Nat) (len : Nat) (e : Ending) (w' : World) : Prop where
  ex : ∃ lv r ps, e = .returned (.tuple #[lv, .bool r]) ∧ w'.ownsRow w.heap.size 87 2 lv ps.length (encs ps) ∧ Below w.heap.size w w' ∧ (r = true → 0 < len ∧ ∃ S, Good ws len pc S ∧ ps = partsOf ws len S) ∧ (r = false → len = 0 ∨ Bad ws len pc)
set_option maxHeartbeats 4000000 in
theorem exits_any (a : Option Addr) (len cap pc : Nat) (ws : Nat → Nat) (w : World) (hw : Ho.Wds w a len cap ws) (hlt : ∀ i, ws i < 4294967296) (hlen : len ≤ 1048576) :
    Calls Try.prog 39 #[.int .u32 pc, .slice a len cap] w fun e w' => ExP w pc ws len e w' := by
  have hls : Ls w ((w.alloc (.cells #[.int .u32 pc] 30)).alloc (.cells #[.slice none 0 0] 80)) w.heap.size (w.heap.size + 1) w.heap.size pc [] := by
    have b2 := Boxed.new (w.alloc (.cells #[.int .u32 pc] 30)) 80 (.slice none 0 0)
    simp only [World.size_alloc] at b2
    exact ⟨⟨_, b2, World.ownsRow_nil _ _ _ _⟩, (Boxed.new w 30 (.int .u32 pc)).alloc _, ((Below.refl _ w).alloc (Nat.le_refl _) _).alloc (by simp) _, by omega, by omega, by omega⟩
  have HW : Hid (Ho.Wds w a len cap ws) := hw
  have HLT : Hid _ := hlt
  have HLS : Hid _ := hls
  clear hls hw hlt
  go_enter Try.func39, Try.ntmps39
  go_wp2_with (go_at_call 55; fail)
  refine Calls.mono (walk_any a len cap (w.heap.size + 1) w.heap.size w.heap.size pc ws w _ HW.out HLT.out hlen HLS.out rfl) ?_
  rintro _ w1 ⟨r, ps, rfl, hl1, hg, hb⟩
  dsimp only
  obtain ⟨lv, h1, h2⟩ := hl1.ex
  have c1 := h1.cell
  have HR : Hid (w1.ownsRow w.heap.size 87 2 lv ps.length (encs ps)) := h2
  have HB : Hid _ := hl1.b
  have HG : Hid _ := hg
  have HBd : Hid _ := hb
  have lL := h1.lt
  clear h2 hl1 h1 hg hb
  cases r with
  | false =>
    go_wp2
    go_ret2
    exact ⟨lv, false, ps, rfl, HR.out, HB.out, by simp, fun _ => .inr (HBd.out (by trivial))⟩
  | true =>
    by_cases h0 : 0 < len
    · have g0 : (0 : Int) < (len : Int) := by omega
      have g1 : decide ((0 : Int) < (len : Int)) = true := decide_eq_true g0
      go_wp2
      go_ret2
      exact ⟨lv, true, ps, rfl, HR.out, HB.out, fun _ => ⟨h0, HG.out (by trivial)⟩, by simp⟩
    · have g0 : ¬ (0 : Int) < (len : Int) := by omega
      have g1 : decide ((0 : Int) < (len : Int)) = false := decide_eq_false g0
      go_wp2
      go_ret2
      exact ⟨lv, false, ps, rfl, HR.out, HB.out, by simp, fun _ => .inl (by omega)⟩
end Go.Proofs.Ytgkkghphlbgcoaa.Ca
