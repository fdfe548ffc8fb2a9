import Derived.Test.YtmnifblbacgeoabOT
import Derived.Laws.Cover3
namespace Go.Proofs.Ytmnifblbacgeoab
open Go.RowKit
open Go.Maps
set_option maxRecDepth 100000
set_option linter.unusedVariables false
set_option linter.unusedSimpArgs false

/-! ## opt: Block -/
def hOf (l : List ON) : Nat → ON := fun i => l.getD i onD
theorem rO_cells (o : ON) (r : Nat) : opCell (rO o) r = onC o r := by
  match r with
  | 0 | 1 | 2 | 3 | 4 | 5 => rfl
  | n + 6 => rfl
theorem opsL_on (h : Nat → ON) (l : List ON) (e : ∀ i, i < l.length → h i = l.getD i onD) : opsL (fun i => rO (h i)) l.length = onsV l := by
  apply List.ext_getElem?
  intro j
  by_cases hj : j < l.length * 7
  · have h1 := onsV_at l (j / 7) (j % 7) (by omega) (by omega)
    rw [show j / 7 * 7 + j % 7 = j by omega] at h1
    rw [h1]
    unfold opsL
    rw [List.getElem?_map, List.getElem?_range hj]
    show some (opCell (rO (h (j / 7))) (j % 7)) = _
    rw [rO_cells, e _ (by omega)]
  · rw [List.getElem?_eq_none (by rw [opsL_len]; omega), List.getElem?_eq_none (by rw [onsV_len]; omega)]
/-- Operations that lie in a row of one's own. -/
theorem owns_opsR {w : World} {base : Nat} {sv : Value} {l : List ON} (h : w.ownsRow base 67 7 sv l.length (onsV l)) (hn : 0 < l.length) : ∃ g cap, sv = .slice (some ⟨g, 0, none⟩) l.length cap ∧ base ≤ g ∧ l.length ≤ cap ∧ OpsR w (some ⟨g, 0, none⟩) l.length (fun i => rO (hOf l i)) := by
  rcases h.2 with ⟨-, h0⟩ | ⟨g, c', cur, hv, hb, hh, h1, h2, h3, h4⟩
  · omega
  · have h' := h
    rw [hv, ← opsL_on (hOf l) l (fun _ _ => rfl)] at h'
    exact ⟨g, c', hv, hb, h1, (owns_ops h' hn).1⟩
theorem sl_nil (b off n cap : Nat) (w : World) : Sem.run Try.prog (binOp BinOp.eql 23 (Value.slice (some ⟨b, off, none⟩) n cap) (Value.slice none 0 0)) w = .ok (.bool false) w := by
  unfold binOp
  simp [go_sem, run_equal_slice_nil _ 23 67 _ _ _ Try.underlying23]
set_option maxHeartbeats 1000000 in
theorem on_eqIn (x y : ON) (w : World) : (Op.equalIn 10000 67 (onV x) (onV y)).run Try.prog w = .ok (onEq x y) w := by
  have u3 := Try.underlying3
  have u22 := Try.underlying22
  have a3 := Try.isAgg3
  have a22 := Try.isAgg22
  have z3 := Try.sizeOf3
  have z22 := Try.sizeOf22
  have hS : Try.prog.underlying 67 = some (.struct (Try.prog.fieldsOf 67)) := by kernel_rfl
  have hp : Try.prog.stoodInHeld 67 = false := by kernel_rfl
  rw [show (10000 : Nat) = 9999 + 1 from rfl, run_equalIn_agg w 9999 67 _ _ hS hp]
  simp only [Program.fieldsOf, Try.underlying67]
  go_simp
  simp only [Int.ofNat_inj]
  unfold onEq
  repeat' split
  all_goals simp_all
theorem on_neq (x y : ON) (w : World) : Sem.run Try.prog (binOp BinOp.neq 67 (.agg #[.int .i64 x.kd, .int .i64 x.w, .int .i64 x.a, .int .i64 x.b, .int .i64 x.c, .int .u32 x.k, .int .i64 x.n]) (.agg #[.int .i64 y.kd, .int .i64 y.w, .int .i64 y.a, .int .i64 y.b, .int .i64 y.c, .int .u32 y.k, .int .i64 y.n])) w = .ok (.bool (!onEq x y)) w := by
  rw [run_neq_struct, show (Op.equalIn 10000 67 (.agg #[.int .i64 x.kd, .int .i64 x.w, .int .i64 x.a, .int .i64 x.b, .int .i64 x.c, .int .u32 x.k, .int .i64 x.n]) (.agg #[.int .i64 y.kd, .int .i64 y.w, .int .i64 y.a, .int .i64 y.b, .int .i64 y.c, .int .u32 y.k, .int .i64 y.n])).run Try.prog w = .ok (onEq x y) w from on_eqIn x y w]
  rfl
theorem on_eql (x y : ON) (w : World) : Sem.run Try.prog (binOp BinOp.eql 67 (.agg #[.int .i64 x.kd, .int .i64 x.w, .int .i64 x.a, .int .i64 x.b, .int .i64 x.c, .int .u32 x.k, .int .i64 x.n]) (.agg #[.int .i64 y.kd, .int .i64 y.w, .int .i64 y.a, .int .i64 y.b, .int .i64 y.c, .int .u32 y.k, .int .i64 y.n])) w = .ok (.bool (onEq x y)) w := by
  rw [run_eql_struct, show (Op.equalIn 10000 67 (.agg #[.int .i64 x.kd, .int .i64 x.w, .int .i64 x.a, .int .i64 x.b, .int .i64 x.c, .int .u32 x.k, .int .i64 x.n]) (.agg #[.int .i64 y.kd, .int .i64 y.w, .int .i64 y.a, .int .i64 y.b, .int .i64 y.c, .int .u32 y.k, .int .i64 y.n])).run Try.prog w = .ok (onEq x y) w from on_eqIn x y w]
  rfl
set_option maxHeartbeats 2000000 in
theorem clone_any (n cap : Nat) (bp : Option Addr) (f : Nat → OpR) (w : World) (hO : OpsR w bp n f) (n1 : 0 < n) (hn : n ≤ 2048) :
    Calls Try.prog 55 #[.slice bp n cap] w fun e w' => ∃ sv, e = .returned sv ∧ w'.ownsRow w.heap.size 67 7 sv n (opsL f n) ∧ Below w.heap.size w w' := by
  obtain ⟨b, off, rfl, hb, hc⟩ := hO n1
  obtain ⟨io, hio, hzo, hso, hbo⟩ := info_parts info160
  have hb0 : Below w.heap.size w (w.alloc (.cells #[] 67)) := (Below.refl _ _).alloc (Nat.le_refl _) _
  have HNW : Hid (∀ j v, (opsL f n)[j]? = some v → (w.alloc (.cells #[] 67)).cell? ((⟨b, off, none⟩ : Addr).add j) = some v) := show ∀ j v, _ from fun j v hv => by
    obtain ⟨hj, rfl⟩ := opsL_at f n j v hv
    rw [Addr.add_mid, show off + j = (off + j / 7 * 7) + j % 7 by omega]
    exact (((hc (j / 7) (by omega)).below hb0 hb).cells (j % 7) (by omega))
  have HOW0 : Hid ((w.alloc (.cells #[] 67)).ownsRow w.heap.size 67 7 (.slice (some ⟨w.heap.size, 0, none⟩) 0 0) 0 []) := ⟨rfl, Or.inr ⟨w.heap.size, 0, #[], rfl, Nat.le_refl _, heap_alloc_last _ _, Nat.le_refl _, by unfold maxLen; omega, rfl, rfl⟩⟩
  have HN : Hid (0 < n) := n1
  have C3 : Hid (0 + n ≤ maxLen) := show 0 + n ≤ maxLen by unfold maxLen; omega
  have C4 : Hid ((0 + n) * 56 ≤ 140737488355328) := show (0 + n) * 56 ≤ 140737488355328 by omega
  have C5 : Hid (w.heap.size ≤ (w.alloc (.cells #[] 67)).heap.size) := show w.heap.size ≤ _ by simp
  have HB0 : Hid _ := hb0
  have sn := sl_nil b off n cap
  clear hO hc hb n1 hn hb0
  go_enter Try.func55, Try.ntmps55
  go_wp2_with (at_builtin; refine wpList_append_lies _ rfl _ _ _ rfl w.heap.size 67 io _ 7 56 Try.underlying23 hio hzo hso hbo rfl (by decide) (.slice (some ⟨w.heap.size, 0, none⟩) 0 0) 0 [] (by rfl) HOW0.out ⟨b, off, none⟩ n cap (opsL f n) (by rfl) (opsL_len f n) HNW.out (opsL_one f n) HN.out C3.out C4.out C5.out (w.heap.size + 1) (by simp) ?_; intro g cap2 w2 hown hgr hgg hlt; have HOW : Hid _ := hown; have HGR : Hid _ := hgr; clear hown hgr hgg hlt)
  go_ret
  refine ⟨_, rfl, ?_, Below.grown HB0.out HGR.out C5.out (fun k hk => by cases hk; exact Nat.le_refl _)⟩
  have h1 := HOW.out
  rw [Nat.zero_add, List.nil_append] at h1
  exact h1
/-- Are the first m the same? -/
def eqN (h1 h2 : Nat → ON) : Nat → Bool
  | 0 => true
  | m + 1 => eqN h1 h2 m && onEq (h1 m) (h2 m)
theorem eqN_no {h1 h2 : Nat → ON} {q : Nat} (h : onEq (h1 q) (h2 q) = false) : ∀ p, q < p → eqN h1 h2 p = false
  | 0, hp => absurd hp (Nat.not_lt_zero _)
  | p + 1, hp => by
    rcases Nat.lt_succ_iff_lt_or_eq.1 hp with h1' | rfl
    · simp [eqN, eqN_no h p h1']
    · simp [eqN, h]
theorem eqN_all {h1 h2 : Nat → ON} : ∀ {p : Nat}, eqN h1 h2 p = true → ∀ i, i < p → h1 i = h2 i
  | 0, _, i, hi => absurd hi (Nat.not_lt_zero _)
  | p + 1, h, i, hi => by
    simp only [eqN, Bool.and_eq_true] at h
    rcases Nat.lt_succ_iff_lt_or_eq.1 hi with h1' | rfl
    · exact eqN_all h.1 i h1'
    · exact (onEq_iff _ _).1 h.2
set_option maxHeartbeats 4000000 in
theorem equal_any (b1 c1 b2 c2 n m : Nat) (h1 h2 : Nat → ON) (w : World) (hO1 : OpsR w (some ⟨b1, 0, none⟩) n (fun i => rO (h1 i))) (hO2 : OpsR w (some ⟨b2, 0, none⟩) m (fun i => rO (h2 i))) (hn : n ≤ 2048) (hm : m ≤ 2048) :
    Calls Try.prog 59 #[.slice (some ⟨b1, 0, none⟩) n c1, .slice (some ⟨b2, 0, none⟩) m c2] w fun e w' => e = .returned (.bool (decide (n = m) && eqN h1 h2 n)) ∧ Below w.heap.size w w' := by
  have H1 : Hid (OpsR w (some ⟨b1, 0, none⟩) n (fun i => rO (h1 i))) := hO1
  have H2 : Hid (OpsR w (some ⟨b2, 0, none⟩) m (fun i => rO (h2 i))) := hO2
  have ni : (n : Int) ≤ 2048 := by omega
  by_cases he : n = m
  rotate_left
  · have ie : ¬ (n : Int) = (m : Int) := by omega
    have de : ((n : Int) == (m : Int)) = false := by simpa using ie
    rw [decide_eq_false he]
    clear hO1 hO2 he
    go_enter Try.func59, Try.ntmps59
    go_wp2
    go_ret
    exact ⟨rfl, Below.refl _ _⟩
  subst he
  rw [decide_eq_true rfl, Bool.true_and]
  obtain ⟨E, HE⟩ : ∃ E, Hid (eqN h1 h2 n = E) := ⟨_, rfl⟩
  rw [HE.out]
  clear hO1 hO2
  go_enter Try.func59, Try.ntmps59
  go_wp2
  go_loopw [13] (fun i' wr => ∃ j : Nat, i' = .int .i64 j ∧ j ≤ n ∧ eqN h1 h2 j = true ∧ Below w.heap.size w wr) (fun i _ => n - (intOf i).toNat)
  case atStart => exact ⟨0, rfl, by omega, rfl, Below.refl _ _⟩
  case round =>
    obtain ⟨j, rfl, hj, hall, hW⟩ := hrel
    have HA : Hid _ := hall
    have HB : Hid _ := hW
    clear hall hW
    by_cases hlt : j < n
    · have hji : (j : Int) < (n : Int) := by omega
      have dj : decide ((j : Int) < (n : Int)) = true := decide_eq_true hji
      have j0 : (0 : Int) ≤ (j : Int) := by omega
      have HLT : Hid (j < n) := hlt
      obtain ⟨x1, o1, e1, l1, p1⟩ := (OpsR.below (f := fun i => rO (h1 i)) (bp := some ⟨b1, 0, none⟩) H1.out HB.out (Nat.le_refl _)) (by omega)
      obtain ⟨x2, o2, e2, l2, p2⟩ := (OpsR.below (f := fun i => rO (h2 i)) (bp := some ⟨b2, 0, none⟩) H2.out HB.out (Nat.le_refl _)) (by omega)
      cases e1
      cases e2
      have q1 := p1 j hlt
      have q2 := p2 j hlt
      simp only [Nat.zero_add] at q1 q2
      have a0 : wr.cell? ⟨b1, j * 7, none⟩ = some (.int .i64 (h1 j).kd) := q1.c0
      have d0 : wr.cell? ⟨b2, j * 7, none⟩ = some (.int .i64 (h2 j).kd) := q2.c0
      have a1 : wr.cell? ⟨b1, j * 7 + 1, none⟩ = some (.int .i64 (h1 j).w) := q1.c1
      have d1 : wr.cell? ⟨b2, j * 7 + 1, none⟩ = some (.int .i64 (h2 j).w) := q2.c1
      have a2 : wr.cell? ⟨b1, j * 7 + 2, none⟩ = some (.int .i64 (h1 j).a) := q1.c2
      have d2 : wr.cell? ⟨b2, j * 7 + 2, none⟩ = some (.int .i64 (h2 j).a) := q2.c2
      have a3 : wr.cell? ⟨b1, j * 7 + 3, none⟩ = some (.int .i64 (h1 j).b) := q1.c3
      have d3 : wr.cell? ⟨b2, j * 7 + 3, none⟩ = some (.int .i64 (h2 j).b) := q2.c3
      have a4 : wr.cell? ⟨b1, j * 7 + 4, none⟩ = some (.int .i64 (h1 j).c) := q1.c4
      have d4 : wr.cell? ⟨b2, j * 7 + 4, none⟩ = some (.int .i64 (h2 j).c) := q2.c4
      have a5 : wr.cell? ⟨b1, j * 7 + 5, none⟩ = some (.int .u32 (h1 j).k) := q1.c5
      have d5 : wr.cell? ⟨b2, j * 7 + 5, none⟩ = some (.int .u32 (h2 j).k) := q2.c5
      have a6 : wr.cell? ⟨b1, j * 7 + 6, none⟩ = some (.int .i64 (h1 j).n) := q1.c6
      have d6 : wr.cell? ⟨b2, j * 7 + 6, none⟩ = some (.int .i64 (h2 j).n) := q2.c6
      obtain ⟨C, HC⟩ : ∃ C, Hid (onEq (h1 j) (h2 j) = C) := ⟨_, rfl⟩
      have ne := on_neq (h1 j) (h2 j)
      rw [HC.out] at ne
      clear p1 p2 q1 q2 hlt
      cases C with
      | true =>
        go_upto_region 6 with fail
        go_quiet (fail)
        go_wp2
        go_round
        case rel => exact ⟨j + 1, by go_num, HLT.out, by show (eqN h1 h2 j && onEq (h1 j) (h2 j)) = true; rw [HA.out, HC.out]; rfl, below_drewN HB.out _⟩
        case measure => have := HLT.out; simp [intOf]; omega
      | false =>
        have FB : Hid (E = false) := show E = false by rw [← HE.out]; exact eqN_no HC.out n HLT.out
        go_upto_region 6 with fail
        go_quiet (fail)
        go_wp2
        go_ret
        exact ⟨by rw [FB.out]; rfl, below_drewN HB.out _⟩
    · obtain rfl : j = n := by omega
      have dj : decide ((j : Int) < (j : Int)) = false := decide_eq_false (by omega)
      clear hlt
      go_wp2
      go_ret
      exact ⟨by rw [← HE.out, HA.out]; rfl, HB.out⟩
end Go.Proofs.Ytmnifblbacgeoab
