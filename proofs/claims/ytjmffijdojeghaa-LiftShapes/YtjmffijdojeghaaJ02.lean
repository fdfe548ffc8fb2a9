import Derived.Test.YtjmffijdojeghaaJ01
import Derived.Deep.RegionLaw
import Derived.Lib.SliceRun
namespace Go.Proofs.Ytjmffijdojeghaa
open Go.RowKit
set_option maxRecDepth 100000
set_option linter.unusedVariables false

abbrev goV : Value := .agg #[.int .i64 0, .int .u32 0]
abbrev stV (k : Int) (x : Nat) : Value := .agg #[.int .i64 k, .int .u32 x]

theorem fetch_none (X a : Nat) (n : Int) (w : World) (hn : n ≤ 0 ∨ 8 < n) :
    Calls Try.prog 77 #[.pointer (some ⟨X, 0, none⟩), .int .u32 a, .int .i64 n] w fun e w' => e = .returned (.tuple #[.slice none 0 0, goV]) ∧ Below w.heap.size w w' := by
  rcases hn with h | h
  · have d : decide (n ≤ 0) = true := decide_eq_true h
    go_enter Try.func77, Try.ntmps77
    go_wp2
    exact bodyPost_ret (v := .tuple #[.slice none 0 0, goV]) (by simp [results, Try.results77, go_sem]) rfl ⟨rfl, by first | exact ((Below.refl _ _).alloc (Nat.le_refl _) _).setCell (Nat.le_refl _) _ | exact (Below.refl _ _).alloc (Nat.le_refl _) _⟩
  · have d : decide (n ≤ 0) = false := decide_eq_false (by omega)
    have d2 : decide (8 < n) = true := decide_eq_true h
    go_enter Try.func77, Try.ntmps77
    go_wp2
    exact bodyPost_ret (v := .tuple #[.slice none 0 0, goV]) (by simp [results, Try.results77, go_sem]) rfl ⟨rfl, by first | exact ((Below.refl _ _).alloc (Nat.le_refl _) _).setCell (Nat.le_refl _) _ | exact (Below.refl _ _).alloc (Nat.le_refl _) _⟩

theorem PM.alloc {w : World} {X : Nat} {s : MS} (h : PM w X s) (o : Obj) : PM (w.alloc o) X s := h.below ((Below.refl w.heap.size w).alloc (Nat.le_refl _) o) h.lt
theorem RM.alloc {w : World} {k : RB} {s : MS} (h : RM w k s) (o : Obj) : RM (w.alloc o) k s := h.below ((Below.refl w.heap.size w).alloc (Nat.le_refl _) o) (Nat.le_refl _)

theorem own2 {w w' : World} {v0 v1 : Value} {t : TypeId} (hb : Below (w.alloc (.cells #[v0, v1] t)).heap.size (w.alloc (.cells #[v0, v1] t)) w') :
    w'.cell? ⟨w.heap.size, 0, none⟩ = some v0 ∧ w'.cell? ⟨w.heap.size, 1, none⟩ = some v1 ∧ (∀ o, w'.frozen? ⟨w.heap.size, o, none⟩ = false) ∧ w.heap.size < w'.heap.size := by
  have h1 : w'.heap[w.heap.size]? = some (.cells #[v0, v1] t (0, 0)) := (hb.block _ (by simp)).trans (heap_alloc_last w _)
  refine ⟨(cell_of_row _ _ 0 _ t (0, 0) h1).trans rfl, (cell_of_row _ _ 1 _ t (0, 0) h1).trans rfl, fun o => by simp only [World.frozen?, h1]; simp, ?_⟩
  have := hb.size
  simp at this
  omega

theorem below_res {w w' : World} {o : Obj} (hb : Below (w.alloc o).heap.size (w.alloc o) w') (v0 v1 : Value) : Below w.heap.size w ((w'.setCell ⟨w.heap.size, 0, none⟩ v0).setCell ⟨w.heap.size, 1, none⟩ v1) :=
  ((((Below.refl _ _).alloc (Nat.le_refl _) o).trans (hb.mono (by simp))).setCell (Nat.le_refl _) _).setCell (Nat.le_refl _) _

theorem below_res2 {w w' : World} {o : Obj} (hb : Below (w.alloc o).heap.size (w.alloc o) w') (v0 v1 : Value) (o2 : Obj) : Below w.heap.size w (((w'.setCell ⟨w.heap.size, 0, none⟩ v0).setCell ⟨w.heap.size, 1, none⟩ v1).alloc o2).drew :=
  ((below_res hb v0 v1).alloc (below_res hb v0 v1).size o2).drew

theorem allowed_bad (X a x : Nat) (n r : Int) (s : MS) (w : World) (ha : a < 4294967296) (hr : r = 1 ∨ r = 2 ∨ r = 4) (hs : s.Ok) (h : PM w X s) (hb : badN s r a n.toNat = some x) :
    Calls Try.prog 125 #[.pointer (some ⟨X, 0, none⟩), .int .u32 a, .int .i64 n, .int .i64 r] w fun e w' => e = .returned (.tuple #[.int .u32 x, .bool false]) ∧ w = w' := by
  have := allowed_any X a n r s w ha hr hs h
  rw [hb] at this
  exact this
theorem allowed_ok (X a : Nat) (n r : Int) (s : MS) (w : World) (ha : a < 4294967296) (hr : r = 1 ∨ r = 2 ∨ r = 4) (hs : s.Ok) (h : PM w X s) (hb : badN s r a n.toNat = none) :
    Calls Try.prog 125 #[.pointer (some ⟨X, 0, none⟩), .int .u32 a, .int .i64 n, .int .i64 r] w fun e w' => e = .returned (.tuple #[.int .u32 0, .bool true]) ∧ w = w' := by
  have := allowed_any X a n r s w ha hr hs h
  rw [hb] at this
  exact this
theorem use_bad (k' : RB) (a x : Nat) (n r kind : Int) (s : MS) (w : World) (ha : a < 4294967296) (hr : r = 1 ∨ r = 2 ∨ r = 4) (hs : s.Ok) (h : RM w k' s) (hb : badN s r a n.toNat = some x) :
    Calls Try.prog 127 #[.pointer (some ⟨k'.y, 0, none⟩), .int .u32 a, .int .i64 n, .int .i64 r, .int .i64 kind] w fun e w' => e = .returned (stV kind x) ∧ Below w.heap.size w w' := by
  have := use_any k' a n r kind s w ha hr hs h
  rw [hb] at this
  exact this
theorem use_ok (k' : RB) (a : Nat) (n r kind : Int) (s : MS) (w : World) (ha : a < 4294967296) (hr : r = 1 ∨ r = 2 ∨ r = 4) (hs : s.Ok) (h : RM w k' s) (hb : badN s r a n.toNat = none) :
    Calls Try.prog 127 #[.pointer (some ⟨k'.y, 0, none⟩), .int .u32 a, .int .i64 n, .int .i64 r, .int .i64 kind] w fun e w' => e = .returned goV ∧ Below w.heap.size w w' := by
  have := use_any k' a n r kind s w ha hr hs h
  rw [hb] at this
  exact this

theorem fetch_bad (X a x : Nat) (n : Int) (s : MS) (w : World) (h0 : 0 < n) (h8 : n ≤ 8) (ha : a < 4294967296) (hs : s.Ok) (h : PM w X s) (hb : badN s 4 a n.toNat = some x) :
    Calls Try.prog 77 #[.pointer (some ⟨X, 0, none⟩), .int .u32 a, .int .i64 n] w fun e w' => e = .returned (.tuple #[.slice none 0 0, stV 4 x]) ∧ Below w.heap.size w w' := by
  have d : decide (n ≤ 0) = false := decide_eq_false (by omega)
  have d2 : decide (8 < n) = false := decide_eq_false (by omega)
  have HP : Hid (PM w X s) := h
  have HB : Hid (badN s 4 a n.toNat = some x) := hb
  clear h hb
  go_enter Try.func77, Try.ntmps77
  go_wp2_with (go_at_call 125; refine (allowed_bad X a x n 4 s _ ha (.inr (.inr rfl)) hs (HP.out.alloc _) HB.out).mono ?_; rintro e w' ⟨rfl, rfl⟩)
  exact bodyPost_ret (v := .tuple #[.slice none 0 0, stV 4 x]) (by simp [results, Try.results77, go_sem]) rfl ⟨rfl, by first | exact (((Below.refl _ _).alloc (Nat.le_refl _) _).setCell (Nat.le_refl _) _).setCell (Nat.le_refl _) _ | exact ((Below.refl _ _).alloc (Nat.le_refl _) _).setCell (Nat.le_refl _) _ | exact (Below.refl _ _).alloc (Nat.le_refl _) _⟩

theorem fetch_ok (X a n : Nat) (s : MS) (w : World) (h0 : 0 < n) (h8 : n ≤ 8) (ha : a < 4294967296) (hs : s.Ok) (h : PM w X s) (hb : badN s 4 a n = none) :
    Calls Try.prog 77 #[.pointer (some ⟨X, 0, none⟩), .int .u32 a, .int .i64 n] w fun e w' => e = .returned (.tuple #[.slice (some ⟨w.heap.size + 1, 0, none⟩) n n, goV]) ∧ NR w' (w.heap.size + 1) n (fun i => s.B (a + i)) ∧ Below w.heap.size w w' ∧ w.heap.size + 1 < w'.heap.size := by
  have d : decide ((n : Int) ≤ 0) = false := decide_eq_false (by omega)
  have d2 : decide (8 < (n : Int)) = false := decide_eq_false (by omega)
  have d' : decide (n = 0) = false := decide_eq_false (by omega)
  have d3 : decide (8 < n) = false := decide_eq_false (by omega)
  have dn : ¬ n = 0 := by omega
  have HL : Hid (a + n ≤ 65536) := badN_lt hb h0
  have ha0 : (0 : Int) ≤ a := by omega
  have ha1 : (a : Int) < 4294967296 := by omega
  have HP : Hid (PM w X s) := h
  have HB : Hid (badN s 4 a (n : Int).toNat = none) := hb
  clear h hb
  go_enter Try.func77, Try.ntmps77
  go_wp2_with first
    | (go_at_call 125; refine (allowed_ok X a n 4 s _ ha (.inr (.inr rfl)) hs (HP.out.alloc _) HB.out).mono ?_; rintro e w' ⟨rfl, rfl⟩)
    | (go_at_call 124; refine (cut_any X a n s _ HL.out (HP.out.alloc _)).mono ?_; rintro e w' ⟨rfl, hN, hBl, hS⟩; obtain ⟨q0, q1, q2, q3⟩ := own2 hBl; have HN : Hid _ := hN; have HBl : Hid _ := hBl; have HS : Hid _ := hS; clear hN hBl hS)
  refine bodyPost_ret (v := .tuple #[.slice (some ⟨w.heap.size + 1, 0, none⟩) n n, goV]) (by simp [results, Try.results77, go_sem, q0, q1]) rfl ⟨rfl, ?_, below_res HBl.out _ _, ?_⟩
  · have := HN.out
    simp only [World.size_alloc] at this
    exact this.of_block (by rw [Below.heap_setCell _ _ _ _ (by simp), Below.heap_setCell _ _ _ _ (by simp)])
  · have := HS.out
    simp only [World.size_alloc] at this
    simpa [World.setCell] using this

theorem rfetch_none (k : RB) (a : Nat) (n : Int) (w : World) (hn : n < 0 ∨ 8 < n) :
    Calls Try.prog 78 #[.pointer (some ⟨k.y, 0, none⟩), .int .u32 a, .int .i64 n] w fun e w' => e = .returned (.tuple #[.slice none 0 0, goV]) ∧ Below w.heap.size w w' := by
  rcases hn with h | h
  · have d : decide (n < 0) = true := decide_eq_true h
    go_enter Try.func78, Try.ntmps78
    go_wp2
    exact bodyPost_ret (v := .tuple #[.slice none 0 0, goV]) (by simp [results, Try.results78, go_sem]) rfl ⟨rfl, by first | exact ((Below.refl _ _).alloc (Nat.le_refl _) _).setCell (Nat.le_refl _) _ | exact (Below.refl _ _).alloc (Nat.le_refl _) _⟩
  · have d : decide (n < 0) = false := decide_eq_false (by omega)
    have d2 : decide (8 < n) = true := decide_eq_true h
    go_enter Try.func78, Try.ntmps78
    go_wp2
    exact bodyPost_ret (v := .tuple #[.slice none 0 0, goV]) (by simp [results, Try.results78, go_sem]) rfl ⟨rfl, by first | exact ((Below.refl _ _).alloc (Nat.le_refl _) _).setCell (Nat.le_refl _) _ | exact (Below.refl _ _).alloc (Nat.le_refl _) _⟩

set_option maxHeartbeats 400000 in
theorem rfetch_bad (k : RB) (a x : Nat) (n : Int) (s : MS) (w : World) (h0 : 0 < n) (h8 : n ≤ 8) (ha : a < 4294967296) (hs : s.Ok) (h : RM w k s) (hb : badN s 4 a n.toNat = some x) :
    Calls Try.prog 78 #[.pointer (some ⟨k.y, 0, none⟩), .int .u32 a, .int .i64 n] w fun e w' => e = .returned (.tuple #[.slice none 0 0, stV 4 x]) ∧ Below w.heap.size w w' := by
  have d : decide (n < 0) = false := decide_eq_false (by omega)
  have d2 : decide (8 < n) = false := decide_eq_false (by omega)
  have HP : Hid (RM w k s) := h
  have HB : Hid (badN s 4 a n.toNat = some x) := hb
  clear h hb
  go_enter Try.func78, Try.ntmps78
  go_wp2_with (go_at_call 127; refine (use_bad k a x n 4 4 s _ ha (.inr (.inr rfl)) hs (HP.out.alloc _) HB.out).mono ?_; rintro e w' ⟨rfl, hBl⟩; obtain ⟨q0, q1, q2, q3⟩ := own2 hBl; have HBl : Hid _ := hBl; clear hBl)
  go_region
  all_goals
    go_wp2
    exact bodyPost_ret (v := .tuple #[.slice none 0 0, stV 4 x]) (by simp [results, Try.results78, go_sem, q0, q1, q3]) rfl ⟨rfl, below_res2 HBl.out _ _ _⟩

set_option maxHeartbeats 400000 in
theorem rfetch_zero (k : RB) (a : Nat) (s : MS) (w : World) (ha : a < 4294967296) (hs : s.Ok) (h : RM w k s) :
    Calls Try.prog 78 #[.pointer (some ⟨k.y, 0, none⟩), .int .u32 a, .int .i64 0] w fun e w' => e = .returned (.tuple #[.slice none 0 0, goV]) ∧ Below w.heap.size w w' := by
  have HP : Hid (RM w k s) := h
  have HB : Hid (badN s 4 a (0 : Int).toNat = none) := rfl
  clear h
  go_enter Try.func78, Try.ntmps78
  go_wp2_with (go_at_call 127; refine (use_ok k a 0 4 4 s _ ha (.inr (.inr rfl)) hs (HP.out.alloc _) HB.out).mono ?_; rintro e w' ⟨rfl, hBl⟩; obtain ⟨q0, q1, q2, q3⟩ := own2 hBl; have HBl : Hid _ := hBl; clear hBl)
  go_region
  all_goals
    go_wp2
    exact bodyPost_ret (v := .tuple #[.slice none 0 0, goV]) (by simp [results, Try.results78, go_sem, q0, q1, q3]) rfl ⟨rfl, below_res2 HBl.out _ _ _⟩

theorem step_twin {w : World} {ops : Array Oper} {o : Oper} {a : Act} {K : Act → World → Prop} {Q : Exit → Act → World → Prop} {E : Prop} (hgd : o.guard = none) (s x : Operand)
    (ho : o.op = .call { callee := .builtin .append, args := #[s, x], argTypes := #[22, 22] }) (hs : a.eval s = .slice none 0 0) (ad : Addr) (m' m c : Nat) (hx : a.eval x = .slice (some ad) m' c) (hm : m' = m) (z : Nat → Int) (hp : TwinPre w ad m z) (H : Nat) (hH : w.heap.size = H)
    (h : ∀ cap w', NR w' H m z → Below H w w' → H < w'.heap.size → m ≤ cap → cap ≤ maxLen → K (a.put o.dst (.slice (some ⟨H, 0, none⟩) m cap)) w') :
    if Region.wanted o (yielded ops a.tmps) = true then Oper.wp Try.prog o a w K Q else E := by
  subst hH hm
  obtain ⟨i0, hi, hz0, hz1, hz2⟩ := info_parts info5
  refine step_append_lies _ hgd s x 22 ho w.heap.size 5 i0 (.int .u8 0) 1 1 Try.underlying22 hi hz0 hz1 hz2 rfl (by decide) (.slice none 0 0) 0 [] hs (World.ownsRow_nil _ _ _ _) ad m' c (byteCs z m') hx (by rw [byteCs_length]; omega) hp.row (byteCs_one _ _) hp.pos
    (by have := hp.le; unfold maxLen; omega) (by have := hp.le; omega) (Nat.le_refl _) w.heap.size rfl ?_
  intro g cap w1 hown hgrow hat hlt
  obtain ⟨rfl, hN, hB, hc, hc2⟩ := twin_grown hown hgrow hat
  have := h cap w1 hN hB hlt hc hc2
  rw [Nat.zero_add]
  exact this

/-- What stands behind the append: the two cells, and all old. -/
structure Behind (w w' w2 : World) : Prop where
  r0 : w2.cell? ⟨w.heap.size, 0, none⟩ = some (.int .i64 0)
  r1 : w2.cell? ⟨w.heap.size, 1, none⟩ = some (.int .u32 0)
  rf : ∀ o, w2.frozen? ⟨w.heap.size, o, none⟩ = false
  s0 : w2.cell? ⟨w'.heap.size, 0, none⟩ = some (.int .i64 0)
  s1 : w2.cell? ⟨w'.heap.size, 1, none⟩ = some (.int .u32 0)
  lt : w.heap.size < w'.heap.size
  bel : Below w.heap.size w w2
theorem behind {w w' w2 : World} (hb : Below (w.alloc (.cells #[.int .i64 0, .int .u32 0] 66)).heap.size (w.alloc (.cells #[.int .i64 0, .int .u32 0] 66)) w')
    (h2 : Below (w'.heap.size + 1) (w'.alloc (.cells #[.int .i64 0, .int .u32 0] 66)).drew w2) : Behind w w' w2 := by
  obtain ⟨q0, q1, q2, q3⟩ := own2 hb
  have hd : ∀ b o, b < w'.heap.size + 1 → w2.cell? ⟨b, o, none⟩ = (w'.alloc (.cells #[.int .i64 0, .int .u32 0] 66)).cell? ⟨b, o, none⟩ := fun b o hb => h2.cell (p := ⟨b, o, none⟩) hb
  have hfz : ∀ b o, b < w'.heap.size + 1 → w2.frozen? ⟨b, o, none⟩ = (w'.alloc (.cells #[.int .i64 0, .int .u32 0] 66)).frozen? ⟨b, o, none⟩ := fun b o hb => h2.frozen (p := ⟨b, o, none⟩) hb
  have ha : Below w'.heap.size w' (w'.alloc (.cells #[.int .i64 0, .int .u32 0] 66)) := (Below.refl _ _).alloc (Nat.le_refl _) _
  have hl := heap_alloc_last w' (.cells #[.int .i64 0, .int .u32 0] 66)
  refine ⟨?_, ?_, fun o => ?_, ?_, ?_, q3, ?_⟩
  · rw [hd _ _ (by omega), ha.cell (p := ⟨w.heap.size, 0, none⟩) q3]; exact q0
  · rw [hd _ _ (by omega), ha.cell (p := ⟨w.heap.size, 1, none⟩) q3]; exact q1
  · rw [hfz _ _ (by omega), ha.frozen (p := ⟨w.heap.size, o, none⟩) q3]; exact q2 o
  · rw [hd _ _ (by omega), cell_of_row _ _ 0 _ 66 (0, 0) hl]; rfl
  · rw [hd _ _ (by omega), cell_of_row _ _ 1 _ 66 (0, 0) hl]; rfl
  · exact (((Below.refl _ _).alloc (Nat.le_refl _) _).trans (hb.mono (by simp))).trans (((ha.mono (by omega)).drew).trans (h2.mono (by omega)))

set_option maxHeartbeats 1000000 in
theorem rfetch_ok (k : RB) (a n : Nat) (s : MS) (w : World) (h0 : 0 < n) (h8 : n ≤ 8) (ha : a < 4294967296) (hs : s.Ok) (h : RM w k s) (hb : badN s 4 a n = none) :
    Calls Try.prog 78 #[.pointer (some ⟨k.y, 0, none⟩), .int .u32 a, .int .i64 n] w fun e w' => ∃ p c, e = .returned (.tuple #[.slice p n c, goV]) ∧ SR w' p n (fun i => s.B (a + i)) ∧ Below w.heap.size w w' := by
  have d : decide ((n : Int) < 0) = false := decide_eq_false (by omega)
  have d2 : decide (8 < (n : Int)) = false := decide_eq_false (by omega)
  have d3 : decide (8 < n) = false := decide_eq_false (by omega)
  have dn : ((n : Int) == 0) = false := by simp; omega
  have dn' : (n == 0) = false := by simp; omega
  have hl := badN_lt hb h0
  have ha0 : (0 : Int) ≤ a := by omega
  have ha1 : (a : Int) < 4294967296 := by omega
  have hn0 : (0 : Int) ≤ n := by omega
  have hcb := k.hcb
  have hs1 : (a : Int) + n ≤ 65536 := by omega
  have hs2 : (a : Int) + n ≤ (k.cb : Int) := by omega
  have hne : ¬ k.cb = a := by omega
  have hw1 : IntKind.i64.wrap (a : Int) = a := by rw [IntKind.wrap_i64]; omega
  have hw2 : IntKind.i64.wrap ((a : Int) + n) = (a : Int) + n := by rw [IntKind.wrap_i64]; omega
  have hs0 : (0 : Int) ≤ (a : Int) + n := by omega
  have ht : ((a : Int) + n).toNat = a + n := by omega
  have HP : Hid (RM w k s) := h
  have HB : Hid (badN s 4 a (n : Int).toNat = none) := hb
  have HN0 : Hid (0 < n ∧ n ≤ 8 ∧ a + n ≤ 65536) := ⟨h0, h8, hl⟩
  clear h hb hl
  go_enter Try.func78, Try.ntmps78
  go_wp2_with (go_at_call 127; refine (use_ok k a n 4 4 s _ ha (.inr (.inr rfl)) hs (HP.out.alloc _) HB.out).mono ?_; rintro e w' ⟨rfl, hBl⟩; obtain ⟨q0, q1, q2, q3⟩ := own2 hBl; have HBl : Hid _ := hBl; have hR : RM w' k s := (HP.out.alloc _).below hBl (Nat.le_refl _); have hlty := hR.lty; have c0 := hR.c0; have HR : Hid (RM w' k s) := hR; clear hBl hR)
  have HT : TwinPre (w'.alloc (.cells #[.int .i64 0, .int .u32 0] 66)).drew ⟨k.b, a, none⟩ n (fun i => s.B (a + i)) :=
    ⟨fun j u hv => by obtain ⟨hj, rfl⟩ := byteCs_at _ _ _ _ hv; rw [Addr.add_mid]; exact ((HR.out.alloc _).drew).by_ _ (by have := HN0.out; omega), HN0.out.1, by have := HN0.out; omega⟩
  have HH : Hid ((w'.alloc (.cells #[.int .i64 0, .int .u32 0] 66)).drew.heap.size = w'.heap.size + 1) := show (w'.alloc _).heap.size = _ by simp
  go_region_law (refine step_twin rfl (.const (.slice none 0 0)) (.tmp 37) rfl rfl ⟨k.b, a, none⟩ _ n _ rfl (by omega) (fun i => s.B (a + i)) HT (w'.heap.size + 1) HH.out ?_; intro cap2 w2 hN2 hB2 hlt2 hc2 hc3; obtain ⟨r0, r1, rf, s0, s1, lt2, bel2⟩ := behind HBl.out hB2)
  all_goals
    have HN2 : Hid (NR w2 (w'.heap.size + 1) n (fun i => s.B (a + i))) := hN2
    have HB2 : Hid (Below w.heap.size w w2) := bel2
    clear hN2 hB2 bel2 hlt2 hc2 hc3 HT
    go_wp2
    refine bodyPost_ret (v := .tuple #[.slice (some ⟨w'.heap.size + 1, 0, none⟩) n cap2, goV]) (by simp [results, Try.results78, go_sem, r0, r1]) rfl ⟨_, cap2, rfl, (HN2.out.of_block ?_).sr, (HB2.out.setCell (Nat.le_refl _) _).setCell (Nat.le_refl _) _⟩
    rw [Below.heap_setCell _ _ _ _ (show w'.heap.size + 1 ≠ w.heap.size by omega), Below.heap_setCell _ _ _ _ (show w'.heap.size + 1 ≠ w.heap.size by omega)]
end Go.Proofs.Ytjmffijdojeghaa

namespace Go.Proofs.Ytjmffijdojeghaa
open Go.RowKit
set_option maxRecDepth 100000
set_option linter.unusedVariables false

theorem Chg.drew {S : List Nat} {w w' : World} (h : Chg S w w') : Chg S w w'.drew := ⟨h.os, h.tape, h.output, h.size, h.block⟩
end Go.Proofs.Ytjmffijdojeghaa

namespace Go.Proofs.Ytjmffijdojeghaa
open Go.RowKit
set_option maxRecDepth 100000
set_option linter.unusedVariables false

theorem or_add (a y : Int) (s : Nat) (ha : 0 ≤ a) (has : a < 2 ^ s) (hy : 0 ≤ y) (hs : y * 2 ^ s < 4294967296) (hs2 : (2 : Int) ^ s ≤ 4294967296) : bits .or .u32 a (y * 2 ^ s) = a + y * 2 ^ s := by
  have h2 : (0 : Int) < 2 ^ s := Int.pow_pos (by decide)
  rw [u32_or a (y * 2 ^ s) ha (by omega) (Int.mul_nonneg hy (by omega)) hs]
  obtain ⟨m, rfl⟩ := Int.eq_ofNat_of_zero_le ha
  obtain ⟨n, rfl⟩ := Int.eq_ofNat_of_zero_le hy
  have e1 : ((n : Int) * 2 ^ s).toNat = 2 ^ s * n := by
    have : (n : Int) * 2 ^ s = ((n * 2 ^ s : Nat) : Int) := by simp
    rw [this, Int.toNat_natCast, Nat.mul_comm]
  have hm : m < 2 ^ s := by have : ((2 ^ s : Nat) : Int) = 2 ^ s := by simp
                            omega
  rw [e1, Int.toNat_natCast, Nat.or_comm, ← Nat.two_pow_add_eq_or_of_lt hm]
  simp [Int.mul_comm, Int.add_comm]
end Go.Proofs.Ytjmffijdojeghaa

namespace Go.Proofs.Ytjmffijdojeghaa
open Go.RowKit
set_option maxRecDepth 100000
set_option linter.unusedVariables false

def OL (w : World) (base : Nat) (v : Value) (l : List Int) : Prop := w.ownsRow base 3 1 v l.length (l.map (Value.int .i64))
theorem OL.slice {w : World} {base : Nat} {v : Value} {l : List Int} (h : OL w base v l) : ∃ p c, v = .slice p l.length c ∧ (0 < l.length → ∃ g, p = some ⟨g, 0, none⟩ ∧ base ≤ g ∧ ∀ i y, l[i]? = some y → w.cell? ⟨g, i, none⟩ = some (.int .i64 y)) := by
  rcases h.2 with ⟨rfl, h0⟩ | ⟨g, c, cur, rfl, hb, hh, h1, h2, h3, h4⟩
  · exact ⟨none, 0, by rw [h0], fun h => by omega⟩
  · refine ⟨_, c, rfl, fun _ => ⟨g, rfl, hb, fun i y hy => ?_⟩⟩
    have hi : i < l.length := (List.getElem?_eq_some_iff.1 hy).1
    rw [cell_of_row _ _ i _ _ _ hh]
    have h5 : (cur.toList.take (l.length * 1))[i]? = some (.int .i64 y) := by rw [h4]; simp [hy]
    rw [List.getElem?_take, if_pos (by omega)] at h5
    simpa using h5
theorem info3 : (Try.prog.info? 3).map (fun i => (i.zero, i.size, i.bytes)) = some (some (.int .i64 0), 1, 8) := by kernel_rfl
theorem OL.below {w w' : World} {base : Nat} {v : Value} {l : List Int} (h : OL w base v l) (hb : ∀ g, base ≤ g → g < w.heap.size → w'.heap[g]? = w.heap[g]?) : OL w' base v l := by
  refine ⟨h.1, ?_⟩
  rcases h.2 with h | ⟨g, c, cur, rfl, hg, hh, r⟩
  · exact .inl h
  · exact .inr ⟨g, c, cur, rfl, hg, (hb g hg (Array.getElem?_eq_some_iff.1 hh).1).trans hh, r⟩
theorem OL.alloc {w : World} {base : Nat} {v : Value} {l : List Int} (h : OL w base v l) (o : Obj) : OL (w.alloc o) base v l :=
  h.below fun g _ hg => Below.heap_alloc w o g hg

end Go.Proofs.Ytjmffijdojeghaa
