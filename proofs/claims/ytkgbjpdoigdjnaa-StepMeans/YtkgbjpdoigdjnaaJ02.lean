import Derived.Test.YtkgbjpdoigdjnaaJ01
import Derived.Deep.RegionLaw
import Derived.Lib.SliceRun
namespace Go.Proofs.Ytkgbjpdoigdjnaa
open Go.RowKit
set_option maxRecDepth 100000
set_option linter.unusedVariables false

abbrev goV : Value := .agg #[.int .i64 0, .int .u32 0]
abbrev stV (k : Int) (x : Nat) : Value := .agg #[.int .i64 k, .int .u32 x]

theorem fetch_none (X a : Nat) (n : Int) (w : World) (hn : n ≤ 0 ∨ 8 < n) :
    Calls Try.prog 77 #[.pointer (some ⟨X, 0, none⟩), .int .u32 a, .int .i64 n] w fun e w' => e = .returned (.tuple #[.slice none 0 0, goV]) ∧ Below w.heap.size w w' := by
  rcases hn with h | h
  · have d : decide (n ≤ 0) = true := decide_eq_true h
    go_enter Try.func77, Try.ntmps77
    go_wp2
    exact bodyPost_ret (v := .tuple #[.slice none 0 0, goV]) (by simp [results, Try.results77, go_sem]) rfl ⟨rfl, by first | exact ((Below.refl _ _).alloc (Nat.le_refl _) _).setCell (Nat.le_refl _) _ | exact (Below.refl _ _).alloc (Nat.le_refl _) _⟩
  · have d : decide (n ≤ 0) = false := decide_eq_false (by omega)
    have d2 : decide (8 < n) = true := decide_eq_true h
    go_enter Try.func77, Try.ntmps77
    go_wp2
    exact bodyPost_ret (v := .tuple #[.slice none 0 0, goV]) (by simp [results, Try.results77, go_sem]) rfl ⟨rfl, by first | exact ((Below.refl _ _).alloc (Nat.le_refl _) _).setCell (Nat.le_refl _) _ | exact (Below.refl _ _).alloc (Nat.le_refl _) _⟩

theorem PM.alloc {w : World} {X : Nat} {s : MS} (h : PM w X s) (o : Obj) : PM (w.alloc o) X s := h.below ((Below.refl w.heap.size w).alloc (Nat.le_refl _) o) h.lt
theorem RM.alloc {w : World} {k : RB} {s : MS} (h : RM w k s) (o : Obj) : RM (w.alloc o) k s := h.below ((Below.refl w.heap.size w).alloc (Nat.le_refl _) o) (Nat.le_refl _)

theorem own2 {w w' : World} {v0 v1 : Value} {t : TypeId} (hb : Below (w.alloc (.cells #[v0, v1] t)).heap.size (w.alloc (.cells #[v0, v1] t)) w') :
    w'.cell? ⟨w.heap.size, 0, none⟩ = some v0 ∧ w'.cell? ⟨w.heap.size, 1, none⟩ = some v1 ∧ (∀ o, w'.frozen? ⟨w.heap.size, o, none⟩ = false) ∧ w.heap.size < w'.heap.size := by
  have h1 : w'.heap[w.heap.size]? = some (.cells #[v0, v1] t (0, 0)) := (hb.block _ (by simp)).trans (heap_alloc_last w _)
  refine ⟨(cell_of_row _ _ 0 _ t (0, 0) h1).trans rfl, (cell_of_row _ _ 1 _ t (0, 0) h1).trans rfl, fun o => by simp only [World.frozen?, h1]; simp, ?_⟩
  have := hb.size
  simp at this
  omega

theorem below_res {w w' : World} {o : Obj} (hb : Below (w.alloc o).heap.size (w.alloc o) w') (v0 v1 : Value) : Below w.heap.size w ((w'.setCell ⟨w.heap.size, 0, none⟩ v0).setCell ⟨w.heap.size, 1, none⟩ v1) :=
  ((((Below.refl _ _).alloc (Nat.le_refl _) o).trans (hb.mono (by simp))).setCell (Nat.le_refl _) _).setCell (Nat.le_refl _) _

theorem below_res2 {w w' : World} {o : Obj} (hb : Below (w.alloc o).heap.size (w.alloc o) w') (v0 v1 : Value) (o2 : Obj) : Below w.heap.size w (((w'.setCell ⟨w.heap.size, 0, none⟩ v0).setCell ⟨w.heap.size, 1, none⟩ v1).alloc o2).drew :=
  ((below_res hb v0 v1).alloc (below_res hb v0 v1).size o2).drew

theorem allowed_bad (X a x : Nat) (n r : Int) (s : MS) (w : World) (ha : a < 4294967296) (hr : r = 1 ∨ r = 2 ∨ r = 4) (hs : s.Ok) (h : PM w X s) (hb : badN s r a n.toNat = some x) :
    Calls Try.prog 125 #[.pointer (some ⟨X, 0, none⟩), .int .u32 a, .int .i64 n, .int .i64 r] w fun e w' => e = .returned (.tuple #[.int .u32 x, .bool false]) ∧ w = w' := by
  have := allowed_any X a n r s w ha hr hs h
  rw [hb] at this
  exact this
theorem allowed_ok (X a : Nat) (n r : Int) (s : MS) (w : World) (ha : a < 4294967296) (hr : r = 1 ∨ r = 2 ∨ r = 4) (hs : s.Ok) (h : PM w X s) (hb : badN s r a n.toNat = none) :
    Calls Try.prog 125 #[.pointer (some ⟨X, 0, none⟩), .int .u32 a, .int .i64 n, .int .i64 r] w fun e w' => e = .returned (.tuple #[.int .u32 0, .bool true]) ∧ w = w' := by
  have := allowed_any X a n r s w ha hr hs h
  rw [hb] at this
  exact this
theorem use_bad (k' : RB) (a x : Nat) (n r kind : Int) (s : MS) (w : World) (ha : a < 4294967296) (hr : r = 1 ∨ r = 2 ∨ r = 4) (hs : s.Ok) (h : RM w k' s) (hb : badN s r a n.toNat = some x) :
    Calls Try.prog 127 #[.pointer (some ⟨k'.y, 0, none⟩), .int .u32 a, .int .i64 n, .int .i64 r, .int .i64 kind] w fun e w' => e = .returned (stV kind x) ∧ Below w.heap.size w w' := by
  have := use_any k' a n r kind s w ha hr hs h
  rw [hb] at this
  exact this
theorem use_ok (k' : RB) (a : Nat) (n r kind : Int) (s : MS) (w : World) (ha : a < 4294967296) (hr : r = 1 ∨ r = 2 ∨ r = 4) (hs : s.Ok) (h : RM w k' s) (hb : badN s r a n.toNat = none) :
    Calls Try.prog 127 #[.pointer (some ⟨k'.y, 0, none⟩), .int .u32 a, .int .i64 n, .int .i64 r, .int .i64 kind] w fun e w' => e = .returned goV ∧ Below w.heap.size w w' := by
  have := use_any k' a n r kind s w ha hr hs h
  rw [hb] at this
  exact this

theorem fetch_bad (X a x : Nat) (n : Int) (s : MS) (w : World) (h0 : 0 < n) (h8 : n ≤ 8) (ha : a < 4294967296) (hs : s.Ok) (h : PM w X s) (hb : badN s 4 a n.toNat = some x) :
    Calls Try.prog 77 #[.pointer (some ⟨X, 0, none⟩), .int .u32 a, .int .i64 n] w fun e w' => e = .returned (.tuple #[.slice none 0 0, stV 4 x]) ∧ Below w.heap.size w w' := by
  have d : decide (n ≤ 0) = false := decide_eq_false (by omega)
  have d2 : decide (8 < n) = false := decide_eq_false (by omega)
  have HP : Hid (PM w X s) := h
  have HB : Hid (badN s 4 a n.toNat = some x) := hb
  clear h hb
  go_enter Try.func77, Try.ntmps77
  go_wp2_with (go_at_call 125; refine (allowed_bad X a x n 4 s _ ha (.inr (.inr rfl)) hs (HP.out.alloc _) HB.out).mono ?_; rintro e w' ⟨rfl, rfl⟩)
  exact bodyPost_ret (v := .tuple #[.slice none 0 0, stV 4 x]) (by simp [results, Try.results77, go_sem]) rfl ⟨rfl, by first | exact (((Below.refl _ _).alloc (Nat.le_refl _) _).setCell (Nat.le_refl _) _).setCell (Nat.le_refl _) _ | exact ((Below.refl _ _).alloc (Nat.le_refl _) _).setCell (Nat.le_refl _) _ | exact (Below.refl _ _).alloc (Nat.le_refl _) _⟩

theorem fetch_ok (X a n : Nat) (s : MS) (w : World) (h0 : 0 < n) (h8 : n ≤ 8) (ha : a < 4294967296) (hs : s.Ok) (h : PM w X s) (hb : badN s 4 a n = none) :
    Calls Try.prog 77 #[.pointer (some ⟨X, 0, none⟩), .int .u32 a, .int .i64 n] w fun e w' => e = .returned (.tuple #[.slice (some ⟨w.heap.size + 1, 0, none⟩) n n, goV]) ∧ NR w' (w.heap.size + 1) n (fun i => s.B (a + i)) ∧ Below w.heap.size w w' ∧ w.heap.size + 1 < w'.heap.size := by
  have d : decide ((n : Int) ≤ 0) = false := decide_eq_false (by omega)
  have d2 : decide (8 < (n : Int)) = false := decide_eq_false (by omega)
  have d' : decide (n = 0) = false := decide_eq_false (by omega)
  have d3 : decide (8 < n) = false := decide_eq_false (by omega)
  have dn : ¬ n = 0 := by omega
  have HL : Hid (a + n ≤ 65536) := badN_lt hb h0
  have ha0 : (0 : Int) ≤ a := by omega
  have ha1 : (a : Int) < 4294967296 := by omega
  have HP : Hid (PM w X s) := h
  have HB : Hid (badN s 4 a (n : Int).toNat = none) := hb
  clear h hb
  go_enter Try.func77, Try.ntmps77
  go_wp2_with first
    | (go_at_call 125; refine (allowed_ok X a n 4 s _ ha (.inr (.inr rfl)) hs (HP.out.alloc _) HB.out).mono ?_; rintro e w' ⟨rfl, rfl⟩)
    | (go_at_call 124; refine (cut_any X a n s _ HL.out (HP.out.alloc _)).mono ?_; rintro e w' ⟨rfl, hN, hBl, hS⟩; obtain ⟨q0, q1, q2, q3⟩ := own2 hBl; have HN : Hid _ := hN; have HBl : Hid _ := hBl; have HS : Hid _ := hS; clear hN hBl hS)
  refine bodyPost_ret (v := .tuple #[.slice (some ⟨w.heap.size + 1, 0, none⟩) n n, goV]) (by simp [results, Try.results77, go_sem, q0, q1]) rfl ⟨rfl, ?_, below_res HBl.out _ _, ?_⟩
  · have := HN.out
    simp only [World.size_alloc] at this
    exact this.of_block (by rw [Below.heap_setCell _ _ _ _ (by simp), Below.heap_setCell _ _ _ _ (by simp)])
  · have := HS.out
    simp only [World.size_alloc] at this
    simpa [World.setCell] using this

theorem rfetch_none (k : RB) (a : Nat) (n : Int) (w : World) (hn : n < 0 ∨ 8 < n) :
    Calls Try.prog 78 #[.pointer (some ⟨k.y, 0, none⟩), .int .u32 a, .int .i64 n] w fun e w' => e = .returned (.tuple #[.slice none 0 0, goV]) ∧ Below w.heap.size w w' := by
  rcases hn with h | h
  · have d : decide (n < 0) = true := decide_eq_true h
    go_enter Try.func78, Try.ntmps78
    go_wp2
    exact bodyPost_ret (v := .tuple #[.slice none 0 0, goV]) (by simp [results, Try.results78, go_sem]) rfl ⟨rfl, by first | exact ((Below.refl _ _).alloc (Nat.le_refl _) _).setCell (Nat.le_refl _) _ | exact (Below.refl _ _).alloc (Nat.le_refl _) _⟩
  · have d : decide (n < 0) = false := decide_eq_false (by omega)
    have d2 : decide (8 < n) = true := decide_eq_true h
    go_enter Try.func78, Try.ntmps78
    go_wp2
    exact bodyPost_ret (v := .tuple #[.slice none 0 0, goV]) (by simp [results, Try.results78, go_sem]) rfl ⟨rfl, by first | exact ((Below.refl _ _).alloc (Nat.le_refl _) _).setCell (Nat.le_refl _) _ | exact (Below.refl _ _).alloc (Nat.le_refl _) _⟩

set_option maxHeartbeats 400000 in
theorem rfetch_bad (k : RB) (a x : Nat) (n : Int) (s : MS) (w : World) (h0 : 0 < n) (h8 : n ≤ 8) (ha : a < 4294967296) (hs : s.Ok) (h : RM w k s) (hb : badN s 4 a n.toNat = some x) :
    Calls Try.prog 78 #[.pointer (some ⟨k.y, 0, none⟩), .int .u32 a, .int .i64 n] w fun e w' => e = .returned (.tuple #[.slice none 0 0, stV 4 x]) ∧ Below w.heap.size w w' := by
  have d : decide (n < 0) = false := decide_eq_false (by omega)
  have d2 : decide (8 < n) = false := decide_eq_false (by omega)
  have HP : Hid (RM w k s) := h
  have HB : Hid (badN s 4 a n.toNat = some x) := hb
  clear h hb
  go_enter Try.func78, Try.ntmps78
  go_wp2_with (go_at_call 127; refine (use_bad k a x n 4 4 s _ ha (.inr (.inr rfl)) hs (HP.out.alloc _) HB.out).mono ?_; rintro e w' ⟨rfl, hBl⟩; obtain ⟨q0, q1, q2, q3⟩ := own2 hBl; have HBl : Hid _ := hBl; clear hBl)
  go_region
  all_goals
    go_wp2
    exact bodyPost_ret (v := .tuple #[.slice none 0 0, stV 4 x]) (by simp [results, Try.results78, go_sem, q0, q1, q3]) rfl ⟨rfl, below_res2 HBl.out _ _ _⟩

set_option maxHeartbeats 400000 in
theorem rfetch_zero (k : RB) (a : Nat) (s : MS) (w : World) (ha : a < 4294967296) (hs : s.Ok) (h : RM w k s) :
    Calls Try.prog 78 #[.pointer (some ⟨k.y, 0, none⟩), .int .u32 a, .int .i64 0] w fun e w' => e = .returned (.tuple #[.slice none 0 0, goV]) ∧ Below w.heap.size w w' := by
  have HP : Hid (RM w k s) := h
  have HB : Hid (badN s 4 a (0 : Int).toNat = none) := rfl
  clear h
  go_enter Try.func78, Try.ntmps78
  go_wp2_with (go_at_call 127; refine (use_ok k a 0 4 4 s _ ha (.inr (.inr rfl)) hs (HP.out.alloc _) HB.out).mono ?_; rintro e w' ⟨rfl, hBl⟩; obtain ⟨q0, q1, q2, q3⟩ := own2 hBl; have HBl : Hid _ := hBl; clear hBl)
  go_region
  all_goals
    go_wp2
    exact bodyPost_ret (v := .tuple #[.slice none 0 0, goV]) (by simp [results, Try.results78, go_sem, q0, q1, q3]) rfl ⟨rfl, below_res2 HBl.out _ _ _⟩

theorem step_twin {w : World} {ops : Array Oper} {o : Oper} {a : Act} {K : Act → World → Prop} {Q : Exit → Act → World → Prop} {E : Prop} (hgd : o.guard = none) (s x : Operand)
    (ho : o.op = .call { callee := .builtin .append, args := #[s, x], argTypes := #[22, 22] }) (hs : a.eval s = .slice none 0 0) (ad : Addr) (m' m c : Nat) (hx : a.eval x = .slice (some ad) m' c) (hm : m' = m) (z : Nat → Int) (hp : TwinPre w ad m z) (H : Nat) (hH : w.heap.size = H)
    (h : ∀ cap w', NR w' H m z → Below H w w' → H < w'.heap.size → m ≤ cap → cap ≤ maxLen → K (a.put o.dst (.slice (some ⟨H, 0, none⟩) m cap)) w') :
    if Region.wanted o (yielded ops a.tmps) = true then Oper.wp Try.prog o a w K Q else E := by
  subst hH hm
  obtain ⟨i0, hi, hz0, hz1, hz2⟩ := info_parts info5
  refine step_append_lies _ hgd s x 22 ho w.heap.size 5 i0 (.int .u8 0) 1 1 Try.underlying22 hi hz0 hz1 hz2 rfl (by decide) (.slice none 0 0) 0 [] hs (World.ownsRow_nil _ _ _ _) ad m' c (byteCs z m') hx (by rw [byteCs_length]; omega) hp.row (byteCs_one _ _) hp.pos
    (by have := hp.le; unfold maxLen; omega) (by have := hp.le; omega) (Nat.le_refl _) w.heap.size rfl ?_
  intro g cap w1 hown hgrow hat hlt
  obtain ⟨rfl, hN, hB, hc, hc2⟩ := twin_grown hown hgrow hat
  have := h cap w1 hN hB hlt hc hc2
  rw [Nat.zero_add]
  exact this

/-- What stands behind the append: the two cells, and all old. -/
structure Behind (w w' w2 : World) : Prop where
  r0 : w2.cell? ⟨w.heap.size, 0, none⟩ = some (.int .i64 0)
  r1 : w2.cell? ⟨w.heap.size, 1, none⟩ = some (.int .u32 0)
  rf : ∀ o, w2.frozen? ⟨w.heap.size, o, none⟩ = false
  s0 : w2.cell? ⟨w'.heap.size, 0, none⟩ = some (.int .i64 0)
  s1 : w2.cell? ⟨w'.heap.size, 1, none⟩ = some (.int .u32 0)
  lt : w.heap.size < w'.heap.size
  bel : Below w.heap.size w w2
theorem behind {w w' w2 : World} (hb : Below (w.alloc (.cells #[.int .i64 0, .int .u32 0] 66)).heap.size (w.alloc (.cells #[.int .i64 0, .int .u32 0] 66)) w')
    (h2 : Below (w'.heap.size + 1) (w'.alloc (.cells #[.int .i64 0, .int .u32 0] 66)).drew w2) : Behind w w' w2 := by
  obtain ⟨q0, q1, q2, q3⟩ := own2 hb
  have hd : ∀ b o, b < w'.heap.size + 1 → w2.cell? ⟨b, o, none⟩ = (w'.alloc (.cells #[.int .i64 0, .int .u32 0] 66)).cell? ⟨b, o, none⟩ := fun b o hb => h2.cell (p := ⟨b, o, none⟩) hb
  have hfz : ∀ b o, b < w'.heap.size + 1 → w2.frozen? ⟨b, o, none⟩ = (w'.alloc (.cells #[.int .i64 0, .int .u32 0] 66)).frozen? ⟨b, o, none⟩ := fun b o hb => h2.frozen (p := ⟨b, o, none⟩) hb
  have ha : Below w'.heap.size w' (w'.alloc (.cells #[.int .i64 0, .int .u32 0] 66)) := (Below.refl _ _).alloc (Nat.le_refl _) _
  have hl := heap_alloc_last w' (.cells #[.int .i64 0, .int .u32 0] 66)
  refine ⟨?_, ?_, fun o => ?_, ?_, ?_, q3, ?_⟩
  · rw [hd _ _ (by omega), ha.cell (p := ⟨w.heap.size, 0, none⟩) q3]; exact q0
  · rw [hd _ _ (by omega), ha.cell (p := ⟨w.heap.size, 1, none⟩) q3]; exact q1
  · rw [hfz _ _ (by omega), ha.frozen (p := ⟨w.heap.size, o, none⟩) q3]; exact q2 o
  · rw [hd _ _ (by omega), cell_of_row _ _ 0 _ 66 (0, 0) hl]; rfl
  · rw [hd _ _ (by omega), cell_of_row _ _ 1 _ 66 (0, 0) hl]; rfl
  · exact (((Below.refl _ _).alloc (Nat.le_refl _) _).trans (hb.mono (by simp))).trans (((ha.mono (by omega)).drew).trans (h2.mono (by omega)))

set_option maxHeartbeats 1000000 in
theorem rfetch_ok (k : RB) (a n : Nat) (s : MS) (w : World) (h0 : 0 < n) (h8 : n ≤ 8) (ha : a < 4294967296) (hs : s.Ok) (h : RM w k s) (hb : badN s 4 a n = none) :
    Calls Try.prog 78 #[.pointer (some ⟨k.y, 0, none⟩), .int .u32 a, .int .i64 n] w fun e w' => ∃ p c, e = .returned (.tuple #[.slice p n c, goV]) ∧ SR w' p n (fun i => s.B (a + i)) ∧ Below w.heap.size w w' := by
  have d : decide ((n : Int) < 0) = false := decide_eq_false (by omega)
  have d2 : decide (8 < (n : Int)) = false := decide_eq_false (by omega)
  have d3 : decide (8 < n) = false := decide_eq_false (by omega)
  have dn : ((n : Int) == 0) = false := by simp; omega
  have dn' : (n == 0) = false := by simp; omega
  have hl := badN_lt hb h0
  have ha0 : (0 : Int) ≤ a := by omega
  have ha1 : (a : Int) < 4294967296 := by omega
  have hn0 : (0 : Int) ≤ n := by omega
  have hs1 : (a : Int) + n ≤ 65536 := by omega
  have hne : ¬ 65536 = a := by omega
  have hw1 : IntKind.i64.wrap (a : Int) = a := by rw [IntKind.wrap_i64]; omega
  have hw2 : IntKind.i64.wrap ((a : Int) + n) = (a : Int) + n := by rw [IntKind.wrap_i64]; omega
  have hs0 : (0 : Int) ≤ (a : Int) + n := by omega
  have ht : ((a : Int) + n).toNat = a + n := by omega
  have HP : Hid (RM w k s) := h
  have HB : Hid (badN s 4 a (n : Int).toNat = none) := hb
  have HN0 : Hid (0 < n ∧ n ≤ 8 ∧ a + n ≤ 65536) := ⟨h0, h8, hl⟩
  clear h hb hl
  go_enter Try.func78, Try.ntmps78
  go_wp2_with (go_at_call 127; refine (use_ok k a n 4 4 s _ ha (.inr (.inr rfl)) hs (HP.out.alloc _) HB.out).mono ?_; rintro e w' ⟨rfl, hBl⟩; obtain ⟨q0, q1, q2, q3⟩ := own2 hBl; have HBl : Hid _ := hBl; have hR : RM w' k s := (HP.out.alloc _).below hBl (Nat.le_refl _); have hlty := hR.lty; have c0 := hR.c0; have HR : Hid (RM w' k s) := hR; clear hBl hR)
  have HT : TwinPre (w'.alloc (.cells #[.int .i64 0, .int .u32 0] 66)).drew ⟨k.b, a, none⟩ n (fun i => s.B (a + i)) :=
    ⟨fun j u hv => by obtain ⟨hj, rfl⟩ := byteCs_at _ _ _ _ hv; rw [Addr.add_mid]; exact ((HR.out.alloc _).drew).by_ _ (by have := HN0.out; omega), HN0.out.1, by have := HN0.out; omega⟩
  have HH : Hid ((w'.alloc (.cells #[.int .i64 0, .int .u32 0] 66)).drew.heap.size = w'.heap.size + 1) := show (w'.alloc _).heap.size = _ by simp
  go_region_law (refine step_twin rfl (.const (.slice none 0 0)) (.tmp 37) rfl rfl ⟨k.b, a, none⟩ _ n _ rfl (by omega) (fun i => s.B (a + i)) HT (w'.heap.size + 1) HH.out ?_; intro cap2 w2 hN2 hB2 hlt2 hc2 hc3; obtain ⟨r0, r1, rf, s0, s1, lt2, bel2⟩ := behind HBl.out hB2)
  all_goals
    have HN2 : Hid (NR w2 (w'.heap.size + 1) n (fun i => s.B (a + i))) := hN2
    have HB2 : Hid (Below w.heap.size w w2) := bel2
    clear hN2 hB2 bel2 hlt2 hc2 hc3 HT
    go_wp2
    refine bodyPost_ret (v := .tuple #[.slice (some ⟨w'.heap.size + 1, 0, none⟩) n cap2, goV]) (by simp [results, Try.results78, go_sem, r0, r1]) rfl ⟨_, cap2, rfl, (HN2.out.of_block ?_).sr, (HB2.out.setCell (Nat.le_refl _) _).setCell (Nat.le_refl _) _⟩
    rw [Below.heap_setCell _ _ _ _ (show w'.heap.size + 1 ≠ w.heap.size by omega), Below.heap_setCell _ _ _ _ (show w'.heap.size + 1 ≠ w.heap.size by omega)]
end Go.Proofs.Ytkgbjpdoigdjnaa

namespace Go.Proofs.Ytkgbjpdoigdjnaa
open Go.RowKit
set_option maxRecDepth 100000
set_option linter.unusedVariables false

/-- Byte j of a number. -/
def zv (v : Nat) (j : Nat) : Int := ((v / 256 ^ j % 256 : Nat) : Int)

theorem store_none (X a v : Nat) (n : Int) (w : World) (hn : ¬ (n = 1 ∨ n = 2 ∨ n = 4)) :
    Calls Try.prog 75 #[.pointer (some ⟨X, 0, none⟩), .int .u32 a, .int .i64 n, .int .u32 v] w fun e w' => e = .returned goV ∧ Below w.heap.size w w' := by
  have HN : Hid (¬ (n = 1 ∨ n = 2 ∨ n = 4)) := hn
  clear hn
  go_enter Try.func75, Try.ntmps75
  go_wp2_with (go_at_call 126; refine (wid_no _ _ HN.out).mono ?_; rintro e w' ⟨rfl, rfl⟩)
  exact bodyPost_ret (v := goV) (by simp [results, Try.results75, go_sem]) rfl ⟨rfl, by first | exact ((Below.refl _ _).alloc (Nat.le_refl _) _).setCell (Nat.le_refl _) _ | exact (Below.refl _ _).alloc (Nat.le_refl _) _⟩

theorem store_bad (X a v x : Nat) (n : Int) (s : MS) (w : World) (hn : n = 1 ∨ n = 2 ∨ n = 4) (ha : a < 4294967296) (hs : s.Ok) (h : PM w X s) (hb : badN s 2 a n.toNat = some x) :
    Calls Try.prog 75 #[.pointer (some ⟨X, 0, none⟩), .int .u32 a, .int .i64 n, .int .u32 v] w fun e w' => e = .returned (stV 6 x) ∧ Below w.heap.size w w' := by
  have HN : Hid (n = 1 ∨ n = 2 ∨ n = 4) := hn
  have HP : Hid (PM w X s) := h
  have HB : Hid (badN s 2 a n.toNat = some x) := hb
  clear hn h hb
  go_enter Try.func75, Try.ntmps75
  go_wp2_with first
    | (go_at_call 126; refine (wid_yes _ _ HN.out).mono ?_; rintro e w' ⟨rfl, rfl⟩)
    | (go_at_call 125; refine (allowed_bad X a x n 2 s _ ha (.inr (.inl rfl)) hs (HP.out.alloc _) HB.out).mono ?_; rintro e w' ⟨rfl, rfl⟩)
  exact bodyPost_ret (v := stV 6 x) (by simp [results, Try.results75, go_sem]) rfl ⟨rfl, by first | exact (((Below.refl _ _).alloc (Nat.le_refl _) _).setCell (Nat.le_refl _) _).setCell (Nat.le_refl _) _ | exact ((Below.refl _ _).alloc (Nat.le_refl _) _).setCell (Nat.le_refl _) _ | exact (Below.refl _ _).alloc (Nat.le_refl _) _⟩

theorem Chg.res {S : List Nat} {w w' : World} {o : Obj} (h : Chg S (w.alloc o) w') (v0 v1 : Value) : Chg S w ((w'.setCell ⟨w.heap.size, 0, none⟩ v0).setCell ⟨w.heap.size, 1, none⟩ v1) := by
  have h1 : Chg S w w' := (Chg.of_below S ((Below.refl w.heap.size w).alloc (Nat.le_refl _) o)).trans h
  exact (h1.new (Nat.le_refl _) ((Only.refl _ _).setCell 0 v0)).new (Nat.le_refl _) ((Only.refl _ _).setCell 1 v1)
theorem Chg.own2 {S : List Nat} {w w' : World} {v0 v1 : Value} {t : TypeId} (hb : Chg S (w.alloc (.cells #[v0, v1] t)) w') (hS : w.heap.size ∉ S) :
    w'.cell? ⟨w.heap.size, 0, none⟩ = some v0 ∧ w'.cell? ⟨w.heap.size, 1, none⟩ = some v1 ∧ (∀ o, w'.frozen? ⟨w.heap.size, o, none⟩ = false) ∧ w.heap.size < w'.heap.size := by
  have h1 : w'.heap[w.heap.size]? = some (.cells #[v0, v1] t (0, 0)) := (hb.block _ (by simp) hS).trans (heap_alloc_last w _)
  refine ⟨(cell_of_row _ _ 0 _ t (0, 0) h1).trans rfl, (cell_of_row _ _ 1 _ t (0, 0) h1).trans rfl, fun o => by simp only [World.frozen?, h1]; simp, ?_⟩
  have := hb.size
  simp at this
  omega

theorem zv_eq (v j : Nat) (h : j = 0 ∨ j = 1 ∨ j = 2 ∨ j = 3) : (v : Int) / 2 ^ min (8 * j) 32 % 256 = zv v j := by
  unfold zv
  rcases h with rfl | rfl | rfl | rfl
  · simp
  · show (v : Int) / 256 % 256 = _; omega
  · show (v : Int) / 65536 % 256 = _; omega
  · show (v : Int) / 16777216 % 256 = _; omega
theorem Chg.drew {S : List Nat} {w w' : World} (h : Chg S w w') : Chg S w w'.drew := ⟨h.os, h.tape, h.output, h.size, h.block⟩
theorem below_res2' {w w' : World} {o : Obj} (hb : Below (w.alloc o).heap.size (w.alloc o) w') (v0 v1 : Value) (o2 : Obj) : Below w.heap.size w (((w'.setCell ⟨w.heap.size, 0, none⟩ v0).setCell ⟨w.heap.size, 1, none⟩ v1).alloc o2) :=
  (below_res hb v0 v1).alloc (below_res hb v0 v1).size o2

set_option maxHeartbeats 1000000 in
theorem store_ok (X a v n : Nat) (s : MS) (w : World) (hn : n = 1 ∨ n = 2 ∨ n = 4) (ha : a < 4294967296) (hv : v < 4294967296) (hs : s.Ok) (h : PM w X s) (hb : badN s 2 a n = none) :
    Calls Try.prog 75 #[.pointer (some ⟨X, 0, none⟩), .int .u32 a, .int .i64 n, .int .u32 v] w fun e w' => e = .returned goV ∧ PM w' X (pokeS s a n (zv v)) ∧ Chg [X] w w' := by
  have HN : Hid ((n : Int) = 1 ∨ (n : Int) = 2 ∨ (n : Int) = 4) := show _ ∨ _ ∨ _ by omega
  have HN4 : Hid (n ≤ 4 ∧ 0 < n) := show _ ∧ _ by omega
  have hl := badN_lt hb (show 0 < n by omega)
  have HL : Hid (a + n ≤ 65536) := hl
  have ha0 : (0 : Int) ≤ a := by omega
  have ha1 : (a : Int) < 4294967296 := by omega
  have hv0 : (0 : Int) ≤ v := by omega
  have hv1 : (v : Int) < 4294967296 := by omega
  have HP : Hid (PM w X s) := h
  have HB : Hid (badN s 2 a (n : Int).toNat = none) := hb
  clear hn h hb hl
  go_enter Try.func75, Try.ntmps75
  go_wp2_with first
    | (go_at_call 126; refine (wid_yes _ _ HN.out).mono ?_; rintro e w' ⟨rfl, rfl⟩)
    | (go_at_call 125; refine (allowed_ok X a n 2 s _ ha (.inr (.inl rfl)) hs (HP.out.alloc _) HB.out).mono ?_; rintro e w' ⟨rfl, rfl⟩)
  go_loopw [28] (fun i wr => ∃ j : Nat, i = .int .i64 j ∧ j ≤ n ∧ PM wr X { s with B := ovr s.B a j (zv v) } ∧ Chg [X] (w.alloc (.cells #[.int .i64 0, .int .u32 0] 66)) wr) (fun i _ => n - (intOf i).toNat)
  case atStart => exact ⟨0, rfl, by omega, by rw [ovr_zero]; exact HP.out.alloc _, Chg.refl _ _⟩
  case round =>
    obtain ⟨j, rfl, hj, hR, hC⟩ := hrel
    have HR : Hid (PM wr X { s with B := ovr s.B a j (zv v) }) := hR
    have HC : Hid (Chg [X] (w.alloc (.cells #[.int .i64 0, .int .u32 0] 66)) wr) := hC
    clear hC
    by_cases hlt : j < n
    · have hai : a + j < 65536 := by have := HL.out; omega
      have hcb := hR.by_ (a + j) hai
      have hfb := hR.fr (a + j)
      have hji : (j : Int) < n := by omega
      have hj4 : j = 0 ∨ j = 1 ∨ j = 2 ∨ j = 3 := by have := HN4.out; omega
      have hwa : IntKind.i64.wrap (a : Int) = a := by rw [IntKind.wrap_i64]; omega
      have hwb : IntKind.i64.wrap ((a : Int) + (j : Int)) = (a : Int) + (j : Int) := by rw [IntKind.wrap_i64]; omega
      have htn : ((a : Int) + (j : Int)).toNat = a + j := by omega
      have hb0 : (0 : Int) ≤ (a : Int) + (j : Int) := by omega
      have hb1 : (a : Int) + (j : Int) < 65536 := by omega
      have hm8 : IntKind.i64.wrap (8 * (j : Int)) = 8 * (j : Int) := by rw [IntKind.wrap_i64]; omega
      have h80 : (0 : Int) ≤ 8 * (j : Int) := by omega
      have HJ : Hid (j = 0 ∨ j = 1 ∨ j = 2 ∨ j = 3) := hj4
      clear hR hj hj4
      go_wp2
      go_region
      go_wp2
      go_roundw
      case rel => exact ⟨j + 1, by go_num, by omega, by
        have := (HR.out.setByte (a + j) hai (zv v j)).drew
        simp only [ovr_next] at this
        rw [zv_eq v j HJ.out]
        exact this, (HC.out.set).drew⟩
      case measure => simp [intOf]; omega
    · have hjn : j = n := by omega
      subst hjn
      have hX : X < w.heap.size := HP.out.lt
      clear hR hj
      have hlj : (j : Int) ≤ 4 := by have := HN4.out; omega
      have hlj0 : (0 : Int) ≤ j := by omega
      go_wp2_with (go_at_call 123; refine (change_any X a j _ _ HL.out HR.out).mono ?_; rintro e w' ⟨rfl, hP', hC'⟩; have hCC := HC.out.trans hC'; obtain ⟨q0, q1, q2, q3⟩ := hCC.own2 (by simp; omega); have HQ : Hid _ := hP'; have HCC : Hid _ := hCC; clear hP' hC' hCC)
      refine bodyPost_ret (v := goV) (by simp [results, Try.results75, go_sem, q0, q1]) rfl ⟨rfl, ?_, HCC.out.res _ _⟩
      exact HQ.out.of_block (by rw [Below.heap_setCell _ _ _ _ (by simp; omega), Below.heap_setCell _ _ _ _ (by simp; omega)])

theorem rstore_none (k : RB) (a v : Nat) (n : Int) (w : World) (hn : ¬ (n = 1 ∨ n = 2 ∨ n = 4)) :
    Calls Try.prog 76 #[.pointer (some ⟨k.y, 0, none⟩), .int .u32 a, .int .i64 n, .int .u32 v] w fun e w' => e = .returned goV ∧ Below w.heap.size w w' := by
  have h1 : (n == 1) = false := by simp; omega
  have h2 : (n == 2) = false := by simp; omega
  have h4 : (n == 4) = false := by simp; omega
  have g1 : (n != 1) = true := by simp [bne, h1]
  have g2 : (n != 2) = true := by simp [bne, h2]
  have g4 : (n != 4) = true := by simp [bne, h4]
  clear hn
  go_enter Try.func76, Try.ntmps76
  go_wp2
  exact bodyPost_ret (v := goV) (by simp [results, Try.results76, go_sem]) rfl ⟨rfl, by first | exact ((Below.refl _ _).alloc (Nat.le_refl _) _).setCell (Nat.le_refl _) _ | exact (Below.refl _ _).alloc (Nat.le_refl _) _⟩

set_option maxHeartbeats 400000 in
theorem rstore_bad (k : RB) (a v x : Nat) (n : Int) (s : MS) (w : World) (hn : n = 1 ∨ n = 2 ∨ n = 4) (ha : a < 4294967296) (hs : s.Ok) (h : RM w k s) (hb : badN s 2 a n.toNat = some x) :
    Calls Try.prog 76 #[.pointer (some ⟨k.y, 0, none⟩), .int .u32 a, .int .i64 n, .int .u32 v] w fun e w' => e = .returned (stV 6 x) ∧ Below w.heap.size w w' := by
  have HP : Hid (RM w k s) := h
  have HB : Hid (badN s 2 a n.toNat = some x) := hb
  clear h hb
  rcases hn with rfl | rfl | rfl
  all_goals
    go_enter Try.func76, Try.ntmps76
    go_wp2_with (go_at_call 127; refine (use_bad k a x _ 2 6 s _ ha (.inr (.inl rfl)) hs (HP.out.alloc _) HB.out).mono ?_; rintro e w' ⟨rfl, hBl⟩; obtain ⟨q0, q1, q2, q3⟩ := own2 hBl; have HBl : Hid _ := hBl; clear hBl)
    exact bodyPost_ret (v := stV 6 x) (by simp [results, Try.results76, go_sem, q0, q1, q3]) rfl ⟨rfl, by first | exact below_res2' HBl.out _ _ _ | exact below_res2 HBl.out _ _ _⟩

/-- Behind j bytes: what is left of the number. -/
theorem zv_next (v j : Nat) : zv v j = (((v / 256 ^ j : Nat) : Int) % 256) := by unfold zv; omega
structure StR (k : RB) (s : MS) (a v : Nat) (w w1 : World) (j : Nat) (wr : World) : Prop where
  rm : RM wr k (pokeS s a j (zv v))
  chg : Chg k.all w1 wr

set_option maxHeartbeats 2000000 in
theorem rstore_N (k : RB) (a v N : Nat) (n : Int) (s : MS) (w : World) (hN : n = (N : Int)) (hn : n = 1 ∨ n = 2 ∨ n = 4) (ha : a < 4294967296) (hv : v < 4294967296) (hs : s.Ok) (h : RM w k s) (hb : badN s 2 a n.toNat = none) :
    Calls Try.prog 76 #[.pointer (some ⟨k.y, 0, none⟩), .int .u32 a, .int .i64 n, .int .u32 v] w fun e w' => e = .returned goV ∧ RM w' k (pokeS s a N (zv v)) ∧ Chg k.all w w' := by
  have HN : Hid (n = (N : Int)) := hN
  have HN4 : Hid (N ≤ 4 ∧ 0 < N) := show _ ∧ _ by omega
  have hl := badN_lt hb (show 0 < n.toNat by omega)
  have HL : Hid (a + N ≤ 65536) := show a + N ≤ 65536 by omega
  have ha0 : (0 : Int) ≤ a := by omega
  have ha1 : (a : Int) < 4294967296 := by omega
  have HV : Hid (v < 4294967296) := hv
  have HP : Hid (RM w k s) := h
  have HB : Hid (badN s 2 a n.toNat = none) := hb
  have hn4 : n ≤ 4 := by omega
  have hn0 : 0 ≤ n := by omega
  clear hb hl hv
  have key : ∀ w', Below (w.alloc (.cells #[.int .i64 0, .int .u32 0] 66)).heap.size (w.alloc (.cells #[.int .i64 0, .int .u32 0] 66)) w' → RM (w'.alloc (.cells #[.int .i64 0, .int .u32 0] 66)) k s ∧ Chg k.all (w.alloc (.cells #[.int .i64 0, .int .u32 0] 66)) (w'.alloc (.cells #[.int .i64 0, .int .u32 0] 66)) ∧ w.heap.size ∉ k.all ∧ w'.heap.size ∉ k.all ∧ w.heap.size < w'.heap.size := by
    intro w' hb
    have h1 : RM w' k s := (h.alloc _).below hb (Nat.le_refl _)
    obtain ⟨-, -, -, q3⟩ := own2 hb
    refine ⟨h1.alloc _, Chg.of_below _ (hb.alloc hb.size _), fun hm => ?_, fun hm => ?_, q3⟩
    · have := h.lt _ (List.mem_cons_of_mem _ hm); omega
    · have := h1.lt _ (List.mem_cons_of_mem _ hm); omega
  have HK : Hid _ := key
  clear key h hN
  have hcase : (n == 1) = true ∨ ((n == 1) = false ∧ (n == 2) = true) ∨ ((n == 1) = false ∧ (n == 2) = false ∧ (n == 4) = true) := by
    rcases hn with rfl | rfl | rfl
    · exact .inl rfl
    · exact .inr (.inl ⟨rfl, rfl⟩)
    · exact .inr (.inr ⟨rfl, rfl, rfl⟩)
  clear hn
  have hcase' : (n != 1) = false ∨ ((n != 1) = true ∧ (n != 2) = false) ∨ ((n != 1) = true ∧ (n != 2) = true ∧ (n != 4) = false) := by
    rcases hcase with h | h | h
    · exact .inl (by simp [bne, h])
    · exact .inr (.inl ⟨by simp [bne, h.1], by simp [bne, h.2]⟩)
    · exact .inr (.inr ⟨by simp [bne, h.1], by simp [bne, h.2.1], by simp [bne, h.2.2]⟩)
  clear hcase
  rcases hcase' with g1 | ⟨g1, g2⟩ | ⟨g1, g2, g4⟩
  all_goals
    go_enter Try.func76, Try.ntmps76
    go_wp2_with (go_at_call 127; refine (use_ok k a n 2 6 s _ ha (.inr (.inl rfl)) hs (HP.out.alloc _) HB.out).mono ?_; rintro e w' ⟨rfl, hBl⟩; obtain ⟨q0, q1, q2, q3⟩ := own2 hBl; have HKK := HK.out w' hBl; have HKH : Hid _ := HKK; have HBl : Hid _ := hBl; clear hBl HKK)
    go_loopw [3, 10] (fun vv i wr => ∃ j p : Nat, i = .int .i64 j ∧ vv = .int .u32 p ∧ (j ≤ N ∧ p = v / 256 ^ j) ∧ StR k s a v w (w'.alloc (.cells #[.int .i64 0, .int .u32 0] 66)) j wr) (fun _ i _ => N - (intOf i).toNat)
    case atStart => exact ⟨0, v, rfl, rfl, ⟨by omega, by simp⟩, ⟨by rw [pokeS_zero]; exact HKH.out.1, Chg.refl _ _⟩⟩
    case round =>
      obtain ⟨j, p, rfl, rfl, ⟨hj, hp⟩, hR, hC⟩ := hrel
      have HR : Hid (RM wr k (pokeS s a j (zv v))) := hR
      have HC : Hid (Chg k.all (w'.alloc (.cells #[.int .i64 0, .int .u32 0] 66)) wr) := hC
      have hNn := HN.out
      clear hC
      by_cases hlt : j < N
      · have hlt' : (j : Int) < n := by omega
        have hai : a + j < 65536 := by have := HL.out; omega
        have hd0 := hR.c0
        have hcb := hR.by_ (a + j) hai
        have hfb := hR.fb (a + j)
        have hj0 : (0 : Int) ≤ j := by omega
        obtain ⟨x, hx⟩ : ∃ x, a + j = x := ⟨_, rfl⟩
        obtain ⟨q, hq⟩ : ∃ q, x / 256 = q := ⟨_, rfl⟩
        have hsum : (a : Int) + j = x := by omega
        have hdiv : (x : Int) / 256 = q := by omega
        have hx0 : (0 : Int) ≤ x := by omega
        have hx1 : (x : Int) < 65536 := by omega
        have hq1 : q < 256 := by omega
        have hp0 : (0 : Int) ≤ p := by omega
        have hp1 : (p : Int) < 4294967296 := by
          have h1 := HV.out
          have h2 : v / 256 ^ j ≤ v := Nat.div_le_self _ _
          omega
        have HZ : Hid (zv v j = (p : Int) % 256) := show _ = _ by rw [zv_next, ← hp]
        have HPP : Hid (p / 256 = v / 256 ^ (j + 1)) := show _ = _ by rw [hp, Nat.pow_succ, ← Nat.div_div_eq_div_mul]
        have hz0 : (0 : Int) ≤ (p : Int) % 256 := by omega
        have hz1 : (p : Int) % 256 < 256 := by omega
        rw [hx] at hcb hfb
        have HX : Hid (a + j = x ∧ x / 256 = q) := ⟨hx, hq⟩
        clear hR hai hx hq hj hp hNn
        go_wp2_with (go_at_call 121; refine (rchange_any k q _ _ hq1 (HR.out.setByte x (by omega) ((p : Int) % 256))).mono ?_; rintro e w2 ⟨rfl, hP', hC'⟩)
        have HQ' : Hid (RM w2 k (tellS { pokeS s a j (zv v) with B := upd (pokeS s a j (zv v)).B x ((p : Int) % 256) } q)) := hP'
        have HC' : Hid (Chg k.all (wr.setCell ⟨k.b, x, none⟩ (.int .u8 ((p : Int) % 256))) w2) := hC'
        clear hP' hC'
        go_roundw
        case rel => exact ⟨j + 1, p / 256, by go_num, by go_num, ⟨by omega, HPP.out⟩, ⟨by
          have := HQ'.out
          rw [← HX.out.2, ← HX.out.1, ← HZ.out, pokeS_next] at this
          exact this, (HC.out.setIn (by simp [RB.all])).trans HC'.out⟩⟩
        case measure => simp [intOf]; omega
      · have hjn : j = N := by omega
        subst hjn
        have hlt' : ¬ (j : Int) < n := by omega
        have hCw := HKH.out.2.1.trans HC.out
        obtain ⟨e0, e1, ef, -⟩ := Chg.own2 hCw HKH.out.2.2.1
        obtain ⟨e2, e3, eg, e5⟩ := Chg.own2 HC.out HKH.out.2.2.2.1
        have HCW : Hid _ := hCw
        clear hR hj hp hNn hCw
        go_wp2
        refine bodyPost_ret (v := goV) (by simp [results, Try.results76, go_sem, e0, e1]) rfl ⟨rfl, ?_, HCW.out.res _ _⟩
        refine HR.out.of_blocks fun x hx => ?_
        have hne : x ≠ w.heap.size := by have := HP.out.lt x hx; omega
        rw [Below.heap_setCell _ _ _ _ hne, Below.heap_setCell _ _ _ _ hne]

theorem rstore_ok (k : RB) (a v n : Nat) (s : MS) (w : World) (hn : n = 1 ∨ n = 2 ∨ n = 4) (ha : a < 4294967296) (hv : v < 4294967296) (hs : s.Ok) (h : RM w k s) (hb : badN s 2 a n = none) :
    Calls Try.prog 76 #[.pointer (some ⟨k.y, 0, none⟩), .int .u32 a, .int .i64 n, .int .u32 v] w fun e w' => e = .returned goV ∧ RM w' k (pokeS s a n (zv v)) ∧ Chg k.all w w' :=
  rstore_N k a v n n s w rfl (by omega) ha hv hs h hb
end Go.Proofs.Ytkgbjpdoigdjnaa

namespace Go.Proofs.Ytkgbjpdoigdjnaa
open Go.RowKit
set_option maxRecDepth 100000
set_option linter.unusedVariables false

/-- The number of n bytes. -/
def ldv (B : Nat → Int) (a : Nat) : Nat → Int
  | 0 => 0
  | n + 1 => ldv B a n + B (a + n) * 256 ^ n
theorem ldv_bd (B : Nat → Int) (a : Nat) (hB : ∀ i, 0 ≤ B i ∧ B i ≤ 255) : ∀ n, 0 ≤ ldv B a n ∧ ldv B a n < 256 ^ n
  | 0 => by simp [ldv]
  | n + 1 => by
    have h := ldv_bd B a hB n
    have hb := hB (a + n)
    have hp : (0 : Int) < 256 ^ n := Int.pow_pos (by decide)
    simp only [ldv, Int.pow_succ]
    generalize (256 : Int) ^ n = p at *
    generalize B (a + n) = b at *
    have h1 : 0 ≤ b * p := Int.mul_nonneg hb.1 (by omega)
    have h2 : b * p ≤ 255 * p := Int.mul_le_mul_of_nonneg_right hb.2 (by omega)
    omega

theorem or_add (a y : Int) (s : Nat) (ha : 0 ≤ a) (has : a < 2 ^ s) (hy : 0 ≤ y) (hs : y * 2 ^ s < 4294967296) (hs2 : (2 : Int) ^ s ≤ 4294967296) : bits .or .u32 a (y * 2 ^ s) = a + y * 2 ^ s := by
  have h2 : (0 : Int) < 2 ^ s := Int.pow_pos (by decide)
  rw [u32_or a (y * 2 ^ s) ha (by omega) (Int.mul_nonneg hy (by omega)) hs]
  obtain ⟨m, rfl⟩ := Int.eq_ofNat_of_zero_le ha
  obtain ⟨n, rfl⟩ := Int.eq_ofNat_of_zero_le hy
  have e1 : ((n : Int) * 2 ^ s).toNat = 2 ^ s * n := by
    have : (n : Int) * 2 ^ s = ((n * 2 ^ s : Nat) : Int) := by simp
    rw [this, Int.toNat_natCast, Nat.mul_comm]
  have hm : m < 2 ^ s := by have : ((2 ^ s : Nat) : Int) = 2 ^ s := by simp
                            omega
  rw [e1, Int.toNat_natCast, Nat.or_comm, ← Nat.two_pow_add_eq_or_of_lt hm]
  simp [Int.mul_comm, Int.add_comm]
theorem or_eq (j : Nat) (L b : Int) (hj : j = 0 ∨ j = 1 ∨ j = 2 ∨ j = 3) (hL0 : 0 ≤ L) (hL : L < 256 ^ j) (hb0 : 0 ≤ b) (hb1 : b ≤ 255) : bits .or .u32 L (b * 2 ^ (8 * j) % 4294967296) = L + b * 256 ^ j := by
  have hp : (2 : Int) ^ (8 * j) = 256 ^ j := by rw [Int.pow_mul]; rfl
  have h4 : b * 256 ^ j < 4294967296 ∧ (256 : Int) ^ j ≤ 4294967296 := by
    rcases hj with rfl | rfl | rfl | rfl
    · simp; omega
    · show b * 256 < _ ∧ (256 : Int) ≤ _; omega
    · show b * 65536 < _ ∧ (65536 : Int) ≤ _; omega
    · show b * 16777216 < _ ∧ (16777216 : Int) ≤ _; omega
  have h0 : 0 ≤ b * 256 ^ j := Int.mul_nonneg hb0 (Int.le_of_lt (Int.pow_pos (by decide)))
  have hmod : b * 2 ^ (8 * j) % 4294967296 = b * 2 ^ (8 * j) := Int.emod_eq_of_lt (by rw [hp]; exact h0) (by rw [hp]; exact h4.1)
  rw [hmod, or_add L b (8 * j) hL0 (by rw [hp]; exact hL) hb0 (by rw [hp]; exact h4.1) (by rw [hp]; exact h4.2), hp]

theorem load_bad (X a x : Nat) (n : Int) (s : MS) (w : World) (ha : a < 4294967296) (hs : s.Ok) (h : PM w X s) (hb : badN s 1 a n.toNat = some x) :
    Calls Try.prog 73 #[.pointer (some ⟨X, 0, none⟩), .int .u32 a, .int .i64 n] w fun e w' => e = .returned (.tuple #[.int .u32 0, stV 5 x]) ∧ Below w.heap.size w w' := by
  have HP : Hid (PM w X s) := h
  have HB : Hid (badN s 1 a n.toNat = some x) := hb
  clear h hb
  go_enter Try.func73, Try.ntmps73
  go_wp2_with (go_at_call 125; refine (allowed_bad X a x n 1 s _ ha (.inl rfl) hs (HP.out.alloc _) HB.out).mono ?_; rintro e w' ⟨rfl, rfl⟩)
  exact bodyPost_ret (v := .tuple #[.int .u32 0, stV 5 x]) (by simp [results, Try.results73, go_sem]) rfl ⟨rfl, by first | exact (((Below.refl _ _).alloc (Nat.le_refl _) _).setCell (Nat.le_refl _) _).setCell (Nat.le_refl _) _ | exact ((Below.refl _ _).alloc (Nat.le_refl _) _).setCell (Nat.le_refl _) _ | exact (Below.refl _ _).alloc (Nat.le_refl _) _⟩

theorem load_none (X a : Nat) (n : Int) (s : MS) (w : World) (hn : ¬ (n = 1 ∨ n = 2 ∨ n = 4)) (ha : a < 4294967296) (hs : s.Ok) (h : PM w X s) (hb : badN s 1 a n.toNat = none) :
    Calls Try.prog 73 #[.pointer (some ⟨X, 0, none⟩), .int .u32 a, .int .i64 n] w fun e w' => e = .returned (.tuple #[.int .u32 0, goV]) ∧ Below w.heap.size w w' := by
  have HP : Hid (PM w X s) := h
  have HB : Hid (badN s 1 a n.toNat = none) := hb
  have HN : Hid (¬ (n = 1 ∨ n = 2 ∨ n = 4)) := hn
  clear h hb hn
  go_enter Try.func73, Try.ntmps73
  go_wp2_with first
    | (go_at_call 125; refine (allowed_ok X a n 1 s _ ha (.inl rfl) hs (HP.out.alloc _) HB.out).mono ?_; rintro e w' ⟨rfl, rfl⟩)
    | (go_at_call 126; refine (wid_no _ _ HN.out).mono ?_; rintro e w' ⟨rfl, rfl⟩)
  exact bodyPost_ret (v := .tuple #[.int .u32 0, goV]) (by simp [results, Try.results73, go_sem]) rfl ⟨rfl, by first | exact (((Below.refl _ _).alloc (Nat.le_refl _) _).setCell (Nat.le_refl _) _).setCell (Nat.le_refl _) _ | exact ((Below.refl _ _).alloc (Nat.le_refl _) _).setCell (Nat.le_refl _) _ | exact (Below.refl _ _).alloc (Nat.le_refl _) _⟩

set_option maxHeartbeats 1000000 in
theorem load_ok (X a n : Nat) (s : MS) (w : World) (hn : n = 1 ∨ n = 2 ∨ n = 4) (ha : a < 4294967296) (hs : s.Ok) (h : PM w X s) (hb : badN s 1 a n = none) :
    Calls Try.prog 73 #[.pointer (some ⟨X, 0, none⟩), .int .u32 a, .int .i64 n] w fun e w' => e = .returned (.tuple #[.int .u32 (ldv s.B a n), goV]) ∧ Below w.heap.size w w' := by
  have HN : Hid ((n : Int) = 1 ∨ (n : Int) = 2 ∨ (n : Int) = 4) := show _ ∨ _ ∨ _ by omega
  have HN4 : Hid (n ≤ 4 ∧ 0 < n) := show _ ∧ _ by omega
  have hl := badN_lt hb (show 0 < n by omega)
  have HL : Hid (a + n ≤ 65536) := hl
  have ha0 : (0 : Int) ≤ a := by omega
  have ha1 : (a : Int) < 4294967296 := by omega
  have hs1 : (a : Int) + n ≤ 65536 := by omega
  have hn0 : (0 : Int) ≤ n := by omega
  have hne : ¬ 65536 = a := by omega
  have hs0 : (0 : Int) ≤ (a : Int) + n := by omega
  have ht : ((a : Int) + n).toNat = a + n := by omega
  have hle : (a : Int) ≤ (a : Int) + n := by omega
  have HP : Hid (PM w X s) := h
  have HB : Hid (badN s 1 a (n : Int).toNat = none) := hb
  clear hn h hb hl
  go_enter Try.func73, Try.ntmps73
  go_wp2_with first
    | (go_at_call 125; refine (allowed_ok X a n 1 s _ ha (.inl rfl) hs (HP.out.alloc _) HB.out).mono ?_; rintro e w' ⟨rfl, rfl⟩)
    | (go_at_call 126; refine (wid_yes _ _ HN.out).mono ?_; rintro e w' ⟨rfl, rfl⟩)
  go_loop [10, 38] (fun vv i => ∃ j : Nat, i = .int .i64 j ∧ vv = .int .u32 (ldv s.B a j) ∧ j ≤ n) (fun _ i => n - (intOf i).toNat)
  case atStart => exact ⟨0, rfl, rfl, by omega⟩
  case round =>
    obtain ⟨j, rfl, rfl, hj⟩ := hrel
    have hbd := ldv_bd s.B a hs.by_ j
    by_cases hlt : j < n
    · have hai : a + j < 65536 := by have := HL.out; omega
      have hX : X < w.heap.size := HP.out.lt
      have hcb := HP.out.by_ (a + j) hai
      have hj0 : (0 : Int) ≤ j := by omega
      have hji : (j : Int) < n := by omega
      obtain ⟨b, hbb⟩ : ∃ b, s.B (a + j) = b := ⟨_, rfl⟩
      have hB := hs.by_ (a + j)
      rw [hbb] at hcb hB
      obtain ⟨hB0, hB1⟩ := hB
      obtain ⟨L, hL⟩ : ∃ L, ldv s.B a j = L := ⟨_, rfl⟩
      have HLJ : Hid (ldv s.B a (j + 1) = L + b * 256 ^ j) := show _ = _ by rw [ldv, hL, hbb]
      have HJ : Hid ((j = 0 ∨ j = 1 ∨ j = 2 ∨ j = 3) ∧ 0 ≤ L ∧ L < 256 ^ j) := ⟨by have := HN4.out; omega, by rw [← hL]; exact hbd⟩
      have h80 : (0 : Int) ≤ 8 * (j : Int) := by omega
      have hj4 : (j : Int) ≤ 3 := by have := HN4.out; omega
      rw [hL]
      clear hbb hbd hL hai hj
      go_wp2
      go_round
      case rel => exact ⟨j + 1, by go_num, by rw [HLJ.out, or_eq j L b HJ.out.1 HJ.out.2.1 HJ.out.2.2 hB0 hB1], by omega⟩
      case measure => simp [intOf]; omega
    · have hjn : j = n := by omega
      subst hjn
      clear hbd hj
      go_wp2
      exact bodyPost_ret (v := .tuple #[.int .u32 (ldv s.B a j), goV]) (by simp [results, Try.results73, go_sem]) rfl ⟨rfl, by first | exact (((Below.refl _ _).alloc (Nat.le_refl _) _).setCell (Nat.le_refl _) _).setCell (Nat.le_refl _) _ | exact ((Below.refl _ _).alloc (Nat.le_refl _) _).setCell (Nat.le_refl _) _ | exact (Below.refl _ _).alloc (Nat.le_refl _) _⟩

set_option maxHeartbeats 400000 in
theorem rload_bad (k : RB) (a x : Nat) (n : Int) (s : MS) (w : World) (ha : a < 4294967296) (hs : s.Ok) (h : RM w k s) (hb : badN s 1 a n.toNat = some x) :
    Calls Try.prog 74 #[.pointer (some ⟨k.y, 0, none⟩), .int .u32 a, .int .i64 n] w fun e w' => e = .returned (.tuple #[.int .u32 0, stV 5 x]) ∧ Below w.heap.size w w' := by
  have HP : Hid (RM w k s) := h
  have HB : Hid (badN s 1 a n.toNat = some x) := hb
  clear h hb
  go_enter Try.func74, Try.ntmps74
  go_wp2_with (go_at_call 127; refine (use_bad k a x n 1 5 s _ ha (.inl rfl) hs (HP.out.alloc _) HB.out).mono ?_; rintro e w' ⟨rfl, hBl⟩; obtain ⟨q0, q1, q2, q3⟩ := own2 hBl; have HBl : Hid _ := hBl; clear hBl)
  go_region
  all_goals
    go_wp2
    exact bodyPost_ret (v := .tuple #[.int .u32 0, stV 5 x]) (by simp [results, Try.results74, go_sem, q0, q1, q3]) rfl ⟨rfl, below_res2 HBl.out _ _ _⟩

set_option maxHeartbeats 400000 in
theorem rload_none (k : RB) (a : Nat) (n : Int) (s : MS) (w : World) (hn : ¬ (n = 1 ∨ n = 2 ∨ n = 4)) (ha : a < 4294967296) (hs : s.Ok) (h : RM w k s) (hb : badN s 1 a n.toNat = none) :
    Calls Try.prog 74 #[.pointer (some ⟨k.y, 0, none⟩), .int .u32 a, .int .i64 n] w fun e w' => e = .returned (.tuple #[.int .u32 0, goV]) ∧ Below w.heap.size w w' := by
  have HP : Hid (RM w k s) := h
  have HB : Hid (badN s 1 a n.toNat = none) := hb
  have h1 : (n == 1) = false := by simp; omega
  have h2 : (n == 2) = false := by simp; omega
  have h4 : (n == 4) = false := by simp; omega
  have g1 : (n != 1) = true := by simp [bne, h1]
  have g2 : (n != 2) = true := by simp [bne, h2]
  have g4 : (n != 4) = true := by simp [bne, h4]
  clear h hb hn
  go_enter Try.func74, Try.ntmps74
  go_wp2_with (go_at_call 127; refine (use_ok k a n 1 5 s _ ha (.inl rfl) hs (HP.out.alloc _) HB.out).mono ?_; rintro e w' ⟨rfl, hBl⟩; obtain ⟨q0, q1, q2, q3⟩ := own2 hBl; have HBl : Hid _ := hBl; clear hBl)
  go_region
  all_goals
    go_wp2
    exact bodyPost_ret (v := .tuple #[.int .u32 0, goV]) (by simp [results, Try.results74, go_sem, q0, q1, q3]) rfl ⟨rfl, below_res2 HBl.out _ _ _⟩

theorem ldv_cons (B : Nat → Int) (a : Nat) : ∀ n, ldv B a (n + 1) = ldv B (a + 1) n * 256 + B a
  | 0 => by simp [ldv]
  | n + 1 => by
    have ih := ldv_cons B a n
    rw [ldv, ih, ldv, Nat.add_right_comm a 1 n, ← Nat.add_assoc a n 1, Int.pow_succ]
    rw [Int.add_mul, Int.mul_assoc]
    omega

structure LdR (s : MS) (a N j : Nat) (x : Int) : Prop where
  le : j ≤ N
  eq : x = ldv s.B (a + j) (N - j)

set_option maxHeartbeats 2000000 in
theorem rload_N (k : RB) (a N : Nat) (n : Int) (s : MS) (w : World) (hN : n = (N : Int)) (hn : n = 1 ∨ n = 2 ∨ n = 4) (ha : a < 4294967296) (hs : s.Ok) (h : RM w k s) (hb : badN s 1 a n.toNat = none) :
    Calls Try.prog 74 #[.pointer (some ⟨k.y, 0, none⟩), .int .u32 a, .int .i64 n] w fun e w' => e = .returned (.tuple #[.int .u32 (ldv s.B a N), goV]) ∧ Below w.heap.size w w' := by
  have HN : Hid (n = (N : Int)) := hN
  have HN4 : Hid (N ≤ 4 ∧ 0 < N) := show _ ∧ _ by omega
  have hl := badN_lt hb (show 0 < n.toNat by omega)
  have HL : Hid (a + N ≤ 65536) := show a + N ≤ 65536 by omega
  have ha0 : (0 : Int) ≤ a := by omega
  have ha1 : (a : Int) < 65536 := by omega
  have HP : Hid (RM w k s) := h
  have HB : Hid (badN s 1 a n.toNat = none) := hb
  have hn4 : n ≤ 4 := by omega
  have hn0 : 0 ≤ n := by omega
  have key : ∀ w', Below (w.alloc (.cells #[.int .i64 0, .int .u32 0] 66)).heap.size (w.alloc (.cells #[.int .i64 0, .int .u32 0] 66)) w' → RM w' k s := fun w' hb => (h.alloc _).below hb (Nat.le_refl _)
  have HK : Hid _ := key
  clear h hb key hl
  have hcase : (n == 1) = true ∨ ((n == 1) = false ∧ (n == 2) = true) ∨ ((n == 1) = false ∧ (n == 2) = false ∧ (n == 4) = true) := by
    rcases hn with rfl | rfl | rfl
    · exact .inl rfl
    · exact .inr (.inl ⟨rfl, rfl⟩)
    · exact .inr (.inr ⟨rfl, rfl, rfl⟩)
  clear hn hN
  have hcase' : (n != 1) = false ∨ ((n != 1) = true ∧ (n != 2) = false) ∨ ((n != 1) = true ∧ (n != 2) = true ∧ (n != 4) = false) := by
    rcases hcase with h | h | h
    · exact .inl (by simp [bne, h])
    · exact .inr (.inl ⟨by simp [bne, h.1], by simp [bne, h.2]⟩)
    · exact .inr (.inr ⟨by simp [bne, h.1], by simp [bne, h.2.1], by simp [bne, h.2.2]⟩)
  clear hcase
  rcases hcase' with g1 | ⟨g1, g2⟩ | ⟨g1, g2, g4⟩
  all_goals
    go_enter Try.func74, Try.ntmps74
    go_wp2_with (go_at_call 127; refine (use_ok k a n 1 5 s _ ha (.inl rfl) hs (HP.out.alloc _) HB.out).mono ?_; rintro e w' ⟨rfl, hBl⟩; obtain ⟨q0, q1, q2, q3⟩ := own2 hBl; have hR := HK.out w' hBl; have hlty := hR.lty; have hltb := hR.ltb; have d0 := hR.c0; have HR : Hid (RM w' k s) := hR; have HBl : Hid _ := hBl; clear hBl hR)
    go_loop [9, 10] (fun vv i => ∃ (j : Nat) (x : Int), i = .int .i64 ((j : Int) - 1) ∧ vv = .int .u32 x ∧ LdR s a N j x) (fun _ i => (intOf i + 1).toNat)
    case atStart => exact ⟨N, 0, by rw [← HN.out], rfl, Nat.le_refl _, by simp [ldv]⟩
    case round =>
      obtain ⟨j, x, rfl, rfl, hjN, hx⟩ := hrel
      have hbd := ldv_bd s.B (a + j) hs.by_ (N - j)
      have h44 := HN4.out
      cases j with
      | zero =>
        have hz : ((0 : Nat) : Int) - 1 = -1 := rfl
        rw [hz]
        have HX : Hid (x = ldv s.B a N) := show _ = _ by simpa using hx
        clear hbd hx hjN h44 hz
        go_wp2
        go_region
        all_goals
          go_wp2
          refine bodyPost_ret (v := .tuple #[.int .u32 x, goV]) (by simp [results, Try.results74, go_sem, q0, q1, q3]) rfl ⟨by rw [HX.out], below_res2 HBl.out _ _ _⟩
      | succ t =>
        have e : ((t + 1 : Nat) : Int) - 1 = (t : Int) := by omega
        rw [e]
        have hat : a + t < 65536 := by have := HL.out; omega
        have hcb := HR.out.by_ (a + t) hat
        obtain ⟨b, hbb⟩ : ∃ b, s.B (a + t) = b := ⟨_, rfl⟩
        have hB := hs.by_ (a + t)
        rw [hbb] at hcb hB
        obtain ⟨hB0, hB1⟩ := hB
        rw [← hx] at hbd
        obtain ⟨hx0, hx1⟩ := hbd
        have hx2 : x < 16777216 := by
          have hc : N - (t + 1) = 0 ∨ N - (t + 1) = 1 ∨ N - (t + 1) = 2 ∨ N - (t + 1) = 3 := by omega
          rcases hc with h | h | h | h <;> rw [h] at hx1 <;> simp at hx1 <;> omega
        have HX : Hid (x * 256 + b = ldv s.B (a + t) (N - t)) := show _ = _ by
          rw [show N - t = (N - (t + 1)) + 1 by omega, ldv_cons, hbb, hx, Nat.add_assoc]
        have HT : Hid (t ≤ N) := show t ≤ N by omega
        have ht0 : (0 : Int) ≤ t := by omega
        have ht4 : (t : Int) ≤ 4 := by omega
        have hti : (a : Int) + t < 65536 := by omega
        clear hx hjN h44 e hx1 hbb hat
        go_wp2
        go_round
        case rel => exact ⟨t, x * 256 + b, by go_num, by go_num, HT.out, HX.out⟩
        case measure => simp [intOf]

theorem rload_ok (k : RB) (a n : Nat) (s : MS) (w : World) (hn : n = 1 ∨ n = 2 ∨ n = 4) (ha : a < 4294967296) (hs : s.Ok) (h : RM w k s) (hb : badN s 1 a n = none) :
    Calls Try.prog 74 #[.pointer (some ⟨k.y, 0, none⟩), .int .u32 a, .int .i64 n] w fun e w' => e = .returned (.tuple #[.int .u32 (ldv s.B a n), goV]) ∧ Below w.heap.size w w' :=
  rload_N k a n n s w rfl (by omega) ha hs h hb
end Go.Proofs.Ytkgbjpdoigdjnaa

namespace Go.Proofs.Ytkgbjpdoigdjnaa
open Go.RowKit
set_option maxRecDepth 100000
set_option linter.unusedVariables false

/-! ## An array as a value -/
/-! ## A list that grows by one -/
def OL (w : World) (base : Nat) (v : Value) (l : List Int) : Prop := w.ownsRow base 3 1 v l.length (l.map (Value.int .i64))
theorem OL.slice {w : World} {base : Nat} {v : Value} {l : List Int} (h : OL w base v l) : ∃ p c, v = .slice p l.length c ∧ (0 < l.length → ∃ g, p = some ⟨g, 0, none⟩ ∧ base ≤ g ∧ ∀ i y, l[i]? = some y → w.cell? ⟨g, i, none⟩ = some (.int .i64 y)) := by
  rcases h.2 with ⟨rfl, h0⟩ | ⟨g, c, cur, rfl, hb, hh, h1, h2, h3, h4⟩
  · exact ⟨none, 0, by rw [h0], fun h => by omega⟩
  · refine ⟨_, c, rfl, fun _ => ⟨g, rfl, hb, fun i y hy => ?_⟩⟩
    have hi : i < l.length := (List.getElem?_eq_some_iff.1 hy).1
    rw [cell_of_row _ _ i _ _ _ hh]
    have h5 : (cur.toList.take (l.length * 1))[i]? = some (.int .i64 y) := by rw [h4]; simp [hy]
    rw [List.getElem?_take, if_pos (by omega)] at h5
    simpa using h5
theorem info3 : (Try.prog.info? 3).map (fun i => (i.zero, i.size, i.bytes)) = some (some (.int .i64 0), 1, 8) := by kernel_rfl
theorem OL.below {w w' : World} {base : Nat} {v : Value} {l : List Int} (h : OL w base v l) (hb : ∀ g, base ≤ g → g < w.heap.size → w'.heap[g]? = w.heap[g]?) : OL w' base v l := by
  refine ⟨h.1, ?_⟩
  rcases h.2 with h | ⟨g, c, cur, rfl, hg, hh, r⟩
  · exact .inl h
  · exact .inr ⟨g, c, cur, rfl, hg, (hb g hg (Array.getElem?_eq_some_iff.1 hh).1).trans hh, r⟩
def chS (s : MS) : MS := { s with T := fun _ => false }

def noTold : List Value := List.replicate 256 (.bool false)
theorem noTold_len : noTold.length = 256 := List.length_replicate
theorem noTold_at (j : Nat) (h : j < noTold.length) : noTold[j] = .bool false := List.getElem_replicate _
theorem PM.clear {w : World} {X : Nat} {s : MS} (h : PM w X s) : PM ((w.setCells X 66048 noTold).setCell ⟨X, 66304, none⟩ (.int .i64 0)) X (chS s) := by
  have hout : ∀ o, (o < 66048 ∨ 66304 ≤ o) → (w.setCells X 66048 noTold).cell? ⟨X, o, none⟩ = w.cell? ⟨X, o, none⟩ := fun o ho =>
    World.cell?_setCells_out X _ 66048 w ⟨X, o, none⟩ (fun _ _ => by rw [noTold_len]; exact ho)
  have hd := cell_setCell (w := w.setCells X 66048 noTold) (.int .i64 0) ((hout 66304 (by omega)).trans h.te)
  refine ⟨fun j hj => ?_, fun j hj => ?_, fun j hj => ?_, fun j hj => ?_, ?_, fun o => ?_⟩
  · rw [hd, if_neg (by omega), hout _ (by omega)]; exact h.by_ j hj
  · rw [hd, if_neg (by omega), hout _ (by omega)]; exact h.ri j hj
  · rw [hd, if_neg (by omega), hout _ (by omega)]; exact h.wa j hj
  · rw [hd, if_neg (by omega), World.cell?_setCells_in X _ 66048 w (fun q hq => by rw [noTold_len] at hq; rw [h.to _ hq]; rfl) j (by rw [noTold_len]; exact hj), noTold_at]
    rfl
  · rw [hd, if_pos rfl, chS, cnt_none _ _ (fun _ _ => rfl)]; rfl
  · rw [World.frozen?_setCell, World.frozen?_setCells]; exact h.fr o

theorem OL.alloc {w : World} {base : Nat} {v : Value} {l : List Int} (h : OL w base v l) (o : Obj) : OL (w.alloc o) base v l :=
  h.below fun g _ hg => Below.heap_alloc w o g hg

theorem RM.congr {w : World} {k : RB} {s s' : MS} (h : RM w k s) (hB : ∀ i, i < 65536 → s'.B i = s.B i) (hR : ∀ i, i < 256 → s'.R i = s.R i) (hM : ∀ i, i < 256 → s'.M i = s.M i) (hT : ∀ i, i < 256 → s'.T i = s.T i) : RM w k s' :=
  { h with by_ := fun i hi => by rw [hB i hi]; exact h.by_ i hi, ri := fun i hi => by rw [hR i hi]; exact h.ri i hi, wa := fun i hi => by rw [hM i hi]; exact h.wa i hi, to := fun i hi => by rw [hT i hi]; exact h.to i hi }

theorem Chg.old {S : List Nat} {w w1 w2 : World} (h : Chg S w w1) (hb : Below w.heap.size w1 w2) : Chg S w w2 :=
  ⟨hb.os.trans h.os, hb.tape.trans h.tape, hb.output.trans h.output, Nat.le_trans h.size hb.size, fun k hk hs => (hb.block k hk).trans (h.block k hk hs)⟩
end Go.Proofs.Ytkgbjpdoigdjnaa
