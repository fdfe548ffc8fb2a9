import Derived.Test.YtkgbjpdoigdjnabWJ01
import Derived.Deep.RegionLaw
import Derived.Lib.SliceRun
set_option linter.unusedVariables false
set_option linter.unusedSimpArgs false
set_option maxHeartbeats 2000000
namespace Go.Proofs.Ytkgbjpdoigdjnab.Va
open Go.RowKit
set_option maxRecDepth 100000
abbrev goV : Value := .agg #[.int .i64 0, .int .u32 0]
abbrev stV (k : Int) (x : Nat) : Value := .agg #[.int .i64 k, .int .u32 x]
theorem PM.alloc {w : World} {X : Nat} {s : MS} (h : PM w X s) (o : Obj) : PM (w.alloc o) X s := h.below ((Below.refl w.heap.size w).alloc (Nat.le_refl _) o) h.lt
theorem RM.alloc {w : World} {k : RB} {s : MS} (h : RM w k s) (o : Obj) : RM (w.alloc o) k s := h.below ((Below.refl w.heap.size w).alloc (Nat.le_refl _) o) (Nat.le_refl _)
theorem own2 {w w' : World} {v0 v1 : Value} {t : TypeId} (hb : Below (w.alloc (.cells #[v0, v1] t)).heap.size (w.alloc (.cells #[v0, v1] t)) w') :
  w'.cell? ⟨w.heap.size, 0, none⟩ = some v0 ∧ w'.cell? ⟨w.heap.size, 1, none⟩ = some v1 ∧ (∀ o, w'.frozen? ⟨w.heap.size, o, none⟩ = false) ∧ w.heap.size < w'.heap.size := by
 have h1 : w'.heap[w.heap.size]? = some (.cells #[v0, v1] t (0, 0)) := (hb.block _ (by simp)).trans (heap_alloc_last w _)
 refine ⟨(cell_of_row _ _ 0 _ t (0, 0) h1).trans rfl, (cell_of_row _ _ 1 _ t (0, 0) h1).trans rfl, fun o => by simp only [World.frozen?, h1]; simp, ?_⟩
 have := hb.size
 simp at this
 omega
theorem below_res {w w' : World} {o : Obj} (hb : Below (w.alloc o).heap.size (w.alloc o) w') (v0 v1 : Value) : Below w.heap.size w ((w'.setCell ⟨w.heap.size, 0, none⟩ v0).setCell ⟨w.heap.size, 1, none⟩ v1) :=
 ((((Below.refl _ _).alloc (Nat.le_refl _) o).trans (hb.mono (by simp))).setCell (Nat.le_refl _) _).setCell (Nat.le_refl _) _
theorem below_res2 {w w' : World} {o : Obj} (hb : Below (w.alloc o).heap.size (w.alloc o) w') (v0 v1 : Value) (o2 : Obj) : Below w.heap.size w (((w'.setCell ⟨w.heap.size, 0, none⟩ v0).setCell ⟨w.heap.size, 1, none⟩ v1).alloc o2).drew :=
 ((below_res hb v0 v1).alloc (below_res hb v0 v1).size o2).drew
theorem use_bad (k' : RB) (a x : Nat) (n r kind : Int) (s : MS) (w : World) (ha : a < 4294967296) (hr : r = 1 ∨ r = 2 ∨ r = 4) (hs : s.Ok) (h : RM w k' s) (hb : badN s r a n.toNat = some x) :
  Calls Try.prog 179 #[.pointer (some ⟨k'.y, 0, none⟩), .int .u32 a, .int .i64 n, .int .i64 r, .int .i64 kind] w fun e w' => e = .returned (stV kind x) ∧ Below w.heap.size w w' := by
 have := use_any k' a n r kind s w ha hr hs h
 rw [hb] at this
 exact this
theorem use_ok (k' : RB) (a : Nat) (n r kind : Int) (s : MS) (w : World) (ha : a < 4294967296) (hr : r = 1 ∨ r = 2 ∨ r = 4) (hs : s.Ok) (h : RM w k' s) (hb : badN s r a n.toNat = none) :
  Calls Try.prog 179 #[.pointer (some ⟨k'.y, 0, none⟩), .int .u32 a, .int .i64 n, .int .i64 r, .int .i64 kind] w fun e w' => e = .returned goV ∧ Below w.heap.size w w' := by
 have := use_any k' a n r kind s w ha hr hs h
 rw [hb] at this
 exact this
structure Behind (w w' w2 : World) : Prop where
 r0 : w2.cell? ⟨w.heap.size, 0, none⟩ = some (.int .i64 0)
 r1 : w2.cell? ⟨w.heap.size, 1, none⟩ = some (.int .u32 0)
 rf : ∀ o, w2.frozen? ⟨w.heap.size, o, none⟩ = false
 s0 : w2.cell? ⟨w'.heap.size, 0, none⟩ = some (.int .i64 0)
 s1 : w2.cell? ⟨w'.heap.size, 1, none⟩ = some (.int .u32 0)
 lt : w.heap.size < w'.heap.size
 bel : Below w.heap.size w w2
theorem behind {w w' w2 : World} (hb : Below (w.alloc (.cells #[.int .i64 0, .int .u32 0] 41)).heap.size (w.alloc (.cells #[.int .i64 0, .int .u32 0] 41)) w')
  (h2 : Below (w'.heap.size + 1) (w'.alloc (.cells #[.int .i64 0, .int .u32 0] 41)).drew w2) : Behind w w' w2 := by
 obtain ⟨q0, q1, q2, q3⟩ := own2 hb
 have hd : ∀ b o, b < w'.heap.size + 1 → w2.cell? ⟨b, o, none⟩ = (w'.alloc (.cells #[.int .i64 0, .int .u32 0] 41)).cell? ⟨b, o, none⟩ := fun b o hb => h2.cell (p := ⟨b, o, none⟩) hb
 have hfz : ∀ b o, b < w'.heap.size + 1 → w2.frozen? ⟨b, o, none⟩ = (w'.alloc (.cells #[.int .i64 0, .int .u32 0] 41)).frozen? ⟨b, o, none⟩ := fun b o hb => h2.frozen (p := ⟨b, o, none⟩) hb
 have ha : Below w'.heap.size w' (w'.alloc (.cells #[.int .i64 0, .int .u32 0] 41)) := (Below.refl _ _).alloc (Nat.le_refl _) _
 have hl := heap_alloc_last w' (.cells #[.int .i64 0, .int .u32 0] 41)
 refine ⟨?_, ?_, fun o => ?_, ?_, ?_, q3, ?_⟩
 ·rw [hd _ _ (by omega), ha.cell (p := ⟨w.heap.size, 0, none⟩) q3]; exact q0
 ·rw [hd _ _ (by omega), ha.cell (p := ⟨w.heap.size, 1, none⟩) q3]; exact q1
 ·rw [hfz _ _ (by omega), ha.frozen (p := ⟨w.heap.size, o, none⟩) q3]; exact q2 o
 ·rw [hd _ _ (by omega), cell_of_row _ _ 0 _ 41 (0, 0) hl]; rfl
 ·rw [hd _ _ (by omega), cell_of_row _ _ 1 _ 41 (0, 0) hl]; rfl
 ·exact (((Below.refl _ _).alloc (Nat.le_refl _) _).trans (hb.mono (by simp))).trans (((ha.mono (by omega)).drew).trans (h2.mono (by omega)))
def zv (v : Nat) (j : Nat) : Int := ((v / 256 ^ j % 256 : Nat) : Int)
theorem Chg.res {S : List Nat} {w w' : World} {o : Obj} (h : Chg S (w.alloc o) w') (v0 v1 : Value) : Chg S w ((w'.setCell ⟨w.heap.size, 0, none⟩ v0).setCell ⟨w.heap.size, 1, none⟩ v1) := by
 have h1 : Chg S w w' := (Chg.of_below S ((Below.refl w.heap.size w).alloc (Nat.le_refl _) o)).trans h
 exact (h1.new (Nat.le_refl _) ((Only.refl _ _).setCell 0 v0)).new (Nat.le_refl _) ((Only.refl _ _).setCell 1 v1)
theorem Chg.own2 {S : List Nat} {w w' : World} {v0 v1 : Value} {t : TypeId} (hb : Chg S (w.alloc (.cells #[v0, v1] t)) w') (hS : w.heap.size ∉ S) :
  w'.cell? ⟨w.heap.size, 0, none⟩ = some v0 ∧ w'.cell? ⟨w.heap.size, 1, none⟩ = some v1 ∧ (∀ o, w'.frozen? ⟨w.heap.size, o, none⟩ = false) ∧ w.heap.size < w'.heap.size := by
 have h1 : w'.heap[w.heap.size]? = some (.cells #[v0, v1] t (0, 0)) := (hb.block _ (by simp) hS).trans (heap_alloc_last w _)
 refine ⟨(cell_of_row _ _ 0 _ t (0, 0) h1).trans rfl, (cell_of_row _ _ 1 _ t (0, 0) h1).trans rfl, fun o => by simp only [World.frozen?, h1]; simp, ?_⟩
 have := hb.size
 simp at this
 omega
theorem Chg.drew {S : List Nat} {w w' : World} (h : Chg S w w') : Chg S w w'.drew := ⟨h.os, h.tape, h.output, h.size, h.block⟩
theorem below_res2' {w w' : World} {o : Obj} (hb : Below (w.alloc o).heap.size (w.alloc o) w') (v0 v1 : Value) (o2 : Obj) : Below w.heap.size w (((w'.setCell ⟨w.heap.size, 0, none⟩ v0).setCell ⟨w.heap.size, 1, none⟩ v1).alloc o2) :=
 (below_res hb v0 v1).alloc (below_res hb v0 v1).size o2
theorem rstore_none (k : RB) (a v : Nat) (n : Int) (w : World) (hn : ¬ (n = 1 ∨ n = 2 ∨ n = 4)) :
  Calls Try.prog 145 #[.pointer (some ⟨k.y, 0, none⟩), .int .u32 a, .int .i64 n, .int .u32 v] w fun e w' => e = .returned goV ∧ Below w.heap.size w w' := by
 have h1 : (n == 1) = false := by simp; omega
 have h2 : (n == 2) = false := by simp; omega
 have h4 : (n == 4) = false := by simp; omega
 have g1 : (n != 1) = true := by simp [bne, h1]
 have g2 : (n != 2) = true := by simp [bne, h2]
 have g4 : (n != 4) = true := by simp [bne, h4]
 clear hn
 go_enter Try.func145, Try.ntmps145
 go_wp2
 exact bodyPost_ret (v := goV) (by simp [results, Try.results145, go_sem]) rfl ⟨rfl, by first | exact ((Below.refl _ _).alloc (Nat.le_refl _) _).setCell (Nat.le_refl _) _ | exact (Below.refl _ _).alloc (Nat.le_refl _) _⟩
theorem rstore_bad (k : RB) (a v x : Nat) (n : Int) (s : MS) (w : World) (hn : n = 1 ∨ n = 2 ∨ n = 4) (ha : a < 4294967296) (hs : s.Ok) (h : RM w k s) (hb : badN s 2 a n.toNat = some x) :
  Calls Try.prog 145 #[.pointer (some ⟨k.y, 0, none⟩), .int .u32 a, .int .i64 n, .int .u32 v] w fun e w' => e = .returned (stV 6 x) ∧ Below w.heap.size w w' := by
 have HP : Hid (RM w k s) := h
 have HB : Hid (badN s 2 a n.toNat = some x) := hb
 clear h hb
 rcases hn with rfl | rfl | rfl
 all_goals
  go_enter Try.func145, Try.ntmps145
  go_wp2_with (go_at_call 179; refine (use_bad k a x _ 2 6 s _ ha (.inr (.inl rfl)) hs (HP.out.alloc _) HB.out).mono ?_; rintro e w' ⟨rfl, hBl⟩; obtain ⟨q0, q1, q2, q3⟩ := own2 hBl; have HBl : Hid _ := hBl; clear hBl)
  exact bodyPost_ret (v := stV 6 x) (by simp [results, Try.results145, go_sem, q0, q1, q3]) rfl ⟨rfl, by first | exact below_res2' HBl.out _ _ _ | exact below_res2 HBl.out _ _ _⟩
theorem zv_next (v j : Nat) : zv v j = (((v / 256 ^ j : Nat) : Int) % 256) := by unfold zv; omega
structure StR (k : RB) (s : MS) (a v : Nat) (w w1 : World) (j : Nat) (wr : World) : Prop where
 rm : RM wr k (pokeS s a j (zv v))
 chg : Chg k.all w1 wr
theorem rstore_N (k : RB) (a v N : Nat) (n : Int) (s : MS) (w : World) (hN : n = (N : Int)) (hn : n = 1 ∨ n = 2 ∨ n = 4) (ha : a < 4294967296) (hv : v < 4294967296) (hs : s.Ok) (h : RM w k s) (hb : badN s 2 a n.toNat = none) :
  Calls Try.prog 145 #[.pointer (some ⟨k.y, 0, none⟩), .int .u32 a, .int .i64 n, .int .u32 v] w fun e w' => e = .returned goV ∧ RM w' k (pokeS s a N (zv v)) ∧ Chg k.all w w' := by
 have HN : Hid (n = (N : Int)) := hN
 have HN4 : Hid (N ≤ 4 ∧ 0 < N) := show _ ∧ _ by omega
 have hl := badN_lt hb (show 0 < n.toNat by omega)
 have HL : Hid (a + N ≤ 65536) := show a + N ≤ 65536 by omega
 have ha0 : (0 : Int) ≤ a := by omega
 have ha1 : (a : Int) < 4294967296 := by omega
 have HV : Hid (v < 4294967296) := hv
 have HP : Hid (RM w k s) := h
 have HB : Hid (badN s 2 a n.toNat = none) := hb
 have hn4 : n ≤ 4 := by omega
 have hn0 : 0 ≤ n := by omega
 clear hb hl hv
 have key : ∀ w', Below (w.alloc (.cells #[.int .i64 0, .int .u32 0] 41)).heap.size (w.alloc (.cells #[.int .i64 0, .int .u32 0] 41)) w' → RM (w'.alloc (.cells #[.int .i64 0, .int .u32 0] 41)) k s ∧ Chg k.all (w.alloc (.cells #[.int .i64 0, .int .u32 0] 41)) (w'.alloc (.cells #[.int .i64 0, .int .u32 0] 41)) ∧ w.heap.size ∉ k.all ∧ w'.heap.size ∉ k.all ∧ w.heap.size < w'.heap.size := by
  intro w' hb
  have h1 : RM w' k s := (h.alloc _).below hb (Nat.le_refl _)
  obtain ⟨-, -, -, q3⟩ := own2 hb
  refine ⟨h1.alloc _, Chg.of_below _ (hb.alloc hb.size _), fun hm => ?_, fun hm => ?_, q3⟩
  ·have := h.lt _ (List.mem_cons_of_mem _ hm); omega
  ·have := h1.lt _ (List.mem_cons_of_mem _ hm); omega
 have HK : Hid _ := key
 clear key h hN
 have hcase : (n == 1) = true ∨ ((n == 1) = false ∧ (n == 2) = true) ∨ ((n == 1) = false ∧ (n == 2) = false ∧ (n == 4) = true) := by
  rcases hn with rfl | rfl | rfl
  ·exact .inl rfl
  ·exact .inr (.inl ⟨rfl, rfl⟩)
  ·exact .inr (.inr ⟨rfl, rfl, rfl⟩)
 clear hn
 have hcase' : (n != 1) = false ∨ ((n != 1) = true ∧ (n != 2) = false) ∨ ((n != 1) = true ∧ (n != 2) = true ∧ (n != 4) = false) := by
  rcases hcase with h | h | h
  ·exact .inl (by simp [bne, h])
  ·exact .inr (.inl ⟨by simp [bne, h.1], by simp [bne, h.2]⟩)
  ·exact .inr (.inr ⟨by simp [bne, h.1], by simp [bne, h.2.1], by simp [bne, h.2.2]⟩)
 clear hcase
 rcases hcase' with g1 | ⟨g1, g2⟩ | ⟨g1, g2, g4⟩
 all_goals
  go_enter Try.func145, Try.ntmps145
  go_wp2_with (go_at_call 179; refine (use_ok k a n 2 6 s _ ha (.inr (.inl rfl)) hs (HP.out.alloc _) HB.out).mono ?_; rintro e w' ⟨rfl, hBl⟩; obtain ⟨q0, q1, q2, q3⟩ := own2 hBl; have HKK := HK.out w' hBl; have HKH : Hid _ := HKK; have HBl : Hid _ := hBl; clear hBl HKK)
  go_loopw [3, 10] (fun vv i wr => ∃ j p : Nat, i = .int .i64 j ∧ vv = .int .u32 p ∧ (j ≤ N ∧ p = v / 256 ^ j) ∧ StR k s a v w (w'.alloc (.cells #[.int .i64 0, .int .u32 0] 41)) j wr) (fun _ i _ => N - (intOf i).toNat)
  case atStart => exact ⟨0, v, rfl, rfl, ⟨by omega, by simp⟩, ⟨by rw [pokeS_zero]; exact HKH.out.1, Chg.refl _ _⟩⟩
  case round =>
   obtain ⟨j, p, rfl, rfl, ⟨hj, hp⟩, hR, hC⟩ := hrel
   have HR : Hid (RM wr k (pokeS s a j (zv v))) := hR
   have HC : Hid (Chg k.all (w'.alloc (.cells #[.int .i64 0, .int .u32 0] 41)) wr) := hC
   have hNn := HN.out
   clear hC
   by_cases hlt : j < N
   ·have hlt' : (j : Int) < n := by omega
    have hai : a + j < 65536 := by have := HL.out; omega
    have hd0 := hR.c0
    have hcb := hR.by_ (a + j) hai
    have hfb := hR.fb (a + j)
    have hj0 : (0 : Int) ≤ j := by omega
    obtain ⟨x, hx⟩ : ∃ x, a + j = x := ⟨_, rfl⟩
    obtain ⟨q, hq⟩ : ∃ q, x / 256 = q := ⟨_, rfl⟩
    have hsum : (a : Int) + j = x := by omega
    have hdiv : (x : Int) / 256 = q := by omega
    have hx0 : (0 : Int) ≤ x := by omega
    have hx1 : (x : Int) < 65536 := by omega
    have hq1 : q < 256 := by omega
    have hp0 : (0 : Int) ≤ p := by omega
    have hp1 : (p : Int) < 4294967296 := by
     have h1 := HV.out
     have h2 : v / 256 ^ j ≤ v := Nat.div_le_self _ _
     omega
    have HZ : Hid (zv v j = (p : Int) % 256) := show _ = _ by rw [zv_next, ← hp]
    have HPP : Hid (p / 256 = v / 256 ^ (j + 1)) := show _ = _ by rw [hp, Nat.pow_succ, ← Nat.div_div_eq_div_mul]
    have hz0 : (0 : Int) ≤ (p : Int) % 256 := by omega
    have hz1 : (p : Int) % 256 < 256 := by omega
    rw [hx] at hcb hfb
    have HX : Hid (a + j = x ∧ x / 256 = q) := ⟨hx, hq⟩
    clear hR hai hx hq hj hp hNn
    go_wp2_with (go_at_call 111; refine (rchange_any k q _ _ hq1 (HR.out.setByte x (by omega) ((p : Int) % 256))).mono ?_; rintro e w2 ⟨rfl, hP', hC'⟩)
    have HQ' : Hid (RM w2 k (tellS { pokeS s a j (zv v) with B := upd (pokeS s a j (zv v)).B x ((p : Int) % 256) } q)) := hP'
    have HC' : Hid (Chg k.all (wr.setCell ⟨k.b, x, none⟩ (.int .u8 ((p : Int) % 256))) w2) := hC'
    clear hP' hC'
    go_roundw
    case rel => exact ⟨j + 1, p / 256, by go_num, by go_num, ⟨by omega, HPP.out⟩, ⟨by
     have := HQ'.out
     rw [← HX.out.2, ← HX.out.1, ← HZ.out, pokeS_next] at this
     exact this, (HC.out.setIn (by simp [RB.all])).trans HC'.out⟩⟩
    case measure => simp [intOf]; omega
   ·have hjn : j = N := by omega
    subst hjn
    have hlt' : ¬ (j : Int) < n := by omega
    have hCw := HKH.out.2.1.trans HC.out
    obtain ⟨e0, e1, ef, -⟩ := Chg.own2 hCw HKH.out.2.2.1
    obtain ⟨e2, e3, eg, e5⟩ := Chg.own2 HC.out HKH.out.2.2.2.1
    have HCW : Hid _ := hCw
    clear hR hj hp hNn hCw
    go_wp2
    refine bodyPost_ret (v := goV) (by simp [results, Try.results145, go_sem, e0, e1]) rfl ⟨rfl, ?_, HCW.out.res _ _⟩
    refine HR.out.of_blocks fun x hx => ?_
    have hne : x ≠ w.heap.size := by have := HP.out.lt x hx; omega
    rw [Below.heap_setCell _ _ _ _ hne, Below.heap_setCell _ _ _ _ hne]
theorem rstore_ok (k : RB) (a v n : Nat) (s : MS) (w : World) (hn : n = 1 ∨ n = 2 ∨ n = 4) (ha : a < 4294967296) (hv : v < 4294967296) (hs : s.Ok) (h : RM w k s) (hb : badN s 2 a n = none) :
  Calls Try.prog 145 #[.pointer (some ⟨k.y, 0, none⟩), .int .u32 a, .int .i64 n, .int .u32 v] w fun e w' => e = .returned goV ∧ RM w' k (pokeS s a n (zv v)) ∧ Chg k.all w w' :=
 rstore_N k a v n n s w rfl (by omega) ha hv hs h hb
def ldv (B : Nat → Int) (a : Nat) : Nat → Int
 | 0 => 0
 | n + 1 => ldv B a n + B (a + n) * 256 ^ n
theorem ldv_bd (B : Nat → Int) (a : Nat) (hB : ∀ i, 0 ≤ B i ∧ B i ≤ 255) : ∀ n, 0 ≤ ldv B a n ∧ ldv B a n < 256 ^ n
 | 0 => by simp [ldv]
 | n + 1 => by
  have h := ldv_bd B a hB n
  have hb := hB (a + n)
  have hp : (0 : Int) < 256 ^ n := Int.pow_pos (by decide)
  simp only [ldv, Int.pow_succ]
  generalize (256 : Int) ^ n = p at *
  generalize B (a + n) = b at *
  have h1 : 0 ≤ b * p := Int.mul_nonneg hb.1 (by omega)
  have h2 : b * p ≤ 255 * p := Int.mul_le_mul_of_nonneg_right hb.2 (by omega)
  omega
theorem rload_bad (k : RB) (a x : Nat) (n : Int) (s : MS) (w : World) (ha : a < 4294967296) (hs : s.Ok) (h : RM w k s) (hb : badN s 1 a n.toNat = some x) :
  Calls Try.prog 143 #[.pointer (some ⟨k.y, 0, none⟩), .int .u32 a, .int .i64 n] w fun e w' => e = .returned (.tuple #[.int .u32 0, stV 5 x]) ∧ Below w.heap.size w w' := by
 have HP : Hid (RM w k s) := h
 have HB : Hid (badN s 1 a n.toNat = some x) := hb
 clear h hb
 go_enter Try.func143, Try.ntmps143
 go_wp2_with (go_at_call 179; refine (use_bad k a x n 1 5 s _ ha (.inl rfl) hs (HP.out.alloc _) HB.out).mono ?_; rintro e w' ⟨rfl, hBl⟩; obtain ⟨q0, q1, q2, q3⟩ := own2 hBl; have HBl : Hid _ := hBl; clear hBl)
 go_region
 all_goals
  go_wp2
  exact bodyPost_ret (v := .tuple #[.int .u32 0, stV 5 x]) (by simp [results, Try.results143, go_sem, q0, q1, q3]) rfl ⟨rfl, below_res2 HBl.out _ _ _⟩
theorem rload_none (k : RB) (a : Nat) (n : Int) (s : MS) (w : World) (hn : ¬ (n = 1 ∨ n = 2 ∨ n = 4)) (ha : a < 4294967296) (hs : s.Ok) (h : RM w k s) (hb : badN s 1 a n.toNat = none) :
  Calls Try.prog 143 #[.pointer (some ⟨k.y, 0, none⟩), .int .u32 a, .int .i64 n] w fun e w' => e = .returned (.tuple #[.int .u32 0, goV]) ∧ Below w.heap.size w w' := by
 have HP : Hid (RM w k s) := h
 have HB : Hid (badN s 1 a n.toNat = none) := hb
 have h1 : (n == 1) = false := by simp; omega
 have h2 : (n == 2) = false := by simp; omega
 have h4 : (n == 4) = false := by simp; omega
 have g1 : (n != 1) = true := by simp [bne, h1]
 have g2 : (n != 2) = true := by simp [bne, h2]
 have g4 : (n != 4) = true := by simp [bne, h4]
 clear h hb hn
 go_enter Try.func143, Try.ntmps143
 go_wp2_with (go_at_call 179; refine (use_ok k a n 1 5 s _ ha (.inl rfl) hs (HP.out.alloc _) HB.out).mono ?_; rintro e w' ⟨rfl, hBl⟩; obtain ⟨q0, q1, q2, q3⟩ := own2 hBl; have HBl : Hid _ := hBl; clear hBl)
 go_region
 all_goals
  go_wp2
  exact bodyPost_ret (v := .tuple #[.int .u32 0, goV]) (by simp [results, Try.results143, go_sem, q0, q1, q3]) rfl ⟨rfl, below_res2 HBl.out _ _ _⟩
theorem ldv_cons (B : Nat → Int) (a : Nat) : ∀ n, ldv B a (n + 1) = ldv B (a + 1) n * 256 + B a
 | 0 => by simp [ldv]
 | n + 1 => by
  have ih := ldv_cons B a n
  rw [ldv, ih, ldv, Nat.add_right_comm a 1 n, ← Nat.add_assoc a n 1, Int.pow_succ]
  rw [Int.add_mul, Int.mul_assoc]
  omega
structure LdR (s : MS) (a N j : Nat) (x : Int) : Prop where
 le : j ≤ N
 eq : x = ldv s.B (a + j) (N - j)
theorem rload_N (k : RB) (a N : Nat) (n : Int) (s : MS) (w : World) (hN : n = (N : Int)) (hn : n = 1 ∨ n = 2 ∨ n = 4) (ha : a < 4294967296) (hs : s.Ok) (h : RM w k s) (hb : badN s 1 a n.toNat = none) :
  Calls Try.prog 143 #[.pointer (some ⟨k.y, 0, none⟩), .int .u32 a, .int .i64 n] w fun e w' => e = .returned (.tuple #[.int .u32 (ldv s.B a N), goV]) ∧ Below w.heap.size w w' := by
 have HN : Hid (n = (N : Int)) := hN
 have HN4 : Hid (N ≤ 4 ∧ 0 < N) := show _ ∧ _ by omega
 have hl := badN_lt hb (show 0 < n.toNat by omega)
 have HL : Hid (a + N ≤ 65536) := show a + N ≤ 65536 by omega
 have ha0 : (0 : Int) ≤ a := by omega
 have ha1 : (a : Int) < 65536 := by omega
 have HP : Hid (RM w k s) := h
 have HB : Hid (badN s 1 a n.toNat = none) := hb
 have hn4 : n ≤ 4 := by omega
 have hn0 : 0 ≤ n := by omega
 have key : ∀ w', Below (w.alloc (.cells #[.int .i64 0, .int .u32 0] 41)).heap.size (w.alloc (.cells #[.int .i64 0, .int .u32 0] 41)) w' → RM w' k s := fun w' hb => (h.alloc _).below hb (Nat.le_refl _)
 have HK : Hid _ := key
 clear h hb key hl
 have hcase : (n == 1) = true ∨ ((n == 1) = false ∧ (n == 2) = true) ∨ ((n == 1) = false ∧ (n == 2) = false ∧ (n == 4) = true) := by
  rcases hn with rfl | rfl | rfl
  ·exact .inl rfl
  ·exact .inr (.inl ⟨rfl, rfl⟩)
  ·exact .inr (.inr ⟨rfl, rfl, rfl⟩)
 clear hn hN
 have hcase' : (n != 1) = false ∨ ((n != 1) = true ∧ (n != 2) = false) ∨ ((n != 1) = true ∧ (n != 2) = true ∧ (n != 4) = false) := by
  rcases hcase with h | h | h
  ·exact .inl (by simp [bne, h])
  ·exact .inr (.inl ⟨by simp [bne, h.1], by simp [bne, h.2]⟩)
  ·exact .inr (.inr ⟨by simp [bne, h.1], by simp [bne, h.2.1], by simp [bne, h.2.2]⟩)
 clear hcase
 rcases hcase' with g1 | ⟨g1, g2⟩ | ⟨g1, g2, g4⟩
 all_goals
  go_enter Try.func143, Try.ntmps143
  go_wp2_with (go_at_call 179; refine (use_ok k a n 1 5 s _ ha (.inl rfl) hs (HP.out.alloc _) HB.out).mono ?_; rintro e w' ⟨rfl, hBl⟩; obtain ⟨q0, q1, q2, q3⟩ := own2 hBl; have hR := HK.out w' hBl; have hlty := hR.lty; have hltb := hR.ltb; have d0 := hR.c0; have HR : Hid (RM w' k s) := hR; have HBl : Hid _ := hBl; clear hBl hR)
  go_loop [9, 10] (fun vv i => ∃ (j : Nat) (x : Int), i = .int .i64 ((j : Int) - 1) ∧ vv = .int .u32 x ∧ LdR s a N j x) (fun _ i => (intOf i + 1).toNat)
  case atStart => exact ⟨N, 0, by rw [← HN.out], rfl, Nat.le_refl _, by simp [ldv]⟩
  case round =>
   obtain ⟨j, x, rfl, rfl, hjN, hx⟩ := hrel
   have hbd := ldv_bd s.B (a + j) hs.by_ (N - j)
   have h44 := HN4.out
   cases j with
   | zero =>
    have hz : ((0 : Nat) : Int) - 1 = -1 := rfl
    rw [hz]
    have HX : Hid (x = ldv s.B a N) := show _ = _ by simpa using hx
    clear hbd hx hjN h44 hz
    go_wp2
    go_region
    all_goals
     go_wp2
     refine bodyPost_ret (v := .tuple #[.int .u32 x, goV]) (by simp [results, Try.results143, go_sem, q0, q1, q3]) rfl ⟨by rw [HX.out], below_res2 HBl.out _ _ _⟩
   | succ t =>
    have e : ((t + 1 : Nat) : Int) - 1 = (t : Int) := by omega
    rw [e]
    have hat : a + t < 65536 := by have := HL.out; omega
    have hcb := HR.out.by_ (a + t) hat
    obtain ⟨b, hbb⟩ : ∃ b, s.B (a + t) = b := ⟨_, rfl⟩
    have hB := hs.by_ (a + t)
    rw [hbb] at hcb hB
    obtain ⟨hB0, hB1⟩ := hB
    rw [← hx] at hbd
    obtain ⟨hx0, hx1⟩ := hbd
    have hx2 : x < 16777216 := by
     have hc : N - (t + 1) = 0 ∨ N - (t + 1) = 1 ∨ N - (t + 1) = 2 ∨ N - (t + 1) = 3 := by omega
     rcases hc with h | h | h | h <;> rw [h] at hx1 <;> simp at hx1 <;> omega
    have HX : Hid (x * 256 + b = ldv s.B (a + t) (N - t)) := show _ = _ by
     rw [show N - t = (N - (t + 1)) + 1 by omega, ldv_cons, hbb, hx, Nat.add_assoc]
    have HT : Hid (t ≤ N) := show t ≤ N by omega
    have ht0 : (0 : Int) ≤ t := by omega
    have ht4 : (t : Int) ≤ 4 := by omega
    have hti : (a : Int) + t < 65536 := by omega
    clear hx hjN h44 e hx1 hbb hat
    go_wp2
    go_round
    case rel => exact ⟨t, x * 256 + b, by go_num, by go_num, HT.out, HX.out⟩
    case measure => simp [intOf]
theorem rload_ok (k : RB) (a n : Nat) (s : MS) (w : World) (hn : n = 1 ∨ n = 2 ∨ n = 4) (ha : a < 4294967296) (hs : s.Ok) (h : RM w k s) (hb : badN s 1 a n = none) :
  Calls Try.prog 143 #[.pointer (some ⟨k.y, 0, none⟩), .int .u32 a, .int .i64 n] w fun e w' => e = .returned (.tuple #[.int .u32 (ldv s.B a n), goV]) ∧ Below w.heap.size w w' :=
 rload_N k a n n s w rfl (by omega) ha hs h hb
def OL (w : World) (base : Nat) (v : Value) (l : List Int) : Prop := w.ownsRow base 3 1 v l.length (l.map (Value.int .i64))
theorem OL.slice {w : World} {base : Nat} {v : Value} {l : List Int} (h : OL w base v l) : ∃ p c, v = .slice p l.length c ∧ (0 < l.length → ∃ g, p = some ⟨g, 0, none⟩ ∧ base ≤ g ∧ ∀ i y, l[i]? = some y → w.cell? ⟨g, i, none⟩ = some (.int .i64 y)) := by
 rcases h.2 with ⟨rfl, h0⟩ | ⟨g, c, cur, rfl, hb, hh, h1, h2, h3, h4⟩
 ·exact ⟨none, 0, by rw [h0], fun h => by omega⟩
 ·refine ⟨_, c, rfl, fun _ => ⟨g, rfl, hb, fun i y hy => ?_⟩⟩
  have hi : i < l.length := (List.getElem?_eq_some_iff.1 hy).1
  rw [cell_of_row _ _ i _ _ _ hh]
  have h5 : (cur.toList.take (l.length * 1))[i]? = some (.int .i64 y) := by rw [h4]; simp [hy]
  rw [List.getElem?_take, if_pos (by omega)] at h5
  simpa using h5
theorem info3 : (Try.prog.info? 3).map (fun i => (i.zero, i.size, i.bytes)) = some (some (.int .i64 0), 1, 8) := by kernel_rfl
theorem OL.below {w w' : World} {base : Nat} {v : Value} {l : List Int} (h : OL w base v l) (hb : ∀ g, base ≤ g → g < w.heap.size → w'.heap[g]? = w.heap[g]?) : OL w' base v l := by
 refine ⟨h.1, ?_⟩
 rcases h.2 with h | ⟨g, c, cur, rfl, hg, hh, r⟩
 ·exact .inl h
 ·exact .inr ⟨g, c, cur, rfl, hg, (hb g hg (Array.getElem?_eq_some_iff.1 hh).1).trans hh, r⟩
theorem OL.alloc {w : World} {base : Nat} {v : Value} {l : List Int} (h : OL w base v l) (o : Obj) : OL (w.alloc o) base v l :=
 h.below fun g _ hg => Below.heap_alloc w o g hg
theorem RM.congr {w : World} {k : RB} {s s' : MS} (h : RM w k s) (hB : ∀ i, i < 65536 → s'.B i = s.B i) (hR : ∀ i, i < 256 → s'.R i = s.R i) (hM : ∀ i, i < 256 → s'.M i = s.M i) (hT : ∀ i, i < 256 → s'.T i = s.T i) : RM w k s' :=
 { h with by_ := fun i hi => by rw [hB i hi]; exact h.by_ i hi, ri := fun i hi => by rw [hR i hi]; exact h.ri i hi, wa := fun i hi => by rw [hM i hi]; exact h.wa i hi, to := fun i hi => by rw [hT i hi]; exact h.to i hi }
end Go.Proofs.Ytkgbjpdoigdjnab.Va
