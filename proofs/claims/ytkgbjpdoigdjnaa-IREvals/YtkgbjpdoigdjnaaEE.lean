import Derived.Test.YtkgbjpdoigdjnaaED
namespace Go.Proofs.Ytkgbjpdoigdjnaa
open Go.RowKit
set_option maxRecDepth 100000
set_option linter.unusedVariables false
set_option linter.unusedSimpArgs false

set_option maxHeartbeats 1000000 in
set_option maxHeartbeats 1000000 in
set_option maxHeartbeats 1000000 in
set_option maxHeartbeats 1000000 in
theorem rst0 (k : RB) (a v : Nat) (s : MS) (w : World) (o : Option Nat) (ha : a < 4294967296) (hv : v < 4294967296) (hs : s.Ok) (h : RM w k s) (ho : sto s a 1 = o) :
    Calls Try.prog 144 #[.pointer (some ⟨k.y, 0, none⟩), .int .i64 0, .int .u32 a, .int .u32 v] w fun e w' => e = .returned (.agg #[.int .i64 (stK 6 o), .int .u32 (stA o)]) ∧ RM w' k (storeT s a 1 v) ∧ Chg k.all w w' := by
  have HC : Hid (∀ W, Below w.heap.size w W → Calls Try.prog 76 #[.pointer (some ⟨k.y, 0, none⟩), .int .u32 a, .int .i64 1, .int .u32 v] W fun e w' => e = .returned (.agg #[.int .i64 (stK 6 o), .int .u32 (stA o)]) ∧ RM w' k (storeT s a 1 v) ∧ Chg k.all W w') := show ∀ W, _ from fun W hW => by
    have := rstore_tot k a v 1 s W ha hv hs (h.below hW (Nat.le_refl _))
    rw [ho] at this
    exact this
  have HX : Hid (∀ x ∈ k.y :: k.all, x < w.heap.size) := h.lt
  clear ho h hs
  generalize stK 6 o = kk at *
  generalize stA o = aa at *
  go_enter Try.func144, Try.ntmps144
  go_wp2_with (first
    | (go_at_call 76; refine (HC.out _ ?_).mono ?_; (focus ((repeat first | with_reducible exact Below.refl _ _ | with_reducible exact hB | with_reducible refine Below.drew ?_ | with_reducible refine Below.alloc ?_ (by first | (simp; done) | (simp; omega) | omega) _ | with_reducible refine Below.setCell ?_ (by first | (simp; done) | (simp; omega) | omega) _))); rintro e w1 ⟨rfl, hp, hc⟩; have HPM : Hid _ := hp; have hXl := HX.out; have HB8 : Hid (w1.heap[w.heap.size]? = some (.cells #[.int .i64 0, .int .u32 0] 66)) := (hc.block _ (by simp; omega) (fun hm => Nat.lt_irrefl _ (hXl _ (List.mem_cons_of_mem _ hm)))).trans ((bal_old _ _ _ (by simp)).trans (heap_alloc_last w _)); have HCH : Hid _ := hc; have q0 : w1.cell? ⟨w.heap.size, 0, none⟩ = some (.int .i64 0) := rcell HB8.out 0; have q1 : w1.cell? ⟨w.heap.size, 1, none⟩ = some (.int .u32 0) := rcell HB8.out 1; have fr := rfr HB8.out; have l8 := rlt HB8.out; clear hp hc))
  exact bodyPost_ret (v := .agg #[.int .i64 kk, .int .u32 aa]) (by simp [results, Try.results144, go_sem, q0, q1, fr, l8]) rfl ⟨rfl, HPM.out.of_blocks fun x hx => (Below.heap_setCell _ _ _ x (Nat.ne_of_lt (HX.out x hx))).trans (Below.heap_setCell _ _ _ x (Nat.ne_of_lt (HX.out x hx))), Chg.new (Chg.trans (Chg.of_below k.all (((Below.refl w.heap.size w).alloc (Nat.le_refl _) _).alloc (by simp) _)) HCH.out) (Nat.le_refl _) (((Only.refl _ w1).setCell 0 _).setCell 1 _)⟩
set_option maxHeartbeats 1000000 in
theorem rst1 (k : RB) (a v : Nat) (s : MS) (w : World) (o : Option Nat) (ha : a < 4294967296) (hv : v < 4294967296) (hs : s.Ok) (h : RM w k s) (ho : sto s a 2 = o) :
    Calls Try.prog 144 #[.pointer (some ⟨k.y, 0, none⟩), .int .i64 1, .int .u32 a, .int .u32 v] w fun e w' => e = .returned (.agg #[.int .i64 (stK 6 o), .int .u32 (stA o)]) ∧ RM w' k (storeT s a 2 v) ∧ Chg k.all w w' := by
  have HC : Hid (∀ W, Below w.heap.size w W → Calls Try.prog 76 #[.pointer (some ⟨k.y, 0, none⟩), .int .u32 a, .int .i64 2, .int .u32 v] W fun e w' => e = .returned (.agg #[.int .i64 (stK 6 o), .int .u32 (stA o)]) ∧ RM w' k (storeT s a 2 v) ∧ Chg k.all W w') := show ∀ W, _ from fun W hW => by
    have := rstore_tot k a v 2 s W ha hv hs (h.below hW (Nat.le_refl _))
    rw [ho] at this
    exact this
  have HX : Hid (∀ x ∈ k.y :: k.all, x < w.heap.size) := h.lt
  clear ho h hs
  generalize stK 6 o = kk at *
  generalize stA o = aa at *
  go_enter Try.func144, Try.ntmps144
  go_wp2_with (first
    | (go_at_call 76; refine (HC.out _ ?_).mono ?_; (focus ((repeat first | with_reducible exact Below.refl _ _ | with_reducible exact hB | with_reducible refine Below.drew ?_ | with_reducible refine Below.alloc ?_ (by first | (simp; done) | (simp; omega) | omega) _ | with_reducible refine Below.setCell ?_ (by first | (simp; done) | (simp; omega) | omega) _))); rintro e w1 ⟨rfl, hp, hc⟩; have HPM : Hid _ := hp; have hXl := HX.out; have HB8 : Hid (w1.heap[w.heap.size]? = some (.cells #[.int .i64 0, .int .u32 0] 66)) := (hc.block _ (by simp; omega) (fun hm => Nat.lt_irrefl _ (hXl _ (List.mem_cons_of_mem _ hm)))).trans ((bal_old _ _ _ (by simp)).trans (heap_alloc_last w _)); have HCH : Hid _ := hc; have q0 : w1.cell? ⟨w.heap.size, 0, none⟩ = some (.int .i64 0) := rcell HB8.out 0; have q1 : w1.cell? ⟨w.heap.size, 1, none⟩ = some (.int .u32 0) := rcell HB8.out 1; have fr := rfr HB8.out; have l8 := rlt HB8.out; clear hp hc))
  exact bodyPost_ret (v := .agg #[.int .i64 kk, .int .u32 aa]) (by simp [results, Try.results144, go_sem, q0, q1, fr, l8]) rfl ⟨rfl, HPM.out.of_blocks fun x hx => (Below.heap_setCell _ _ _ x (Nat.ne_of_lt (HX.out x hx))).trans (Below.heap_setCell _ _ _ x (Nat.ne_of_lt (HX.out x hx))), Chg.new (Chg.trans (Chg.of_below k.all (((Below.refl w.heap.size w).alloc (Nat.le_refl _) _).alloc (by simp) _)) HCH.out) (Nat.le_refl _) (((Only.refl _ w1).setCell 0 _).setCell 1 _)⟩
set_option maxHeartbeats 1000000 in
theorem rst2 (k : RB) (a v : Nat) (s : MS) (w : World) (o : Option Nat) (ha : a < 4294967296) (hv : v < 4294967296) (hs : s.Ok) (h : RM w k s) (ho : sto s a 4 = o) :
    Calls Try.prog 144 #[.pointer (some ⟨k.y, 0, none⟩), .int .i64 2, .int .u32 a, .int .u32 v] w fun e w' => e = .returned (.agg #[.int .i64 (stK 6 o), .int .u32 (stA o)]) ∧ RM w' k (storeT s a 4 v) ∧ Chg k.all w w' := by
  have HC : Hid (∀ W, Below w.heap.size w W → Calls Try.prog 76 #[.pointer (some ⟨k.y, 0, none⟩), .int .u32 a, .int .i64 4, .int .u32 v] W fun e w' => e = .returned (.agg #[.int .i64 (stK 6 o), .int .u32 (stA o)]) ∧ RM w' k (storeT s a 4 v) ∧ Chg k.all W w') := show ∀ W, _ from fun W hW => by
    have := rstore_tot k a v 4 s W ha hv hs (h.below hW (Nat.le_refl _))
    rw [ho] at this
    exact this
  have HX : Hid (∀ x ∈ k.y :: k.all, x < w.heap.size) := h.lt
  clear ho h hs
  generalize stK 6 o = kk at *
  generalize stA o = aa at *
  go_enter Try.func144, Try.ntmps144
  go_wp2_with (first
    | (go_at_call 76; refine (HC.out _ ?_).mono ?_; (focus ((repeat first | with_reducible exact Below.refl _ _ | with_reducible exact hB | with_reducible refine Below.drew ?_ | with_reducible refine Below.alloc ?_ (by first | (simp; done) | (simp; omega) | omega) _ | with_reducible refine Below.setCell ?_ (by first | (simp; done) | (simp; omega) | omega) _))); rintro e w1 ⟨rfl, hp, hc⟩; have HPM : Hid _ := hp; have hXl := HX.out; have HB8 : Hid (w1.heap[w.heap.size]? = some (.cells #[.int .i64 0, .int .u32 0] 66)) := (hc.block _ (by simp; omega) (fun hm => Nat.lt_irrefl _ (hXl _ (List.mem_cons_of_mem _ hm)))).trans ((bal_old _ _ _ (by simp)).trans (heap_alloc_last w _)); have HCH : Hid _ := hc; have q0 : w1.cell? ⟨w.heap.size, 0, none⟩ = some (.int .i64 0) := rcell HB8.out 0; have q1 : w1.cell? ⟨w.heap.size, 1, none⟩ = some (.int .u32 0) := rcell HB8.out 1; have fr := rfr HB8.out; have l8 := rlt HB8.out; clear hp hc))
  exact bodyPost_ret (v := .agg #[.int .i64 kk, .int .u32 aa]) (by simp [results, Try.results144, go_sem, q0, q1, fr, l8]) rfl ⟨rfl, HPM.out.of_blocks fun x hx => (Below.heap_setCell _ _ _ x (Nat.ne_of_lt (HX.out x hx))).trans (Below.heap_setCell _ _ _ x (Nat.ne_of_lt (HX.out x hx))), Chg.new (Chg.trans (Chg.of_below k.all (((Below.refl w.heap.size w).alloc (Nat.le_refl _) _).alloc (by simp) _)) HCH.out) (Nat.le_refl _) (((Only.refl _ w1).setCell 0 _).setCell 1 _)⟩
theorem pst0 (X : Nat) (a v : Nat) (s : MS) (w : World) (o : Option Nat) (ha : a < 4294967296) (hv : v < 4294967296) (hs : s.Ok) (h : PM w X s) (ho : sto s a 1 = o) :
    Calls Try.prog 165 #[.pointer (some ⟨X, 0, none⟩), .int .i64 0, .int .u32 a, .int .u32 v] w fun e w' => e = .returned (.agg #[.int .i64 (stK 6 o), .int .u32 (stA o)]) ∧ PM w' X (storeT s a 1 v) ∧ Chg [X] w w' :=
  acs0 X a v s w o ha hv hs h ho
theorem pst1 (X : Nat) (a v : Nat) (s : MS) (w : World) (o : Option Nat) (ha : a < 4294967296) (hv : v < 4294967296) (hs : s.Ok) (h : PM w X s) (ho : sto s a 2 = o) :
    Calls Try.prog 165 #[.pointer (some ⟨X, 0, none⟩), .int .i64 1, .int .u32 a, .int .u32 v] w fun e w' => e = .returned (.agg #[.int .i64 (stK 6 o), .int .u32 (stA o)]) ∧ PM w' X (storeT s a 2 v) ∧ Chg [X] w w' :=
  acs1 X a v s w o ha hv hs h ho
theorem pst2 (X : Nat) (a v : Nat) (s : MS) (w : World) (o : Option Nat) (ha : a < 4294967296) (hv : v < 4294967296) (hs : s.Ok) (h : PM w X s) (ho : sto s a 4 = o) :
    Calls Try.prog 165 #[.pointer (some ⟨X, 0, none⟩), .int .i64 2, .int .u32 a, .int .u32 v] w fun e w' => e = .returned (.agg #[.int .i64 (stK 6 o), .int .u32 (stA o)]) ∧ PM w' X (storeT s a 4 v) ∧ Chg [X] w w' :=
  acs2 X a v s w o ha hv hs h ho
end Go.Proofs.Ytkgbjpdoigdjnaa
