import Derived.Test.YtgkkghphlbgcoaaProg
import Derived.WalkKit
import Derived.WalkSpells
import Derived.WalkLawsBesides
import Derived.Deep.QuietTactic
import Derived.BigQuiet
import Derived.BigRegion
import Derived.KernelRfl
import Derived.Below
import Derived.LoopN
import Derived.OwnWalk
import Derived.Deep.LoopGhost
import Derived.Deep.CutBlock
import Derived.Deep.CutRange
import Derived.Deep.RegionHeld3
import Derived.Sort.Defs
import Derived.Sort.AssemblyPlain
namespace Go.Proofs.Ytgkkghphlbgcoaa.So
open Go.RowKit
set_option maxRecDepth 100000
set_option linter.unusedVariables false
set_option linter.unusedSimpArgs false
theorem row_cell {w : World} {X : Nat} {A : Array Value} {T : TypeId} (h : w.heap[X]? = some (.cells A T)) (o : Nat) : w.cell? ⟨X, o, none⟩ = A[o]? := cell_of_row _ _ o _ _ (0, 0) h
theorem row_fr {w : World} {X : Nat} {A : Array Value} {T : TypeId} (h : w.heap[X]? = some (.cells A T)) (o : Nat) : w.frozen? ⟨X, o, none⟩ = false := frozen_of_row _ _ o _ _ h
theorem row_lt {w : World} {X : Nat} {A : Array Value} {T : TypeId} (h : w.heap[X]? = some (.cells A T)) : X < w.heap.size := by
  rcases Nat.lt_or_ge X w.heap.size with g | g
  · exact g
  · rw [Array.getElem?_eq_none g] at h; cases h
theorem blk_set {w : World} {X o : Nat} {A : Array Value} {T : TypeId} (h : w.heap[X]? = some (.cells A T)) (v : Value) : (w.setCell ⟨X, o, none⟩ v).heap[X]? = some (.cells (A.setIfInBounds o v) T) := heap_setCell_same w X o A T v h
theorem blk_other {w : World} {X Y o : Nat} (hne : Y ≠ X) (v : Value) : (w.setCell ⟨X, o, none⟩ v).heap[Y]? = w.heap[Y]? := Below.heap_setCell w ⟨X, o, none⟩ v Y hne

structure Chg (S : List Nat) (w w' : World) : Prop where
  os : w'.os = w.os
  tape : w'.tape = w.tape
  output : w'.output = w.output
  size : w.heap.size ≤ w'.heap.size
  block : ∀ k, k < w.heap.size → k ∉ S → w'.heap[k]? = w.heap[k]?
theorem Chg.refl (S : List Nat) (w : World) : Chg S w w := ⟨rfl, rfl, rfl, Nat.le_refl _, fun _ _ _ => rfl⟩
theorem Chg.trans {S : List Nat} {a b c : World} (h : Chg S a b) (k : Chg S b c) : Chg S a c :=
  ⟨k.os.trans h.os, k.tape.trans h.tape, k.output.trans h.output, Nat.le_trans h.size k.size, fun i hi hs => (k.block i (Nat.lt_of_lt_of_le hi h.size) hs).trans (h.block i hi hs)⟩
theorem Chg.mono {S S' : List Nat} {w w' : World} (h : Chg S w w') (hs : ∀ k ∈ S, k ∈ S') : Chg S' w w' :=
  ⟨h.os, h.tape, h.output, h.size, fun k hk hn => h.block k hk (fun hm => hn (hs k hm))⟩
theorem Chg.of_below {w w' : World} (S : List Nat) (h : Below w.heap.size w w') : Chg S w w' :=
  ⟨h.os, h.tape, h.output, h.size, fun k hk _ => h.block k hk⟩
theorem Chg.below {S : List Nat} {w w' : World} {n : Nat} (h : Chg S w w') (hn : n ≤ w.heap.size) (hS : ∀ k ∈ S, n ≤ k) : Below n w w' :=
  ⟨h.os, h.tape, h.output, h.size, fun k hk => h.block k (by omega) (fun hm => by have := hS k hm; omega)⟩
theorem Chg.set {S : List Nat} {a b : World} (h : Chg S a b) {B : Nat} (hB : B ∈ S) (o : Nat) (v : Value) : Chg S a (b.setCell ⟨B, o, none⟩ v) :=
  h.trans ⟨rfl, rfl, rfl, by simp, fun k _ hs => Below.heap_setCell b ⟨B, o, none⟩ v k (fun e => hs (e ▸ hB))⟩
theorem Chg.drew {S : List Nat} {a b : World} (h : Chg S a b) : Chg S a b.drew := h.trans (Chg.of_below _ (Below.refl _ _).drew)
theorem Chg.alloc {S : List Nat} {a b : World} (h : Chg S a b) (o : Obj) : Chg S a (b.alloc o) := h.trans (Chg.of_below _ ((Below.refl _ _).alloc (Nat.le_refl _) _))
theorem Chg.keep {S : List Nat} {w w' : World} (h : Chg S w w') {k : Nat} {A : Array Value} {T : TypeId} (hb : w.heap[k]? = some (.cells A T)) (hs : k ∉ S) : w'.heap[k]? = some (.cells A T) := (h.block k (row_lt hb) hs).trans hb


theorem wp_gen {P : Program} {c : Code} {Q : Exit → Act → World → Prop} {a : Act} {W : World} (p : World → Prop) (h : p W) (k : ∀ w', p w' → Code.wp P c Q a w') : Code.wp P c Q a W := k W h
def lt (x y : Nat) : Bool := decide (x < y)
/-- A row of words that the sort works on. -/
structure SR (w : World) (B : Nat) (d : Array Nat) : Prop where
  c : ∀ i, i < d.size → w.cell? ⟨B, i, none⟩ = some (.int .u32 ((d[i]! : Nat) : Int))
  fz : ∀ i, w.frozen? ⟨B, i, none⟩ = false
  lt : B < w.heap.size
theorem swp_size (d : Array Nat) (i j : Nat) : (Sort.swp d i j).size = d.size := by simp [Sort.swp]
theorem swp_at (d : Array Nat) (i j k : Nat) (hi : i < d.size) (hj : j < d.size) (hk : k < d.size) : (Sort.swp d i j)[k]! = if k = j then d[i]! else if k = i then d[j]! else d[k]! := by
  unfold Sort.swp
  rw [getElem!_pos _ k (by simpa using hk), Array.getElem_setIfInBounds (by simpa using hk)]
  by_cases h1 : j = k
  · rw [if_pos h1, if_pos h1.symm]
  · rw [if_neg h1, if_neg (fun e => h1 e.symm), Array.getElem_setIfInBounds (by simpa using hk)]
    by_cases h2 : i = k
    · rw [if_pos h2, if_pos h2.symm]
    · rw [if_neg h2, if_neg (fun e => h2 e.symm), getElem!_pos d k hk]
theorem SR.swp {w : World} {B : Nat} {d : Array Nat} (h : SR w B d) (i j : Nat) (hi : i < d.size) (hj : j < d.size) : SR ((w.setCell ⟨B, i, none⟩ (.int .u32 ((d[j]! : Nat) : Int))).setCell ⟨B, j, none⟩ (.int .u32 ((d[i]! : Nat) : Int))) B (Sort.swp d i j) := by
  refine ⟨fun k hk => ?_, fun k => by rw [World.frozen?_setCell, World.frozen?_setCell]; exact h.fz k, by simpa using h.lt⟩
  rw [swp_size] at hk
  rw [swp_at d i j k hi hj hk]
  have e1 : (w.setCell ⟨B, i, none⟩ (.int .u32 ((d[j]! : Nat) : Int))).cell? ⟨B, j, none⟩ ≠ none := by
    by_cases e : j = i
    · subst e; rw [World.cell?_setCell_same _ _ _ (h.c j hj)]; simp
    · rw [World.cell?_setCell_other _ _ _ _ (by intro h; cases h; exact e rfl), h.c j hj]; simp
  obtain ⟨v1, hv1⟩ := Option.ne_none_iff_exists'.1 e1
  by_cases e : k = j
  · subst e; rw [if_pos rfl, World.cell?_setCell_same _ _ _ hv1]
  · rw [if_neg e, World.cell?_setCell_other _ _ _ _ (by intro h; cases h; exact e rfl)]
    by_cases e2 : k = i
    · subst e2; rw [if_pos rfl, World.cell?_setCell_same _ _ _ (h.c k hi)]
    · rw [if_neg e2, World.cell?_setCell_other _ _ _ _ (by intro h; cases h; exact e2 rfl), h.c k hk]
theorem SR.drw {w : World} {B : Nat} {d : Array Nat} (h : SR w B d) : SR w.drew B d := ⟨h.c, h.fz, h.lt⟩
theorem SR.drwN {w : World} {B : Nat} {d : Array Nat} (h : SR w B d) (n : Nat) : SR (w.drewN n) B d := ⟨h.c, h.fz, h.lt⟩
theorem Chg.drwN {S : List Nat} {a b : World} (h : Chg S a b) (n : Nat) : Chg S a (b.drewN n) := h.trans ⟨rfl, rfl, rfl, Nat.le_refl _, fun _ _ _ => rfl⟩
/-- How the sort leaves the world. -/
structure SW (w wr : World) (B : Nat) (d : Array Nat) (n : Nat) : Prop where
  r : SR wr B d
  z : d.size = n
  ch : Chg [B] w wr
theorem SW.swp {w wr : World} {B n : Nat} {d : Array Nat} (h : SW w wr B d n) (i j : Nat) (hi : i < n) (hj : j < n) : SW w ((wr.setCell ⟨B, i, none⟩ (.int .u32 ((d[j]! : Nat) : Int))).setCell ⟨B, j, none⟩ (.int .u32 ((d[i]! : Nat) : Int))) B (Sort.swp d i j) n :=
  ⟨h.r.swp i j (by rw [h.z]; exact hi) (by rw [h.z]; exact hj), by rw [swp_size]; exact h.z, (h.ch.set (List.mem_cons_self ..) _ _).set (List.mem_cons_self ..) _ _⟩
theorem SW.drw {w wr : World} {B n : Nat} {d : Array Nat} (h : SW w wr B d n) : SW w wr.drew B d n := ⟨h.r.drw, h.z, h.ch.drew⟩
theorem SW.drwN {w wr : World} {B n : Nat} {d : Array Nat} (h : SW w wr B d n) (k : Nat) : SW w (wr.drewN k) B d n := ⟨h.r.drwN k, h.z, h.ch.drwN k⟩
theorem SW.at {w wr : World} {B n : Nat} {d : Array Nat} (h : SW w wr B d n) (i : Nat) (hi : i < n) : wr.cell? ⟨B, i, none⟩ = some (.int .u32 ((d[i]! : Nat) : Int)) := h.r.c i (by rw [h.z]; exact hi)
theorem less_any (x y : Nat) (w : World) : Calls Try.prog 81 #[.int .u32 x, .int .u32 y] w fun e w' => e = .returned (.bool (lt x y)) ∧ w = w' := by
  have e1 : ((x : Int) != (x : Int)) = false := by simp
  have e2 : decide ((x : Int) < (y : Int)) = lt x y := by unfold lt; simp
  go_enter Try.func81, Try.ntmps81
  go_wp2_with (go_at_call 93; refine (show Calls Try.prog 93 _ _ fun e w' => e = .returned (.bool false) ∧ _ = w' from by
    go_enter Try.func93, Try.ntmps93
    go_wp2
    go_ret
    exact ⟨rfl, rfl⟩).mono ?_; rintro e w1 ⟨rfl, rfl⟩)
  go_ret
  exact ⟨rfl, rfl⟩
end Go.Proofs.Ytgkkghphlbgcoaa.So
namespace Go.Proofs.Ytgkkghphlbgcoaa.So
open Go.RowKit
set_option maxRecDepth 100000
set_option linter.unusedVariables false
set_option linter.unusedSimpArgs false
theorem insOuter_go (l : Nat → Nat → Bool) (a b i : Nat) (d : Array Nat) (h : i < b) : Sort.insOuter l a b i d = Sort.insOuter l a b (i + 1) (Sort.insInner l a i d) := by
  rw [Sort.insOuter, if_pos h]
theorem insOuter_end (l : Nat → Nat → Bool) (a b i : Nat) (d : Array Nat) (h : ¬ i < b) : Sort.insOuter l a b i d = d := by
  rw [Sort.insOuter, if_neg h]
set_option maxHeartbeats 4000000 in
theorem ins_any (B n cap a b : Nat) (d : Array Nat) (w0 w : World) (hR : SW w0 w B d n) (hb : b ≤ n) (hn : n ≤ 140737488355328) (ha : a ≤ b) :
    Calls Try.prog 75 #[.slice (some ⟨B, 0, none⟩) n cap, .int .i64 a, .int .i64 b] w fun e w' => e = .returned (.tuple #[]) ∧ SW w0 w' B (Sort.insertionSort lt d a b) n := by
  have HR : Hid _ := hR
  have a1 : IntKind.i64.wrap ((a : Int) + 1) = ((a + 1 : Nat) : Int) := by rw [IntWalk.i64_in _ (by omega)]; omega
  clear hR
  go_enter Try.func75, Try.ntmps75
  go_wp2
  go_loopw [6] (fun v wr => ∃ (i : Nat) (d' : Array Nat), v = .int .i64 i ∧ a + 1 ≤ i ∧ i ≤ b + 1 ∧ SW w0 wr B d' n ∧ Sort.insOuter lt a b i d' = Sort.insertionSort lt d a b) (fun v _ => b + 1 - (intOf v).toNat)
  case atStart => exact ⟨a + 1, d, rfl, Nat.le_refl _, by omega, HR.out, rfl⟩
  case round =>
    obtain ⟨i, d1, rfl, hi0, hi1, hS, hE⟩ := hrel
    have HS : Hid _ := hS
    have HE : Hid _ := hE
    clear hS hE
    by_cases hlt : i < b
    · have il : decide ((i : Int) < (b : Int)) = true := decide_eq_true (by omega)
      have i1 : IntKind.i64.wrap ((i : Int) + 1) = ((i + 1 : Nat) : Int) := by rw [IntWalk.i64_in _ (by omega)]; omega
      go_wp2
      go_loopw [7] (fun v wr => ∃ (j : Nat) (d' : Array Nat), v = .int .i64 j ∧ a ≤ j ∧ j ≤ i ∧ SW w0 wr B d' n ∧ Sort.insInner lt a j d' = Sort.insInner lt a i d1) (fun v _ => (intOf v).toNat)
      case atStart => exact ⟨i, d1, rfl, by omega, Nat.le_refl _, HS.out, rfl⟩
      case round =>
        clear HS
        obtain ⟨j, d2, rfl, hj0, hj1, hS, hF⟩ := hrel
        have HS : Hid _ := hS
        have HF : Hid _ := hF
        by_cases hja : a < j
        · obtain ⟨k, hk⟩ : ∃ k, j = k + 1 := ⟨j - 1, by omega⟩
          have HK : Hid _ := hk
          have c1 := hS.at j (by omega)
          have c0 := hS.at k (by omega)
          have f1 := hS.r.fz j
          have f0 := hS.r.fz k
          have lB := hS.r.lt
          have j1 : IntKind.i64.wrap ((j : Int) - 1) = (k : Int) := by rw [IntWalk.i64_in _ (by omega)]; omega
          have ja : decide ((a : Int) < (j : Int)) = true := decide_eq_true (by omega)
          have p0 : (0 : Int) ≤ (j : Int) := by omega
          have p1 : (j : Int) < n := by omega
          have q0 : (0 : Int) ≤ (k : Int) := by omega
          have q1 : (k : Int) < n := by omega
          have nk : ¬ j = k := by omega
          have nj : ¬ k = j := by omega
          have HJ : Hid (j < n ∧ k < n) := ⟨by omega, by omega⟩
          clear hS hF hk
          cases hl : lt d2[j]! d2[k]! with
          | false =>
            go_upto_region 4 with fail
            go_quiet ((refine Calls.mono (less_any _ _ _) ?_; intro e w3 hq; exact ⟨hq.1, _, hq.2.symm⟩))
            go_wp2
            go_roundw
            case rel => exact ⟨i + 1, d2, rfl, by omega, by omega, HS.out.drwN _, by
              have hk := HK.out
              subst hk
              rw [← HE.out, insOuter_go _ _ _ _ _ hlt, ← HF.out]; simp [Sort.insInner, hl]⟩
            case measure => simp [intOf]; omega
          | true =>
            go_upto_region 4 with fail
            go_quiet ((refine Calls.mono (less_any _ _ _) ?_; intro e w3 hq; exact ⟨hq.1, _, hq.2.symm⟩))
            go_upto_region 6 with fail
            go_region
            all_goals go_wp2
            all_goals go_roundw
            case rel =>
              have hk := HK.out
              refine ⟨k, Sort.swp d2 j k, rfl, by omega, by omega, by (focus (repeat first | with_reducible exact HS.out.swp j k HJ.out.1 HJ.out.2 | with_reducible exact (HS.out.drwN _).swp j k HJ.out.1 HJ.out.2 | with_reducible refine SW.drw ?_ | with_reducible refine SW.drwN ?_ _)), ?_⟩
              rw [← HF.out]
              subst hk
              have : a < k + 1 := hja
              simp [Sort.insInner, hl, this]
            case measure => have hk := HK.out; simp [intOf]; omega
        · have ja : decide ((a : Int) < (j : Int)) = false := decide_eq_false (by omega)
          clear hS hF
          go_upto_region 4 with fail
          go_quiet (fail)
          go_wp2
          go_roundw
          case rel => exact ⟨i + 1, d2, rfl, by omega, by omega, HS.out.drwN _, by
            rw [← HE.out, insOuter_go _ _ _ _ _ hlt, ← HF.out]
            cases j with
            | zero => rfl
            | succ k => simp [Sort.insInner, hja]⟩
          case measure => simp [intOf]; omega
    · have il : decide ((i : Int) < (b : Int)) = false := decide_eq_false (by omega)
      go_wp2
      go_end0
      exact ⟨rfl, by rw [← HE.out, insOuter_end _ _ _ _ _ hlt]; exact HS.out⟩
end Go.Proofs.Ytgkkghphlbgcoaa.So
namespace Go.Proofs.Ytgkkghphlbgcoaa.So
open Go.RowKit
set_option maxRecDepth 100000
set_option linter.unusedVariables false
set_option linter.unusedSimpArgs false
theorem wr_add {x y z : Nat} (h : x + y = z) (hz : z ≤ 9223372036854775807) : IntKind.i64.wrap ((x : Int) + (y : Int)) = (z : Int) := by rw [IntWalk.i64_in _ (by omega)]; omega
theorem wr_one {x z : Nat} (h : x + 1 = z) (hz : z ≤ 9223372036854775807) : IntKind.i64.wrap ((x : Int) + 1) = (z : Int) := by rw [IntWalk.i64_in _ (by omega)]; omega
theorem wr_dec {x z : Nat} (h : x = z + 1) (hz : z ≤ 9223372036854775806) : IntKind.i64.wrap ((x : Int) - 1) = (z : Int) := by rw [IntWalk.i64_in _ (by omega)]; omega
theorem wr_sub {x y z : Nat} (h : x = z + y) (hz : x ≤ 9223372036854775806) : IntKind.i64.wrap ((x : Int) - (y : Int)) = (z : Int) := by rw [IntWalk.i64_in _ (by omega)]; omega
theorem wr_two {x z : Nat} (h : 2 * x = z) (hz : z ≤ 9223372036854775807) : IntKind.i64.wrap (2 * (x : Int)) = (z : Int) := by rw [IntWalk.i64_in _ (by omega)]; omega
theorem sift_end {hi first r r1 : Nat} {d : Array Nat} (h1 : 2 * r + 1 = r1) (h : r1 ≥ hi) : Sort.siftDown lt hi first r d = d := by subst h1; rw [Sort.siftDown, dif_pos h]
theorem sift_two {hi first r r1 r2 x0 x1 x2 : Nat} {d : Array Nat} (h1 : 2 * r + 1 = r1) (h2 : r1 + 1 = r2) (e0 : first + r = x0) (e1 : first + r1 = x1) (e2 : first + r2 = x2) (h : r2 < hi) (hl : lt d[x1]! d[x2]! = true) : Sort.siftDown lt hi first r d = if !lt d[x0]! d[x2]! then d else Sort.siftDown lt hi first r2 (Sort.swp d x0 x2) := by
  subst h1 h2 e0 e1 e2
  have e : first + (2 * r + 1) + 1 = first + (2 * r + 1 + 1) := by omega
  conv => lhs; rw [Sort.siftDown]
  rw [dif_neg (by omega), if_pos (by simp [h]; rw [e]; exact hl)]
  by_cases hm : lt d[first + r]! d[first + (2 * r + 1 + 1)]! = true
  · rw [if_neg (by rw [show 2 * r + 2 = 2 * r + 1 + 1 from rfl, hm]; simp), if_neg (by rw [hm]; simp), dif_pos (by omega)]
  · rw [if_pos (by simpa using hm), if_pos (by simpa using hm)]
theorem sift_one {hi first r r1 r2 x0 x1 x2 : Nat} {d : Array Nat} (h1 : 2 * r + 1 = r1) (h2 : r1 + 1 = r2) (e0 : first + r = x0) (e1 : first + r1 = x1) (e2 : first + r2 = x2) (h : r1 < hi) (hl : r2 < hi → lt d[x1]! d[x2]! = false) : Sort.siftDown lt hi first r d = if !lt d[x0]! d[x1]! then d else Sort.siftDown lt hi first r1 (Sort.swp d x0 x1) := by
  subst h1 h2 e0 e1 e2
  have e : first + (2 * r + 1) + 1 = first + (2 * r + 1 + 1) := by omega
  conv => lhs; rw [Sort.siftDown]
  rw [dif_neg (by omega), if_neg (by
    intro hh
    simp only [Bool.and_eq_true, decide_eq_true_eq] at hh
    have := hl hh.1
    rw [e, this] at hh
    exact absurd hh.2 (by simp))]
set_option maxHeartbeats 8000000 in
theorem sift_any (B n cap lo hi first : Nat) (d : Array Nat) (w0 w : World) (hR : SW w0 w B d n) (hb : first + hi ≤ n) (hn : n ≤ 140737488355328) (hlo : lo ≤ n) :
    Calls Try.prog 88 #[.slice (some ⟨B, 0, none⟩) n cap, .int .i64 lo, .int .i64 hi, .int .i64 first] w fun e w' => e = .returned (.tuple #[]) ∧ SW w0 w' B (Sort.siftDown lt hi first lo d) n := by
  have HR : Hid _ := hR
  clear hR
  go_enter Try.func88, Try.ntmps88
  go_wp2
  go_loopw [8] (fun v wr => ∃ (r : Nat) (d' : Array Nat), v = .int .i64 r ∧ r ≤ n ∧ SW w0 wr B d' n ∧ Sort.siftDown lt hi first r d' = Sort.siftDown lt hi first lo d) (fun v _ => n - (intOf v).toNat)
  case atStart => exact ⟨lo, d, rfl, hlo, HR.out, rfl⟩
  case round =>
    obtain ⟨r, d1, rfl, hrn, hS, hE⟩ := hrel
    have HS : Hid _ := hS
    have HE : Hid _ := hE
    obtain ⟨rr, hrr⟩ : ∃ rr, 2 * r = rr := ⟨_, rfl⟩
    obtain ⟨r1, hr1⟩ : ∃ r1, 2 * r + 1 = r1 := ⟨_, rfl⟩
    obtain ⟨r2, hr2⟩ : ∃ r2, r1 + 1 = r2 := ⟨_, rfl⟩
    obtain ⟨x0, hx0⟩ : ∃ x0, first + r = x0 := ⟨_, rfl⟩
    obtain ⟨x1, hx1⟩ : ∃ x1, first + r1 = x1 := ⟨_, rfl⟩
    obtain ⟨x2, hx2⟩ : ∃ x2, first + r2 = x2 := ⟨_, rfl⟩
    have t1 := wr_two hrr (by omega)
    have t2 : IntKind.i64.wrap ((rr : Int) + 1) = (r1 : Int) := wr_one (by omega) (by omega)
    have t3 : IntKind.i64.wrap ((r1 : Int) + 1) = (r2 : Int) := wr_one hr2 (by omega)
    have t4 : IntKind.i64.wrap ((first : Int) + (r : Int)) = (x0 : Int) := wr_add hx0 (by omega)
    have t5 : IntKind.i64.wrap ((first : Int) + (r1 : Int)) = (x1 : Int) := wr_add hx1 (by omega)
    have t6 : IntKind.i64.wrap ((first : Int) + (r2 : Int)) = (x2 : Int) := wr_add hx2 (by omega)
    have t7 : IntKind.i64.wrap ((x1 : Int) + 1) = (x2 : Int) := wr_one (by omega) (by omega)
    by_cases hlt : r1 < hi
    · have g1 : decide ((hi : Int) ≤ (r1 : Int)) = false := decide_eq_false (by omega)
      have g1' : ¬ (hi : Int) ≤ (r1 : Int) := by omega
      have n0a : (0 : Int) ≤ (x0 : Int) := by omega
      have n0b : (x0 : Int) < n := by omega
      have k0 := hS.at x0 (by omega)
      have f0 := hS.r.fz x0
      have n1a : (0 : Int) ≤ (x1 : Int) := by omega
      have n1b : (x1 : Int) < n := by omega
      have k1 := hS.at x1 (by omega)
      have f1 := hS.r.fz x1
      have lB := hS.r.lt
      have u1 : ¬ x0 = x1 := by omega
      have u2 : ¬ x1 = x0 := by omega
      have u3 : ¬ x0 = x2 := by omega
      have u4 : ¬ x2 = x0 := by omega
      by_cases h2 : r2 < hi
      · have g2 : decide ((r2 : Int) < (hi : Int)) = true := decide_eq_true (by omega)
        have n2a : (0 : Int) ≤ (x2 : Int) := by omega
        have n2b : (x2 : Int) < n := by omega
        have k2 := hS.at x2 (by omega)
        have f2 := hS.r.fz x2
        clear hS hE
        cases hl : lt d1[x1]! d1[x2]! with
        | true =>
          have HB : Hid (x0 < n ∧ x2 < n) := ⟨by omega, by omega⟩
          go_upto_region 3 with fail
          go_quiet ((refine Calls.mono (less_any _ _ _) ?_; intro e w3 hq; exact ⟨hq.1, _, hq.2.symm⟩))
          cases hm : lt d1[x0]! d1[x2]! with
          | false =>
            go_upto_region 5 with fail
            go_quiet ((refine Calls.mono (less_any _ _ _) ?_; intro e w3 hq; exact ⟨hq.1, _, hq.2.symm⟩))
            go_wp2
            (try simp only [Exit.inBlock, Exit.then]); refine bodyPost_ret (results_none rfl _ _ _) rfl ?_
            exact ⟨rfl, by rw [← HE.out, sift_two hr1 hr2 hx0 hx1 hx2 h2 hl, if_pos (by rw [hm]; rfl)]; exact by (focus (repeat first | with_reducible exact HS.out | with_reducible refine SW.drw ?_ | with_reducible refine SW.drwN ?_ _))⟩
          | true =>
            go_upto_region 5 with fail
            go_quiet ((refine Calls.mono (less_any _ _ _) ?_; intro e w3 hq; exact ⟨hq.1, _, hq.2.symm⟩))
            go_upto_region 6 with fail
            go_region
            all_goals go_wp2
            all_goals go_roundw
            case rel => exact ⟨r2, Sort.swp d1 x0 x2, rfl, by omega, by (focus (repeat first | with_reducible exact HS.out.swp x0 x2 HB.out.1 HB.out.2 | with_reducible exact (HS.out.drwN _).swp x0 x2 HB.out.1 HB.out.2 | with_reducible refine SW.drw ?_ | with_reducible refine SW.drwN ?_ _)), by rw [← HE.out, sift_two hr1 hr2 hx0 hx1 hx2 h2 hl, if_neg (by rw [hm]; simp)]⟩
            case measure => simp [intOf]; omega
        | false =>
          have HB : Hid (x0 < n ∧ x1 < n) := ⟨by omega, by omega⟩
          go_upto_region 3 with fail
          go_quiet ((refine Calls.mono (less_any _ _ _) ?_; intro e w3 hq; exact ⟨hq.1, _, hq.2.symm⟩))
          cases hm : lt d1[x0]! d1[x1]! with
          | false =>
            go_upto_region 5 with fail
            go_quiet ((refine Calls.mono (less_any _ _ _) ?_; intro e w3 hq; exact ⟨hq.1, _, hq.2.symm⟩))
            go_wp2
            (try simp only [Exit.inBlock, Exit.then]); refine bodyPost_ret (results_none rfl _ _ _) rfl ?_
            exact ⟨rfl, by rw [← HE.out, sift_one hr1 hr2 hx0 hx1 hx2 hlt (fun _ => hl), if_pos (by rw [hm]; rfl)]; exact by (focus (repeat first | with_reducible exact HS.out | with_reducible refine SW.drw ?_ | with_reducible refine SW.drwN ?_ _))⟩
          | true =>
            go_upto_region 5 with fail
            go_quiet ((refine Calls.mono (less_any _ _ _) ?_; intro e w3 hq; exact ⟨hq.1, _, hq.2.symm⟩))
            go_upto_region 6 with fail
            go_region
            all_goals go_wp2
            all_goals go_roundw
            case rel => exact ⟨r1, Sort.swp d1 x0 x1, rfl, by omega, by (focus (repeat first | with_reducible exact HS.out.swp x0 x1 HB.out.1 HB.out.2 | with_reducible exact (HS.out.drwN _).swp x0 x1 HB.out.1 HB.out.2 | with_reducible refine SW.drw ?_ | with_reducible refine SW.drwN ?_ _)), by rw [← HE.out, sift_one hr1 hr2 hx0 hx1 hx2 hlt (fun _ => hl), if_neg (by rw [hm]; simp)]⟩
            case measure => simp [intOf]; omega
      · have g2 : decide ((r2 : Int) < (hi : Int)) = false := decide_eq_false (by omega)
        have g2' : ¬ (r2 : Int) < (hi : Int) := by omega
        have HB : Hid (x0 < n ∧ x1 < n) := ⟨by omega, by omega⟩
        clear hS hE
        go_upto_region 3 with fail
        go_quiet (fail)
        cases hm : lt d1[x0]! d1[x1]! with
        | false =>
          go_upto_region 5 with fail
          go_quiet ((refine Calls.mono (less_any _ _ _) ?_; intro e w3 hq; exact ⟨hq.1, _, hq.2.symm⟩))
          go_wp2
          (try simp only [Exit.inBlock, Exit.then]); refine bodyPost_ret (results_none rfl _ _ _) rfl ?_
          exact ⟨rfl, by rw [← HE.out, sift_one hr1 hr2 hx0 hx1 hx2 hlt (fun h => absurd h h2), if_pos (by rw [hm]; rfl)]; exact by (focus (repeat first | with_reducible exact HS.out | with_reducible refine SW.drw ?_ | with_reducible refine SW.drwN ?_ _))⟩
        | true =>
          go_upto_region 5 with fail
          go_quiet ((refine Calls.mono (less_any _ _ _) ?_; intro e w3 hq; exact ⟨hq.1, _, hq.2.symm⟩))
          go_upto_region 6 with fail
          go_region
          all_goals go_wp2
          all_goals go_roundw
          case rel => exact ⟨r1, Sort.swp d1 x0 x1, rfl, by omega, by (focus (repeat first | with_reducible exact HS.out.swp x0 x1 HB.out.1 HB.out.2 | with_reducible exact (HS.out.drwN _).swp x0 x1 HB.out.1 HB.out.2 | with_reducible refine SW.drw ?_ | with_reducible refine SW.drwN ?_ _)), by rw [← HE.out, sift_one hr1 hr2 hx0 hx1 hx2 hlt (fun h => absurd h h2), if_neg (by rw [hm]; simp)]⟩
          case measure => simp [intOf]; omega
    · have g1 : decide ((hi : Int) ≤ (r1 : Int)) = true := decide_eq_true (by omega)
      have g1' : (hi : Int) ≤ (r1 : Int) := by omega
      clear hS hE
      go_wp2
      go_end0
      exact ⟨rfl, by rw [← HE.out, sift_end hr1 (by omega)]; exact HS.out⟩
end Go.Proofs.Ytgkkghphlbgcoaa.So
