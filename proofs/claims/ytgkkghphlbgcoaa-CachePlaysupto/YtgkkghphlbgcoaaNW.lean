import Derived.Test.YtgkkghphlbgcoaaLW
import Derived.RangeFuncBox
namespace Go.Proofs.Ytgkkghphlbgcoaa.Ca
open Go.RowKit Go.Maps
set_option maxRecDepth 100000
set_option linter.unusedVariables false
set_option linter.unusedSimpArgs false
theorem infoT : (Try.prog.info? 56).map (fun i => (i.zero, i.size, i.bytes)) = some (some (.agg #[.int .u32 0, .int .i64 0]), 2, 16) := by kernel_rfl
/-- A new cache, j entries of the table set. -/
def newC (room n j : Nat) : Cs := ⟨room, 0, n, fun _ => 0, fun _ => 0, fun k => if k < j then -1 else 0, fun _ => none, fun _ => none⟩
def newI (h n : Nat) : Ids := ⟨.slice none 0 0, h, n, h + 1, h + 1 + 1⟩
theorem zt_get (n k : Nat) (hk : k < n) : (madeCells #[Value.int .u32 0, .int .i64 0] (n * 2))[k * 2]? = some (.int .u32 0) ∧ (madeCells #[Value.int .u32 0, .int .i64 0] (n * 2))[k * 2 + 1]? = some (.int .i64 0) := by
  unfold madeCells
  have h1 : k * 2 < n * 2 := by omega
  have h2 : k * 2 + 1 < n * 2 := by omega
  constructor
  · simp [h1]
  · have : (k * 2 + 1) % 2 = 1 := by omega
    simp [h2, this]
theorem new_start (w : World) (room n : Nat) (h1 : 1 ≤ room ∧ room ≤ 1048576) (h2 : 1 ≤ n ∧ n ≤ 65536) :
    Cw ((((w.alloc (.cells (madeCells #[Value.int .u32 0, .int .i64 0] (n * 2)) 56)).alloc (.map #[] 0)).alloc (.map #[] 0)).alloc (.cells #[.int .i64 room, .slice none 0 0, .slice (some ⟨w.heap.size, 0, none⟩) n n, .map (some (w.heap.size + 1)), .map (some (w.heap.size + 1 + 1))] 54)) (w.heap.size + 1 + 1 + 1) (newI w.heap.size n) (newC room n 0) := by
  obtain ⟨A, hA⟩ : ∃ A, w.alloc (.cells (madeCells #[Value.int .u32 0, .int .i64 0] (n * 2)) 56) = A := ⟨_, rfl⟩
  have sA : A.heap.size = w.heap.size + 1 := by rw [← hA]; simp
  have bA : A.heap[w.heap.size]? = some (.cells (madeCells #[Value.int .u32 0, .int .i64 0] (n * 2)) 56) := by rw [← hA]; exact World.alloc_heap_new w _
  rw [hA]
  have mB := MW.made A 30 .u32
  obtain ⟨B, hB⟩ : ∃ B, A.alloc (.map #[] 0) = B := ⟨_, rfl⟩
  have sB : B.heap.size = w.heap.size + 1 + 1 := by rw [← hB]; simp [sA]
  have kB : Below A.heap.size A B := by rw [← hB]; exact (Below.refl _ _).alloc (Nat.le_refl _) _
  rw [hB] at mB ⊢
  have mD := MW.made B 3 .i64
  obtain ⟨D, hD⟩ : ∃ D, B.alloc (.map #[] 0) = D := ⟨_, rfl⟩
  have sD : D.heap.size = w.heap.size + 1 + 1 + 1 := by rw [← hD]; simp [sB]
  have kD : Below B.heap.size B D := by rw [← hD]; exact (Below.refl _ _).alloc (Nat.le_refl _) _
  rw [hD] at mD ⊢
  have bE := World.alloc_heap_new D (.cells #[.int .i64 room, .slice none 0 0, .slice (some ⟨w.heap.size, 0, none⟩) n n, .map (some (w.heap.size + 1)), .map (some (w.heap.size + 1 + 1))] 54)
  obtain ⟨E, hE⟩ : ∃ E, D.alloc (.cells #[.int .i64 room, .slice none 0 0, .slice (some ⟨w.heap.size, 0, none⟩) n n, .map (some (w.heap.size + 1)), .map (some (w.heap.size + 1 + 1))] 54) = E := ⟨_, rfl⟩
  have kE : Below D.heap.size D E := by rw [← hE]; exact (Below.refl _ _).alloc (Nat.le_refl _) _
  rw [hE] at bE ⊢
  rw [sA] at mB
  rw [sB] at mD
  rw [sD] at bE
  have hz : (madeCells #[Value.int .u32 0, .int .i64 0] (n * 2)).size = n * 2 := by simp [madeCells]
  refine ⟨bE, ⟨fun _ => by show 0 < 4294967296; decide, .inl ⟨rfl, rfl⟩⟩, ⟨_, (kE.block w.heap.size (by omega)).trans ((kD.block w.heap.size (by omega)).trans ((kB.block w.heap.size (by omega)).trans bA)), hz, fun k hk => ?_⟩, ?_, ?_, ⟨h1.1, h1.2, Nat.zero_le _⟩, ⟨h2.1, h2.2, Nat.le_refl _⟩, by simp only [newI]; omega, fun k e => by cases e⟩
  · have := zt_get n k hk
    exact this
  · exact mB.keep ((kE.block (w.heap.size + 1) (by omega)).trans (kD.block (w.heap.size + 1) (by omega)))
  · exact mD.keep (kE.block (w.heap.size + 1 + 1) (by omega))
theorem newC_step (room n j : Nat) : (⟨room, 0, n, fun _ => 0, setF (fun _ => 0) j 0, setF (fun k => if k < j then -1 else 0) j (-1), fun _ => none, fun _ => none⟩ : Cs) = newC room n (j + 1) := by
  unfold newC
  have e1 : setF (fun _ => (0 : Nat)) j 0 = fun _ => 0 := by funext k; unfold setF; split <;> rfl
  have e2 : setF (fun k => if k < j then (-1 : Int) else 0) j (-1) = fun k => if k < j + 1 then -1 else 0 := by
    funext k
    unfold setF
    by_cases h : k = j
    · simp [h]
    · by_cases h2 : k < j
      · simp [h, h2]; omega
      · simp [h, h2]; omega
  rw [e1, e2]
structure NwI (w : World) (room n : Nat) (v : Value) (wr : World) : Prop where
  ex : ∃ j : Nat, v = .int .i64 j ∧ j ≤ n ∧ Cw wr (w.heap.size + 1 + 1 + 1) (newI w.heap.size n) (newC room n j) ∧ Below w.heap.size w wr
set_option maxHeartbeats 8000000 in
theorem new_good (room n : Nat) (w : World) (h1 : 1 ≤ room ∧ room ≤ 1048576) (h2 : 1 ≤ n ∧ n ≤ 65536) :
    Calls Try.prog 5 #[.int .i64 room, .int .i64 n] w fun e w' => e = .returned (.tuple #[.pointer (some ⟨w.heap.size + 1 + 1 + 1, 0, none⟩), .int .i64 0]) ∧ Cw w' (w.heap.size + 1 + 1 + 1) (newI w.heap.size n) (newC room n n) ∧ Below w.heap.size w w' := by
  obtain ⟨i0, hi, hz0, hz1, hz2⟩ := info_parts infoT
  have HST : Hid _ := new_start w room n h1 h2
  have d0 : decide ((room : Int) < 1) = false := decide_eq_false (by omega)
  have d1 : decide (1048576 < (room : Int)) = false := decide_eq_false (by omega)
  have d2 : decide ((n : Int) < 1) = false := decide_eq_false (by omega)
  have d3 : decide (65536 < (n : Int)) = false := decide_eq_false (by omega)
  have d0n : ¬ room < 1 := by omega
  have d1n : ¬ 1048576 < room := by omega
  have d2n : ¬ n < 1 := by omega
  have d3n : ¬ 65536 < n := by omega
  have d2z : ¬ n = 0 := by omega
  have d0z : ¬ room = 0 := by omega
  have hmm := @run_makeMap Try.prog
  have hmk := fun w' : World => run_make (P := Try.prog) w' 50 56 i0 _ Try.underlying50 hi hz0 .i64 .i64 (n : Int) (n : Int) (by omega) (Int.le_refl _) (by rw [hz2]; omega) (by omega)
  rw [hz1] at hmk
  simp only [Int.toNat_natCast] at hmk
  have n1 : n ≤ 65536 := by omega
  clear h1 h2 hi hz0 hz1 hz2
  go_enter Try.func5, Try.ntmps5
  go_upto_region 4 with fail
  refine So.wp_gen (fun W' => Cw W' (w.heap.size + 1 + 1 + 1) (newI w.heap.size n) (newC room n 0) ∧ Below w.heap.size w W') ⟨HST.out, ((((Below.refl _ w).alloc (Nat.le_refl _) _).alloc (by first | (simp; done) | (simp; omega)) _).alloc (by first | (simp; done) | (simp; omega)) _).alloc (by first | (simp; done) | (simp; omega)) _⟩ ?_
  rintro W ⟨hW, hWb⟩
  have HW : Hid _ := hW
  have HWB : Hid _ := hWb
  obtain ⟨_, _, c2, _, _⟩ := hW.cell
  have cl := hW.own_lt _ (.inl rfl)
  simp only [newI, newC] at c2
  clear hW hWb hmm hmk d0 d1 d2 d3 d0n d1n d2n d3n d2z d0z HST
  go_wp2
  clear c2 cl
  go_loopw [34] (fun v wr => NwI w room n v wr) (fun v _ => n - (intOf v).toNat)
  case atStart => exact ⟨0, rfl, by omega, HW.out, HWB.out⟩
  case round =>
    obtain ⟨j, rfl, hj, hC, hB⟩ := hrel
    have HC : Hid _ := hC
    have HB : Hid _ := hB
    clear HW HWB
    by_cases hlt : j < n
    · have hji : (j : Int) < (n : Int) := by omega
      have dj : decide ((j : Int) < (n : Int)) = true := decide_eq_true hji
      have j0 : (0 : Int) ≤ (j : Int) := by omega
      obtain ⟨j1, hj1⟩ : ∃ j1, j + 1 = j1 := ⟨_, rfl⟩
      have t0 : IntKind.i64.wrap ((j : Int) + 1) = (j1 : Int) := So.wr_one hj1 (by omega)
      have HJ1 : Hid _ := hj1
      obtain ⟨A, hA, hs, hc⟩ := hC.tb.c
      obtain ⟨t1, t2⟩ := hc j hlt
      have tf := So.row_fr hA
      have tl := So.row_lt hA
      rw [← So.row_cell hA] at t1 t2
      obtain ⟨_, _, c2, _, _⟩ := hC.cell
      have cl := hC.own_lt _ (.inl rfl)
      simp only [newI, newC] at c2 t1 t2 tf tl
      have tf1 := tf (j * 2)
      have tf2 := tf (j * 2 + 1)
      clear hC hA hs hc hB hj1 tf
      go_wp2
      go_region_with (go_at_call 16; refine Calls.mono (none_any _) ?_; rintro _ w1 ⟨rfl, hb1⟩; have hbw : Below wr.heap.size wr w1 := (by first | exact hb1 | exact (Below.refl _ _).drew.trans hb1); have c2' := (hbw.cell (p := ⟨w.heap.size + 1 + 1 + 1, 2, none⟩) cl).trans c2; have t1' := (hbw.cell (p := ⟨w.heap.size, j * 2, none⟩) tl).trans t1; have t2' := (hbw.cell (p := ⟨w.heap.size, j * 2 + 1, none⟩) tl).trans t2; have tf1' := (World.frozen?_of_block (a := ⟨w.heap.size, j * 2, none⟩) (hbw.block _ tl)).trans tf1; have tf2' := (World.frozen?_of_block (a := ⟨w.heap.size, j * 2 + 1, none⟩) (hbw.block _ tl)).trans tf2; dsimp only)
      all_goals go_wp2
      all_goals go_roundw
      all_goals first
        | exact ⟨j1, rfl, by have := HJ1.out; omega, by rw [← HJ1.out, ← newC_step]; exact HC.out.tset hbw j 0 (-1), (HB.out.trans (hbw.mono HB.out.size)).setCell (p := ⟨w.heap.size, j * 2, none⟩) (Nat.le_refl _) _ |>.setCell (p := ⟨w.heap.size, j * 2 + 1, none⟩) (Nat.le_refl _) _⟩
        | (have := HJ1.out; simp [intOf]; omega)
    · obtain rfl : j = n := by omega
      have dj : decide ((j : Int) < (j : Int)) = false := decide_eq_false (by omega)
      clear hlt hj hC hB
      go_wp2
      go_ret2
      exact ⟨rfl, HC.out, HB.out⟩
end Go.Proofs.Ytgkkghphlbgcoaa.Ca
