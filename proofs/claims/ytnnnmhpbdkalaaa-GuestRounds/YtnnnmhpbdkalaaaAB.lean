import Derived.Test.YtnnnmhpbdkalaaaAA
import Derived.Test.YtnnnmhpbdkalaaaZ
import Derived.Deep.CutRange
import Derived.Deep.CutBlock
import Derived.Deep.AppendLies
import Derived.Deep.MidRow
namespace Go.Proofs.Ytnnnmhpbdkalaaa
open Go.RowKit
set_option linter.unusedVariables false
set_option linter.unusedSimpArgs false

set_option maxHeartbeats 400000 in
/-- twin, with what it owns. -/
theorem twin_own (b off len cap : Nat) (z : Nat → Int) (w : World) (hl : 0 < len) (hm : len ≤ 140737488355328)
    (hc : ∀ i, i < len → w.cell? ⟨b, off + i, none⟩ = some (.int .u8 (z i))) :
    Calls Try.prog 6 #[.slice (some ⟨b, off, none⟩) len cap] w fun e w' => ∃ c, e = .returned (.slice (some ⟨w.heap.size, 0, none⟩) len c) ∧ Below w.heap.size w w' ∧ w.heap.size < w'.heap.size ∧
      w'.ownsRow w.heap.size 5 1 (.slice (some ⟨w.heap.size, 0, none⟩) len c) len ((List.range len).map fun i => Value.int .u8 (z i)) := by
  obtain ⟨i0, hi, hz0, hz1, hz2⟩ := info_parts info5
  have HC : Hid (∀ i, i < len → w.cell? ⟨b, off + i, none⟩ = some (.int .u8 (z i))) := hc
  clear hc
  go_enter Try.func6, Try.ntmps6
  go_wp2_with (at_builtin; refine wpList_append_lies _ rfl _ _ _ rfl w.heap.size 5 i0 (.int .u8 0) 1 1 Try.underlying22 hi hz0 hz1 hz2 rfl (by decide) (.slice none 0 0) 0 [] (by rfl) (World.ownsRow_nil _ _ _ _) ⟨b, off, none⟩ len cap ((List.range len).map fun i => Value.int .u8 (z i)) (by rfl) (by simp) ?c1 ?c2 hl ?c3 ?c4 (Nat.le_refl _) w.heap.size rfl ?_)
  case c1 =>
    intro j u hj
    simp only [List.getElem?_map, Option.map_eq_some_iff] at hj
    obtain ⟨i, hij, rfl⟩ := hj
    obtain ⟨hlt, rfl⟩ := List.getElem?_eq_some_iff.1 hij
    simp only [List.getElem_range]
    have := HC.out j (by simpa using hlt)
    rw [Addr.add_mid]; exact this
  case c2 =>
    intro u hu
    simp only [List.mem_map] at hu
    obtain ⟨i, -, rfl⟩ := hu
    rfl
  case c3 => unfold maxLen; omega
  case c4 => omega
  intro g cap' w1 hown hgrow hat hlt
  have hg : g = w.heap.size := by
    rcases hat with h | h
    · simp [Value.ownBlock] at h
    · exact h
  subst hg
  have hown' := hown
  have hbel : Below w.heap.size w w1 := (Below.refl _ _).grown hgrow (Nat.le_refl _) (fun k hk => by simp [Value.ownBlock] at hk)
  have HF : Hid (Below w.heap.size w w1 ∧ w.heap.size < w1.heap.size ∧ w1.ownsRow w.heap.size 5 1 (.slice (some ⟨w.heap.size, 0, none⟩) len cap') len ((List.range len).map fun i => Value.int .u8 (z i))) := ⟨hbel, hlt, hown'⟩
  clear hown hown' hgrow hat hbel
  go_wp2
  go_ret
  exact ⟨cap', rfl, HF.out⟩

theorem lea_dec : guestDec [106, 23, 252] 3 = ⟨23, 1, 7, 0, 4294967292, 3, 0⟩ := by kernel_rfl

set_option maxRecDepth 100000 in
set_option maxHeartbeats 2000000 in
theorem rounds_first (a : Option Addr) (len cap : Nat) (op D S O im : Int) (r : DecR) (w : World)
    (hD : ∀ w', Below w.heap.size w w' → Calls Try.prog 7 #[.slice a len cap] w' fun e w'' => e = .returned (decV r) ∧ Below w'.heap.size w' w'')
    (hY : r.e = 0 → ∃ (b off n : Nat) (zs : List Int), a = some ⟨b, off, none⟩ ∧ r.n = (n : Int) ∧ 1 ≤ n ∧ n ≤ 6 ∧ n ≤ len ∧ Row w b off len cap zs ∧ sizeB (zs.getD 0 0) = (n : Int) ∧
      ∀ w', Calls Try.prog 14 #[insV r.op r.D r.S r.O r.imm] w' fun e w'' => ∃ g, e = .returned (.tuple #[.slice (some ⟨g, 0, none⟩) n n, .int .i64 0]) ∧ Below w'.heap.size w' w'' ∧ ∀ i, i < n → w''.cell? ⟨g, i, none⟩ = some (.int .u8 (zs.getD i 0)))
    (hX : (∃ er, er ≠ 0 ∧ ∀ w', Calls Try.prog 14 #[insV op D S O im] w' fun e w'' => e = .returned (.tuple #[.slice none 0 0, .int .i64 er]) ∧ Below w'.heap.size w' w'') ∨
      (∃ l : List Int, 0 < l.length ∧ l.length ≤ 9 ∧ (∀ w', Calls Try.prog 14 #[insV op D S O im] w' fun e w'' => ∃ g, e = .returned (.tuple #[.slice (some ⟨g, 0, none⟩) l.length l.length, .int .i64 0]) ∧ Below w'.heap.size w' w'' ∧ w'.heap.size ≤ g ∧ ∀ i, i < l.length → w''.cell? ⟨g, i, none⟩ = some (.int .u8 (l.getD i 0))) ∧
        (len = 0 ∧ (a = none → cap = 0) ∨ ∃ b off zs, a = some ⟨b, off, none⟩ ∧ 0 < len ∧ len ≤ 140737488351232 ∧ Row w b off len cap zs) ∧
        ∀ g c (w' : World), g < w'.heap.size → l.length + len ≤ c → c ≤ maxLen → (∀ i, i < l.length → w'.cell? ⟨g, i, none⟩ = some (.int .u8 (l.getD i 0))) → (∀ b off zs, a = some ⟨b, off, none⟩ → Row w b off len cap zs → ∀ i, i < len → w'.cell? ⟨g, l.length + i, none⟩ = some (.int .u8 (zs.getD i 0))) →
          Calls Try.prog 7 #[.slice (some ⟨g, 0, none⟩) (l.length + len) c] w' fun e w'' => e = .returned (decV ⟨op, D, S, O, im, l.length, 0⟩) ∧ Below w'.heap.size w' w''))
    (hN : r.e ≠ 0 → r.op = 0 ∧ r.D = 0 ∧ r.S = 0 ∧ r.O = 0 ∧ r.imm = 0 ∧ r.n = 0) :
    Calls Try.prog 5 #[.slice a len cap, insV op D S O im] w fun e w' => e = .returned (.bool true) ∧ Below w.heap.size w w' := by
  have HD : Hid (∀ w', Below w.heap.size w w' → Calls Try.prog 7 #[.slice a len cap] w' fun e w'' => e = .returned (decV r) ∧ Below w'.heap.size w' w'') := hD
  clear hD
  obtain ⟨t0, hi, hz0, hz1, hz2⟩ := info_parts info5
  have HL : Hid (∀ g w', g < w'.heap.size → w'.heap[g]? = some (.cells #[.int .u8 106, .int .u8 23, .int .u8 252] 5) → Calls Try.prog 7 #[.slice (some ⟨g, 0, none⟩) 3 3] w' fun e w'' => e = .returned (decV ⟨23, 1, 7, 0, 4294967292, 3, 0⟩) ∧ Below w'.heap.size w' w'') :=
    fun g w' hg hh => by
      rw [← lea_dec]
      refine dec_any g 0 3 3 [106, 23, 252] w' ⟨Nat.le_refl _, by unfold maxLen; omega, fun i hi => ?_, fun i => ?_, hg⟩ (by omega)
      · rw [Nat.zero_add, cell_of_row _ _ i _ _ _ hh]
        match i, hi with
        | 0, _ => rfl
        | 1, _ => rfl
        | 2, _ => rfl
      · match i with
        | 0 => decide
        | 1 => decide
        | 2 => decide
        | n + 3 => simp
  obtain ⟨rop, rD, rS, rO, rim, rn, rer⟩ := r
  simp only at hY hN
  have HX : Hid (_ ∨ _) := hX
  clear hX
  have HY : Hid (rer = 0 → _) := hY
  have HN : Hid (rer ≠ 0 → _) := hN
  clear hY hN
  have hlit := heap_alloc_last (w.alloc (.cells #[.int .i64 op, .int .i64 D, .int .i64 S, .int .i64 O, .int .u32 im] 26)) (.cells #[.int .u8 106, .int .u8 23, .int .u8 252] 5)
  simp only [World.size_alloc] at hlit
  have HC := HL.out (w.heap.size + 1) ((w.alloc (.cells #[.int .i64 op, .int .i64 D, .int .i64 S, .int .i64 O, .int .u32 im] 26)).alloc (.cells #[.int .u8 106, .int .u8 23, .int .u8 252] 5)) (by simp) hlit
  clear hlit HL
  go_enter Try.func5, Try.ntmps5
  go_wp2_with fail
  go_at_call 7
  refine HC.mono ?_
  rintro e w1 ⟨rfl, hb1⟩
  have s1 := hb1.size
  simp only [World.size_alloc] at s1
  have hX1 : w1.heap[w.heap.size]? = some (insB op D S O im) := (hb1.block w.heap.size (by simp only [World.size_alloc]; omega)).trans ((Below.heap_alloc _ _ w.heap.size (by simp)).trans (heap_alloc_last w _))
  have hB1 : Below w.heap.size w w1 := (((Below.refl _ _).alloc (Nat.le_refl _) _).alloc (by simp) _).trans (hb1.mono (by simp; omega))
  clear hb1 HC
  go_wp2_with fail
  go_at_call 7
  refine (HD.out _ (hB1.alloc (by omega) _)).mono ?_
  rintro e w2 ⟨rfl, hb2⟩
  have s2 := hb2.size
  simp only [World.size_alloc] at s2
  have hY2 : w2.heap[w1.heap.size]? = some (insB 23 1 7 0 4294967292) := (hb2.block w1.heap.size (by simp)).trans (heap_alloc_last w1 _)
  have hX2 : w2.heap[w.heap.size]? = some (insB op D S O im) := (hb2.block w.heap.size (by simp only [World.size_alloc]; omega)).trans ((Below.heap_alloc w1 _ w.heap.size (by omega)).trans hX1)
  obtain ⟨y0, y1, y2, y3, y4⟩ := ins_cells hY2
  obtain ⟨z0, z1, z2, z3, z4⟩ := ins_frozen hY2
  have hB2 : Below w.heap.size w w2 := (hB1.alloc (by omega) _).trans (hb2.mono (by simp only [World.size_alloc]; omega))
  clear hb2
  go_upto_region 5 with fail
  generalize hW : ((((w2.setCell ⟨w1.heap.size, 0, none⟩ _).setCell ⟨w1.heap.size, 1, none⟩ _).setCell ⟨w1.heap.size, 2, none⟩ _).setCell ⟨w1.heap.size, 3, none⟩ _).setCell ⟨w1.heap.size, 4, none⟩ _ = W
  have hYW : W.heap[w1.heap.size]? = some (insB rop rD rS rO rim) := by
    rw [← hW]; exact ins_set4 (ins_set3 (ins_set2 (ins_set1 (heap_setCell_same w2 w1.heap.size 0 _ 26 (.int .i64 rop) hY2) _) _) _) _
  have hXW : W.heap[w.heap.size]? = some (insB op D S O im) := by
    rw [← hW, Below.heap_setCell _ _ _ _ (by show w.heap.size ≠ w1.heap.size; omega), Below.heap_setCell _ _ _ _ (by show w.heap.size ≠ w1.heap.size; omega), Below.heap_setCell _ _ _ _ (by show w.heap.size ≠ w1.heap.size; omega), Below.heap_setCell _ _ _ _ (by show w.heap.size ≠ w1.heap.size; omega), Below.heap_setCell _ _ _ _ (by show w.heap.size ≠ w1.heap.size; omega)]; exact hX2
  have hBW : Below w.heap.size w W := by
    rw [← hW]; exact ((((hB2.setCell (by show w.heap.size ≤ w1.heap.size; omega) _).setCell (by show w.heap.size ≤ w1.heap.size; omega) _).setCell (by show w.heap.size ≤ w1.heap.size; omega) _).setCell (by show w.heap.size ≤ w1.heap.size; omega) _).setCell (by show w.heap.size ≤ w1.heap.size; omega) _
  have hsW : w1.heap.size < W.heap.size := (Array.getElem?_eq_some_iff.1 hYW).1
  have hs1 : w.heap.size < w1.heap.size := by omega
  clear hW hY2 hX2 hB2 y0 y1 y2 y3 y4 z0 z1 z2 z3 z4 s1 s2 hX1 hB1
  generalize w1.heap.size = Y at *
  obtain ⟨y0, y1, y2, y3, y4⟩ := ins_cells hYW
  go_upto_if 35 with fail
  go_cut [] from 11 (fun wx => wx.heap[w.heap.size]? = some (insB op D S O im) ∧ (∃ p q r s t, wx.heap[Y]? = some (insB p q r s t)) ∧ Below w.heap.size w wx)
  case first =>
    by_cases h0 : rer = 0
    · subst h0
      obtain ⟨b, off, n, zs, rfl, rfl, n1, n6, nl, hr, hsz, hE⟩ := HY.out rfl
      have HE : Hid (∀ w', Calls Try.prog 14 #[insV rop rD rS rO rim] w' fun e w'' => ∃ g, e = .returned (.tuple #[.slice (some ⟨g, 0, none⟩) n n, .int .i64 0]) ∧ Below w'.heap.size w' w'' ∧ ∀ i, i < n → w''.cell? ⟨g, i, none⟩ = some (.int .u8 (zs.getD i 0))) := hE
      have HSB : Hid (∀ g w', Below w.heap.size w w' → (∀ i, i < n → w'.cell? ⟨g, i, none⟩ = some (.int .u8 (zs.getD i 0))) → Calls Try.prog 9 #[.slice (some ⟨g, 0, none⟩) n n, .slice (some ⟨b, off, none⟩) n cap] w' fun e w'' => e = .returned (.bool true) ∧ Below w'.heap.size w' w'') :=
        fun g w' h1 h2 => same_yes g 0 n b off cap n (fun i => zs.getD i 0) w' (by omega) (fun i hi => by rw [Nat.zero_add]; exact h2 i hi) (fun i hi => (h1.cell (p := ⟨b, off + i, none⟩) hr.lt).trans (hr.cell i (by omega)))
      have hc0 : W.cell? ⟨b, off, none⟩ = some (.int .u8 (zs.getD 0 0)) := (hBW.cell (p := ⟨b, off, none⟩) hr.lt).trans (by simpa using hr.cell 0 (by omega))
      generalize zs.getD 0 0 = zz at hc0 hsz
      have hle := hr.le
      have hmx := hr.max
      unfold maxLen at hmx
      have hlt := hr.lt
      have i1 : (1 : Int) ≤ n := by omega
      have i6 : (n : Int) ≤ 6 := by omega
      have il : (n : Int) ≤ len := by omega
      have ic : (len : Int) ≤ cap := by omega
      have ip : (0 : Int) < len := by omega
      clear hE HY HN HD
      go_wp2_with fail
      go_at_call 14
      refine (HE.out _).mono ?_
      rintro e w3 ⟨g, rfl, hb3, hcl⟩
      have HC3 : Hid (∀ i, i < n → w3.cell? ⟨g, i, none⟩ = some (.int .u8 (zs.getD i 0))) := hcl
      have s3 := hb3.size
      have hB3 : Below w.heap.size w w3 := hBW.trans (hb3.mono (by omega))
      have c3 := (hb3.cell (p := ⟨b, off, none⟩) (by show b < _; omega)).trans hc0
      have hX3 := (hb3.block w.heap.size (by omega)).trans hXW
      have hY3 := (hb3.block Y (by omega)).trans hYW
      clear hcl hb3
      go_wp2_with fail
      go_at_call 9
      refine (HSB.out g _ hB3 HC3.out).mono ?_
      rintro e w4 ⟨rfl, hb4⟩
      have s4 := hb4.size
      have hB4 : Below w.heap.size w w4 := hB3.trans (hb4.mono (by omega))
      have c4 := (hb4.cell (p := ⟨b, off, none⟩) (by show b < _; omega)).trans c3
      have hX4 := (hb4.block w.heap.size (by omega)).trans hX3
      have hY4 := (hb4.block Y (by omega)).trans hY3
      clear hb4
      go_wp2_with fail
      go_at_call 10
      refine (size10 _ _).mono ?_
      rintro e w5 ⟨rfl, hb5⟩
      rw [hsz]
      have s5 := hb5.size
      have hB5 : Below w.heap.size w w5 := hB4.trans (hb5.mono (by omega))
      have hX5 := (hb5.block w.heap.size (by omega)).trans hX4
      have hY5 := (hb5.block Y (by omega)).trans hY4
      clear hb5
      go_wp2_with fail
      go_meet
      case rel => exact ⟨hX5, ⟨_, _, _, _, _, hY5⟩, hB5⟩
    · obtain ⟨rfl, rfl, rfl, rfl, rfl, rfl⟩ := HN.out h0
      clear HY HN HD
      go_wp2_with fail
      go_meet
      case rel => exact ⟨hXW, ⟨_, _, _, _, _, hYW⟩, hBW⟩
  case rest =>
    obtain ⟨hXc, ⟨p1, p2, p3, p4, p5, hYc⟩, hBc⟩ := hcut
    clear HY HN HD hYW hXW hBW hsW y0 y1 y2 y3 y4
    have hsc : Y < wc.heap.size := (Array.getElem?_eq_some_iff.1 hYc).1
    obtain ⟨x0, x1, x2, x3, x4⟩ := ins_cells hXc
    rcases HX.out with ⟨er, hne, hE⟩ | ⟨l, l0, l9, hE, hB, hDL⟩
    · have HE : Hid (∀ w', Calls Try.prog 14 #[insV op D S O im] w' fun e w'' => e = .returned (.tuple #[.slice none 0 0, .int .i64 er]) ∧ Below w'.heap.size w' w'') := hE
      have hne1 : (er == 0) = false := by simpa using hne
      have hne2 : (er != 0) = true := by simpa using hne
      clear hE HX
      go_wp2_with fail
      go_at_call 14
      refine (HE.out _).mono ?_
      rintro e w3 ⟨rfl, hb3⟩
      go_wp2_with fail
      go_ret
      exact ⟨rfl, hBc.trans (hb3.mono (by omega))⟩
    · have HE : Hid (∀ w', Calls Try.prog 14 #[insV op D S O im] w' fun e w'' => ∃ g, e = .returned (.tuple #[.slice (some ⟨g, 0, none⟩) l.length l.length, .int .i64 0]) ∧ Below w'.heap.size w' w'' ∧ w'.heap.size ≤ g ∧ ∀ i, i < l.length → w''.cell? ⟨g, i, none⟩ = some (.int .u8 (l.getD i 0))) := hE
      have HDL := hDL
      have HDL' : Hid (∀ g c (w' : World), g < w'.heap.size → l.length + len ≤ c → c ≤ maxLen → _ → _ → _) := hDL
      clear hE HX hDL HDL
      go_wp2_with fail
      go_at_call 14
      refine (HE.out _).mono ?_
      rintro e w3 ⟨g, rfl, hb3, hg, hcl⟩
      have s3 := hb3.size
      have hB3 : Below w.heap.size w w3 := hBc.trans (hb3.mono (by omega))
      have hX3 := (hb3.block w.heap.size (by omega)).trans hXc
      have hY3 := (hb3.block Y (by omega)).trans hYc
      have HT := twin_own g 0 l.length l.length (fun i => l.getD i 0) w3 l0 (by omega) (fun i hi => by rw [Nat.zero_add]; exact hcl i hi)
      clear hb3 hcl x0 x1 x2 x3 x4
      go_wp2_with fail
      go_at_call 6
      refine HT.mono ?_
      rintro e w4 ⟨c4, rfl, hb4, hz4, hown4⟩
      have hB4 : Below w.heap.size w w4 := hB3.trans (hb4.mono (by omega))
      have hX4 := (hb4.block w.heap.size (by omega)).trans hX3
      have hY4 := (hb4.block Y (by omega)).trans hY3
      clear HT hb4
      have s4 : w3.heap.size < w4.heap.size := hz4
      have hcc : l.length ≤ c4 ∧ c4 ≤ maxLen := by
        rcases hown4.2 with ⟨h, -⟩ | ⟨g2, c2, cur, h, -, -, h1, h2, -⟩
        · cases h
        · simp only [Value.slice.injEq] at h; obtain ⟨-, -, rfl⟩ := h; exact ⟨h1, h2⟩
      rcases hB with ⟨rfl, hnil⟩ | ⟨b, off, zs, rfl, hl0, hl1, hr⟩
      · go_wp2_with (at_builtin; refine wpList_append_fits_any _ rfl _ _ 22 rfl w3.heap.size 5 t0 1 Try.underlying22 hi hz1 w3.heap.size l.length c4 ((List.range l.length).map fun i => Value.int .u8 (l.getD i 0)) (by rfl) hown4 a 0 cap [] (by rfl) rfl (fun h => ⟨rfl, hnil h⟩) (fun ad had j u hj => by simp at hj) (fun u hu => by simp at hu) (by omega) ?_; intro w5 hown5 hgrow)
        go_at_call 7
        have hc1 : ∀ i, i < l.length → w5.cell? ⟨w3.heap.size, i, none⟩ = some (.int .u8 (l.getD i 0)) := fun i hi => by
          rw [hown5.cellAt i (by omega)]
          simp [List.getElem?_append, hi]
        have hc2 : ∀ b off zs, a = some ⟨b, off, none⟩ → Row w b off 0 cap zs → ∀ i, i < 0 → w5.cell? ⟨w3.heap.size, l.length + i, none⟩ = some (.int .u8 (zs.getD i 0)) := fun b off zs _ _ i hi => by omega
        have hg5 : w3.heap.size < w5.heap.size := by have := hgrow.size; omega
        have hcc5 : l.length + 0 ≤ c4 ∧ c4 ≤ maxLen := hcc
        have hX5 := (hgrow.block w.heap.size (by omega) (by simp [Value.ownBlock]; omega)).trans hX4
        have hY5 := (hgrow.block Y (by omega) (by simp [Value.ownBlock]; omega)).trans hY4
        have hB5 : Below w.heap.size w w5 := hB4.grown hgrow (by omega) (fun k hk => by simp [Value.ownBlock] at hk; omega)
        have s5 := hgrow.size
        have HQ := HDL'.out w3.heap.size c4 w5 hg5 hcc5.1 hcc5.2 hc1 hc2
        clear hown4 hown5 hgrow hc1 hc2 HE HDL'
        refine HQ.mono ?_
        rintro e w6 ⟨rfl, hb6⟩
        have s6 := hb6.size
        have hX6 := (hb6.block w.heap.size (by omega)).trans hX5
        have hY6 := (hb6.block Y (by omega)).trans hY5
        have hB6 : Below w.heap.size w w6 := hB5.trans (hb6.mono (by omega))
        obtain ⟨x0, x1, x2, x3, x4⟩ := ins_cells hX6
        obtain ⟨y0, y1, y2, y3, y4⟩ := ins_cells hY6
        obtain ⟨z0, z1, z2, z3, z4⟩ := ins_frozen hY6
        clear HQ hb6
        go_wp2_with fail
        go_ret
        exact ⟨rfl, ((((hB6.setCell (by show w.heap.size ≤ Y; omega) _).setCell (by show w.heap.size ≤ Y; omega) _).setCell (by show w.heap.size ≤ Y; omega) _).setCell (by show w.heap.size ≤ Y; omega) _).setCell (by show w.heap.size ≤ Y; omega) _⟩
      · go_wp2_with (at_builtin; refine wpList_append_lies _ rfl _ _ _ rfl w3.heap.size 5 t0 (.int .u8 0) 1 1 Try.underlying22 hi hz0 hz1 hz2 rfl (by decide) _ l.length ((List.range l.length).map fun i => Value.int .u8 (l.getD i 0)) (by rfl) hown4 ⟨b, off, none⟩ len cap ((List.range len).map fun i => Value.int .u8 (zs.getD i 0)) (by rfl) (by simp) (fun j u hj => by have hjl : j < len := (by have := (List.getElem?_eq_some_iff.1 hj).1; simpa using this); have := (hB4.cell (p := ⟨b, off + j, none⟩) hr.lt).trans (hr.cell j hjl); simp [hjl] at hj; subst hj; rw [Addr.add_mid]; simpa using this) (fun u hu => by simp only [List.mem_map] at hu; obtain ⟨i, -, rfl⟩ := hu; rfl) hl0 (by unfold maxLen; omega) (by omega) (by omega) w4.heap.size rfl ?_; intro g' c' w5 hown5 hgrow hat hlt5)
        go_at_call 7
        have hc1 : ∀ i, i < l.length → w5.cell? ⟨g', i, none⟩ = some (.int .u8 (l.getD i 0)) := fun i hi => by
          rw [hown5.cellAt i (by omega)]
          simp [List.getElem?_append, hi]
        have hg' : g' = w3.heap.size ∨ g' = w4.heap.size := by
          rcases hat with h | h
          · left; simp [Value.ownBlock] at h; exact h.symm
          · exact .inr h
        have hc2 : ∀ b' off' zs', some (⟨b, off, none⟩ : Addr) = some ⟨b', off', none⟩ → Row w b' off' len cap zs' → ∀ i, i < len → w5.cell? ⟨g', l.length + i, none⟩ = some (.int .u8 (zs'.getD i 0)) := fun b' off' zs' he hr' i hi => by
          simp only [Option.some.injEq, Addr.mk.injEq] at he
          obtain ⟨rfl, rfl, -⟩ := he
          have e1 := hr.cell i hi
          have e2 := hr'.cell i hi
          rw [e1] at e2
          simp only [Option.some.injEq, Value.int.injEq, true_and] at e2
          rw [← e2, hown5.cellAt (l.length + i) (by omega)]
          simp [List.getElem?_append, hi]
        have hg5 : g' < w5.heap.size := hlt5
        have hcc5 : l.length + len ≤ c' ∧ c' ≤ maxLen := by
          rcases hown5.2 with ⟨h, -⟩ | ⟨g2, c2, cur, h, -, -, h1, h2, -⟩
          · cases h
          · simp only [Value.slice.injEq] at h; obtain ⟨-, -, rfl⟩ := h; exact ⟨h1, h2⟩
        have hX5 := (hgrow.block w.heap.size (by omega) (by simp [Value.ownBlock]; omega)).trans hX4
        have hY5 := (hgrow.block Y (by omega) (by simp [Value.ownBlock]; omega)).trans hY4
        have hB5 : Below w.heap.size w w5 := hB4.grown hgrow (by omega) (fun k hk => by simp [Value.ownBlock] at hk; omega)
        have s5 := hgrow.size
        have HQ := HDL'.out g' c' w5 hg5 hcc5.1 hcc5.2 hc1 hc2
        clear hown4 hown5 hgrow hc1 hc2 HE HDL'
        refine HQ.mono ?_
        rintro e w6 ⟨rfl, hb6⟩
        have s6 := hb6.size
        have hX6 := (hb6.block w.heap.size (by omega)).trans hX5
        have hY6 := (hb6.block Y (by omega)).trans hY5
        have hB6 : Below w.heap.size w w6 := hB5.trans (hb6.mono (by omega))
        obtain ⟨x0, x1, x2, x3, x4⟩ := ins_cells hX6
        obtain ⟨y0, y1, y2, y3, y4⟩ := ins_cells hY6
        obtain ⟨z0, z1, z2, z3, z4⟩ := ins_frozen hY6
        clear HQ hb6
        go_wp2_with fail
        go_ret
        exact ⟨rfl, ((((hB6.setCell (by show w.heap.size ≤ Y; omega) _).setCell (by show w.heap.size ≤ Y; omega) _).setCell (by show w.heap.size ≤ Y; omega) _).setCell (by show w.heap.size ≤ Y; omega) _).setCell (by show w.heap.size ≤ Y; omega) _⟩

end Go.Proofs.Ytnnnmhpbdkalaaa
