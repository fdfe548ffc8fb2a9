import Derived.Test.YtnnnmhpbdkalaaaU
namespace Go.Proofs.Ytnnnmhpbdkalaaa
open Go.RowKit
set_option linter.unusedVariables false
set_option linter.unusedSimpArgs false

set_option maxRecDepth 100000 in
set_option maxHeartbeats 4000000 in
theorem reenc_walk (D S O im : Int) (w : World) (k : Nat) (hlt : k < 32) (hok : okF k D S O = true) (m0 : 0 ≤ im) (m1 : im ≤ 4294967295) :
    Calls Try.prog 15 #[.agg #[.int .i64 k, .int .i64 D, .int .i64 S, .int .i64 O, .int .u32 im]] w fun e w' =>
      encPost (isB (refDec (encF k D S O im) (encF k D S O im).length) k D S O im) (encF k D S O im) w e w' := by
  have hge : (0 : Int) ≤ (k : Int) := by omega
  have hl32 : (k : Int) < 32 := by omega
  obtain ⟨t0, hi, hz0, hz1, hz2⟩ := info_parts info5
  have hlen := formB_len ⟨k, hlt⟩
  simp only at hlen
  have hlf := encJ_len k D S O im 2 hlt
  rw [encJ_all k D S O im 2 hlen] at hlf
  have hbd := encF_bd k D S O im
  have HD : Hid (∀ g c w', (encF k D S O im).length ≤ c → c ≤ maxLen → g < w'.heap.size → (∀ i, i < (encF k D S O im).length → w'.cell? ⟨g, i, none⟩ = some (.int .u8 ((encF k D S O im).getD i 0))) → Calls Try.prog 8 #[.slice (some ⟨g, 0, none⟩) (encF k D S O im).length c] w' fun e w'' => e = .returned (decV (refDec (encF k D S O im) (encF k D S O im).length)) ∧ Below w'.heap.size w' w'') :=
    fun g c w' h1 h2 h3 h4 => redec_any g 0 (encF k D S O im).length c (encF k D S O im) w' ⟨h1, h2, fun i hi => by rw [Nat.zero_add]; exact h4 i hi, hbd, h3⟩ (by omega)
  generalize refDec (encF k D S O im) (encF k D S O im).length = r at HD ⊢
  obtain ⟨rop, rD, rS, rO, rim, rn, rer⟩ := r
  clear hbd
  obtain ⟨e0, e1, e2, e3⟩ := form_ok k hlt
  obtain ⟨b0, b1, b2, b3⟩ := form_bd ⟨k, hlt⟩
  simp only at b0 b1 b2 b3
  have hIn := formS2 ⟨k, hlt⟩
  simp only at hIn
  have HOK : Hid (okF k D S O = true) := hok
  clear hok
  go_enter Try.func15, Try.ntmps15
  go_upto_block 0 with (go_at_call 20; refine (forms_any _).mono ?_; rintro e w3 ⟨rfl, rfl⟩; have d0 := (cell_of_row _ _ (k * 4 + 0) _ 46 (0, 0) (heap_alloc_last (w.alloc (.cells #[.int .i64 k, .int .i64 D, .int .i64 S, .int .i64 O, .int .u32 im] 26)) (.cells formCells 46))).trans (form_at k 0 _ e0); have d1 := (cell_of_row _ _ (k * 4 + 1) _ 46 (0, 0) (heap_alloc_last (w.alloc (.cells #[.int .i64 k, .int .i64 D, .int .i64 S, .int .i64 O, .int .u32 im] 26)) (.cells formCells 46))).trans (form_at k 1 _ e1); have d2 := (cell_of_row _ _ (k * 4 + 2) _ 46 (0, 0) (heap_alloc_last (w.alloc (.cells #[.int .i64 k, .int .i64 D, .int .i64 S, .int .i64 O, .int .u32 im] 26)) (.cells formCells 46))).trans (form_at k 2 _ e2); have d3 := (cell_of_row _ _ (k * 4 + 3) _ 46 (0, 0) (heap_alloc_last (w.alloc (.cells #[.int .i64 k, .int .i64 D, .int .i64 S, .int .i64 O, .int .u32 im] 26)) (.cells formCells 46))).trans (form_at k 3 _ e3); simp only [Nat.add_zero, World.size_alloc] at d0 d1 d2 d3)
  generalize hW : ((w.alloc _).alloc _).alloc _ = W
  obtain ⟨hX, -, hF, hsW, hB⟩ := enc_world hW
  clear hW d0 d1 d2 d3
  obtain ⟨x0, x1, x2, x3, x4⟩ := ins_cells hX
  have y0 := cell_of_row _ _ 0 _ _ _ hF
  have y1 := cell_of_row _ _ 1 _ _ _ hF
  have y2 := cell_of_row _ _ 2 _ _ _ hF
  have y3 := cell_of_row _ _ 3 _ _ _ hF
  simp at y0 y1 y2 y3
  go_cut [6] from 13 (fun s6 wx => s6 = .int .i64 (lowF k D S O) ∧ W = wx)
  case first =>
    rcases hIn with h | h | h | h
    · have hl : lowF k D S O = 0 := by unfold lowF; rw [if_neg (by rw [h]; decide), if_neg (by rw [h]; decide), if_neg (by rw [h]; decide)]
      rw [h] at y2 ⊢
      clear h
      go_wp2_with fail
      go_meet
      case rel => exact ⟨by rw [hl], rfl⟩
    · have hl : lowF k D S O = D := by unfold lowF; rw [if_pos h]
      rw [h] at y2 ⊢
      clear h
      go_wp2_with fail
      go_meet
      case rel => exact ⟨by rw [hl], rfl⟩
    · have hl : lowF k D S O = S := by unfold lowF; rw [if_neg (by rw [h]; decide), if_pos h]
      rw [h] at y2 ⊢
      clear h
      go_wp2_with fail
      go_meet
      case rel => exact ⟨by rw [hl], rfl⟩
    · have hl : lowF k D S O = O := by unfold lowF; rw [if_neg (by rw [h]; decide), if_neg (by rw [h]; decide), if_pos h]
      rw [h] at y2 ⊢
      clear h
      go_wp2_with fail
      go_meet
      case rel => exact ⟨by rw [hl], rfl⟩
  case rest =>
    obtain ⟨rfl, rfl⟩ := hcut
    have hok := HOK.out
    simp only [okF, decide_eq_true_eq] at hok
    have hlj : Hid (encJ k D S O im 0 = [(formI k 0 + lowF k D S O) % 256]) := by simp [encJ, Hid]
    generalize lowF k D S O = low at hok hlj ⊢
    obtain ⟨k0, k1, k2, k3, k4, k5, k6, k7⟩ := hok
    go_wp2_with (refine wpList_bytes rfl 9 22 5 _ rfl (formS k 3) (by rfl) Try.underlying9 Try.underlying22 Try.underlying5 (w.heap.size + 4) (by simp [hsW]) ?_; intro cap4 w4 hb4 hz4 hc4; rw [show strL (formS k 3) = formB k from rfl] at hc4 ⊢)
    simp only [World.size_alloc, hsW] at hb4
    have hB4 : Below (w.heap.size + 3) W w4 := ((Below.refl _ _).alloc (by omega) _).trans (hb4.mono (by omega))
    have hrow4 : w4.heap[w.heap.size + 3]? = some (.cells #[.int .u8 ((formI k 0 + low) % 256)] 5) := (hb4.block _ (by omega)).trans (by have := heap_alloc_last W (.cells #[.int .u8 ((formI k 0 + low) % 256)] 5); rw [hsW] at this; exact this)
    have HO4 : Hid (w4.ownsRow (w.heap.size + 3) 5 1 (.slice (some ⟨w.heap.size + 3, 0, none⟩) 1 1) 1 [.int .u8 ((formI k 0 + low) % 256)]) := ⟨rfl, .inr ⟨_, _, _, rfl, Nat.le_refl _, hrow4, Nat.le_refl _, by unfold maxLen; omega, rfl, rfl⟩⟩
    have HC : Hid (∀ j, j < (formB k).length → w4.cell? ⟨w.heap.size + 4, j, none⟩ = some (.int .u8 ((formB k).getD j 0))) := hc4
    clear hc4 hb4 hrow4 e0 e1 e2 e3 hIn HOK
    go_loopw [7, 91] (fun v i wr => ∃ j g c : Nat, j ≤ (formB k).length ∧ i = .int .i64 j ∧ v = .slice (some ⟨g, 0, none⟩) (encJ k D S O im j).length c ∧ wr.ownsRow (w.heap.size + 3) 5 1 (.slice (some ⟨g, 0, none⟩) (encJ k D S O im j).length c) (encJ k D S O im j).length (bytesV (encJ k D S O im j)) ∧ w.heap.size + 3 ≤ g ∧ g ≠ w.heap.size + 4 ∧ Below (w.heap.size + 3) W wr ∧ wr.heap[w.heap.size + 4]? = w4.heap[w.heap.size + 4]? ∧ w.heap.size + 4 < wr.heap.size) (fun _ i _ => (formB k).length - (intOf i).toNat)
    case atStart => exact ⟨0, w.heap.size + 3, 1, by omega, rfl, by rw [hlj.out]; rfl, by rw [hlj.out]; exact HO4.out, Nat.le_refl _, by omega, hB4, rfl, hz4⟩
    case round =>
      obtain ⟨j, g, c, hj, rfl, rfl, hown, hg0, hg1, hBr, hCr, hsr⟩ := hrel
      have x1r := (hBr.cell (p := ⟨w.heap.size, 1, none⟩) (by show w.heap.size < _; omega)).trans x1
      have x2r := (hBr.cell (p := ⟨w.heap.size, 2, none⟩) (by show w.heap.size < _; omega)).trans x2
      have x3r := (hBr.cell (p := ⟨w.heap.size, 3, none⟩) (by show w.heap.size < _; omega)).trans x3
      have x4r := (hBr.cell (p := ⟨w.heap.size, 4, none⟩) (by show w.heap.size < _; omega)).trans x4
      have x0r := (hBr.cell (p := ⟨w.heap.size, 0, none⟩) (by show w.heap.size < _; omega)).trans x0
      have hll := encJ_len k D S O im j hlt
      clear x0 x1 x2 x3 x4 y0 y1 y2 y3 hX hF hlj HO4
      by_cases hjl : j < (formB k).length
      · have hnx := encJ_next k D S O im j hjl
        have cw : wr.cell? ⟨w.heap.size + 4, j, none⟩ = some (.int .u8 ((formB k).getD j 0)) := (World.cell?_of_block (w := w4) hCr).trans (HC.out j hjl)
        have hch := formB_ch ⟨k, hlt⟩ ((formB k).getD j 0) (by simp only [List.getD_eq_getElem?_getD, List.getElem?_eq_getElem hjl, Option.getD_some]; exact List.getElem_mem hjl)
        have HNX : Hid (encJ k D S O im (j + 1) = encJ k D S O im j ++ chB D S O im ((formB k).getD j 0)) := hnx
        clear hnx HC
        generalize (formB k).getD j 0 = ch at HNX hch cw
        generalize encJ k D S O im j = lj at HNX hown hll ⊢
        rcases hch with rfl | rfl | rfl | rfl | rfl | rfl | rfl
        · go_wp2_with (at_builtin; refine wpList_append_lies _ rfl _ _ _ rfl (w.heap.size + 3) 5 t0 (.int .u8 0) 1 1 Try.underlying22 hi hz0 hz1 hz2 rfl (by decide) _ lj.length (bytesV lj) (by rfl) (hown.alloc _) ⟨wr.heap.size, 0, none⟩ 1 1 [_] (by rfl) (by rfl) (cell_one_new _ _ _) (by simp [Value.oneCell']) (by decide) (by unfold maxLen; omega) (by omega) (by simp only [World.size_alloc]; omega) (wr.heap.size + 1) (by simp) ?_; intro g' c' w1 hown' hgrow hat hlt'; have R := enc_grown (w4 := w4) hsW hBr hCr hsr hg0 hg1 hgrow hat; have HR : Hid (w1.ownsRow (w.heap.size + 3) 5 1 (.slice (some ⟨g', 0, none⟩) (lj.length + 1) c') (lj.length + 1) (bytesV lj ++ _)) := hown'; clear hown hown' hgrow hat)
          go_wp2_with fail
          go_roundw
          case rel => exact ⟨j + 1, g', c', by omega, by go_num, by rw [HNX.out]; simp [chB], by rw [HNX.out]; simpa [chB, bytesV, (by omega : D % 256 = D), (by omega : S % 256 = S), (by omega : (16 * D + S) % 256 = 16 * D + S), (by omega : (16 * O + D) % 256 = 16 * O + D), (by omega : im / 16777216 % 256 = im / 16777216)] using HR.out, R.1, R.2.1, R.2.2.1, R.2.2.2.1, R.2.2.2.2⟩
          case measure => simp [intOf]; omega
        · go_wp2_with (at_builtin; refine wpList_append_lies _ rfl _ _ _ rfl (w.heap.size + 3) 5 t0 (.int .u8 0) 1 1 Try.underlying22 hi hz0 hz1 hz2 rfl (by decide) _ lj.length (bytesV lj) (by rfl) (hown.alloc _) ⟨wr.heap.size, 0, none⟩ 1 1 [_] (by rfl) (by rfl) (cell_one_new _ _ _) (by simp [Value.oneCell']) (by decide) (by unfold maxLen; omega) (by omega) (by simp only [World.size_alloc]; omega) (wr.heap.size + 1) (by simp) ?_; intro g' c' w1 hown' hgrow hat hlt'; have R := enc_grown (w4 := w4) hsW hBr hCr hsr hg0 hg1 hgrow hat; have HR : Hid (w1.ownsRow (w.heap.size + 3) 5 1 (.slice (some ⟨g', 0, none⟩) (lj.length + 1) c') (lj.length + 1) (bytesV lj ++ _)) := hown'; clear hown hown' hgrow hat)
          go_wp2_with fail
          go_roundw
          case rel => exact ⟨j + 1, g', c', by omega, by go_num, by rw [HNX.out]; simp [chB], by rw [HNX.out]; simpa [chB, bytesV, (by omega : D % 256 = D), (by omega : S % 256 = S), (by omega : (16 * D + S) % 256 = 16 * D + S), (by omega : (16 * O + D) % 256 = 16 * O + D), (by omega : im / 16777216 % 256 = im / 16777216)] using HR.out, R.1, R.2.1, R.2.2.1, R.2.2.2.1, R.2.2.2.2⟩
          case measure => simp [intOf]; omega
        · go_wp2_with (at_builtin; refine wpList_append_lies _ rfl _ _ _ rfl (w.heap.size + 3) 5 t0 (.int .u8 0) 1 1 Try.underlying22 hi hz0 hz1 hz2 rfl (by decide) _ lj.length (bytesV lj) (by rfl) (hown.alloc _) ⟨wr.heap.size, 0, none⟩ 4 4 [_, _, _, _] (by rfl) (by rfl) (cell_four_new _ _ _ _ _ _) (by simp [Value.oneCell']) (by decide) (by unfold maxLen; omega) (by omega) (by simp only [World.size_alloc]; omega) (wr.heap.size + 1) (by simp) ?_; intro g' c' w1 hown' hgrow hat hlt'; have R := enc_grown (w4 := w4) hsW hBr hCr hsr hg0 hg1 hgrow hat; have HR : Hid (w1.ownsRow (w.heap.size + 3) 5 1 (.slice (some ⟨g', 0, none⟩) (lj.length + 4) c') (lj.length + 4) (bytesV lj ++ _)) := hown'; clear hown hown' hgrow hat)
          go_wp2_with fail
          go_roundw
          case rel => exact ⟨j + 1, g', c', by omega, by go_num, by rw [HNX.out]; simp [chB], by rw [HNX.out]; simpa [chB, bytesV, (by omega : D % 256 = D), (by omega : S % 256 = S), (by omega : (16 * D + S) % 256 = 16 * D + S), (by omega : (16 * O + D) % 256 = 16 * O + D), (by omega : im / 16777216 % 256 = im / 16777216)] using HR.out, R.1, R.2.1, R.2.2.1, R.2.2.2.1, R.2.2.2.2⟩
          case measure => simp [intOf]; omega
        · go_wp2_with (at_builtin; refine wpList_append_lies _ rfl _ _ _ rfl (w.heap.size + 3) 5 t0 (.int .u8 0) 1 1 Try.underlying22 hi hz0 hz1 hz2 rfl (by decide) _ lj.length (bytesV lj) (by rfl) (hown.alloc _) ⟨wr.heap.size, 0, none⟩ 1 1 [_] (by rfl) (by rfl) (cell_one_new _ _ _) (by simp [Value.oneCell']) (by decide) (by unfold maxLen; omega) (by omega) (by simp only [World.size_alloc]; omega) (wr.heap.size + 1) (by simp) ?_; intro g' c' w1 hown' hgrow hat hlt'; have R := enc_grown (w4 := w4) hsW hBr hCr hsr hg0 hg1 hgrow hat; have HR : Hid (w1.ownsRow (w.heap.size + 3) 5 1 (.slice (some ⟨g', 0, none⟩) (lj.length + 1) c') (lj.length + 1) (bytesV lj ++ _)) := hown'; clear hown hown' hgrow hat)
          go_wp2_with fail
          go_roundw
          case rel => exact ⟨j + 1, g', c', by omega, by go_num, by rw [HNX.out]; simp [chB], by rw [HNX.out]; simpa [chB, bytesV, (by omega : D % 256 = D), (by omega : S % 256 = S), (by omega : (16 * D + S) % 256 = 16 * D + S), (by omega : (16 * O + D) % 256 = 16 * O + D), (by omega : im / 16777216 % 256 = im / 16777216)] using HR.out, R.1, R.2.1, R.2.2.1, R.2.2.2.1, R.2.2.2.2⟩
          case measure => simp [intOf]; omega
        · go_wp2_with (at_builtin; refine wpList_append_lies _ rfl _ _ _ rfl (w.heap.size + 3) 5 t0 (.int .u8 0) 1 1 Try.underlying22 hi hz0 hz1 hz2 rfl (by decide) _ lj.length (bytesV lj) (by rfl) (hown.alloc _) ⟨wr.heap.size, 0, none⟩ 1 1 [_] (by rfl) (by rfl) (cell_one_new _ _ _) (by simp [Value.oneCell']) (by decide) (by unfold maxLen; omega) (by omega) (by simp only [World.size_alloc]; omega) (wr.heap.size + 1) (by simp) ?_; intro g' c' w1 hown' hgrow hat hlt'; have R := enc_grown (w4 := w4) hsW hBr hCr hsr hg0 hg1 hgrow hat; have HR : Hid (w1.ownsRow (w.heap.size + 3) 5 1 (.slice (some ⟨g', 0, none⟩) (lj.length + 1) c') (lj.length + 1) (bytesV lj ++ _)) := hown'; clear hown hown' hgrow hat)
          go_wp2_with fail
          go_roundw
          case rel => exact ⟨j + 1, g', c', by omega, by go_num, by rw [HNX.out]; simp [chB], by rw [HNX.out]; simpa [chB, bytesV, (by omega : D % 256 = D), (by omega : S % 256 = S), (by omega : (16 * D + S) % 256 = 16 * D + S), (by omega : (16 * O + D) % 256 = 16 * O + D), (by omega : im / 16777216 % 256 = im / 16777216)] using HR.out, R.1, R.2.1, R.2.2.1, R.2.2.2.1, R.2.2.2.2⟩
          case measure => simp [intOf]; omega
        · go_wp2_with (at_builtin; refine wpList_append_lies _ rfl _ _ _ rfl (w.heap.size + 3) 5 t0 (.int .u8 0) 1 1 Try.underlying22 hi hz0 hz1 hz2 rfl (by decide) _ lj.length (bytesV lj) (by rfl) (hown.alloc _) ⟨wr.heap.size, 0, none⟩ 1 1 [_] (by rfl) (by rfl) (cell_one_new _ _ _) (by simp [Value.oneCell']) (by decide) (by unfold maxLen; omega) (by omega) (by simp only [World.size_alloc]; omega) (wr.heap.size + 1) (by simp) ?_; intro g' c' w1 hown' hgrow hat hlt'; have R := enc_grown (w4 := w4) hsW hBr hCr hsr hg0 hg1 hgrow hat; have HR : Hid (w1.ownsRow (w.heap.size + 3) 5 1 (.slice (some ⟨g', 0, none⟩) (lj.length + 1) c') (lj.length + 1) (bytesV lj ++ _)) := hown'; clear hown hown' hgrow hat)
          go_wp2_with fail
          go_roundw
          case rel => exact ⟨j + 1, g', c', by omega, by go_num, by rw [HNX.out]; simp [chB], by rw [HNX.out]; simpa [chB, bytesV, (by omega : D % 256 = D), (by omega : S % 256 = S), (by omega : (16 * D + S) % 256 = 16 * D + S), (by omega : (16 * O + D) % 256 = 16 * O + D), (by omega : im / 16777216 % 256 = im / 16777216)] using HR.out, R.1, R.2.1, R.2.2.1, R.2.2.2.1, R.2.2.2.2⟩
          case measure => simp [intOf]; omega
        · go_wp2_with (at_builtin; refine wpList_append_lies _ rfl _ _ _ rfl (w.heap.size + 3) 5 t0 (.int .u8 0) 1 1 Try.underlying22 hi hz0 hz1 hz2 rfl (by decide) _ lj.length (bytesV lj) (by rfl) (hown.alloc _) ⟨wr.heap.size, 0, none⟩ 1 1 [_] (by rfl) (by rfl) (cell_one_new _ _ _) (by simp [Value.oneCell']) (by decide) (by unfold maxLen; omega) (by omega) (by simp only [World.size_alloc]; omega) (wr.heap.size + 1) (by simp) ?_; intro g' c' w1 hown' hgrow hat hlt'; have R := enc_grown (w4 := w4) hsW hBr hCr hsr hg0 hg1 hgrow hat; have HR : Hid (w1.ownsRow (w.heap.size + 3) 5 1 (.slice (some ⟨g', 0, none⟩) (lj.length + 1) c') (lj.length + 1) (bytesV lj ++ _)) := hown'; clear hown hown' hgrow hat)
          go_wp2_with fail
          go_roundw
          case rel => exact ⟨j + 1, g', c', by omega, by go_num, by rw [HNX.out]; simp [chB], by rw [HNX.out]; simpa [chB, bytesV, (by omega : D % 256 = D), (by omega : S % 256 = S), (by omega : (16 * D + S) % 256 = 16 * D + S), (by omega : (16 * O + D) % 256 = 16 * O + D), (by omega : im / 16777216 % 256 = im / 16777216)] using HR.out, R.1, R.2.1, R.2.2.1, R.2.2.2.1, R.2.2.2.2⟩
          case measure => simp [intOf]; omega
      · have hjj := encJ_all k D S O im j (by omega)
        rw [hjj] at hown ⊢
        clear hjj HC hll
        generalize hle : encF k D S O im = l at hown HD hlf ⊢
        have HLE : Hid (encF k D S O im = l) := hle
        clear hle
        have hcap : l.length ≤ c ∧ c ≤ maxLen := by
          rcases hown.2 with ⟨h, -⟩ | ⟨g2, c2, cur, h, -, -, h1, h2, -⟩
          · cases h
          · simp only [Value.slice.injEq] at h; obtain ⟨-, -, rfl⟩ := h; exact ⟨h1, h2⟩
        have hgl : g < wr.heap.size := by
          rcases hown.2 with ⟨h, -⟩ | ⟨g2, c2, cur, h, -, hh, -⟩
          · cases h
          · simp only [Value.slice.injEq, Option.some.injEq, Addr.mk.injEq] at h; obtain ⟨⟨rfl, -⟩, -⟩ := h; exact (Array.getElem?_eq_some_iff.1 hh).1
        have HCL : Hid (∀ i, i < l.length → wr.cell? ⟨g, i, none⟩ = some (.int .u8 (l.getD i 0))) := fun i hi => by
          rw [hown.cellAt i (by omega)]
          simp [bytesV, List.getD_eq_getElem?_getD, hi]
        have hBw : Below w.heap.size w wr := hB.trans (hBr.mono (by omega))
        clear hown hCr
        have hcase : (rer = 0 ∧ rop = (k : Int) ∧ rD = D ∧ rS = S ∧ rO = O ∧ rim = im) ∨ ¬ rer = 0 ∨ (rer = 0 ∧ ¬ rop = (k : Int)) ∨ (rer = 0 ∧ rop = (k : Int) ∧ ¬ rD = D) ∨ (rer = 0 ∧ rop = (k : Int) ∧ rD = D ∧ ¬ rS = S) ∨ (rer = 0 ∧ rop = (k : Int) ∧ rD = D ∧ rS = S ∧ ¬ rO = O) ∨ (rer = 0 ∧ rop = (k : Int) ∧ rD = D ∧ rS = S ∧ rO = O ∧ ¬ rim = im) := by
          by_cases h0 : rer = 0
          · by_cases h1 : rop = (k : Int)
            · by_cases h2 : rD = D
              · by_cases h3 : rS = S
                · by_cases h4 : rO = O
                  · by_cases h5 : rim = im
                    · exact .inl ⟨h0, h1, h2, h3, h4, h5⟩
                    · exact .inr (.inr (.inr (.inr (.inr (.inr ⟨h0, h1, h2, h3, h4, h5⟩)))))
                  · exact .inr (.inr (.inr (.inr (.inr (.inl ⟨h0, h1, h2, h3, h4⟩)))))
                · exact .inr (.inr (.inr (.inr (.inl ⟨h0, h1, h2, h3⟩))))
              · exact .inr (.inr (.inr (.inl ⟨h0, h1, h2⟩)))
            · exact .inr (.inr (.inl ⟨h0, h1⟩))
          · exact .inr (.inl h0)
        rcases hcase with ⟨rfl, rfl, rfl, rfl, rfl, rfl⟩ | h | ⟨rfl, h⟩ | ⟨rfl, rfl, h⟩ | ⟨rfl, rfl, rfl, h⟩ | ⟨rfl, rfl, rfl, rfl, h⟩ | ⟨rfl, rfl, rfl, rfl, rfl, h⟩
        · go_wp2_with (go_at_call 8; refine (HD.out g c _ hcap.1 hcap.2 hgl HCL.out).mono ?_; rintro e w5 ⟨rfl, hb5⟩; have hz5 := hb5.size; have x0s := (hb5.cell (p := ⟨w.heap.size, 0, none⟩) (by show w.heap.size < _; omega)).trans x0r; have x1s := (hb5.cell (p := ⟨w.heap.size, 1, none⟩) (by show w.heap.size < _; omega)).trans x1r; have x2s := (hb5.cell (p := ⟨w.heap.size, 2, none⟩) (by show w.heap.size < _; omega)).trans x2r; have x3s := (hb5.cell (p := ⟨w.heap.size, 3, none⟩) (by show w.heap.size < _; omega)).trans x3r; have x4s := (hb5.cell (p := ⟨w.heap.size, 4, none⟩) (by show w.heap.size < _; omega)).trans x4r; have hzw5 : w.heap.size < w5.heap.size := (by omega))
          go_ret2
          refine ⟨(hBw.trans (hb5.mono (by omega))).alloc (by omega) _, ?_⟩
          rw [if_pos (by simp [isB]), HLE.out]
          refine ⟨g, c, rfl, by omega, by simp only [World.size_alloc]; omega, hcap.1, hcap.2, fun i hi => ?_⟩
          rw [World.cell?_alloc_past _ _ _ (by show g < w5.heap.size; omega), hb5.cell (p := ⟨g, i, none⟩) hgl]
          exact HCL.out i hi
        all_goals
          go_wp2_with (go_at_call 8; refine (HD.out g c _ hcap.1 hcap.2 hgl HCL.out).mono ?_; rintro e w5 ⟨rfl, hb5⟩; have hz5 := hb5.size; have x0s := (hb5.cell (p := ⟨w.heap.size, 0, none⟩) (by show w.heap.size < _; omega)).trans x0r; have x1s := (hb5.cell (p := ⟨w.heap.size, 1, none⟩) (by show w.heap.size < _; omega)).trans x1r; have x2s := (hb5.cell (p := ⟨w.heap.size, 2, none⟩) (by show w.heap.size < _; omega)).trans x2r; have x3s := (hb5.cell (p := ⟨w.heap.size, 3, none⟩) (by show w.heap.size < _; omega)).trans x3r; have x4s := (hb5.cell (p := ⟨w.heap.size, 4, none⟩) (by show w.heap.size < _; omega)).trans x4r; have hzw5 : w.heap.size < w5.heap.size := (by omega))
          go_ret2
          refine ⟨(hBw.trans (hb5.mono (by omega))).alloc (by omega) _, ?_⟩
          rw [if_neg (by simp [isB, h])]
          rfl

end Go.Proofs.Ytnnnmhpbdkalaaa
