import Derived.Test.YtnnnmhpbdkalaaaP
import Derived.Deep.CutBlock
namespace Go.Proofs.Ytnnnmhpbdkalaaa
open Go.RowKit
set_option linter.unusedVariables false
set_option linter.unusedSimpArgs false

/-- What the first byte tells beside its row. -/
def abv (field D S O : Int) : Int := if field = 0 then 0 else if field = 1 then O else if field = 2 then S else D
def chunkR (regs D S O : Int) : List Int := if regs = 1 then [S % 256] else if regs = 2 then [D % 256] else if regs = 3 then [(16 * O + D) % 256] else if regs = 4 then [(16 * D + S) % 256] else []
def chunkI (imm im : Int) : List Int := if imm = 1 ∨ imm = 2 then [im % 256] else if imm = 3 then [im % 256, im / 256 % 256, im / 65536 % 256, im / 16777216 % 256] else []
def layL (first field regs imm D S O im : Int) : List Int := [(first + abv field D S O) % 256] ++ chunkR regs D S O ++ chunkI imm im

theorem Put.refl (p g : Nat) (w : World) : Put p g w w := ⟨rfl, rfl, rfl, Nat.le_refl _, fun _ _ _ _ => rfl⟩
theorem Put.trans {p g : Nat} {a b c : World} (h : Put p g a b) (k : Put p g b c) : Put p g a c :=
  ⟨k.os.trans h.os, k.tape.trans h.tape, k.output.trans h.output, Nat.le_trans h.size k.size, fun i hi hp hg => (k.block i (Nat.lt_of_lt_of_le hi h.size) hp hg).trans (h.block i hi hp hg)⟩
theorem Put.drew {p g : Nat} {a b : World} (h : Put p g a.drew b) : Put p g a b := ⟨h.os, h.tape, h.output, h.size, h.block⟩
theorem Laid.drew {p g cap : Nat} {l : List Int} {w : World} (h : Laid p g cap l w) : Laid p g cap l w.drew := ⟨h.ptr, h.own⟩

theorem wrap_256 (e : Int) : wrap64 e % 256 = e % 256 := by unfold wrap64; omega
theorem wrapi_256 (e : Int) : IntKind.i64.wrap e % 256 = e % 256 := by
  simp [IntKind.wrap, IntKind.bits, IntKind.signed]; omega
theorem lead_256 (a b : Int) : IntKind.i64.wrap (IntKind.i64.wrap a + b) % 256 = (a + b) % 256 := by
  rw [wrapi_256, Int.add_emod, wrapi_256, ← Int.add_emod]
theorem sz_r (regs imm : Int) (h : regs ≠ 0) (i0 : 0 ≤ imm) (i1 : imm ≤ 3) : 2 ≤ sizeN regs imm := by
  unfold sizeN; rw [if_neg h]; split
  · omega
  · split <;> omega

theorem sz_r' {regs imm : Int} {n : Nat} (h : sizeN regs imm = n) (hr : regs ≠ 0) (i0 : 0 ≤ imm) (i1 : imm ≤ 3) : 2 ≤ n := by have := sz_r regs imm hr i0 i1; omega
theorem wrap_add (a b : Int) : (wrap64 a + b) % 256 = (a + b) % 256 := by rw [Int.add_emod, wrap_256, ← Int.add_emod]
theorem chunkR_len (regs D S O : Int) (r0 : 0 ≤ regs) (r1 : regs ≤ 4) : ((chunkR regs D S O).length : Int) = if regs = 0 then 0 else 1 := by
  rcases (by omega : regs = 0 ∨ regs = 1 ∨ regs = 2 ∨ regs = 3 ∨ regs = 4) with rfl | rfl | rfl | rfl | rfl <;> rfl

theorem lay_end {p g n : Nat} {l : List Int} {w W wf : World} (hl : Laid p g n l wf) (hp : Put p g W wf) (hB : Below w.heap.size w W) (h1 : w.heap.size ≤ g) (h2 : w.heap.size ≤ p) (hn : l.length = n) :
    w.heap.size ≤ g ∧ g < wf.heap.size ∧ Below w.heap.size w wf ∧ (∀ i, wf.frozen? ⟨g, i, none⟩ = false) ∧ l.length = n ∧ ∀ i, i < n → wf.cell? ⟨g, i, none⟩ = some (.int .u8 (l.getD i 0)) := by
  refine ⟨h1, hl.lt.2, hB.trans (hp.below hB.size h2 h1), fun i => ?_, hn, fun i hi => ?_⟩
  · rcases hl.own.2 with ⟨h, -⟩ | ⟨g', c, cur, hv, -, hh, -⟩
    · cases h
    · simp only [Value.slice.injEq, Option.some.injEq, Addr.mk.injEq] at hv
      obtain ⟨⟨rfl, -⟩, -⟩ := hv
      exact frozen_of_row _ _ i _ _ hh
  have hil : i < l.length := by omega
  have := hl.own.cellAt i (by omega)
  rw [this]
  simp [bytesV, List.getD_eq_getElem?_getD, hil]

/-- The blocks of a call of lay, as they lie when its first byte is put. -/
theorem lay_world {w w1 w2 : World} {o0 o1 : Obj} {n : Nat} {o3 : Obj} (hb1 : Below ((w.alloc o0).alloc o1).heap.size ((w.alloc o0).alloc o1) w1) (hgrow2 : w1.grownBy w2 none)
    (hown2 : w2.ownsRow w1.heap.size 5 1 (.slice (some ⟨w1.heap.size, 0, none⟩) 0 n) 0 []) :
    ∃ g p, g = w1.heap.size ∧ p = w2.heap.size ∧ w.heap.size + 1 < g ∧ g < p ∧ w2.heap[w.heap.size]? = some o0 ∧ w2.heap[w.heap.size + 1]? = some o1 ∧
      Laid p g n [] ((w2.alloc (.cells #[.slice (some ⟨g, 0, none⟩) 0 n] 22)).alloc o3) ∧ Below w.heap.size w ((w2.alloc (.cells #[.slice (some ⟨g, 0, none⟩) 0 n] 22)).alloc o3) := by
  have s1 := hb1.size
  have s2 := hgrow2.size
  simp only [World.size_alloc] at s1
  have e : ∀ (v : World) (o : Obj) (k : Nat), k < v.heap.size → (v.alloc o).heap[k]? = v.heap[k]? := fun v o k hk => Below.heap_alloc v o k hk
  have hlt : w1.heap.size < w2.heap.size := by
    rcases hown2.2 with ⟨h, -⟩ | ⟨g', c, cur, hv, -, hh, -⟩
    · cases h
    · simp only [Value.slice.injEq, Option.some.injEq, Addr.mk.injEq] at hv
      obtain ⟨⟨rfl, -⟩, -⟩ := hv
      exact (Array.getElem?_eq_some_iff.1 hh).1
  have hB2 : Below w.heap.size w w2 := ((((Below.refl _ _).alloc (Nat.le_refl _) _).alloc (by simp) _).trans (hb1.mono (by simp; omega))).trans ((Below.refl _ _).grown hgrow2 (by omega) (fun k hk => by cases hk))
  refine ⟨_, _, rfl, rfl, by omega, hlt, ?_, ?_, ⟨?_, ?_⟩, (hB2.alloc hB2.size _).alloc (by have := hB2.size; simp; omega) _⟩
  · rw [hgrow2.block _ (by omega) (by simp), hb1.block _ (by simp only [World.size_alloc]; omega), e _ _ _ (by simp)]; exact heap_alloc_last _ _
  · rw [hgrow2.block _ (by omega) (by simp), hb1.block _ (by simp only [World.size_alloc]; omega)]; have := heap_alloc_last (w.alloc o0) o1; simpa using this
  · rw [e _ _ _ (by simp)]; exact heap_alloc_last _ _
  · exact (hown2.alloc _).alloc _

set_option maxRecDepth 100000 in
set_option maxHeartbeats 4000000 in
theorem lay_any (op first count field regs imm : Int) (xop D S O im : Int) (w : World) (i0 : 0 ≤ imm) (i1 : imm ≤ 3) (f0 : 0 ≤ field) (f1 : field ≤ 3) (r0 : 0 ≤ regs) (r1 : regs ≤ 4) (m0 : 0 ≤ im) (m1 : im ≤ 4294967295) (n : Nat) (hn : sizeN regs imm = n) (hn1 : n ≤ 6) (hn0 : 1 ≤ n) :
    Calls Try.prog 23 #[.agg #[.int .u8 op, .int .u8 first, .int .u8 count, .int .u8 field, .int .u8 regs, .int .u8 imm], .agg #[.int .i64 xop, .int .i64 D, .int .i64 S, .int .i64 O, .int .u32 im]] w
      fun e w' => ∃ g, e = .returned (.slice (some ⟨g, 0, none⟩) n n) ∧ w.heap.size ≤ g ∧ g < w'.heap.size ∧ Below w.heap.size w w' ∧ (∀ i, w'.frozen? ⟨g, i, none⟩ = false) ∧ (layL first field regs imm D S O im).length = n ∧ ∀ i, i < n → w'.cell? ⟨g, i, none⟩ = some (.int .u8 ((layL first field regs imm D S O im).getD i 0)) := by
  obtain ⟨t0, hi, hz0, hz1, hz2⟩ := info_parts info5
  have HN : Hid (sizeN regs imm = n) := hn
  go_enter Try.func23, Try.ntmps23
  go_wp2_with (first | (go_at_call 17; refine (size_any _ _ _ _ _ _ _ i0 i1).mono ?_; rintro e w1 ⟨rfl, hb1⟩; rw [hn]; clear hn) | (at_make; refine wpList_make_own _ rfl _ _ 22 rfl w1.heap.size 5 t0 (.int .u8 0) 1 Try.underlying22 hi hz0 hz1 .i64 .i64 n n (by rfl) (by rfl) rfl (by rw [hz2]; omega) (by unfold maxLen; omega) (Nat.le_refl _) ?_; intro w2 hown2 hgrow2; obtain ⟨g, p, rfl, rfl, h1, h2, hR, hX, hL, hB⟩ := lay_world (o3 := .cells #[.int .i64 0, .int .i64 O, .int .i64 S, .int .i64 D] 54) hb1 hgrow2 hown2; obtain ⟨x0, x1, x2, x3, x4⟩ := ins_cells hX; have hz : w.heap.size + 1 < w2.heap.size := (by omega)))
  have hRW := (Below.heap_alloc _ (.cells #[.int .i64 0, .int .i64 O, .int .i64 S, .int .i64 D] 54) w.heap.size (by simp only [World.size_alloc]; omega)).trans ((Below.heap_alloc w2 (.cells #[.slice (some ⟨w1.heap.size, 0, none⟩) 0 n] 22) w.heap.size (by omega)).trans hR)
  have hXW := (Below.heap_alloc _ (.cells #[.int .i64 0, .int .i64 O, .int .i64 S, .int .i64 D] 54) (w.heap.size + 1) (by simp only [World.size_alloc]; omega)).trans ((Below.heap_alloc w2 (.cells #[.slice (some ⟨w1.heap.size, 0, none⟩) 0 n] 22) (w.heap.size + 1) (by omega)).trans hX)
  have hAW := heap_alloc_last (w2.alloc (.cells #[.slice (some ⟨w1.heap.size, 0, none⟩) 0 n] 22)) (.cells #[.int .i64 0, .int .i64 O, .int .i64 S, .int .i64 D] 54)
  simp only [World.size_alloc] at hAW
  have hsW : ((w2.alloc (.cells #[.slice (some ⟨w1.heap.size, 0, none⟩) 0 n] 22)).alloc (.cells #[.int .i64 0, .int .i64 O, .int .i64 S, .int .i64 D] 54)).heap.size = w2.heap.size + 2 := by simp
  generalize (w2.alloc (.cells #[.slice (some ⟨w1.heap.size, 0, none⟩) 0 n] 22)).alloc (.cells #[.int .i64 0, .int .i64 O, .int .i64 S, .int .i64 D] 54) = W at hRW hXW hAW hL hB hsW ⊢
  clear hR hX x0 x1 x2 x3 x4
  obtain ⟨x0, x1, x2, x3, x4⟩ := ins_cells hXW
  have g1 := cell_of_row _ _ 1 _ _ _ hRW
  have g3 := cell_of_row _ _ 3 _ _ _ hRW
  have g4 := cell_of_row _ _ 4 _ _ _ hRW
  have g5 := cell_of_row _ _ 5 _ _ _ hRW
  simp at g1 g3 g4 g5
  have ga : W.cell? ⟨w2.heap.size + 1, field.toNat, none⟩ = some (.int .i64 (abv field D S O)) := by
    rw [cell_of_row _ _ _ _ _ _ hAW]
    rcases (by omega : field = 0 ∨ field = 1 ∨ field = 2 ∨ field = 3) with rfl | rfl | rfl | rfl <;> rfl
  have hpt : w2.heap.size ≠ w1.heap.size := by omega
  have f4 : field < 4 := by omega
  clear hRW hXW hAW hz
  generalize w2.heap.size = p at *
  generalize w1.heap.size = g at *
  go_region_held3 (fun w' => w'.cell? ⟨w.heap.size, 1, none⟩ = some (.int .u8 first) ∧ w'.cell? ⟨w.heap.size, 3, none⟩ = some (.int .u8 field) ∧ w'.cell? ⟨p + 1, field.toNat, none⟩ = some (.int .i64 (abv field D S O))) (go_keep)
    (first | (go_at_call 29; refine (put_any p g n [] _ _ hL.drew (by simp; omega) hpt).mono ?_; rintro e w3 ⟨rfl, hput0, hlaid⟩; have hput := hput0.drew; have y1 := (hput.cell (b := w.heap.size) (o := 1) (by omega) (by omega) (by omega)).trans g1; have y3 := (hput.cell (b := w.heap.size) (o := 3) (by omega) (by omega) (by omega)).trans g3; have ya := (hput.cell (b := p + 1) (o := field.toNat) (by omega) (by omega) (by omega)).trans ga; clear hput0))
  have y4 := (hput.cell (b := w.heap.size) (o := 4) (by omega) (by omega) (by omega)).trans g4
  have y5 := (hput.cell (b := w.heap.size) (o := 5) (by omega) (by omega) (by omega)).trans g5
  have w0 := (hput.cell (b := w.heap.size + 1) (o := 0) (by omega) (by omega) (by omega)).trans x0
  have w1' := (hput.cell (b := w.heap.size + 1) (o := 1) (by omega) (by omega) (by omega)).trans x1
  have w2' := (hput.cell (b := w.heap.size + 1) (o := 2) (by omega) (by omega) (by omega)).trans x2
  have w3' := (hput.cell (b := w.heap.size + 1) (o := 3) (by omega) (by omega) (by omega)).trans x3
  have w4' := (hput.cell (b := w.heap.size + 1) (o := 4) (by omega) (by omega) (by omega)).trans x4
  simp only [List.nil_append, lead_256] at hlaid
  generalize hv0 : (first + abv field D S O) % 256 = v0 at hlaid
  have HV : Hid ((first + abv field D S O) % 256 = v0) := hv0
  clear hv0 hb1 hgrow2 hown2 y1 y3 ya hL
  go_upto_block 0 with fail
  go_cut [] from 9 (fun wx => Put p g W wx ∧ Laid p g n ([v0] ++ chunkR regs D S O) wx)
  case first =>
    rcases (by omega : regs = 0 ∨ regs = 1 ∨ regs = 2 ∨ regs = 3 ∨ regs = 4) with rfl | rfl | rfl | rfl | rfl
    · go_wp2_with fail
      go_meet
      case rel => exact ⟨hput, hlaid⟩
    all_goals
      have hn2 : 2 ≤ n := sz_r' HN.out (by decide) i0 i1
      go_wp2_with (go_at_call 29; refine (put_any p g n [v0] _ _ hlaid (by simp; omega) hpt).mono ?_; rintro e w4 ⟨rfl, hput4, hlaid4⟩)
      go_meet
      case rel => exact ⟨hput.trans hput4, by simpa [chunkR, wrap_256, wrap_add] using hlaid4⟩
  case rest =>
    obtain ⟨hputc, hlaidc⟩ := hcut
    have y5c := (hputc.cell (b := w.heap.size) (o := 5) (by omega) (by omega) (by omega)).trans g5
    have x4c := (hputc.cell (b := w.heap.size + 1) (o := 4) (by omega) (by omega) (by omega)).trans x4
    have hlen := chunkR_len regs D S O r0 r1
    have hlay : layL first field regs imm D S O im = [v0] ++ chunkR regs D S O ++ chunkI imm im := by unfold layL; rw [HV.out]
    have HLAY : Hid (layL first field regs imm D S O im = [v0] ++ chunkR regs D S O ++ chunkI imm im) := hlay
    have hl1 : (([v0] ++ chunkR regs D S O).length : Int) = 1 + if regs = 0 then 0 else 1 := by rw [List.length_append, Int.natCast_add, hlen]; rfl
    have HL1 : Hid ((([v0] ++ chunkR regs D S O).length : Int) = 1 + if regs = 0 then 0 else 1) := hl1
    clear hlay hlen hl1 HV hput hlaid y4 y5 w0 w1' w2' w3' w4'
    generalize [v0] ++ chunkR regs D S O = l1 at hlaidc HLAY HL1
    have hp0 := cell_of_row _ _ 0 _ _ _ hlaidc.ptr
    simp at hp0
    rcases (by omega : imm = 0 ∨ imm = 1 ∨ imm = 2 ∨ imm = 3) with rfl | rfl | rfl | rfl
    · go_wp2_with fail
      have hfin : l1.length = n := by have a := HN.out; have b := HL1.out; unfold sizeN at a; simp only [if_pos] at a; omega
      go_ret
      refine ⟨g, by rw [← hfin]; rfl, ?_⟩
      rw [HLAY.out, show chunkI 0 im = [] from rfl, List.append_nil]
      exact lay_end hlaidc hputc hB (by omega) (by omega) hfin
    · have hln : l1.length + 1 = n := by have a := HN.out; have b := HL1.out; unfold sizeN at a; simp at a; omega
      go_wp2_with (go_at_call 29; refine (put_any p g n l1 _ _ hlaidc (by omega) hpt).mono ?_; rintro e w4 ⟨rfl, hput4, hlaid4⟩; have hp4 := cell_of_row _ _ 0 _ _ _ hlaid4.ptr; simp at hp4)
      have hfin : (l1 ++ [im % 256]).length = n := by simp; omega
      go_ret
      refine ⟨g, by rw [← hln]; rfl, ?_⟩
      rw [HLAY.out, show chunkI 1 im = [im % 256] from rfl]
      exact lay_end hlaid4 (hputc.trans hput4) hB (by omega) (by omega) hfin
    · have hln : l1.length + 1 = n := by have a := HN.out; have b := HL1.out; unfold sizeN at a; simp at a; omega
      go_wp2_with (go_at_call 29; refine (put_any p g n l1 _ _ hlaidc (by omega) hpt).mono ?_; rintro e w4 ⟨rfl, hput4, hlaid4⟩; have hp4 := cell_of_row _ _ 0 _ _ _ hlaid4.ptr; simp at hp4)
      have hfin : (l1 ++ [im % 256]).length = n := by simp; omega
      go_ret
      refine ⟨g, by rw [← hln]; rfl, ?_⟩
      rw [HLAY.out, show chunkI 2 im = [im % 256] from rfl]
      exact lay_end hlaid4 (hputc.trans hput4) hB (by omega) (by omega) hfin
    · have hln : l1.length + 4 = n := by have a := HN.out; have b := HL1.out; unfold sizeN at a; simp at a; omega
      go_wp2_with fail
      refine wp_loop_rounds 5 ?_
      rw [rounds_succ]
      go_wp2_with (go_at_call 29; refine (put_any p g n l1 _ _ hlaidc (by omega) hpt).mono ?_; rintro e w4 ⟨rfl, hput4, hlaid4⟩; have hq4 := hputc.trans hput4; have x4d := (hq4.cell (b := w.heap.size + 1) (o := 4) (by omega) (by omega) (by omega)).trans x4)
      rw [rounds_succ]
      go_wp2_with (go_at_call 29; refine (put_any p g n _ _ _ hlaid4 (by simp; omega) hpt).mono ?_; rintro e w5 ⟨rfl, hput5, hlaid5⟩; have hq5 := hq4.trans hput5; have x4e := (hq5.cell (b := w.heap.size + 1) (o := 4) (by omega) (by omega) (by omega)).trans x4)
      rw [rounds_succ]
      go_wp2_with (go_at_call 29; refine (put_any p g n _ _ _ hlaid5 (by simp; omega) hpt).mono ?_; rintro e w6 ⟨rfl, hput6, hlaid6⟩; have hq6 := hq5.trans hput6; have x4f := (hq6.cell (b := w.heap.size + 1) (o := 4) (by omega) (by omega) (by omega)).trans x4)
      rw [rounds_succ]
      go_wp2_with (go_at_call 29; refine (put_any p g n _ _ _ hlaid6 (by simp; omega) hpt).mono ?_; rintro e w7 ⟨rfl, hput7, hlaid7⟩; have hq7 := hq6.trans hput7; have hp7 := cell_of_row _ _ 0 _ _ _ hlaid7.ptr; simp at hp7)
      rw [rounds_succ]
      go_wp2_with fail
      have hfin : (l1 ++ [im % 256, im / 256 % 256, im / 65536 % 256, im / 16777216 % 256]).length = n := by simp; omega
      go_ret
      refine ⟨g, by rw [← hln]; rfl, ?_⟩
      rw [HLAY.out, show chunkI 3 im = [im % 256, im / 256 % 256, im / 65536 % 256, im / 16777216 % 256] from rfl]
      exact lay_end (by simpa using hlaid7) hq7 hB (by omega) (by omega) hfin

end Go.Proofs.Ytnnnmhpbdkalaaa
