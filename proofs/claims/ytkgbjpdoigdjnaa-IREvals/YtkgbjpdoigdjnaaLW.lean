import Derived.Test.YtkgbjpdoigdjnaaEZ
import Derived.Test.YtkgbjpdoigdjnaaBO
import Derived.Test.YtkgbjpdoigdjnaaCV
import Derived.ChangeKeysEq
namespace Go.Proofs.Ytkgbjpdoigdjnaa
open Go.RowKit
set_option maxRecDepth 100000
set_option linter.unusedVariables false
set_option linter.unusedSimpArgs false
theorem eq1 (d : Nat) (x : Int) (w : World) : (Op.equalIn (d + 1) 24 (.int .u32 x) (.int .u32 x)).run Try.prog w = .ok true w := by
  rw [run_equalIn_int w d 24 .u32 .u32 x x Try.underlying24]
  simp
theorem part1 (xs : Array Value) (i : Nat) (x : Int) (h : xs[i]? = some (.int .u32 x)) (w : World) : (part 24 xs i).run Try.prog w = .ok (.int .u32 x) w := by
  simp [part, h, go_sem]
theorem eq12 (a0 a1 a2 a3 a4 a5 a6 a7 a8 a9 a10 a11 : Int) (w : World) : (Op.equalIn 10000 89 (.agg #[.int .u32 a0, .int .u32 a1, .int .u32 a2, .int .u32 a3, .int .u32 a4, .int .u32 a5, .int .u32 a6, .int .u32 a7, .int .u32 a8, .int .u32 a9, .int .u32 a10, .int .u32 a11]) (.agg #[.int .u32 a0, .int .u32 a1, .int .u32 a2, .int .u32 a3, .int .u32 a4, .int .u32 a5, .int .u32 a6, .int .u32 a7, .int .u32 a8, .int .u32 a9, .int .u32 a10, .int .u32 a11])).run Try.prog w = .ok true w := by
  obtain ⟨i, hi⟩ : ∃ i, Try.prog.info? 24 = some i := ⟨_, rfl⟩
  have hc : Try.prog.cellsOf 24 = 1 := by kernel_rfl
  rw [show (10000 : Nat) = 9999 + 1 from rfl, run_equalIn_array w 9999 _ _ Try.underlying89 hi, hc]
  have e := fun x => eq1 9998 x w
  have p := fun xs i x h => part1 xs i x h w
  simp [List.range, List.range.loop, Op.eqItems, e, p]


theorem PartAt.below {W w : World} {b o : Nat} {A : Int} {bp : Option Addr} {n c : Nat} {R : Int} {z : Nat → Int} (h : PartAt W b o A bp n c R z) (k : Below W.heap.size W w) : PartAt w b o A bp n c R z :=
  ⟨(k.cell (p := ⟨b, o, none⟩) (lt_of_cell h.c0)).trans h.c0, (k.cell (p := ⟨b, o + 1, none⟩) (lt_of_cell h.c1)).trans h.c1, (k.cell (p := ⟨b, o + 2, none⟩) (lt_of_cell h.c2)).trans h.c2, h.hA, fun h0 => by
    obtain ⟨b', off', e, hc⟩ := h.row h0
    exact ⟨b', off', e, fun i hi => (k.cell (p := ⟨b', off' + i, none⟩) (lt_of_cell (hc i hi))).trans (hc i hi)⟩, h.le, h.bd⟩
theorem Parts.below {W w : World} {sp : Option Addr} {len : Nat} (h : Parts W sp len) (k : Below W.heap.size W w) : Parts w sp len :=
  ⟨fun h0 => by
    obtain ⟨b, off, e, hc⟩ := h.row h0
    exact ⟨b, off, e, fun i hi => by obtain ⟨A, bp, n, c, R, z, hp⟩ := hc i hi; exact ⟨A, bp, n, c, R, z, hp.below k⟩⟩, h.le⟩
theorem Marks.below {W w : World} {sp : Option Addr} {len : Nat} (h : Marks W sp len) (k : Below W.heap.size W w) : Marks w sp len :=
  ⟨fun h0 => by
    obtain ⟨b, off, e, hc⟩ := h.row h0
    exact ⟨b, off, e, fun i hi => by obtain ⟨v, hv⟩ := hc i hi; exact ⟨v, (k.cell (p := ⟨b, off + i, none⟩) (lt_of_cell hv)).trans hv⟩⟩, h.le⟩
theorem runO_ok (f : Nat → OpR) : ∀ (m i : Nat) (q : Sq), StOk q → (∀ j, i ≤ j → j < i + m → (f j).k < 4294967296) → StOk (runO f m i q).1
  | 0, i, q, h, _ => h
  | m + 1, i, q, h, hk => by
    simp only [runO]
    have hn := nextO_ok (f i) i q h (hk i (by omega) (by omega))
    split
    · exact hn
    · exact runO_ok f m (i + 1) _ hn (fun j h1 h2 => hk j (by omega) (by omega))
theorem evF_ok (count bytes : Int) (n : Nat) (f : Nat → OpR) (c : Nat → Nat) (s : MS) (hc : cxOk c) (hs : s.Ok) (hk : ∀ j, j < n → (f j).k < 4294967296) : (evF count bytes n f c s).s.Ok := by
  unfold evF
  split
  · exact (runO_ok f n 0 ⟨c, s, fun _ => 0⟩ ⟨hc, hs, fun i => (show (0 : Nat) < 4294967296 by decide)⟩ (fun j _ h2 => hk j (by omega))).s
  · exact hs
theorem w2_bel (W : World) (o1 o2 : Obj) : Below W.heap.size W ((W.alloc o1).alloc o2) := ((Below.refl _ _).alloc (Nat.le_refl _) _).alloc (by simp) _
theorem w2_a (W : World) (o1 o2 : Obj) : ((W.alloc o1).alloc o2).heap[W.heap.size]? = some o1 := (al_old _ _ _ (by simp)).trans (heap_alloc_last W _)
theorem w2_b (W : World) (o1 o2 : Obj) : ((W.alloc o1).alloc o2).heap[W.heap.size + 1]? = some o2 := by
  have := heap_alloc_last (W.alloc o1) o2
  rwa [show (W.alloc o1).heap.size = W.heap.size + 1 by simp] at this
/-- The statement's first two blocks, and the operations that came in. -/
structure Fst (W wx : World) (pc : Nat) (count bytes : Int) (bp : Option Addr) (n cap : Nat) (c : Nat → Nat) (f : Nat → OpR) : Prop where
  b4 : wx.heap[W.heap.size]? = some (.cells #[.int .u32 pc, .int .i64 count, .int .i64 bytes, .slice bp n cap] 82)
  b5 : wx.heap[W.heap.size + 1]? = some (.cells (cxA c) 89)
  o : OpsR wx bp n f
theorem BS.fst {W wx : World} {X : Nat} {k : RB} {m1 m2 : MS} {pc : Nat} {count bytes : Int} {bp : Option Addr} {n cap : Nat} {c : Nat → Nat} {f : Nat → OpR} (h : BS ((W.alloc (.cells #[.int .u32 pc, .int .i64 count, .int .i64 bytes, .slice bp n cap] 82)).alloc (.cells (cxA c) 89)) wx X k m1 m2) (hO : OpsR W bp n f) : Fst W wx pc count bytes bp n cap c f :=
  ⟨(h.bel.block _ (by simp; omega)).trans (w2_a W _ _), (h.bel.block _ (by simp)).trans (w2_b W _ _), (hO.below (w2_bel W _ _) (Nat.le_refl _)).below h.bel (Nat.le_refl _)⟩
theorem nX_of {W w0 : World} {X : Nat} {k : RB} {m1 m2 : MS} {pc : Nat} {count bytes : Int} {bp : Option Addr} {n cap : Nat} {c : Nat → Nat} {f : Nat → OpR} (hO : OpsR W bp n f) (h : BS ((W.alloc (.cells #[.int .u32 pc, .int .i64 count, .int .i64 bytes, .slice bp n cap] 82)).alloc (.cells (cxA c) 89)) w0 X k m1 m2) : 0 < n → ∀ b off, bp = some ⟨b, off, none⟩ → b ≠ X := fun h0 b off e he => by
  obtain ⟨b', off', e', hl, -⟩ := hO h0
  rw [e'] at e
  cases e
  have := h.far X List.mem_cons_self
  simp at this
  omega
theorem nK_of {w0 w : World} {W' : World} {X : Nat} {k : RB} {m1 m2 : MS} {bp' : Option Addr} (h : BS W' w0 X k m1 m2) (hf : ∀ b off, bp' = some ⟨b, off, none⟩ → w0.heap.size ≤ b) : ∀ b off, bp' = some ⟨b, off, none⟩ → b ∉ k.all := fun b off e => h.nK (hf b off e)
theorem nX_of' {w0 : World} {W' : World} {X : Nat} {k : RB} {m1 m2 : MS} {bp' : Option Addr} (h : BS W' w0 X k m1 m2) (hf : ∀ b off, bp' = some ⟨b, off, none⟩ → w0.heap.size ≤ b) : ∀ b off, bp' = some ⟨b, off, none⟩ → b ∉ [X] := fun b off e => h.nX (hf b off e)
set_option maxHeartbeats 16000000 in
theorem evals_walk (pc : Nat) (count bytes : Int) (bp pp mp : Option Addr) (n cap plen pcap mlen mcap : Nat) (f : Nat → OpR) (c : Nat → Nat) (W : World) (hO : OpsR W bp n f) (hby : n * 56 ≤ 140737488355328) (hcap : n ≤ cap) (hk : ∀ j, j < n → (f j).k < 4294967296) (hc : cxOk c) (hp : Parts W pp plen) (hm : Marks W mp mlen) :
    Calls Try.prog 12 #[.agg #[.int .u32 pc, .int .i64 count, .int .i64 bytes, .slice bp n cap], cxV c, .slice pp plen pcap, .slice mp mlen mcap] W fun e w' => e = .returned (.bool true) ∧ Below W.heap.size W w' := by
  have HO : Hid (OpsR W bp n f) := hO
  have HBY : Hid _ := hby
  have HCAP : Hid _ := hcap
  have HN : Hid (n < 9223372036854775807) := show n < 9223372036854775807 by omega
  have HK : Hid _ := hk
  have HCX : Hid (cxOk c) := hc
  have HPs : Hid _ := hp
  have HMs : Hid _ := hm
  clear hO hby hcap hk hc hp hm
  go_enter Try.func12, Try.ntmps12
  go_upto_region 5 with first
    | (go_at_call 46; refine (both_any pp mp plen pcap mlen mcap _ (HPs.out.below (w2_bel W _ _)) (HMs.out.below (w2_bel W _ _))).mono ?_; rintro e w0 ⟨X, k, m, rfl, hB0⟩; have HB0 : Hid (BS ((W.alloc (.cells #[.int .u32 pc, .int .i64 count, .int .i64 bytes, .slice bp n cap] 82)).alloc (.cells (cxA c) 89)) w0 X k m m) := hB0; have HF0 : Hid (Fst W w0 pc count bytes bp n cap c f) := hB0.fst HO.out; have a0 : w0.cell? ⟨W.heap.size, 0, none⟩ = some (.int .u32 pc) := row_cell HF0.out.b4 0; have a1 : w0.cell? ⟨W.heap.size, 1, none⟩ = some (.int .i64 count) := row_cell HF0.out.b4 1; have a2 : w0.cell? ⟨W.heap.size, 2, none⟩ = some (.int .i64 bytes) := row_cell HF0.out.b4 2; have a3 : w0.cell? ⟨W.heap.size, 3, none⟩ = some (.slice bp n cap) := row_cell HF0.out.b4 3; have c0 : w0.cell? ⟨W.heap.size + 1, 0, none⟩ = some (.int .u32 (c 0)) := row_cell HF0.out.b5 0; have c1 : w0.cell? ⟨W.heap.size + 1, 1, none⟩ = some (.int .u32 (c 1)) := row_cell HF0.out.b5 1; have c2 : w0.cell? ⟨W.heap.size + 1, 2, none⟩ = some (.int .u32 (c 2)) := row_cell HF0.out.b5 2; have c3 : w0.cell? ⟨W.heap.size + 1, 3, none⟩ = some (.int .u32 (c 3)) := row_cell HF0.out.b5 3; have c4 : w0.cell? ⟨W.heap.size + 1, 4, none⟩ = some (.int .u32 (c 4)) := row_cell HF0.out.b5 4; have c5 : w0.cell? ⟨W.heap.size + 1, 5, none⟩ = some (.int .u32 (c 5)) := row_cell HF0.out.b5 5; have c6 : w0.cell? ⟨W.heap.size + 1, 6, none⟩ = some (.int .u32 (c 6)) := row_cell HF0.out.b5 6; have c7 : w0.cell? ⟨W.heap.size + 1, 7, none⟩ = some (.int .u32 (c 7)) := row_cell HF0.out.b5 7; have c8 : w0.cell? ⟨W.heap.size + 1, 8, none⟩ = some (.int .u32 (c 8)) := row_cell HF0.out.b5 8; have c9 : w0.cell? ⟨W.heap.size + 1, 9, none⟩ = some (.int .u32 (c 9)) := row_cell HF0.out.b5 9; have c10 : w0.cell? ⟨W.heap.size + 1, 10, none⟩ = some (.int .u32 (c 10)) := row_cell HF0.out.b5 10; have c11 : w0.cell? ⟨W.heap.size + 1, 11, none⟩ = some (.int .u32 (c 11)) := row_cell HF0.out.b5 11; have l4 := row_lt HF0.out.b4; have l5 := row_lt HF0.out.b5; clear hB0)
    | (go_at_call 40; refine (twin_new pc count bytes bp n cap f _ HF0.out.o HBY.out).mono ?_; rintro e w1 ⟨bp', cap', rfl, hO', hc', hB', hfr⟩; have HB1 : Hid (BS ((W.alloc (.cells #[.int .u32 pc, .int .i64 count, .int .i64 bytes, .slice bp n cap] 82)).alloc (.cells (cxA c) 89)) w1 X k m m) := HB0.out.below hB'; have HF1 : Hid (Fst W w1 pc count bytes bp n cap c f) := HB1.out.fst HO.out; have HO1 : Hid (OpsR (w1.alloc (.cells #[.int .u32 pc, .int .i64 count, .int .i64 bytes, .slice bp' n cap'] 82)) bp' n f) := hO'.below ((Below.refl _ _).alloc (Nat.le_refl _) _) (Nat.le_refl _); have HC1 : Hid _ := hc'; have HFR : Hid (∀ b off, bp' = some ⟨b, off, none⟩ → w0.heap.size ≤ b) := hfr; have HT1 : Hid ((w1.alloc (.cells #[.int .u32 pc, .int .i64 count, .int .i64 bytes, .slice bp' n cap'] 82)).heap[w1.heap.size]? = some (.cells #[.int .u32 pc, .int .i64 count, .int .i64 bytes, .slice bp' n cap'] 82)) := heap_alloc_last w1 _; clear hO' hc' hB' hfr a0 a1 a2 a3 c0 c1 c2 c3 c4 c5 c6 c7 c8 c9 c10 c11 l4 l5; have a0 : w1.cell? ⟨W.heap.size, 0, none⟩ = some (.int .u32 pc) := row_cell HF1.out.b4 0; have a1 : w1.cell? ⟨W.heap.size, 1, none⟩ = some (.int .i64 count) := row_cell HF1.out.b4 1; have a2 : w1.cell? ⟨W.heap.size, 2, none⟩ = some (.int .i64 bytes) := row_cell HF1.out.b4 2; have a3 : w1.cell? ⟨W.heap.size, 3, none⟩ = some (.slice bp n cap) := row_cell HF1.out.b4 3; have c0 : w1.cell? ⟨W.heap.size + 1, 0, none⟩ = some (.int .u32 (c 0)) := row_cell HF1.out.b5 0; have c1 : w1.cell? ⟨W.heap.size + 1, 1, none⟩ = some (.int .u32 (c 1)) := row_cell HF1.out.b5 1; have c2 : w1.cell? ⟨W.heap.size + 1, 2, none⟩ = some (.int .u32 (c 2)) := row_cell HF1.out.b5 2; have c3 : w1.cell? ⟨W.heap.size + 1, 3, none⟩ = some (.int .u32 (c 3)) := row_cell HF1.out.b5 3; have c4 : w1.cell? ⟨W.heap.size + 1, 4, none⟩ = some (.int .u32 (c 4)) := row_cell HF1.out.b5 4; have c5 : w1.cell? ⟨W.heap.size + 1, 5, none⟩ = some (.int .u32 (c 5)) := row_cell HF1.out.b5 5; have c6 : w1.cell? ⟨W.heap.size + 1, 6, none⟩ = some (.int .u32 (c 6)) := row_cell HF1.out.b5 6; have c7 : w1.cell? ⟨W.heap.size + 1, 7, none⟩ = some (.int .u32 (c 7)) := row_cell HF1.out.b5 7; have c8 : w1.cell? ⟨W.heap.size + 1, 8, none⟩ = some (.int .u32 (c 8)) := row_cell HF1.out.b5 8; have c9 : w1.cell? ⟨W.heap.size + 1, 9, none⟩ = some (.int .u32 (c 9)) := row_cell HF1.out.b5 9; have c10 : w1.cell? ⟨W.heap.size + 1, 10, none⟩ = some (.int .u32 (c 10)) := row_cell HF1.out.b5 10; have c11 : w1.cell? ⟨W.heap.size + 1, 11, none⟩ = some (.int .u32 (c 11)) := row_cell HF1.out.b5 11; have l4 := row_lt HF1.out.b4; have l5 := row_lt HF1.out.b5)
  obtain ⟨E, HE⟩ : ∃ E, Hid (evF count bytes n f c m = E) := ⟨_, rfl⟩
  have HEO : Hid E.s.Ok := HE.out ▸ evF_ok count bytes n f c m HCX.out HB0.out.ok1 HK.out
  have HA1 : Hid (Calls Try.prog 47 #[.agg #[.int .u32 pc, .int .i64 count, .int .i64 bytes, .slice bp n cap], cxV c, .pointer (some ⟨X, 0, none⟩)] (w1.alloc (.cells #[.int .u32 pc, .int .i64 count, .int .i64 bytes, .slice bp' n cap'] 82)) fun e w' => e = .returned (.tuple #[cxV E.c, exR E.x, .int .i64 E.e]) ∧ BS ((W.alloc (.cells #[.int .u32 pc, .int .i64 count, .int .i64 bytes, .slice bp n cap] 82)).alloc (.cells (cxA c) 89)) w' X k E.s m ∧ w'.heap[w1.heap.size]? = some (.cells #[.int .u32 pc, .int .i64 count, .int .i64 bytes, .slice bp' n cap'] 82) ∧ OpsR w' bp' n f) := by
    show Calls _ _ _ _ _
    have h1 := HB1.out.alloc (.cells #[.int .u32 pc, .int .i64 count, .int .i64 bytes, .slice bp' n cap'] 82)
    refine (peval_any pc count bytes bp n cap X f c m _ holds_ok (h1.fst HO.out (pc := pc) (count := count) (bytes := bytes) (cap := cap) (c := c)).o (nX_of HO.out HB0.out) HK.out HCAP.out HN.out HCX.out HB1.out.ok1 h1.pm).mono ?_
    rintro e w' ⟨rfl, hP, hC⟩
    rw [HE.out] at *
    exact ⟨rfl, h1.x hP HEO.out hC, (hC.block _ (by simp) (HB1.out.nX (Nat.le_refl _))).trans HT1.out, HO1.out.chg (nX_of' HB0.out HFR.out) hC⟩
  have HA2 : Hid (∀ w2, BS ((W.alloc (.cells #[.int .u32 pc, .int .i64 count, .int .i64 bytes, .slice bp n cap] 82)).alloc (.cells (cxA c) 89)) w2 X k E.s m → w2.heap[w1.heap.size]? = some (.cells #[.int .u32 pc, .int .i64 count, .int .i64 bytes, .slice bp' n cap'] 82) → OpsR w2 bp' n f → Calls Try.prog 48 #[.agg #[.int .u32 pc, .int .i64 count, .int .i64 bytes, .slice bp' n cap'], cxV c, .pointer (some ⟨k.y, 0, none⟩)] ((w2.alloc (.cells (cxA E.c) 89)).alloc (.cells (exA E.x) 93)) fun e w' => e = .returned (.tuple #[cxV E.c, exR E.x, .int .i64 E.e]) ∧ BS ((W.alloc (.cells #[.int .u32 pc, .int .i64 count, .int .i64 bytes, .slice bp n cap] 82)).alloc (.cells (cxA c) 89)) w' X k E.s E.s ∧ w'.heap[w1.heap.size]? = some (.cells #[.int .u32 pc, .int .i64 count, .int .i64 bytes, .slice bp' n cap'] 82) ∧ OpsR w' bp' n f ∧ w'.heap[w2.heap.size]? = some (.cells (cxA E.c) 89) ∧ w'.heap[w2.heap.size + 1]? = some (.cells (exA E.x) 93)) := show ∀ w2, _ from fun w2 hB hT hO2 => by
    have h1 := (hB.alloc (.cells (cxA E.c) 89)).alloc (.cells (exA E.x) 93)
    have hO3 : OpsR ((w2.alloc (.cells (cxA E.c) 89)).alloc (.cells (exA E.x) 93)) bp' n f := hO2.below (w2_bel w2 _ _) (Nat.le_refl _)
    have hn := nK_of HB0.out HFR.out (w := w2)
    refine (reval_any pc count bytes bp' n cap' k f c m _ hO3 (fun _ => hn) HK.out HN.out HCX.out HB0.out.ok1 h1.rm).mono ?_
    rintro e w' ⟨rfl, hR, hC⟩
    rw [HE.out] at *
    have lw := row_lt hT
    exact ⟨rfl, h1.k hR HEO.out hC, (hC.block _ (by simp; omega) (HB1.out.nK (Nat.le_refl _))).trans (((w2_bel w2 _ _).block _ lw).trans hT), hO3.chg hn hC, (hC.block _ (by simp; omega) (hB.nK (Nat.le_refl _))).trans (w2_a w2 _ _), (hC.block _ (by simp) (hB.nK (by omega))).trans (w2_b w2 _ _)⟩
  clear HK HPs HMs
  go_upto_region 7 with first
    | (go_at_call 47; refine HA1.out.mono ?_; rintro e w2 ⟨rfl, hB2, hT2, hO2⟩; have HB2 : Hid _ := hB2; have HT2 : Hid _ := hT2; have HO2 : Hid (OpsR w2 bp' n f) := hO2; have HF2 : Hid (Fst W w2 pc count bytes bp n cap c f) := hB2.fst HO.out; clear hB2 hT2 hO2 a0 a1 a2 a3 c0 c1 c2 c3 c4 c5 c6 c7 c8 c9 c10 c11 l4 l5; have a0 : w2.cell? ⟨W.heap.size, 0, none⟩ = some (.int .u32 pc) := row_cell HF2.out.b4 0; have a1 : w2.cell? ⟨W.heap.size, 1, none⟩ = some (.int .i64 count) := row_cell HF2.out.b4 1; have a2 : w2.cell? ⟨W.heap.size, 2, none⟩ = some (.int .i64 bytes) := row_cell HF2.out.b4 2; have a3 : w2.cell? ⟨W.heap.size, 3, none⟩ = some (.slice bp n cap) := row_cell HF2.out.b4 3; have c0 : w2.cell? ⟨W.heap.size + 1, 0, none⟩ = some (.int .u32 (c 0)) := row_cell HF2.out.b5 0; have c1 : w2.cell? ⟨W.heap.size + 1, 1, none⟩ = some (.int .u32 (c 1)) := row_cell HF2.out.b5 1; have c2 : w2.cell? ⟨W.heap.size + 1, 2, none⟩ = some (.int .u32 (c 2)) := row_cell HF2.out.b5 2; have c3 : w2.cell? ⟨W.heap.size + 1, 3, none⟩ = some (.int .u32 (c 3)) := row_cell HF2.out.b5 3; have c4 : w2.cell? ⟨W.heap.size + 1, 4, none⟩ = some (.int .u32 (c 4)) := row_cell HF2.out.b5 4; have c5 : w2.cell? ⟨W.heap.size + 1, 5, none⟩ = some (.int .u32 (c 5)) := row_cell HF2.out.b5 5; have c6 : w2.cell? ⟨W.heap.size + 1, 6, none⟩ = some (.int .u32 (c 6)) := row_cell HF2.out.b5 6; have c7 : w2.cell? ⟨W.heap.size + 1, 7, none⟩ = some (.int .u32 (c 7)) := row_cell HF2.out.b5 7; have c8 : w2.cell? ⟨W.heap.size + 1, 8, none⟩ = some (.int .u32 (c 8)) := row_cell HF2.out.b5 8; have c9 : w2.cell? ⟨W.heap.size + 1, 9, none⟩ = some (.int .u32 (c 9)) := row_cell HF2.out.b5 9; have c10 : w2.cell? ⟨W.heap.size + 1, 10, none⟩ = some (.int .u32 (c 10)) := row_cell HF2.out.b5 10; have c11 : w2.cell? ⟨W.heap.size + 1, 11, none⟩ = some (.int .u32 (c 11)) := row_cell HF2.out.b5 11; have l4 := row_lt HF2.out.b4; have l5 := row_lt HF2.out.b5; have t0 : w2.cell? ⟨w1.heap.size, 0, none⟩ = some (.int .u32 pc) := row_cell HT2.out 0; have t1 : w2.cell? ⟨w1.heap.size, 1, none⟩ = some (.int .i64 count) := row_cell HT2.out 1; have t2 : w2.cell? ⟨w1.heap.size, 2, none⟩ = some (.int .i64 bytes) := row_cell HT2.out 2; have t3 : w2.cell? ⟨w1.heap.size, 3, none⟩ = some (.slice bp' n cap') := row_cell HT2.out 3; have lt := row_lt HT2.out; have l41 := Nat.lt_succ_of_lt l4; have l51 := Nat.lt_succ_of_lt l5; have lt1 := Nat.lt_succ_of_lt lt)
    | (go_at_call 48; refine (HA2.out _ HB2.out HT2.out HO2.out).mono ?_; rintro e w3 ⟨rfl, hB3, hT3, hO3, hD, hX3⟩; have HB3 : Hid _ := hB3; have HT3 : Hid _ := hT3; have HO3 : Hid (OpsR w3 bp' n f) := hO3; have HD3 : Hid _ := hD; have HX3 : Hid _ := hX3; have HF3 : Hid (Fst W w3 pc count bytes bp n cap c f) := hB3.fst HO.out; clear hB3 hT3 hO3 hD hX3 a0 a1 a2 a3 c0 c1 c2 c3 c4 c5 c6 c7 c8 c9 c10 c11 l4 l5 t0 t1 t2 t3 lt l41 l51 lt1)
  have HB4 : Hid (BS ((W.alloc (.cells #[.int .u32 pc, .int .i64 count, .int .i64 bytes, .slice bp n cap] 82)).alloc (.cells (cxA c) 89)) ((w3.alloc (.cells (cxA E.c) 89)).alloc (.cells (exA E.x) 93)) X k E.s E.s) := (HB3.out.alloc _).alloc _
  obtain ⟨tb, HTB⟩ : ∃ tb, Hid (touchB E.s = tb) := ⟨_, rfl⟩
  have HOb : Hid (OpsR ((w3.alloc (.cells (cxA E.c) 89)).alloc (.cells (exA E.x) 93)) bp n f) := HF3.out.o.below (w2_bel w3 _ _) (Nat.le_refl _)
  have HOb' : Hid (OpsR ((w3.alloc (.cells (cxA E.c) 89)).alloc (.cells (exA E.x) 93)) bp' n f) := HO3.out.below (w2_bel w3 _ _) (Nat.le_refl _)
  have d0 : w3.cell? ⟨w2.heap.size, 0, none⟩ = some (.int .u32 (E.c 0)) := row_cell HD3.out 0
  have d1 : w3.cell? ⟨w2.heap.size, 1, none⟩ = some (.int .u32 (E.c 1)) := row_cell HD3.out 1
  have d2 : w3.cell? ⟨w2.heap.size, 2, none⟩ = some (.int .u32 (E.c 2)) := row_cell HD3.out 2
  have d3 : w3.cell? ⟨w2.heap.size, 3, none⟩ = some (.int .u32 (E.c 3)) := row_cell HD3.out 3
  have d4 : w3.cell? ⟨w2.heap.size, 4, none⟩ = some (.int .u32 (E.c 4)) := row_cell HD3.out 4
  have d5 : w3.cell? ⟨w2.heap.size, 5, none⟩ = some (.int .u32 (E.c 5)) := row_cell HD3.out 5
  have d6 : w3.cell? ⟨w2.heap.size, 6, none⟩ = some (.int .u32 (E.c 6)) := row_cell HD3.out 6
  have d7 : w3.cell? ⟨w2.heap.size, 7, none⟩ = some (.int .u32 (E.c 7)) := row_cell HD3.out 7
  have d8 : w3.cell? ⟨w2.heap.size, 8, none⟩ = some (.int .u32 (E.c 8)) := row_cell HD3.out 8
  have d9 : w3.cell? ⟨w2.heap.size, 9, none⟩ = some (.int .u32 (E.c 9)) := row_cell HD3.out 9
  have d10 : w3.cell? ⟨w2.heap.size, 10, none⟩ = some (.int .u32 (E.c 10)) := row_cell HD3.out 10
  have d11 : w3.cell? ⟨w2.heap.size, 11, none⟩ = some (.int .u32 (E.c 11)) := row_cell HD3.out 11
  have x0 : w3.cell? ⟨w2.heap.size + 1, 0, none⟩ = some (.int .i64 E.x.k) := row_cell HX3.out 0
  have x1 : w3.cell? ⟨w2.heap.size + 1, 1, none⟩ = some (.int .u32 E.x.a) := row_cell HX3.out 1
  have x2 : w3.cell? ⟨w2.heap.size + 1, 2, none⟩ = some (.int .u32 E.x.pc) := row_cell HX3.out 2
  have x3 : w3.cell? ⟨w2.heap.size + 1, 3, none⟩ = some (.int .i64 E.x.n) := row_cell HX3.out 3
  have ld := row_lt HD3.out
  have lx := row_lt HX3.out
  have ld1 := Nat.lt_succ_of_lt ld
  have lx1 := Nat.lt_succ_of_lt lx
  have E12 := fun w => eq12 (E.c 0) (E.c 1) (E.c 2) (E.c 3) (E.c 4) (E.c 5) (E.c 6) (E.c 7) (E.c 8) (E.c 9) (E.c 10) (E.c 11) w
  go_wp2_with first
    | (go_at_call 49; refine (alike_any X k E.s _ HB4.out.pm HB4.out.rm).mono ?_; rintro e w5 ⟨rfl, h5⟩; have HB5 : Hid _ := HB4.out.below h5; have HOc : Hid (OpsR w5 bp n f) := HOb.out.below h5 (Nat.le_refl _); have HOc' : Hid (OpsR w5 bp' n f) := HOb'.out.below h5 (Nat.le_refl _); have HF5 : Hid (Fst W w5 pc count bytes bp n cap c f) := HB5.out.fst HO.out; have HT5 : Hid (w5.heap[w1.heap.size]? = some (.cells #[.int .u32 pc, .int .i64 count, .int .i64 bytes, .slice bp' n cap'] 82)) := (h5.block _ (by have := row_lt HT3.out; simp; omega)).trans (((w2_bel w3 _ _).block _ (row_lt HT3.out)).trans HT3.out); clear h5 d0 d1 d2 d3 d4 d5 d6 d7 d8 d9 d10 d11 x0 x1 x2 x3; have a0 : w5.cell? ⟨W.heap.size, 0, none⟩ = some (.int .u32 pc) := row_cell HF5.out.b4 0; have a1 : w5.cell? ⟨W.heap.size, 1, none⟩ = some (.int .i64 count) := row_cell HF5.out.b4 1; have a2 : w5.cell? ⟨W.heap.size, 2, none⟩ = some (.int .i64 bytes) := row_cell HF5.out.b4 2; have a3 : w5.cell? ⟨W.heap.size, 3, none⟩ = some (.slice bp n cap) := row_cell HF5.out.b4 3; have c0 : w5.cell? ⟨W.heap.size + 1, 0, none⟩ = some (.int .u32 (c 0)) := row_cell HF5.out.b5 0; have c1 : w5.cell? ⟨W.heap.size + 1, 1, none⟩ = some (.int .u32 (c 1)) := row_cell HF5.out.b5 1; have c2 : w5.cell? ⟨W.heap.size + 1, 2, none⟩ = some (.int .u32 (c 2)) := row_cell HF5.out.b5 2; have c3 : w5.cell? ⟨W.heap.size + 1, 3, none⟩ = some (.int .u32 (c 3)) := row_cell HF5.out.b5 3; have c4 : w5.cell? ⟨W.heap.size + 1, 4, none⟩ = some (.int .u32 (c 4)) := row_cell HF5.out.b5 4; have c5 : w5.cell? ⟨W.heap.size + 1, 5, none⟩ = some (.int .u32 (c 5)) := row_cell HF5.out.b5 5; have c6 : w5.cell? ⟨W.heap.size + 1, 6, none⟩ = some (.int .u32 (c 6)) := row_cell HF5.out.b5 6; have c7 : w5.cell? ⟨W.heap.size + 1, 7, none⟩ = some (.int .u32 (c 7)) := row_cell HF5.out.b5 7; have c8 : w5.cell? ⟨W.heap.size + 1, 8, none⟩ = some (.int .u32 (c 8)) := row_cell HF5.out.b5 8; have c9 : w5.cell? ⟨W.heap.size + 1, 9, none⟩ = some (.int .u32 (c 9)) := row_cell HF5.out.b5 9; have c10 : w5.cell? ⟨W.heap.size + 1, 10, none⟩ = some (.int .u32 (c 10)) := row_cell HF5.out.b5 10; have c11 : w5.cell? ⟨W.heap.size + 1, 11, none⟩ = some (.int .u32 (c 11)) := row_cell HF5.out.b5 11; have l4 := row_lt HF5.out.b4; have l5 := row_lt HF5.out.b5; have t0 : w5.cell? ⟨w1.heap.size, 0, none⟩ = some (.int .u32 pc) := row_cell HT5.out 0; have t1 : w5.cell? ⟨w1.heap.size, 1, none⟩ = some (.int .i64 count) := row_cell HT5.out 1; have t2 : w5.cell? ⟨w1.heap.size, 2, none⟩ = some (.int .i64 bytes) := row_cell HT5.out 2; have t3 : w5.cell? ⟨w1.heap.size, 3, none⟩ = some (.slice bp' n cap') := row_cell HT5.out 3; have lt := row_lt HT5.out)
    | (go_at_call 50; refine (touched_any X E.s _ HB5.out.pm).mono ?_; rintro e w6 ⟨rfl, rfl⟩; rw [HTB.out])
    | (go_at_call 51; refine (rtouched_any k E.s _ HB5.out.rm).mono ?_; rintro e w7 ⟨rfl, rfl⟩; rw [HTB.out])
    | (go_at_call 43; refine (sameOps_any bp bp' n cap cap' f _ HOc.out HOc'.out HN.out).mono ?_; rintro e w8 ⟨rfl, h8⟩; have H8 : Hid _ := h8; clear h8)
  go_ret
  exact ⟨rfl, ((w2_bel W _ _).trans (HB5.out.bel.mono (by simp; omega))).trans (H8.out.mono (by have := HB5.out.bel.size; simp at this; omega))⟩
end Go.Proofs.Ytkgbjpdoigdjnaa
