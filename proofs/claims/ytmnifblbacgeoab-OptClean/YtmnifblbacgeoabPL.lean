import Derived.Test.YtmnifblbacgeoabOZ2
import Derived.Test.YtmnifblbacgeoabOV
import Derived.Test.YtmnifblbacgeoabPT
import Derived.Test.YtmnifblbacgeoabCR
namespace Go.Proofs.Ytmnifblbacgeoab
open Go.RowKit
open Go.Maps
set_option maxRecDepth 100000
set_option linter.unusedVariables false
set_option linter.unusedSimpArgs false

/-- Blocks. -/
structure G (count bytes : Int) (l : List ON) : Prop where
  ck : checkF count bytes l.length (fun i => rO (hOf l i)) = (0, 0)
  ks : ∀ i, (hOf l i).k < 4294967296
/-- What is clean. -/
structure CleanP (l : List ON) : Prop where
  l0 : 0 < l.length
  l1 : l.length ≤ 2048
  hk : ∀ i, i < l.length → 1 ≤ (hOf l i).kd ∧ (hOf l i).kd ≤ 17
  ht : ∀ i, i < l.length → ∀ q, q < tkN (hOf l i).kd → arg (hOf l i) q < l.length
  c1 : ∀ k, k < l.length → rgiv ((hOf l k).kd : Int) = true → (hOf l k).kd ≠ 9 → usd (hOf l) l.length k = true
  c2 : ∀ i, i < l.length → FoOk (hOf l) (hOf l i)
  c3 : ∀ k, k < l.length → isP (hOf l k).kd = true → ∀ i, i < k → onEq (hOf l i) (hOf l k) = false
  c4 : ∀ k, k < l.length → SlC (slS (hOf l) k) (hOf l k)
  c5 : ∀ k, k < l.length → AkC (hOf l) l.length (akS (hOf l) k) (hOf l k)
structure PlainP (mu : List ON → Nat) : Prop where
  gp : ∀ count bytes, GoodP (G count bytes) mu
  cl : ∀ count bytes l, G count bytes l → pass l = l → CleanP l
  inp : ∀ count bytes n (f : Nat → OpR), (checkF count bytes n f).1 = 0 → (∀ i, i < n → (f i).k < 4294967296) → ∃ l, l.length = n ∧ G count bytes l ∧ ∀ i, i < n → f i = rO (hOf l i)
theorem OpsR.congr {w : World} {bp : Option Addr} {n : Nat} {f g : Nat → OpR} (h : OpsR w bp n f) (e : ∀ i, i < n → f i = g i) : OpsR w bp n g := fun h0 => by
  obtain ⟨b, off, e1, hb, hc⟩ := h h0
  exact ⟨b, off, e1, hb, fun i hi => e i hi ▸ hc i hi⟩
structure LO (w W : World) (O g cp pc : Nat) (count bytes : Int) (l : List ON) : Prop where
  x : W.heap[O]? = some (.cells #[.int .u32 pc, .int .i64 count, .int .i64 bytes, .slice (some ⟨g, 0, none⟩) l.length cp] 25)
  ops : OpsR W (some ⟨g, 0, none⟩) l.length (fun i => rO (hOf l i))
  lg : g < W.heap.size
  bel : Below w.heap.size w W
theorem LO.below {w W W' : World} {O g cp pc : Nat} {count bytes : Int} {l : List ON} (h : LO w W O g cp pc count bytes l) (k : Below W.heap.size W W') : LO w W' O g cp pc count bytes l :=
  ⟨(k.block _ (row_lt h.x)).trans h.x, OpsR.below (f := fun i => rO (hOf l i)) h.ops k (Nat.le_refl _), Nat.lt_of_lt_of_le h.lg k.size, h.bel.trans (k.mono h.bel.size)⟩
theorem ops_lt {w : World} {g n : Nat} {f : Nat → OpR} (h : OpsR w (some ⟨g, 0, none⟩) n f) (hn : 0 < n) : g < w.heap.size := by
  obtain ⟨b, off, e, hb, -⟩ := h hn
  cases e
  exact hb
set_option maxHeartbeats 8000000 in
theorem law_walk (mu : List ON → Nat) (HP : PlainP mu) (pc : Nat) (count bytes : Int) (bp : Option Addr) (n cap : Nat) (f : Nat → OpR) (w : World) (hO : OpsR w bp n f) (hn : n < 9223372036854775807) (hk : ∀ i, i < n → (f i).k < 4294967296) :
    Calls Try.prog 4 #[.agg #[.int .u32 pc, .int .i64 count, .int .i64 bytes, .slice bp n cap]] w fun e w' => e = .returned (.bool true) ∧ Below w.heap.size w w' := by
  have HPP : Hid (PlainP mu) := HP
  have HO : Hid (OpsR w bp n f) := hO
  have HN : Hid (n < 9223372036854775807) := hn
  have b1 : Below w.heap.size w (w.alloc (.cells #[.int .u32 pc, .int .i64 count, .int .i64 bytes, .slice bp n cap] 25)) := (Below.refl _ _).alloc (Nat.le_refl _) _
  have HB1 : Hid _ := b1
  have HX1 : Hid _ := heap_alloc_last w (.cells #[.int .u32 pc, .int .i64 count, .int .i64 bytes, .slice bp n cap] 25)
  obtain ⟨E, HE⟩ : ∃ E, Hid (checkF count bytes n f = E) := ⟨_, rfl⟩
  by_cases h0 : E.1 = 0
  rotate_left
  · have i0 : ¬ E.1 = 0 := h0
    have d0 : (E.1 != 0) = true := by simpa using h0
    clear hO hk b1 hn HP
    go_enter Try.func4, Try.ntmps4
    go_wp2_with (go_at_call 15; refine (rcheck_any pc count bytes bp n cap f _ (OpsR.below (f := f) HO.out HB1.out (Nat.le_refl _)) HN.out).mono ?_; rintro e w1 ⟨rfl, h1⟩; rw [HE.out]; have H1 : Hid _ := h1; clear h1)
    go_ret
    exact ⟨rfl, HB1.out.trans (H1.out.mono (by simp))⟩
  obtain ⟨l, rfl, hG, he⟩ := HP.inp count bytes n f (by rw [HE.out]; exact h0) hk
  have HG : Hid (G count bytes l) := hG
  have HG2 : Hid (GoodP (G count bytes) mu) := HP.gp count bytes
  have HL1 : Hid (0 < l.length) := HG2.out.l0 hG
  have HL2 : Hid (l.length ≤ 2048) := HG2.out.l1 hG
  have HOL : Hid (OpsR w bp l.length (fun i => rO (hOf l i))) := OpsR.congr hO he
  clear hO hk b1 hn HP he hG HE h0 HO
  clear E
  go_enter Try.func4, Try.ntmps4
  go_upto_region 5 with (first
    | (go_at_call 15; refine (rcheck_any pc count bytes bp l.length cap (fun i => rO (hOf l i)) _ (OpsR.below (f := fun i => rO (hOf l i)) HOL.out HB1.out (Nat.le_refl _)) HN.out).mono ?_; rintro e w1 ⟨rfl, h1⟩; rw [HG.out.ck]; have hB1 : Below w.heap.size w w1 := HB1.out.trans (h1.mono (by simp)); have HBw : Hid _ := hB1; have x1 := (h1.block w.heap.size (by simp)).trans HX1.out; have xl := row_lt x1; have x0 := row_cell x1 0; have xx1 := row_cell x1 1; have x2 := row_cell x1 2; have x3 := row_cell x1 3; have HO1 : Hid (OpsR w1 bp l.length (fun i => rO (hOf l i))) := OpsR.below (f := fun i => rO (hOf l i)) HOL.out hB1 (Nat.le_refl _); clear h1 x1 hB1)
    | (go_at_call 12; refine (twin_any pc count bytes bp l.length cap (fun i => rO (hOf l i)) _ HO1.out (by have := HL2.out; omega)).mono ?_; rintro e w2 ⟨bp2, cap2, rfl, h2, hc2, k2⟩; have HO2 : Hid (OpsR w2 bp2 l.length (fun i => rO (hOf l i))) := h2; have K2 : Hid _ := k2; clear h2 hc2 k2)
    | (go_at_call 13; refine (block_any (G count bytes) mu HG2.out pc count bytes bp2 cap2 l _ HO2.out HG.out HG.out.ck).mono ?_; rintro e w3 ⟨sv, l', rfl, h3, hp, ho, k3⟩; obtain ⟨g, cp, rfl, hgb, hcp, hops⟩ := owns_opsR ho (HG2.out.l0 h3); have HG3 : Hid (G count bytes l') := h3; have HPS : Hid (pass l' = l') := hp; have HO3 : Hid (OpsR w3 (some ⟨g, 0, none⟩) l'.length (fun i => rO (hOf l' i))) := hops; have K3 : Hid _ := k3; clear h3 hp ho k3 hgb hcp hops))
  have HC : Hid (CleanP l') := HPP.out.cl count bytes l' HG3.out HPS.out
  have HL3 : Hid (l'.length < 9223372036854775807) := show l'.length < _ by have := HC.out.l1; omega
  obtain ⟨O, HOO⟩ : ∃ O, Hid (w3.heap.size = O) := ⟨_, rfl⟩
  have hb3 : Below w.heap.size w w3 := HBw.out.trans ((K2.out.trans (K3.out.mono K2.out.size)).mono HBw.out.size)
  refine wp_gen (fun W' => LO w W' O g cp pc count bytes l') (HOO.out ▸ ⟨heap_alloc_last _ _, OpsR.below (f := fun i => rO (hOf l' i)) HO3.out ((Below.refl _ _).alloc (Nat.le_refl _) _) (Nat.le_refl _), by have := ops_lt HO3.out HC.out.l0; simp; omega, hb3.alloc hb3.size _⟩) ?_
  rw [HOO.out]
  clear HO3 HOL HX1 HB1 xl x0 xx1 x2 x3 HO1 HO2 hb3 HOO
  intro U hU
  have HU : Hid _ := hU
  have o0 := row_cell hU.x 0
  have o1 := row_cell hU.x 1
  have o2 := row_cell hU.x 2
  have o3 := row_cell hU.x 3
  have ol := row_lt hU.x
  clear hU
  go_wp2_with (first
    | (go_at_call 15; refine (rcheck_any pc count bytes (some ⟨g, 0, none⟩) l'.length cp (fun i => rO (hOf l' i)) _ HU.out.ops HL3.out).mono ?_; rintro e w4 ⟨rfl, q⟩; rw [HG3.out.ck]; have H4 : Hid _ := HU.out.below q; have o34 := row_cell H4.out.x 3; have ol4 := row_lt H4.out.x; clear q)
    | (go_at_call 20; refine (idle_any l'.length cp g 0 (hOf l') _ H4.out.ops H4.out.lg HC.out.l0 HC.out.l1 HC.out.hk HC.out.ht HC.out.c1).mono ?_; rintro e vH5 ⟨rfl, q⟩; have H5 : Hid _ := H4.out.below q; have o3H5 := row_cell H5.out.x 3; have olH5 := row_lt H5.out.x; clear q)
    | (go_at_call 21; refine (folded_any l'.length cp g 0 (hOf l') _ H5.out.ops H5.out.lg HC.out.l0 HC.out.l1 HC.out.hk HC.out.ht HC.out.c2).mono ?_; rintro e vH6 ⟨rfl, q⟩; have H6 : Hid _ := H5.out.below q; have o3H6 := row_cell H6.out.x 3; have olH6 := row_lt H6.out.x; clear q)
    | (go_at_call 22; refine (once_any l'.length cp g 0 (hOf l') _ H6.out.ops H6.out.lg HC.out.l0 HC.out.l1 HC.out.c3).mono ?_; rintro e vH7 ⟨rfl, q⟩; have H7 : Hid _ := H6.out.below q; have o3H7 := row_cell H7.out.x 3; have olH7 := row_lt H7.out.x; clear q)
    | (go_at_call 23; refine (slots_any l'.length cp g 0 (hOf l') _ H7.out.ops H7.out.lg HC.out.l0 HC.out.l1 HC.out.c4).mono ?_; rintro e vH8 ⟨rfl, q⟩; have H8 : Hid _ := H7.out.below q; have o3H8 := row_cell H8.out.x 3; have olH8 := row_lt H8.out.x; clear q)
    | (go_at_call 24; refine (asked_any l'.length cp g 0 (hOf l') _ H8.out.ops H8.out.lg HC.out.l0 HC.out.l1 HC.out.c5).mono ?_; rintro e vH9 ⟨rfl, q⟩; have H9 : Hid _ := H8.out.below q; have o3H9 := row_cell H9.out.x 3; have olH9 := row_lt H9.out.x; clear q))
  go_ret
  exact ⟨rfl, H9.out.bel⟩
end Go.Proofs.Ytmnifblbacgeoab
