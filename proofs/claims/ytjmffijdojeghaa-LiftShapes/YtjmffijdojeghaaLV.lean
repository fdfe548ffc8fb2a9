import Derived.Test.YtjmffijdojeghaaJ03
import Derived.Test.YtjmffijdojeghaaCX
import Derived.Deep.AppendLies
import Derived.Deep.RegionHeld3
import Derived.Below
namespace Go.Proofs.Ytjmffijdojeghaa
open Go.RowKit
set_option maxRecDepth 100000
set_option linter.unusedVariables false
set_option linter.unusedSimpArgs false
theorem rowV {W : World} {b n : Nat} {V : Nat → Value} (h : ∀ i, i < n → W.cell? ⟨b, i, none⟩ = some (V i)) : ∀ j u, ((List.range n).map V)[j]? = some u → W.cell? ((⟨b, 0, none⟩ : Addr).add j) = some u := fun j u hu => by
  rw [Addr.add_mid, Nat.zero_add]
  rcases Nat.lt_or_ge j n with g | g
  · rw [List.getElem?_map, List.getElem?_range g] at hu
    rw [h j g]
    exact hu
  · rw [List.getElem?_eq_none (by simpa using g)] at hu; cases hu
/-- A new row, known whole. -/
structure NV (w : World) (g n cap : Nat) (T : TypeId) (V : Nat → Value) : Prop where
  ex : ∃ cur, w.heap[g]? = some (.cells cur T) ∧ ∀ i, i < n → cur[i]? = some (V i)
  cp : n ≤ cap
theorem NV.of_owns {w : World} {base g n cap : Nat} {T : TypeId} {V : Nat → Value} (h : w.ownsRow base T 1 (.slice (some ⟨g, 0, none⟩) (0 + n) cap) (0 + n) ([] ++ (List.range n).map V)) (hn : 0 < n) : NV w g n cap T V := by
  rw [Nat.zero_add, List.nil_append] at h
  rcases h.2 with ⟨-, h0⟩ | ⟨g', c', cur, hv, hb, hh, h1, h2, h3, h4⟩
  · omega
  · cases hv
    refine ⟨⟨cur, hh, fun i hi => ?_⟩, h1⟩
    have h5 : (cur.toList.take (n * 1))[i]? = some (V i) := by rw [h4, List.getElem?_map, List.getElem?_range hi]; rfl
    rw [List.getElem?_take_of_lt (by omega), Array.getElem?_toList] at h5
    exact h5
theorem NV.keep {w w' : World} {g n cap : Nat} {T : TypeId} {V : Nat → Value} (h : NV w g n cap T V) (b : Below w.heap.size w w') : NV w' g n cap T V := by
  obtain ⟨cur, h1, h2⟩ := h.ex
  exact ⟨⟨cur, (b.block _ (row_lt h1)).trans h1, h2⟩, h.cp⟩
theorem NV.cell {w : World} {g n cap : Nat} {T : TypeId} {V : Nat → Value} (h : NV w g n cap T V) (i : Nat) (hi : i < n) : w.cell? ⟨g, i, none⟩ = some (V i) := by
  obtain ⟨cur, h1, h2⟩ := h.ex
  exact (row_cell h1 i).trans (h2 i hi)
theorem NV.fr {w : World} {g n cap : Nat} {T : TypeId} {V : Nat → Value} (h : NV w g n cap T V) (o : Nat) : w.frozen? ⟨g, o, none⟩ = false := by
  obtain ⟨cur, h1, h2⟩ := h.ex
  exact row_fr h1 o
theorem NV.lt {w : World} {g n cap : Nat} {T : TypeId} {V : Nat → Value} (h : NV w g n cap T V) : g < w.heap.size := by
  obtain ⟨cur, h1, h2⟩ := h.ex
  exact row_lt h1
theorem grown_below {w w' : World} (h : w.grownBy w' none) : Below w.heap.size w w' := Below.grown (Below.refl _ _) h (Nat.le_refl _) (fun k hk => by cases hk)
theorem one_int {n : Nat} {V : Nat → Value} (h : ∀ i, (V i).oneCell' = true) : ∀ u ∈ (List.range n).map V, u.oneCell' = true := fun u hu => by
  obtain ⟨i, -, rfl⟩ := List.mem_map.1 hu
  exact h i
set_option maxHeartbeats 8000000 in
theorem rcopy_any (k : RB) (s : MS) (w : World) (h : RM w k s) :
    Calls Try.prog 58 #[.pointer (some ⟨k.y, 0, none⟩)] w fun e w' => ∃ k' : RB, e = .returned (.pointer (some ⟨k'.y, 0, none⟩)) ∧ RM w' k' s ∧ Below w.heap.size w w' ∧ ∀ x ∈ k'.y :: k'.all, w.heap.size ≤ x := by
  obtain ⟨i5, i5a, i5b, i5c, i5d⟩ := info_parts info5
  obtain ⟨i3, i3a, i3b, i3c, i3d⟩ := info_parts info3
  obtain ⟨i4, i4a, i4b, i4c, i4d⟩ := info_parts info4
  have ly := h.lty
  have c0 := h.c0
  have c1 := h.c1
  have c2 := h.c2
  have c3 := h.c3
  have HR0 : Hid (RM w.drew k s) := h.drew
  have HB0 : Hid (Below w.heap.size w w.drew) := (Below.refl _ _).drew
  have HML : Hid (0 + 65536 ≤ maxLen) := show 0 + 65536 ≤ maxLen by unfold maxLen; omega
  have HMS : Hid (0 + 256 ≤ maxLen) := show 0 + 256 ≤ maxLen by unfold maxLen; omega
  clear h
  go_enter Try.func58, Try.ntmps58
  go_wp2
  go_region_held3 (fun W' => W'.cell? ⟨k.y, 0, none⟩ = some (.slice (some ⟨k.b, 0, none⟩) 65536 k.cb) ∧ W'.cell? ⟨k.y, 1, none⟩ = some (.slice (some ⟨k.r, 0, none⟩) 256 k.cr) ∧ W'.cell? ⟨k.y, 2, none⟩ = some (.slice (some ⟨k.m, 0, none⟩) 256 k.cm) ∧ W'.cell? ⟨k.y, 3, none⟩ = some (.slice (some ⟨k.t, 0, none⟩) 256 k.ct)) (first | (simp [go_sem, c0, c1, c2, c3, ly]; done))
    (first
    | (refine step_append_lies _ rfl (.const (.slice none 0 0)) (.tmp 6) 22 rfl w.heap.size 5 i5 _ 1 1 Try.underlying22 i5a i5b i5c i5d rfl (by decide) (.slice none 0 0) 0 [] rfl (World.ownsRow_nil _ _ _ _) ⟨k.b, 0, none⟩ 65536 k.cb ((List.range 65536).map (fun i => .int .u8 (s.B i))) rfl (by simp) (rowV HR0.out.by_) (one_int fun _ => rfl) (by decide) HML.out (by decide) HB0.out.size _ rfl ?_; intro g1 cap1 w1 ho1 hg1 hgg1 hlt1; have hb1 := grown_below hg1; have HR1 : Hid (RM w1 k s) := HR0.out.below hb1 (Nat.le_refl _); have c0 := HR1.out.c0; have c1 := HR1.out.c1; have c2 := HR1.out.c2; have c3 := HR1.out.c3; have ly := HR1.out.lty; have HB1 : Hid (Below w.heap.size w w1) := HB0.out.trans (hb1.mono HB0.out.size); have HG1 : Hid (g1 = w.drew.heap.size) := (show g1 = w.drew.heap.size from hgg1.resolve_left (by intro e; cases e)); have HNB1 : Hid (NV w1 g1 65536 cap1 5 (fun i => .int .u8 (s.B i))) := NV.of_owns ho1 (by decide); clear ho1 hg1 hgg1 hlt1 hb1)
    | (refine step_append_lies _ rfl (.const (.slice none 0 0)) (.tmp 11) 76 rfl w.heap.size 3 i3 _ 1 8 Try.underlying76 i3a i3b i3c i3d rfl (by decide) (.slice none 0 0) 0 [] rfl (World.ownsRow_nil _ _ _ _) ⟨k.r, 0, none⟩ 256 k.cr ((List.range 256).map (fun i => .int .i64 (s.R i))) rfl (by simp) (rowV HR1.out.ri) (one_int fun _ => rfl) (by decide) HMS.out (by decide) HB1.out.size _ rfl ?_; intro g2 cap2 w2 ho2 hg2 hgg2 hlt2; have hb2 := grown_below hg2; have HR2 : Hid (RM w2 k s) := HR1.out.below hb2 (Nat.le_refl _); have c0 := HR2.out.c0; have c1 := HR2.out.c1; have c2 := HR2.out.c2; have c3 := HR2.out.c3; have ly := HR2.out.lty; have HB2 : Hid (Below w.heap.size w w2) := HB1.out.trans (hb2.mono HB1.out.size); have HG2 : Hid (g2 = w1.heap.size) := (show g2 = w1.heap.size from hgg2.resolve_left (by intro e; cases e)); have HNR2 : Hid (NV w2 g2 256 cap2 3 (fun i => .int .i64 (s.R i))) := NV.of_owns ho2 (by decide); have HNB2 : Hid (NV w2 g1 65536 cap1 5 (fun i => .int .u8 (s.B i))) := HNB1.out.keep hb2; clear ho2 hg2 hgg2 hlt2 hb2)
    | (refine step_append_lies _ rfl (.const (.slice none 0 0)) (.tmp 16) 40 rfl w.heap.size 4 i4 _ 1 1 Try.underlying40 i4a i4b i4c i4d rfl (by decide) (.slice none 0 0) 0 [] rfl (World.ownsRow_nil _ _ _ _) ⟨k.m, 0, none⟩ 256 k.cm ((List.range 256).map (fun i => .bool (s.M i))) rfl (by simp) (rowV HR2.out.wa) (one_int fun _ => rfl) (by decide) HMS.out (by decide) HB2.out.size _ rfl ?_; intro g3 cap3 w3 ho3 hg3 hgg3 hlt3; have hb3 := grown_below hg3; have HR3 : Hid (RM w3 k s) := HR2.out.below hb3 (Nat.le_refl _); have c0 := HR3.out.c0; have c1 := HR3.out.c1; have c2 := HR3.out.c2; have c3 := HR3.out.c3; have ly := HR3.out.lty; have HB3 : Hid (Below w.heap.size w w3) := HB2.out.trans (hb3.mono HB2.out.size); have HG3 : Hid (g3 = w2.heap.size) := (show g3 = w2.heap.size from hgg3.resolve_left (by intro e; cases e)); have HNM3 : Hid (NV w3 g3 256 cap3 4 (fun i => .bool (s.M i))) := NV.of_owns ho3 (by decide); have HNB3 : Hid (NV w3 g1 65536 cap1 5 (fun i => .int .u8 (s.B i))) := HNB2.out.keep hb3; have HNR3 : Hid (NV w3 g2 256 cap2 3 (fun i => .int .i64 (s.R i))) := HNR2.out.keep hb3; clear ho3 hg3 hgg3 hlt3 hb3)
    | (refine step_append_lies _ rfl (.const (.slice none 0 0)) (.tmp 21) 40 rfl w.heap.size 4 i4 _ 1 1 Try.underlying40 i4a i4b i4c i4d rfl (by decide) (.slice none 0 0) 0 [] rfl (World.ownsRow_nil _ _ _ _) ⟨k.t, 0, none⟩ 256 k.ct ((List.range 256).map (fun i => .bool (s.T i))) rfl (by simp) (rowV HR3.out.to) (one_int fun _ => rfl) (by decide) HMS.out (by decide) HB3.out.size _ rfl ?_; intro g4 cap4 w4 ho4 hg4 hgg4 hlt4; have hb4 := grown_below hg4; have HR4 : Hid (RM w4 k s) := HR3.out.below hb4 (Nat.le_refl _); have c0 := HR4.out.c0; have c1 := HR4.out.c1; have c2 := HR4.out.c2; have c3 := HR4.out.c3; have ly := HR4.out.lty; have HB4 : Hid (Below w.heap.size w w4) := HB3.out.trans (hb4.mono HB3.out.size); have HG4 : Hid (g4 = w3.heap.size) := (show g4 = w3.heap.size from hgg4.resolve_left (by intro e; cases e)); have HNT4 : Hid (NV w4 g4 256 cap4 4 (fun i => .bool (s.T i))) := NV.of_owns ho4 (by decide); have HNB4 : Hid (NV w4 g1 65536 cap1 5 (fun i => .int .u8 (s.B i))) := HNB3.out.keep hb4; have HNR4 : Hid (NV w4 g2 256 cap2 3 (fun i => .int .i64 (s.R i))) := HNR3.out.keep hb4; have HNM4 : Hid (NV w4 g3 256 cap3 4 (fun i => .bool (s.M i))) := HNM3.out.keep hb4; clear ho4 hg4 hgg4 hlt4 hb4))
  all_goals
    go_wp2
    go_ret
    have lB := HNB4.out.lt
    have lR := HNR4.out.lt
    have lM := HNM4.out.lt
    have lT := HNT4.out.lt
    have q1 := HG1.out
    have q2 := HG2.out
    have q3 := HG3.out
    have q4 := HG4.out
    have r1 := HNB1.out.lt
    have r2 := HNR2.out.lt
    have r3 := HNM3.out.lt
    have z0 : w.heap.size ≤ w.drew.heap.size := Nat.le_refl _
    have hA : ∀ o, Below w4.heap.size w4 (w4.alloc o) := fun o => (Below.refl _ _).alloc (Nat.le_refl _) _
    refine ⟨⟨w4.heap.size, g1, g2, g3, g4, cap1, cap2, cap3, cap4, HNB4.out.cp⟩, rfl, ⟨(row_cell (heap_alloc_last w4 _) 0), (row_cell (heap_alloc_last w4 _) 1), (row_cell (heap_alloc_last w4 _) 2), (row_cell (heap_alloc_last w4 _) 3), (HNB4.out.keep (hA _)).cell, (HNR4.out.keep (hA _)).cell, (HNM4.out.keep (hA _)).cell, (HNT4.out.keep (hA _)).cell, (HNB4.out.keep (hA _)).fr, (HNR4.out.keep (hA _)).fr, (HNM4.out.keep (hA _)).fr, (HNT4.out.keep (hA _)).fr, ?_⟩, HB4.out.trans ((hA _).mono HB4.out.size), ?_⟩
    · show w4.heap.size ≠ g1 ∧ w4.heap.size ≠ g2 ∧ w4.heap.size ≠ g3 ∧ w4.heap.size ≠ g4 ∧ g1 ≠ g2 ∧ g1 ≠ g3 ∧ g1 ≠ g4 ∧ g2 ≠ g3 ∧ g2 ≠ g4 ∧ g3 ≠ g4
      omega
    · simp only [RB.all, List.mem_cons, List.not_mem_nil, or_false]
      rintro x (e | e | e | e | e) <;> rw [e]
      · exact HB4.out.size
      · show w.heap.size ≤ g1; omega
      · show w.heap.size ≤ g2; omega
      · show w.heap.size ≤ g3; omega
      · show w.heap.size ≤ g4; omega
end Go.Proofs.Ytjmffijdojeghaa
