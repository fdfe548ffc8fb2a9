import Derived.Test.YtmnifblbacgeoabOA
namespace Go.Proofs.Ytmnifblbacgeoab
open Go.RowKit
open Go.Maps
set_option maxRecDepth 100000
set_option linter.unusedVariables false
set_option linter.unusedSimpArgs false

theorem below_drewN {B : Nat} {w w' : World} (h : Below B w w') (n : Nat) : Below B w (w'.drewN n) := h.trans ⟨rfl, rfl, rfl, Nat.le_refl _, fun _ _ => rfl⟩
set_option maxHeartbeats 2000000 in
theorem lay_any (base X M : Nat) (s : SE) (ml : List ON) (sv : Value) (o : ON) (w : World) (hS : SW w base X M s ml sv) (hlen : s.l.length < 100000) :
    Calls Try.prog 174 #[.pointer (some ⟨X, 0, none⟩), .agg #[.int .i64 o.kd, .int .i64 o.w, .int .i64 o.a, .int .i64 o.b, .int .i64 o.c, .int .u32 o.k, .int .i64 o.n]] w fun e w' => e = .returned (.int .i64 s.l.length) ∧ ∃ sv', SW w' base X M { s with l := s.l ++ [o] } ml sv' ∧ Kz base X M sv w sv' w' := by
  have c0 : w.cell? ⟨X, 0, none⟩ = some sv := hS.xb.cell (i := 0) (by omega)
  have f0 := hS.xb.frozen
  have lX := hS.xb.lt
  have lX1 := Nat.lt_succ_of_lt lX
  obtain ⟨sa, sn, sc, rfl⟩ := owns_sl hS.o
  obtain ⟨i0, hi, hz0, hz1, hz2⟩ := info_parts info160
  have HS : Hid _ := hS
  have HLL : Hid (s.l.length < 100000) := hlen
  have ll : (s.l.length : Int) < 100000 := by omega
  have l0 : (0 : Int) ≤ (s.l.length : Int) := by omega
  have b1 : Below w.heap.size w (w.alloc (.cells #[.int .i64 o.kd, .int .i64 o.w, .int .i64 o.a, .int .i64 o.b, .int .i64 o.c, .int .u32 o.k, .int .i64 o.n] 67)) := (Below.refl _ _).alloc (Nat.le_refl _) _
  have b2 : Below w.heap.size w ((w.alloc (.cells #[.int .i64 o.kd, .int .i64 o.w, .int .i64 o.a, .int .i64 o.b, .int .i64 o.c, .int .u32 o.k, .int .i64 o.n] 67)).drew.alloc (.cells #[.int .i64 o.kd, .int .i64 o.w, .int .i64 o.a, .int .i64 o.b, .int .i64 o.c, .int .u32 o.k, .int .i64 o.n] 67)) := b1.drew.alloc (by simp) _
  have HB2 : Hid _ := b2
  have HS2 : Hid _ := hS.below b2
  have HNW : Hid (∀ j u, (onL o)[j]? = some u → ((w.alloc (.cells #[.int .i64 o.kd, .int .i64 o.w, .int .i64 o.a, .int .i64 o.b, .int .i64 o.c, .int .u32 o.k, .int .i64 o.n] 67)).drew.alloc (.cells #[.int .i64 o.kd, .int .i64 o.w, .int .i64 o.a, .int .i64 o.b, .int .i64 o.c, .int .u32 o.k, .int .i64 o.n] 67)).cell? ((⟨w.heap.size + 1, 0, none⟩ : Addr).add j) = some u) := show ∀ j u, _ from fun j u hu => by
    rw [Addr.add_mid, Nat.zero_add]
    have hl := heap_alloc_last (w.alloc (.cells #[.int .i64 o.kd, .int .i64 o.w, .int .i64 o.a, .int .i64 o.b, .int .i64 o.c, .int .u32 o.k, .int .i64 o.n] 67)).drew (.cells #[.int .i64 o.kd, .int .i64 o.w, .int .i64 o.a, .int .i64 o.b, .int .i64 o.c, .int .u32 o.k, .int .i64 o.n] 67)
    rw [show (w.alloc (.cells #[.int .i64 o.kd, .int .i64 o.w, .int .i64 o.a, .int .i64 o.b, .int .i64 o.c, .int .u32 o.k, .int .i64 o.n] 67)).drew.heap.size = w.heap.size + 1 by simp] at hl
    rw [row_cell hl]
    simpa [onL] using hu
  have HONE : Hid (∀ u ∈ onL o, u.oneCell' = true) := show ∀ u ∈ onL o, _ from fun u hu => by
    simp only [onL, List.mem_cons, List.not_mem_nil, or_false] at hu
    rcases hu with rfl | rfl | rfl | rfl | rfl | rfl | rfl <;> rfl
  have H63 : Hid (s.l.length + 1 ≤ maxLen) := show _ ≤ maxLen by unfold maxLen; omega
  have HBY : Hid ((s.l.length + 1) * 56 ≤ 140737488355328) := show _ ≤ _ by omega
  have HBS : Hid (base ≤ ((w.alloc (.cells #[.int .i64 o.kd, .int .i64 o.w, .int .i64 o.a, .int .i64 o.b, .int .i64 o.c, .int .u32 o.k, .int .i64 o.n] 67)).drew.alloc (.cells #[.int .i64 o.kd, .int .i64 o.w, .int .i64 o.a, .int .i64 o.b, .int .i64 o.c, .int .u32 o.k, .int .i64 o.n] 67)).heap.size) := show base ≤ _ by have := hS.bw; simp; omega
  clear hS hlen b1 b2
  go_enter Try.func174, Try.ntmps174
  go_upto_region 1 with fail
  go_region_law (refine step_append_lies _ rfl (.tmp 9) (.tmp 11) 23 rfl base 67 i0 _ 7 56 Try.underlying23 hi hz0 hz1 hz2 rfl (by decide) (.slice sa sn sc) s.l.length (onsV s.l) rfl HS2.out.o ⟨w.heap.size + 1, 0, none⟩ 1 1 (onL o) rfl rfl HNW.out HONE.out (by decide) H63.out HBY.out HBS.out (w.heap.size + 1 + 1) (by simp) ?_; intro g cap2 w2 hown hgr hgg hlt; have HOW : Hid _ := hown; have HGR : Hid _ := hgr; have HGG : Hid _ := hgg; have HXB : Hid (w2.rowIs X 211 16 _) := HS2.out.xb.of_block (hgr.block X HS2.out.xb.lt (fun e => (HS2.out.ow e.symm).1 rfl)); have d3 : w2.cell? ⟨X, 0, none⟩ = some (.slice sa sn sc) := HXB.out.cell (i := 0) (by omega); have df := HXB.out.frozen; have dl := HXB.out.lt; clear hown hgr hgg)
  all_goals
    have hgX : g ≠ X := fun e => by
      rcases HGG.out with h | h
      · exact (HS2.out.ow h).1 e
      · have := HS.out.xb.lt; omega
    have hgM : g ≠ M := fun e => by
      rcases HGG.out with h | h
      · exact (HS2.out.ow h).2.1 e
      · have := HS.out.ltM; omega
    have HXS : Hid (SW (w2.setCell ⟨X, 0, none⟩ (.slice (some ⟨g, 0, none⟩) (s.l.length + 1) cap2)) base X M { s with l := s.l ++ [o] } ml (.slice (some ⟨g, 0, none⟩) (s.l.length + 1) cap2)) := by
      obtain ⟨D, hD, hm⟩ := HS2.out.mp
      refine ⟨(HXB.out.set 0 _).congr (fun j hj => ?_), ?_, ⟨D, ?_, hm⟩, HS2.out.bX, HS2.out.bM, ?_⟩
      · unfold seF; by_cases e : j = 0 <;> simp [e]
      · rw [show ({ s with l := s.l ++ [o] } : SE).l = s.l ++ [o] from rfl, onsV_app, List.length_append]
        exact owns_keep HOW.out (fun g' hg' => by cases hg'; exact blk_other hgX _)
      · exact own_map_keep hD ((blk_other (fun e => HS2.out.neXM e.symm) _).trans (HGR.out.block M HS2.out.ltM (fun e => (HS2.out.ow e.symm).2.1 rfl)))
      · have h1 : base ≤ w2.heap.size := Nat.le_trans HS.out.bw (Nat.le_trans HB2.out.size HGR.out.size)
        simpa using h1
    have HKZ : Hid (Kz base X M (.slice sa sn sc) w (.slice (some ⟨g, 0, none⟩) (s.l.length + 1) cap2) (w2.setCell ⟨X, 0, none⟩ (.slice (some ⟨g, 0, none⟩) (s.l.length + 1) cap2))) := by
      have hk : Kz base X M (.slice sa sn sc) w (.slice (some ⟨g, 0, none⟩) (s.l.length + 1) cap2) w2 := by
        refine ⟨Below.grown (HB2.out.mono HS.out.bw) HGR.out HBS.out (fun k hk => (owns_blk HS2.out.o hk).1), fun i h1 h2 h3 h4 => ?_, ?_⟩
        · exact (HGR.out.block i (Nat.lt_of_lt_of_le h1 HB2.out.size) (fun e => h4 e.symm)).trans (HB2.out.block i h1)
        · rcases HGG.out with h | h
          · exact .inl h.symm
          · exact .inr fun i hi => by have e : g = i := Option.some.inj hi; omega
      exact hk.setIn (.inl rfl) HS.out.bX _ _
    have n0 : w2.cell? ⟨X, 0, none⟩ = some (.slice sa sn sc) := d3
    clear HXB HOW HGR HGG
    go_wp2
    go_ret
    exact ⟨by first | rfl | (simp; done) | (congr 2; omega), _, HXS.out, HKZ.out⟩
end Go.Proofs.Ytmnifblbacgeoab
