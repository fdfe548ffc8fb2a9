import Derived.Test.YtocefkpnlgfebabGS
import Derived.Test.YtocefkpnlgfebabCR
namespace Go.Proofs.Ytocefkpnlgfebab.Ho
open Go.RowKit
set_option maxRecDepth 100000
set_option linter.unusedVariables false
set_option linter.unusedSimpArgs false

structure LG (w wx : World) (pc : Nat) (count bytes : Int) (bp bp' : Option Addr) (n cap cap' : Nat) (f : Nat → OpR) : Prop where
  b2 : wx.heap[w.heap.size]? = some (.cells #[.int .u32 pc, .int .i64 count, .int .i64 bytes, .slice bp n cap] 25)
  b5 : wx.heap[w.heap.size + 1]? = some (.cells #[.int .u32 pc, .int .i64 count, .int .i64 bytes, .slice bp' n cap'] 25)
  bel : Below w.heap.size w wx
  o : OpsR wx bp n f
  o' : OpsR wx bp' n f
  ob : 0 < n → ∀ b off, bp = some ⟨b, off, none⟩ → b < wx.heap.size
theorem LG.next {w wx w' : World} {pc : Nat} {count bytes : Int} {bp bp' : Option Addr} {n cap cap' : Nat} {f : Nat → OpR} (h : LG w wx pc count bytes bp bp' n cap cap' f) (k : Below wx.heap.size wx w') : LG w w' pc count bytes bp bp' n cap cap' f :=
  ⟨(k.block _ (row_lt h.b2)).trans h.b2, (k.block _ (row_lt h.b5)).trans h.b5, h.bel.trans (k.mono (Nat.le_of_lt (row_lt h.b2))), h.o.below k (Nat.le_refl _), h.o'.below k (Nat.le_refl _), fun h0 b off e => Nat.lt_of_lt_of_le (h.ob h0 b off e) k.size⟩
/-- What the law compares. -/
def errF (count bytes : Int) (n : Nat) (f : Nat → OpR) (regs : Int) : Int := if (checkF count bytes n f).1 = 0 then (if regs < 3 ∨ 16 < regs then 4 else 0) else (checkF count bytes n f).1

abbrev W2 (w : World) (pc : Nat) (count bytes : Int) (bp : Option Addr) (n cap : Nat) : World := (w.alloc (.cells #[.int .u32 pc, .int .i64 count, .int .i64 bytes, .slice bp n cap] 25)).alloc (.cells #[.int .u32 pc, .int .i64 count, .int .i64 bytes, .slice bp n cap] 25)
theorem lg_zero (w : World) (pc : Nat) (count bytes : Int) (bp : Option Addr) (cap : Nat) (f : Nat → OpR) : LG w (((w.alloc (.cells #[.int .u32 pc, .int .i64 count, .int .i64 bytes, .slice bp 0 cap] 25)).alloc (.cells #[.int .u32 pc, .int .i64 count, .int .i64 bytes, .slice none 0 0] 25))) pc count bytes bp none 0 cap 0 f :=
  ⟨(al2 w _ _).1, (al2 w _ _).2, wk_bel w _ _, fun h => absurd h (by omega), fun h => absurd h (by omega), fun h => absurd h (by omega)⟩

set_option maxHeartbeats 4000000 in
theorem shapes_walk0 (pc : Nat) (count bytes : Int) (ad : Option Addr) (cap : Nat) (f : Nat → OpR) (regs : Int) (w : World) :
    Calls Try.prog 7 #[.agg #[.int .u32 pc, .int .i64 count, .int .i64 bytes, .slice ad 0 cap], .int .i64 regs] w fun e w' => e = .returned (.bool true) ∧ Below w.heap.size w w' := by
  have hE : (checkF count bytes 0 f).1 ≠ 0 := by
    unfold checkF scan endR
    split
    · decide
    · split
      · rw [if_pos (.inl rfl)]; decide
      · decide
  obtain ⟨⟨e1, e2⟩, HE⟩ : ∃ E, Hid (checkF count bytes 0 f = E) := ⟨_, rfl⟩
  have he1 : e1 ≠ 0 := by have := hE; rw [HE.out] at this; exact this
  have d1 : (e1 == 0) = false := by simpa using he1
  have d2 : (e1 != 0) = true := by simpa using he1
  have HE1 : Hid (e1 ≠ 0) := he1
  have HL0 : Hid _ := lg_zero w pc count bytes ad cap f
  have H0 : Hid ((0 : Nat) ≤ cap) := Nat.zero_le _
  clear hE he1
  go_enter Try.func7, Try.ntmps7
  go_upto_region 3 with (at_builtin; refine wpList_app rfl _ _ 23 rfl _ _ (.slice none 0 0) rfl rfl (by cases ad <;> simp [Builtin.append_, go_sem]) ?_)
  refine wp_gen (fun W' => LG w W' pc count bytes ad none 0 cap 0 f) HL0.out ?_
  clear HL0
  intro W hW
  have c0 : W.cell? ⟨w.heap.size, 0, none⟩ = some (.int .u32 pc) := row_cell hW.b2 0
  have c1 : W.cell? ⟨w.heap.size, 1, none⟩ = some (.int .i64 count) := row_cell hW.b2 1
  have c2 : W.cell? ⟨w.heap.size, 2, none⟩ = some (.int .i64 bytes) := row_cell hW.b2 2
  have c3 : W.cell? ⟨w.heap.size, 3, none⟩ = some (.slice ad 0 cap) := row_cell hW.b2 3
  have lW := row_lt hW.b2
  have HW : Hid _ := hW
  clear hW
  go_upto_region 4 with (go_at_call 29; refine (code_bad pc count bytes ad 0 cap f regs _ HW.out.o H0.out (by decide) (by rw [HE.out]; exact HE1.out)).mono ?_; rintro e w2 ⟨rfl, hb2⟩; rw [HE.out]; have HB2 : Hid _ := hb2; clear hb2)
  refine wp_gen (fun W' => LG w W' pc count bytes ad none 0 cap 0 f) (HW.out.next HB2.out) ?_
  clear HB2 HW c0 c1 c2 c3 lW
  intro A hA
  have a0 : A.cell? ⟨w.heap.size + 1, 0, none⟩ = some (.int .u32 pc) := row_cell hA.b5 0
  have a1 : A.cell? ⟨w.heap.size + 1, 1, none⟩ = some (.int .i64 count) := row_cell hA.b5 1
  have a2 : A.cell? ⟨w.heap.size + 1, 2, none⟩ = some (.int .i64 bytes) := row_cell hA.b5 2
  have a3 : A.cell? ⟨w.heap.size + 1, 3, none⟩ = some (.slice none 0 0) := row_cell hA.b5 3
  have lA := row_lt hA.b5
  have HA : Hid _ := hA
  clear hA
  go_upto_region 5 with fail
  refine wp_loop_rounds 1 ?_
  rw [rounds_succ]
  go_wp2_with (go_at_call 13; refine (rcheck_any pc count bytes none 0 0 f _ HA.out.o' (by decide)).mono ?_; rintro e w3 ⟨rfl, hb3⟩; rw [HE.out]; have HB3 : Hid _ := hb3; clear hb3)
  go_ret
  exact ⟨rfl, (HA.out.next HB3.out).bel⟩

theorem lg_start {w w2 : World} (pc : Nat) (count bytes : Int) (bp : Option Addr) (n cap g cap2 : Nat) (f : Nat → OpR) (hn : 0 < n) (hO : OpsR w bp n f) (ob : ∀ b off, bp = some ⟨b, off, none⟩ → b < w.heap.size) (hown : w2.ownsRow w.heap.size 67 7 (.slice (some ⟨g, 0, none⟩) n cap2) n (opsL f n)) (hg : g = w.heap.size + 1 + 1) (hb : Below ((w.alloc (.cells #[.int .u32 pc, .int .i64 count, .int .i64 bytes, .slice bp n cap] 25)).alloc (.cells #[.int .u32 pc, .int .i64 count, .int .i64 bytes, .slice bp n cap] 25)).heap.size ((w.alloc (.cells #[.int .u32 pc, .int .i64 count, .int .i64 bytes, .slice bp n cap] 25)).alloc (.cells #[.int .u32 pc, .int .i64 count, .int .i64 bytes, .slice bp n cap] 25)) w2) :
    LG w (w2.setCell ⟨w.heap.size + 1, 3, none⟩ (.slice (some ⟨g, 0, none⟩) n cap2)) pc count bytes bp (some ⟨g, 0, none⟩) n cap cap2 f := by
  obtain ⟨k1, k2, k3⟩ := keep2 hb
  obtain ⟨h1, -⟩ := owns_ops hown hn
  have hB : Below w.heap.size w (w2.setCell ⟨w.heap.size + 1, 3, none⟩ (.slice (some ⟨g, 0, none⟩) n cap2)) := k3.setCell (by show w.heap.size ≤ w.heap.size + 1; omega) _
  refine ⟨(blk_other (by omega) _).trans k1, (blk_set k2 _).trans rfl, hB, hO.below hB (Nat.le_refl _), h1.set (by omega) 3 _, fun _ b off e => Nat.lt_of_lt_of_le (ob b off e) hB.size⟩

structure WdsS (w : World) (a : Option Addr) (len cap : Nat) (ws : Nat → Nat) : Prop where
  out : Wds w a len cap ws

set_option maxHeartbeats 4000000 in
theorem shapes_bad (pc : Nat) (count bytes : Int) (bp : Option Addr) (n cap : Nat) (f : Nat → OpR) (regs : Int) (w : World) (hn : 0 < n) (hO : OpsR w bp n f) (hby : n * 56 ≤ 140737488355328) (hcap : n ≤ cap) (he : (checkF count bytes n f).1 ≠ 0) :
    Calls Try.prog 7 #[.agg #[.int .u32 pc, .int .i64 count, .int .i64 bytes, .slice bp n cap], .int .i64 regs] w fun e w' => e = .returned (.bool true) ∧ Below w.heap.size w w' := by
  obtain ⟨⟨e1, e2⟩, HE⟩ : ∃ E, Hid (checkF count bytes n f = E) := ⟨_, rfl⟩
  have he1 : e1 ≠ 0 := by rw [HE.out] at he; exact he
  have d1 : (e1 == 0) = false := by simpa using he1
  have d2 : (e1 != 0) = true := by simpa using he1
  have HE1 : Hid (e1 ≠ 0) := he1
  clear he1 he
  obtain ⟨b, off, rfl, hb, hc⟩ := hO hn
  obtain ⟨i0, hi, hz0, hz1, hz2⟩ := info_parts info160
  have ob : ∀ b' off', (some ⟨b, off, none⟩ : Option Addr) = some ⟨b', off', none⟩ → b' < w.heap.size := fun b' off' e => by cases e; exact hb
  have HNW : Hid (∀ j v, (opsL f n)[j]? = some v → ((w.alloc (.cells #[.int .u32 pc, .int .i64 count, .int .i64 bytes, .slice (some ⟨b, off, none⟩) n cap] 25)).alloc (.cells #[.int .u32 pc, .int .i64 count, .int .i64 bytes, .slice (some ⟨b, off, none⟩) n cap] 25)).cell? ((⟨b, off, none⟩ : Addr).add j) = some v) := show ∀ j v, _ from fun j v hv => by
    obtain ⟨hj, rfl⟩ := opsL_at f n j v hv
    rw [Addr.add_mid, show off + j = (off + j / 7 * 7) + j % 7 by omega]
    exact (((hc (j / 7) (by omega)).below (wk_bel w _ _) hb).cells (j % 7) (by omega))
  have HPOS : Hid (0 < n) := hn
  have C3 : Hid (0 + n ≤ maxLen) := show 0 + n ≤ maxLen by unfold maxLen; omega
  have C4 : Hid ((0 + n) * 56 ≤ 140737488355328) := show (0 + n) * 56 ≤ 140737488355328 by omega
  have C5 : Hid (w.heap.size ≤ ((w.alloc (.cells #[.int .u32 pc, .int .i64 count, .int .i64 bytes, .slice (some ⟨b, off, none⟩) n cap] 25)).alloc (.cells #[.int .u32 pc, .int .i64 count, .int .i64 bytes, .slice (some ⟨b, off, none⟩) n cap] 25)).heap.size) := show w.heap.size ≤ _ by simp; omega
  have HB : Hid (b < w.heap.size) := hb
  have HOB : Hid _ := ob
  have HO : Hid (OpsR w (some ⟨b, off, none⟩) n f) := show OpsR _ _ _ _ from hO
  have HC : Hid (n ≤ cap) := hcap
  have HN : Hid (n < 9223372036854775807) := show n < 9223372036854775807 by omega
  have n0 : (0 : Int) ≤ (n : Int) := by omega
  have nb : (n : Int) < 9223372036854775807 := by omega
  clear hO hc hb ob hcap hby
  go_enter Try.func7, Try.ntmps7
  go_upto_region 3 with (at_builtin; refine wpList_append_lies _ rfl _ _ _ rfl w.heap.size 67 i0 _ 7 56 Try.underlying23 hi hz0 hz1 hz2 rfl (by decide) (.slice none 0 0) 0 [] (by rfl) (World.ownsRow_nil _ _ _ _) ⟨b, off, none⟩ n cap (opsL f n) (by rfl) (opsL_len f n) HNW.out (opsL_one f n) HPOS.out C3.out C4.out C5.out (w.heap.size + 1 + 1) (by simp) ?_; intro g cap2 w2 hown hgr hgg hlt; rw [Nat.zero_add] at *; have HOW : Hid _ := hown; have HGR : Hid _ := Below.grown (Below.refl _ _) hgr (Nat.le_refl _) (fun k hk => by cases hk); have HG : Hid (g = w.heap.size + 1 + 1) := (hgg.elim (fun h => by cases h) id); clear hown hgr hgg; obtain ⟨B2, B5, BB1⟩ := keep2 HGR.out; have q3 := row_cell B5 3; have qf := row_fr B5; have ql := row_lt B5; clear B2 B5 BB1)
  refine wp_gen (fun W' => LG w W' pc count bytes (some ⟨b, off, none⟩) (some ⟨g, 0, none⟩) n cap cap2 f) (lg_start pc count bytes (some ⟨b, off, none⟩) n cap g cap2 f HPOS.out HO.out HOB.out HOW.out HG.out HGR.out) ?_
  clear q3 qf ql HOW HGR HNW C3 C4 C5
  obtain ⟨bp', hbp'⟩ : ∃ bp', (some ⟨g, 0, none⟩ : Option Addr) = bp' := ⟨_, rfl⟩
  obtain ⟨cap', hcap'⟩ : ∃ c, cap2 = c := ⟨_, rfl⟩
  rw [hbp', hcap']
  clear HG hbp' hcap'
  intro W hW
  have c0 : W.cell? ⟨w.heap.size, 0, none⟩ = some (.int .u32 pc) := row_cell hW.b2 0
  have c1 : W.cell? ⟨w.heap.size, 1, none⟩ = some (.int .i64 count) := row_cell hW.b2 1
  have c2 : W.cell? ⟨w.heap.size, 2, none⟩ = some (.int .i64 bytes) := row_cell hW.b2 2
  have c3 : W.cell? ⟨w.heap.size, 3, none⟩ = some (.slice (some ⟨b, off, none⟩) n cap) := row_cell hW.b2 3
  have lW := row_lt hW.b2
  have HW : Hid _ := hW
  clear hW
  go_upto_region 4 with (go_at_call 29; refine (code_bad pc count bytes (some ⟨b, off, none⟩) n cap f regs _ HW.out.o HC.out HN.out (by rw [HE.out]; exact HE1.out)).mono ?_; rintro e w2 ⟨rfl, hb2⟩; rw [HE.out]; have HB2 : Hid _ := hb2; clear hb2)
  refine wp_gen (fun W' => LG w W' pc count bytes (some ⟨b, off, none⟩) bp' n cap cap' f) (HW.out.next HB2.out) ?_
  clear HB2 HW c0 c1 c2 c3 lW
  intro A hA
  have a3 : A.cell? ⟨w.heap.size + 1, 3, none⟩ = some (.slice bp' n cap') := row_cell hA.b5 3
  have lA := row_lt hA.b5
  have HA : Hid _ := hA
  clear hA
  go_upto_region 5 with fail
  go_loopw [25] (fun i wr => ∃ j : Nat, i = .int .i64 j ∧ j ≤ n ∧ LG w wr pc count bytes (some ⟨b, off, none⟩) bp' n cap cap' f) (fun i _ => n - (intOf i).toNat)
  case atStart => exact ⟨0, rfl, by omega, HA.out⟩
  case round =>
    obtain ⟨j, rfl, hj, hr⟩ := hrel
    have HR : Hid _ := hr
    clear HA a3 lA
    have y0 : wr.cell? ⟨w.heap.size + 1, 0, none⟩ = some (.int .u32 pc) := row_cell hr.b5 0
    have y1 : wr.cell? ⟨w.heap.size + 1, 1, none⟩ = some (.int .i64 count) := row_cell hr.b5 1
    have y2 : wr.cell? ⟨w.heap.size + 1, 2, none⟩ = some (.int .i64 bytes) := row_cell hr.b5 2
    have y3 : wr.cell? ⟨w.heap.size + 1, 3, none⟩ = some (.slice bp' n cap') := row_cell hr.b5 3
    have x3 : wr.cell? ⟨w.heap.size, 3, none⟩ = some (.slice (some ⟨b, off, none⟩) n cap) := row_cell hr.b2 3
    have lZ := row_lt hr.b5
    have lX := row_lt hr.b2
    by_cases hlt : j < n
    · have hji : (j : Int) < (n : Int) := by omega
      have dj : decide ((j : Int) < (n : Int)) = true := decide_eq_true hji
      have j0 : (0 : Int) ≤ (j : Int) := by omega
      have HLT : Hid _ := hlt
      obtain ⟨b1, off1, e1', hb1, hc1⟩ := hr.o (by omega)
      cases e1'
      obtain ⟨b2', off2, rfl, hb2', hc2⟩ := hr.o' (by omega)
      obtain ⟨o, HOO⟩ : ∃ o, Hid (f j = o) := ⟨_, rfl⟩
      obtain ⟨z0, z1, z2, z3, z4, z5, z6⟩ : OpAt wr b (off + j * 7) o := HOO.out ▸ hc1 j hlt
      obtain ⟨v0, v1, v2, v3, v4, v5, v6⟩ : OpAt wr b2' (off2 + j * 7) o := HOO.out ▸ hc2 j hlt
      clear hc1 hc2 hlt hr
      go_upto_region 7 with fail
      go_region
      all_goals go_wp2
      all_goals go_roundw
      case rel => exact ⟨j + 1, by go_num, HLT.out, HR.out.next ((Below.refl _ _).drew)⟩
      case measure => have := HLT.out; simp [intOf]; omega
    · obtain rfl : j = n := by omega
      have dj : decide ((j : Int) < (j : Int)) = false := decide_eq_false (by omega)
      have HZ : Hid _ := hr
      clear hlt hj hr HR x3 lX
      go_wp2_with (go_at_call 13; refine (rcheck_any pc count bytes bp' j cap' f _ HZ.out.o' HN.out).mono ?_; rintro e w3 ⟨rfl, hb3⟩; rw [HE.out]; have HB3 : Hid _ := hb3; clear hb3)
      go_ret
      exact ⟨rfl, (HZ.out.next HB3.out).bel⟩

set_option maxHeartbeats 4000000 in
theorem shapes_regs (pc : Nat) (count bytes : Int) (bp : Option Addr) (n cap : Nat) (f : Nat → OpR) (regs : Int) (w : World) (hn : 0 < n) (hO : OpsR w bp n f) (hby : n * 56 ≤ 140737488355328) (hcap : n ≤ cap) (he : (checkF count bytes n f).1 = 0) (hr : regs < 3 ∨ 16 < regs) :
    Calls Try.prog 7 #[.agg #[.int .u32 pc, .int .i64 count, .int .i64 bytes, .slice bp n cap], .int .i64 regs] w fun e w' => e = .returned (.bool true) ∧ Below w.heap.size w w' := by
  obtain ⟨⟨e1, e2⟩, HE⟩ : ∃ E, Hid (checkF count bytes n f = E) := ⟨_, rfl⟩
  have he1 : e1 = 0 := by rw [HE.out] at he; exact he
  subst he1
  have HRR : Hid _ := hr
  have HEZ : Hid _ := he
  clear he
  obtain ⟨b, off, rfl, hb, hc⟩ := hO hn
  obtain ⟨i0, hi, hz0, hz1, hz2⟩ := info_parts info160
  have ob : ∀ b' off', (some ⟨b, off, none⟩ : Option Addr) = some ⟨b', off', none⟩ → b' < w.heap.size := fun b' off' e => by cases e; exact hb
  have HNW : Hid (∀ j v, (opsL f n)[j]? = some v → ((w.alloc (.cells #[.int .u32 pc, .int .i64 count, .int .i64 bytes, .slice (some ⟨b, off, none⟩) n cap] 25)).alloc (.cells #[.int .u32 pc, .int .i64 count, .int .i64 bytes, .slice (some ⟨b, off, none⟩) n cap] 25)).cell? ((⟨b, off, none⟩ : Addr).add j) = some v) := show ∀ j v, _ from fun j v hv => by
    obtain ⟨hj, rfl⟩ := opsL_at f n j v hv
    rw [Addr.add_mid, show off + j = (off + j / 7 * 7) + j % 7 by omega]
    exact (((hc (j / 7) (by omega)).below (wk_bel w _ _) hb).cells (j % 7) (by omega))
  have HPOS : Hid (0 < n) := hn
  have C3 : Hid (0 + n ≤ maxLen) := show 0 + n ≤ maxLen by unfold maxLen; omega
  have C4 : Hid ((0 + n) * 56 ≤ 140737488355328) := show (0 + n) * 56 ≤ 140737488355328 by omega
  have C5 : Hid (w.heap.size ≤ ((w.alloc (.cells #[.int .u32 pc, .int .i64 count, .int .i64 bytes, .slice (some ⟨b, off, none⟩) n cap] 25)).alloc (.cells #[.int .u32 pc, .int .i64 count, .int .i64 bytes, .slice (some ⟨b, off, none⟩) n cap] 25)).heap.size) := show w.heap.size ≤ _ by simp; omega
  have HB : Hid (b < w.heap.size) := hb
  have HOB : Hid _ := ob
  have HO : Hid (OpsR w (some ⟨b, off, none⟩) n f) := show OpsR _ _ _ _ from hO
  have HC : Hid (n ≤ cap) := hcap
  have HN : Hid (n < 9223372036854775807) := show n < 9223372036854775807 by omega
  have n0 : (0 : Int) ≤ (n : Int) := by omega
  have nb : (n : Int) < 9223372036854775807 := by omega
  clear hO hc hb ob hcap hby
  go_enter Try.func7, Try.ntmps7
  go_upto_region 3 with (at_builtin; refine wpList_append_lies _ rfl _ _ _ rfl w.heap.size 67 i0 _ 7 56 Try.underlying23 hi hz0 hz1 hz2 rfl (by decide) (.slice none 0 0) 0 [] (by rfl) (World.ownsRow_nil _ _ _ _) ⟨b, off, none⟩ n cap (opsL f n) (by rfl) (opsL_len f n) HNW.out (opsL_one f n) HPOS.out C3.out C4.out C5.out (w.heap.size + 1 + 1) (by simp) ?_; intro g cap2 w2 hown hgr hgg hlt; rw [Nat.zero_add] at *; have HOW : Hid _ := hown; have HGR : Hid _ := Below.grown (Below.refl _ _) hgr (Nat.le_refl _) (fun k hk => by cases hk); have HG : Hid (g = w.heap.size + 1 + 1) := (hgg.elim (fun h => by cases h) id); clear hown hgr hgg; obtain ⟨B2, B5, BB1⟩ := keep2 HGR.out; have q3 := row_cell B5 3; have qf := row_fr B5; have ql := row_lt B5; clear B2 B5 BB1)
  refine wp_gen (fun W' => LG w W' pc count bytes (some ⟨b, off, none⟩) (some ⟨g, 0, none⟩) n cap cap2 f) (lg_start pc count bytes (some ⟨b, off, none⟩) n cap g cap2 f HPOS.out HO.out HOB.out HOW.out HG.out HGR.out) ?_
  clear q3 qf ql HOW HGR HNW C3 C4 C5
  obtain ⟨bp', hbp'⟩ : ∃ bp', (some ⟨g, 0, none⟩ : Option Addr) = bp' := ⟨_, rfl⟩
  obtain ⟨cap', hcap'⟩ : ∃ c, cap2 = c := ⟨_, rfl⟩
  rw [hbp', hcap']
  clear HG hbp' hcap'
  intro W hW
  have c0 : W.cell? ⟨w.heap.size, 0, none⟩ = some (.int .u32 pc) := row_cell hW.b2 0
  have c1 : W.cell? ⟨w.heap.size, 1, none⟩ = some (.int .i64 count) := row_cell hW.b2 1
  have c2 : W.cell? ⟨w.heap.size, 2, none⟩ = some (.int .i64 bytes) := row_cell hW.b2 2
  have c3 : W.cell? ⟨w.heap.size, 3, none⟩ = some (.slice (some ⟨b, off, none⟩) n cap) := row_cell hW.b2 3
  have lW := row_lt hW.b2
  have HW : Hid _ := hW
  clear hW
  go_upto_region 4 with (go_at_call 29; refine (code_regs pc count bytes (some ⟨b, off, none⟩) n cap f regs _ HW.out.o HC.out HN.out HEZ.out HRR.out).mono ?_; rintro e w2 ⟨rfl, hb2⟩; have HB2 : Hid _ := hb2; clear hb2)
  refine wp_gen (fun W' => LG w W' pc count bytes (some ⟨b, off, none⟩) bp' n cap cap' f) (HW.out.next HB2.out) ?_
  clear HB2 HW c0 c1 c2 c3 lW
  intro A hA
  have a3 : A.cell? ⟨w.heap.size + 1, 3, none⟩ = some (.slice bp' n cap') := row_cell hA.b5 3
  have lA := row_lt hA.b5
  have HA : Hid _ := hA
  clear hA
  go_upto_region 5 with fail
  go_loopw [25] (fun i wr => ∃ j : Nat, i = .int .i64 j ∧ j ≤ n ∧ LG w wr pc count bytes (some ⟨b, off, none⟩) bp' n cap cap' f) (fun i _ => n - (intOf i).toNat)
  case atStart => exact ⟨0, rfl, by omega, HA.out⟩
  case round =>
    obtain ⟨j, rfl, hj, hr⟩ := hrel
    have HR : Hid _ := hr
    clear HA a3 lA
    have y0 : wr.cell? ⟨w.heap.size + 1, 0, none⟩ = some (.int .u32 pc) := row_cell hr.b5 0
    have y1 : wr.cell? ⟨w.heap.size + 1, 1, none⟩ = some (.int .i64 count) := row_cell hr.b5 1
    have y2 : wr.cell? ⟨w.heap.size + 1, 2, none⟩ = some (.int .i64 bytes) := row_cell hr.b5 2
    have y3 : wr.cell? ⟨w.heap.size + 1, 3, none⟩ = some (.slice bp' n cap') := row_cell hr.b5 3
    have x3 : wr.cell? ⟨w.heap.size, 3, none⟩ = some (.slice (some ⟨b, off, none⟩) n cap) := row_cell hr.b2 3
    have lZ := row_lt hr.b5
    have lX := row_lt hr.b2
    by_cases hlt : j < n
    · have hji : (j : Int) < (n : Int) := by omega
      have dj : decide ((j : Int) < (n : Int)) = true := decide_eq_true hji
      have j0 : (0 : Int) ≤ (j : Int) := by omega
      have HLT : Hid _ := hlt
      obtain ⟨b1, off1, e1', hb1, hc1⟩ := hr.o (by omega)
      cases e1'
      obtain ⟨b2', off2, rfl, hb2', hc2⟩ := hr.o' (by omega)
      obtain ⟨o, HOO⟩ : ∃ o, Hid (f j = o) := ⟨_, rfl⟩
      obtain ⟨z0, z1, z2, z3, z4, z5, z6⟩ : OpAt wr b (off + j * 7) o := HOO.out ▸ hc1 j hlt
      obtain ⟨v0, v1, v2, v3, v4, v5, v6⟩ : OpAt wr b2' (off2 + j * 7) o := HOO.out ▸ hc2 j hlt
      clear hc1 hc2 hlt hr
      go_upto_region 7 with fail
      go_region
      all_goals go_wp2
      all_goals go_roundw
      case rel => exact ⟨j + 1, by go_num, HLT.out, HR.out.next ((Below.refl _ _).drew)⟩
      case measure => have := HLT.out; simp [intOf]; omega
    · obtain rfl : j = n := by omega
      have dj : decide ((j : Int) < (j : Int)) = false := decide_eq_false (by omega)
      have HZ : Hid _ := hr
      clear hlt hj hr HR x3 lX
      by_cases h3 : regs < 3
      · have d3 : decide (regs < 3) = true := decide_eq_true h3
        clear h3
        go_wp2_with (go_at_call 13; refine (rcheck_any pc count bytes bp' j cap' f _ HZ.out.o' HN.out).mono ?_; rintro e w3 ⟨rfl, hb3⟩; rw [HE.out]; have HB3 : Hid _ := hb3; clear hb3)
        go_ret
        exact ⟨rfl, (HZ.out.next HB3.out).bel⟩
      · have d3 : decide (regs < 3) = false := decide_eq_false h3
        have d16 : decide (16 < regs) = true := decide_eq_true (by have := HRR.out; omega)
        clear h3
        go_wp2_with (go_at_call 13; refine (rcheck_any pc count bytes bp' j cap' f _ HZ.out.o' HN.out).mono ?_; rintro e w3 ⟨rfl, hb3⟩; rw [HE.out]; have HB3 : Hid _ := hb3; clear hb3)
        go_ret
        exact ⟨rfl, (HZ.out.next HB3.out).bel⟩

set_option maxHeartbeats 4000000 in
theorem shapes_ok (pc : Nat) (count bytes : Int) (bp : Option Addr) (n cap : Nat) (f : Nat → OpR) (regs : Nat) (h3 : 3 ≤ regs) (h16 : regs ≤ 16) (hpc : pc < 4294967296) (hk : ∀ v, v < n → (f v).k < 4294967296) (w : World) (hn : 0 < n) (hO : OpsR w bp n f) (hby : n * 56 ≤ 140737488355328) (hcap : n ≤ cap) (he : (checkF count bytes n f).1 = 0) :
    Calls Try.prog 7 #[.agg #[.int .u32 pc, .int .i64 count, .int .i64 bytes, .slice bp n cap], .int .i64 regs] w fun e w' => e = .returned (.bool true) ∧ Below w.heap.size w w' := by
  obtain ⟨⟨e1, e2⟩, HE⟩ : ∃ E, Hid (checkF count bytes n f = E) := ⟨_, rfl⟩
  have he1 : e1 = 0 := by rw [HE.out] at he; exact he
  subst he1
  have HEZ : Hid _ := he
  obtain ⟨hBK, hWK, hc0, hc64⟩ := blk_of count bytes n f he hk
  have HBK : Hid _ := hBK
  have r3 : decide ((regs : Int) < 3) = false := decide_eq_false (by omega)
  have r16 : decide (16 < (regs : Int)) = false := decide_eq_false (by omega)
  have HPC : Hid (pc < 4294967296) := hpc
  have H3 : Hid (3 ≤ regs) := h3
  have H16 : Hid (regs ≤ 16) := h16
  obtain ⟨r, hr1, hr2, hr3⟩ := ext_run f n regs count pc hBK (by omega) hWK n (Nat.le_refl _)
  rw [enter_enc count pc hc0 hc64] at hr1
  obtain ⟨l, HL⟩ : ∃ l, Hid ((runG f n regs count pc n).l = l) := ⟨_, rfl⟩
  rw [HL.out] at hr1
  have HLL : Hid (l.length ≤ 16 * n + 2) := show _ ≤ _ by rw [hr1, List.length_append]; show 2 + r.length ≤ _; omega
  have HL2 : Hid (2 ≤ l.length) := show _ ≤ _ by rw [hr1, List.length_append]; show 2 ≤ 2 + r.length; omega
  have HDE : Hid ((decP (wsF l) l.length 0).e = 0 ∧ (decP (wsF l) l.length 0).x = enterX count pc ∧ (decP (wsF l) l.length 0).n = 2) := show _ ∧ _ by rw [hr1]; exact enter_dec count pc hc0 hc64 r
  have HLM : Hid (∀ y ∈ l, y < 4294967296) := show ∀ y ∈ l, _ by
    rw [hr1]
    intro y hy
    rcases List.mem_append.1 hy with h | h
    · simp only [List.mem_cons, List.not_mem_nil, or_false] at h
      rcases h with rfl | rfl
      · omega
      · exact hpc
    · exact hr2.small y h
  have HLT32 : Hid (l.length ≤ 140737488355328) := show _ ≤ _ by have := HLL.out; have := hBK.hn; omega
  have HST : Hid (Str regs l 2) := show Str regs l 2 by rw [hr1]; exact pc_str hr2 [1 + count.toNat * 65536, pc]
  clear he hBK hWK hc0 hc64 hpc h3 h16 hr1 hr2 hr3 hk
  obtain ⟨b, off, rfl, hb, hc⟩ := hO hn
  obtain ⟨i0, hi, hz0, hz1, hz2⟩ := info_parts info160
  have ob : ∀ b' off', (some ⟨b, off, none⟩ : Option Addr) = some ⟨b', off', none⟩ → b' < w.heap.size := fun b' off' e => by cases e; exact hb
  have HNW : Hid (∀ j v, (opsL f n)[j]? = some v → ((w.alloc (.cells #[.int .u32 pc, .int .i64 count, .int .i64 bytes, .slice (some ⟨b, off, none⟩) n cap] 25)).alloc (.cells #[.int .u32 pc, .int .i64 count, .int .i64 bytes, .slice (some ⟨b, off, none⟩) n cap] 25)).cell? ((⟨b, off, none⟩ : Addr).add j) = some v) := show ∀ j v, _ from fun j v hv => by
    obtain ⟨hj, rfl⟩ := opsL_at f n j v hv
    rw [Addr.add_mid, show off + j = (off + j / 7 * 7) + j % 7 by omega]
    exact (((hc (j / 7) (by omega)).below (wk_bel w _ _) hb).cells (j % 7) (by omega))
  have HPOS : Hid (0 < n) := hn
  have C3 : Hid (0 + n ≤ maxLen) := show 0 + n ≤ maxLen by unfold maxLen; omega
  have C4 : Hid ((0 + n) * 56 ≤ 140737488355328) := show (0 + n) * 56 ≤ 140737488355328 by omega
  have C5 : Hid (w.heap.size ≤ ((w.alloc (.cells #[.int .u32 pc, .int .i64 count, .int .i64 bytes, .slice (some ⟨b, off, none⟩) n cap] 25)).alloc (.cells #[.int .u32 pc, .int .i64 count, .int .i64 bytes, .slice (some ⟨b, off, none⟩) n cap] 25)).heap.size) := show w.heap.size ≤ _ by simp; omega
  have HB : Hid (b < w.heap.size) := hb
  have HOB : Hid _ := ob
  have HO : Hid (OpsR w (some ⟨b, off, none⟩) n f) := show OpsR _ _ _ _ from hO
  have HC : Hid (n ≤ cap) := hcap
  have HN : Hid (n < 9223372036854775807) := show n < 9223372036854775807 by omega
  have n0 : (0 : Int) ≤ (n : Int) := by omega
  have nb : (n : Int) < 9223372036854775807 := by omega
  clear hO hc hb ob hcap hby
  go_enter Try.func7, Try.ntmps7
  go_upto_region 3 with (at_builtin; refine wpList_append_lies _ rfl _ _ _ rfl w.heap.size 67 i0 _ 7 56 Try.underlying23 hi hz0 hz1 hz2 rfl (by decide) (.slice none 0 0) 0 [] (by rfl) (World.ownsRow_nil _ _ _ _) ⟨b, off, none⟩ n cap (opsL f n) (by rfl) (opsL_len f n) HNW.out (opsL_one f n) HPOS.out C3.out C4.out C5.out (w.heap.size + 1 + 1) (by simp) ?_; intro g cap2 w2 hown hgr hgg hlt; rw [Nat.zero_add] at *; have HOW : Hid _ := hown; have HGR : Hid _ := Below.grown (Below.refl _ _) hgr (Nat.le_refl _) (fun k hk => by cases hk); have HG : Hid (g = w.heap.size + 1 + 1) := (hgg.elim (fun h => by cases h) id); clear hown hgr hgg; obtain ⟨B2, B5, BB1⟩ := keep2 HGR.out; have q3 := row_cell B5 3; have qf := row_fr B5; have ql := row_lt B5; clear B2 B5 BB1)
  refine wp_gen (fun W' => LG w W' pc count bytes (some ⟨b, off, none⟩) (some ⟨g, 0, none⟩) n cap cap2 f) (lg_start pc count bytes (some ⟨b, off, none⟩) n cap g cap2 f HPOS.out HO.out HOB.out HOW.out HG.out HGR.out) ?_
  clear q3 qf ql HOW HGR HNW C3 C4 C5
  obtain ⟨bp', hbp'⟩ : ∃ bp', (some ⟨g, 0, none⟩ : Option Addr) = bp' := ⟨_, rfl⟩
  obtain ⟨cap', hcap'⟩ : ∃ c, cap2 = c := ⟨_, rfl⟩
  rw [hbp', hcap']
  clear HG hbp' hcap'
  intro W hW
  have c0 : W.cell? ⟨w.heap.size, 0, none⟩ = some (.int .u32 pc) := row_cell hW.b2 0
  have c1 : W.cell? ⟨w.heap.size, 1, none⟩ = some (.int .i64 count) := row_cell hW.b2 1
  have c2 : W.cell? ⟨w.heap.size, 2, none⟩ = some (.int .i64 bytes) := row_cell hW.b2 2
  have c3 : W.cell? ⟨w.heap.size, 3, none⟩ = some (.slice (some ⟨b, off, none⟩) n cap) := row_cell hW.b2 3
  have lW := row_lt hW.b2
  have HW : Hid _ := hW
  clear hW
  go_upto_region 4 with (go_at_call 29; refine (code_ok pc count bytes (some ⟨b, off, none⟩) n cap f regs _ HW.out.o (HW.out.ob HPOS.out) HC.out HBK.out HEZ.out H3.out H16.out HPC.out).mono ?_; rintro e w2 ⟨sx, rfl, hown2, hb2⟩; rw [HL.out] at hown2; have HB2 : Hid _ := hb2; have HOWN2 : Hid _ := hown2; clear hb2 hown2)
  obtain ⟨sa, sc, hsx, hswd⟩ := own_wds HL2.out HLM.out HLT32.out HOWN2.out
  subst hsx
  refine wp_gen (fun W' => LG w W' pc count bytes (some ⟨b, off, none⟩) bp' n cap cap' f ∧ Wds W' sa l.length sc (wsF l)) ⟨HW.out.next HB2.out, hswd⟩ ?_
  clear hswd HOWN2
  clear HB2 HW c0 c1 c2 c3 lW
  rintro A ⟨hA, hAW⟩
  have HAW : Hid (WdsS A sa l.length sc (wsF l)) := ⟨hAW⟩
  clear hAW
  have a3 : A.cell? ⟨w.heap.size + 1, 3, none⟩ = some (.slice bp' n cap') := row_cell hA.b5 3
  have lA := row_lt hA.b5
  have HA : Hid _ := hA
  clear hA
  go_upto_region 5 with fail
  go_loopw [25] (fun i wr => ∃ j : Nat, i = .int .i64 j ∧ j ≤ n ∧ LG w wr pc count bytes (some ⟨b, off, none⟩) bp' n cap cap' f ∧ Wds wr sa l.length sc (wsF l)) (fun i _ => n - (intOf i).toNat)
  case atStart => exact ⟨0, rfl, by omega, HA.out, HAW.out.out⟩
  case round =>
    obtain ⟨j, rfl, hj, hr, hrw⟩ := hrel
    have HWD : Hid (WdsS wr sa l.length sc (wsF l)) := ⟨hrw⟩
    clear hrw
    have HR : Hid _ := hr
    clear HA a3 lA HAW
    have y0 : wr.cell? ⟨w.heap.size + 1, 0, none⟩ = some (.int .u32 pc) := row_cell hr.b5 0
    have y1 : wr.cell? ⟨w.heap.size + 1, 1, none⟩ = some (.int .i64 count) := row_cell hr.b5 1
    have y2 : wr.cell? ⟨w.heap.size + 1, 2, none⟩ = some (.int .i64 bytes) := row_cell hr.b5 2
    have y3 : wr.cell? ⟨w.heap.size + 1, 3, none⟩ = some (.slice bp' n cap') := row_cell hr.b5 3
    have x3 : wr.cell? ⟨w.heap.size, 3, none⟩ = some (.slice (some ⟨b, off, none⟩) n cap) := row_cell hr.b2 3
    have lZ := row_lt hr.b5
    have lX := row_lt hr.b2
    by_cases hlt : j < n
    · have hji : (j : Int) < (n : Int) := by omega
      have dj : decide ((j : Int) < (n : Int)) = true := decide_eq_true hji
      have j0 : (0 : Int) ≤ (j : Int) := by omega
      have HLT : Hid _ := hlt
      obtain ⟨b1, off1, e1', hb1, hc1⟩ := hr.o (by omega)
      cases e1'
      obtain ⟨b2', off2, rfl, hb2', hc2⟩ := hr.o' (by omega)
      obtain ⟨o, HOO⟩ : ∃ o, Hid (f j = o) := ⟨_, rfl⟩
      obtain ⟨z0, z1, z2, z3, z4, z5, z6⟩ : OpAt wr b (off + j * 7) o := HOO.out ▸ hc1 j hlt
      obtain ⟨v0, v1, v2, v3, v4, v5, v6⟩ : OpAt wr b2' (off2 + j * 7) o := HOO.out ▸ hc2 j hlt
      clear hc1 hc2 hlt hr
      go_upto_region 7 with fail
      go_region
      all_goals go_wp2
      all_goals go_roundw
      case rel => exact ⟨j + 1, by go_num, HLT.out, HR.out.next ((Below.refl _ _).drew), wds_keep HWD.out.out ((Below.refl _ _).drew)⟩
      case measure => have := HLT.out; simp [intOf]; omega
    · obtain rfl : j = n := by omega
      have dj : decide ((j : Int) < (j : Int)) = false := decide_eq_false (by omega)
      have HZ : Hid _ := hr
      clear hlt hj hr HR x3 lX
      go_upto_region 15 with (go_at_call 13; refine (rcheck_any pc count bytes bp' j cap' f _ HZ.out.o' HN.out).mono ?_; rintro e w3 ⟨rfl, hb3⟩; rw [HE.out]; have HB3 : Hid _ := hb3; clear hb3)
      refine wp_gen (fun W' => LG w W' pc count bytes (some ⟨b, off, none⟩) bp' j cap cap' f ∧ Wds W' sa l.length sc (wsF l)) ⟨HZ.out.next HB3.out, wds_keep HWD.out.out HB3.out⟩ ?_
      clear y0 y1 y2 y3 lZ HB3
      rintro T ⟨hT, hTW⟩
      have t0 : T.cell? ⟨w.heap.size + 1, 0, none⟩ = some (.int .u32 pc) := row_cell hT.b5 0
      have t1 : T.cell? ⟨w.heap.size + 1, 1, none⟩ = some (.int .i64 count) := row_cell hT.b5 1
      have t2 : T.cell? ⟨w.heap.size + 1, 2, none⟩ = some (.int .i64 bytes) := row_cell hT.b5 2
      have t3 : T.cell? ⟨w.heap.size + 1, 3, none⟩ = some (.slice bp' j cap') := row_cell hT.b5 3
      have lT := row_lt hT.b5
      have HT : Hid _ := hT
      have HTW : Hid (WdsS T sa l.length sc (wsF l)) := ⟨hTW⟩
      clear hT hTW
      go_wp2_with (go_at_call 30; refine (straight_any sa sc l pc count bytes bp' j cap' regs _ HTW.out.out HBK.out.hn HLL.out H3.out H16.out HL2.out HDE.out HST.out).mono ?_; rintro e w4 ⟨rfl, hb4⟩; have HB4 : Hid _ := hb4; clear hb4)
      go_ret
      exact ⟨rfl, (HT.out.next HB4.out).bel⟩
end Go.Proofs.Ytocefkpnlgfebab.Ho
