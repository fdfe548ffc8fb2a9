import Derived.Test.YtgkkghphlbgcoaaRD
import Derived.Test.YtgkkghphlbgcoaaRW
import Derived.Maps.AppendAt
import Derived.Deep.DrawnRows
namespace Go.Proofs.Ytgkkghphlbgcoaa.Ca
open Go.RowKit Go.Maps Ho
set_option maxRecDepth 100000
set_option linter.unusedVariables false
set_option linter.unusedSimpArgs false
attribute [local go_sem ↓] Go.wp_at_zero Go.wp_at_succ
/-- A word of a block that may lead on. -/
def LkAt (k : Rk) (s : Nat) : Prop := (∃ S, Good k.cw k.len k.pc S ∧ s ∈ S) ∧ isX (decP k.cw k.len s).x.op = true ∧ ∀ p ∈ k.ls, (p.1 : Int) ≠ (s : Int)
/-- What holds of the document's blocks. -/
structure Rg (d : Rs) : Prop where
  gd : ∀ k ∈ d.bs, ∃ S, Good k.cw k.len k.pc S
  sr : d.bs.Pairwise fun k q => k.at' + k.len ≤ q.at'
  tp : ∀ k ∈ d.bs, k.at' + k.len ≤ d.filled
  ls : ∀ k ∈ d.bs, k.ls.length + 1 ≤ 1048576
structure RlP (w : World) (D : Nat) (J : Rd) (d : Rs) (at' : Int) (e : Ending) (w' : World) : Prop where
  ex : (e = .returned (.int .i64 4) ∧ Below w.heap.size w w' ∧ ∀ k ∈ d.bs, ∀ s : Nat, s < k.len → at' = ((k.at' + s : Nat) : Int) → ¬ LkAt k s) ∨
    (∃ k s, k ∈ d.bs ∧ s < k.len ∧ at' = ((k.at' + s : Nat) : Int) ∧ LkAt k s ∧ fdK d.bs (decP k.cw k.len s).x.k = none ∧ e = .returned (.int .i64 9) ∧ Below w.heap.size w w') ∨
    ∃ l1 k l2 s k' lv tv, d.bs = l1 ++ k :: l2 ∧ s < k.len ∧ at' = ((k.at' + s : Nat) : Int) ∧ LkAt k s ∧ fdK d.bs (decP k.cw k.len s).x.k = some k' ∧ e = .returned (.int .i64 0) ∧ Rw w' D J { d with bs := l1 ++ { k with ls := k.ls ++ [(s, (decP k.cw k.len s).x.k)], lv := lv, tv := tv } :: l2 } ∧ (∀ j, lv.ownBlock = some j ∨ tv.ownBlock = some j → j ∈ wrB D J d.bs ∨ w.heap.size ≤ j) ∧ Ch (fun j => j ∈ wrB D J d.bs) w w'
structure RlC (k : Rk) (s : Nat) (W : World) (v : Value) (wx : World) : Prop where
  ex : ∃ b, v = .bool b ∧ (b = true → ¬ LkAt k s) ∧ (b = false → LkAt k s) ∧ wx = W
structure RlI (w : World) (d : Rs) (at' : Int) (v : Value) (wr : World) : Prop where
  ex : ∃ i : Nat, v = .int .i64 i ∧ i ≤ d.bs.length ∧ (∀ j k, j < i → d.bs[j]? = some k → ¬ ((k.at' : Int) ≤ at' ∧ at' < (k.at' : Int) + k.len)) ∧ Below w.heap.size w wr
structure RlJ (w : World) (S : List Nat) (len s : Nat) (v : Value) (wr : World) : Prop where
  ex : ∃ p : Nat, v = .int .i64 p ∧ (p ∈ S ∨ p = len) ∧ p ≤ len ∧ (∀ x ∈ S, x < p → x < s) ∧ Below w.heap.size w wr
theorem app_u1 (W : World) (v : Value) (n : Nat) (xs : List Value) (x : Nat) (hrow : W.ownsRow 0 30 1 v n xs) (hn : n + 1 ≤ 1048576) :
    ∃ v' W', (Builtin.append_ #[32, 32] 32 #[v, .slice (some ⟨W.heap.size, 0, none⟩) 1 1]).run Try.prog (W.alloc (.cells #[.int .u32 x] 30)) = .ok v' W' ∧ (W'.ownsRow 0 30 1 v' (n + 1) (xs ++ [.int .u32 x]) ∧ (W.alloc (.cells #[.int .u32 x] 30)).grownBy W' v.ownBlock ∧ (v'.ownBlock = v.ownBlock ∨ v'.ownBlock = some (W.heap.size + 1))) := by
  obtain ⟨i0, hi, hz0, hz1, hz2⟩ := info_parts infoU
  obtain ⟨v', W', hr, h2, h3, _, h5⟩ := run_append_own_at (P := Try.prog) (W.alloc (.cells #[.int .u32 x] 30)) 0 32 32 30 i0 (.int .u32 0) 1 4 Try.underlying32 hi hz0 hz1 hz2 rfl (by decide) v n xs (hrow.alloc _) ⟨W.heap.size, 0, none⟩ 1 1 [.int .u32 x] rfl (cell_one_new _ _ _) (by simp [Value.oneCell']) (by rw [show maxLen = 9223372036854775807 by decide]; omega) (by omega) (Nat.zero_le _)
  exact ⟨v', W', hr, h2, h3, by simpa using h5⟩
theorem one_only {d : Rs} (g : Rg d) {i j : Nat} {k q : Rk} (hi : d.bs[i]? = some k) (hj : d.bs[j]? = some q) {s t : Nat} (hs : s < k.len) (ht : t < q.len) (e : k.at' + s = q.at' + t) : i = j := by
  have hp := List.pairwise_iff_getElem.1 g.sr
  obtain ⟨l1, e1⟩ := List.getElem?_eq_some_iff.1 hi
  obtain ⟨l2, e2⟩ := List.getElem?_eq_some_iff.1 hj
  rcases Nat.lt_trichotomy i j with h | h | h
  · have := hp i j l1 l2 h
    rw [e1, e2] at this
    omega
  · exact h
  · have := hp j i l2 l1 h
    rw [e1, e2] at this
    omega
set_option maxHeartbeats 8000000 in
theorem rLink_any (D : Nat) (at' : Int) (J : Rd) (d : Rs) (w : World) (h : Rw w D J d) (g : Rg d) (hwf : -9223372036854775808 ≤ at' ∧ at' ≤ 9223372036854775807) :
    Calls Try.prog 22 #[.pointer (some ⟨D, 0, none⟩), .int .i64 at'] w fun e w' => RlP w D J d at' e w' := by
  obtain ⟨i0, hi0, hz0, hz1, hz2⟩ := info_parts infoI
  obtain ⟨_, _, c2, _, _⟩ := h.cell
  obtain ⟨ba, bcap, hbv, _⟩ := h.blocks
  rw [hbv] at c2
  have HR : Hid _ := h
  have HBV : Hid _ := hbv
  have HG : Hid (Rg d) := g
  obtain ⟨_, m2, m3, _, _, hbl⟩ := h.rm
  have lD := h.lt D (.inl (mem_wr.2 (.inl rfl)))
  obtain ⟨w0, w9⟩ := hwf
  clear h hbv g
  go_enter Try.func22, Try.ntmps22
  go_wp2
  go_loopw [20] (fun v wr => RlI w d at' v wr) (fun v _ => d.bs.length - (intOf v).toNat)
  case atStart => exact ⟨0, rfl, Nat.zero_le _, fun j k hj => absurd hj (Nat.not_lt_zero _), Below.refl _ _⟩
  case round =>
    obtain ⟨i, rfl, hi, hno, hb⟩ := hrel
    have HNO : Hid (∀ j k, j < i → d.bs[j]? = some k → ¬ ((k.at' : Int) ≤ at' ∧ at' < (k.at' : Int) + k.len)) := hno
    have HB : Hid _ := hb
    clear hno
    by_cases hin : i < d.bs.length
    · obtain ⟨k, hk⟩ : ∃ k, d.bs[i]? = some k := ⟨_, List.getElem?_eq_getElem hin⟩
      obtain ⟨g, bcap', ca, ccap, pa, pcap, la, lcap, ta, tcap, e, hg, ⟨e1, e2, e3, e4⟩, y0, y1, y2, y3, y4, y5⟩ := HR.out.block hk
      rw [HBV.out] at e
      cases e
      have HE1 : Hid _ := e1
      have HE3 : Hid (k.lv = .slice la k.ls.length lcap) := e3
      have HE4 : Hid (k.tv = .slice ta k.ls.length tcap) := e4
      have hkm : k ∈ d.bs := List.mem_of_getElem? hk
      have HKM : Hid _ := hkm
      have HKI : Hid _ := hk
      have x1 := (hb.cell (p := ⟨g, i * 6 + 1, none⟩) hg).trans y1
      have x3 := (hb.cell (p := ⟨g, i * 6 + 3, none⟩) hg).trans y3
      have c2' := (hb.cell (p := ⟨D, 2, none⟩) lD).trans c2
      have f1 : (i : Int) < (d.bs.length : Int) := by omega
      have f2 : decide ((i : Int) < (d.bs.length : Int)) = true := decide_eq_true f1
      have f3 : (0 : Int) ≤ (i : Int) := by omega
      obtain ⟨i1, hi1⟩ : ∃ i1, i + 1 = i1 := ⟨_, rfl⟩
      have t1 : IntKind.i64.wrap ((i : Int) + 1) = (i1 : Int) := So.wr_one hi1 (by omega)
      have HI1 : Hid _ := hi1
      have kat := HG.out.tp k hkm
      have hlo := (HR.out.kb k hkm).lo
      have hls1 := HG.out.ls k hkm
      clear e1 e2 e3 e4 hi1 hkm
      by_cases hr : (k.at' : Int) ≤ at' ∧ at' < (k.at' : Int) + k.len
      · obtain ⟨s, hs⟩ : ∃ s : Nat, at' = ((k.at' + s : Nat) : Int) := ⟨(at' - k.at').toNat, by omega⟩
        have hsl : s < k.len := by omega
        have tz : IntKind.i64.wrap (at' - (k.at' : Int)) = (s : Int) := by rw [IntWalk.i64_in _ (by omega)]; omega
        have q0 : ¬ (s : Int) < 0 := by omega
        have q1 : decide ((s : Int) < 0) = false := decide_eq_false q0
        have q2 : ¬ (k.len : Int) ≤ (s : Int) := by omega
        have q3 : decide ((k.len : Int) ≤ (s : Int)) = false := decide_eq_false q2
        have q2' : ¬ k.len ≤ s := by omega
        obtain ⟨S, hS⟩ := HG.out.gd k HKM.out
        have HS : Hid (Good k.cw k.len k.pc S) := hS
        have HAT : Hid (at' = ((k.at' + s : Nat) : Int)) := hs
        have HONE : Hid (¬ LkAt k s → ∀ q ∈ d.bs, ∀ t : Nat, t < q.len → at' = ((q.at' + t : Nat) : Int) → ¬ LkAt q t) := (by
          intro hn q hq t ht hat hl
          obtain ⟨j, hj⟩ := List.getElem?_of_mem hq
          have e : k.at' + s = q.at' + t := by omega
          have ij := one_only HG.out HKI.out hj hsl ht e
          subst ij
          rw [HKI.out] at hj
          cases hj
          obtain rfl : s = t := by omega
          exact hn hl)
        have HW : Hid (Ho.Wds w ca k.len ccap k.cw) := (by obtain ⟨a0, cap0, e0, hw0, _⟩ := row_wds (HR.out.kb k HKM.out).cv hlo (HR.out.kb k HKM.out).lt; rw [HE1.out] at e0; cases e0; exact hw0)
        obtain ⟨l1, l2, hbs, hli⟩ := split_at hk
        have HBS : Hid (d.bs = l1 ++ k :: l2) := hbs
        have HLI : Hid (l1.length = i) := hli
        have HCU : Hid (∀ W, Below w.heap.size w W → ∃ cur, W.heap[g]? = some (.cells cur 100) ∧ i * 6 + 5 < cur.size) := (fun W hW => by
          rcases HR.out.row.2 with ⟨e, h0⟩ | ⟨g', cap', cur, e, u2, u3, u4, u5, u6, u7⟩
          · rw [HBV.out] at e; cases e
          · rw [HBV.out] at e; cases e
            exact ⟨cur, (hW.block g hg).trans u3, by omega⟩)
        clear hk hr hs hS hbs hli
        go_wp2
        go_loopw [8] (fun v wr2 => RlJ w S k.len s v wr2) (fun v _ => s - (intOf v).toNat)
        case atStart => exact ⟨0, rfl, .inl (til_head HS.out.t (by omega)), Nat.zero_le _, fun x _ hx => absurd hx (Nat.not_lt_zero _), HB.out⟩
        case round =>
          obtain ⟨p, rfl, hp, hpl, hpx, hb2⟩ := hrel
          have HP : Hid (p ∈ S ∨ p = k.len) := hp
          have HPX : Hid (∀ x ∈ S, x < p → x < s) := hpx
          have HB2 : Hid _ := hb2
          have p1 := (hb2.cell (p := ⟨g, i * 6 + 1, none⟩) hg).trans y1
          clear hp hpx
          by_cases hps : p < s
          · have f7 : (p : Int) < (s : Int) := by omega
            have f8 : decide ((p : Int) < (s : Int)) = true := decide_eq_true f7
            have hpS : p ∈ S := by rcases HP.out with h | h; exact h; omega
            obtain ⟨u1, u2, u3, u4⟩ := til_mem (HR.out.kb k HKM.out).lt HS.out.t p hpS
            obtain ⟨D0, hD⟩ : ∃ D0, decP k.cw k.len p = D0 := ⟨_, rfl⟩
            have HD : Hid (decP k.cw k.len p = D0) := hD
            rw [hD] at u2 u3 u4
            obtain ⟨de, ⟨xo, xd, xa, xb, xc, xn, xk, xx⟩, df, dn⟩ := D0
            dsimp only at u2 u3 u4
            obtain ⟨p2, hp2⟩ : ∃ p2, p + dn = p2 := ⟨_, rfl⟩
            have t2 : IntKind.i64.wrap ((p : Int) + (dn : Int)) = (p2 : Int) := So.wr_add hp2 (by omega)
            have HP2 : Hid (p + dn = p2) := hp2
            have HPS : Hid _ := hpS
            clear hD hp2 hpS hb2
            go_wp2_with (go_at_call 37; fail)
            refine Calls.mono (Ho.rDecode_any ca k.len ccap p k.cw _ (Ho.wds_keep HW.out HB2.out)) ?_
            rw [HD.out]
            rintro _ w1 ⟨rfl, hb1⟩
            dsimp only [cdV]
            go_wp2
            refine ⟨⟨p2, rfl, ?_, by have := HP2.out; omega, fun x hx hlt => ?_, ?_⟩, by have := HP2.out; simp [intOf]; omega⟩
            · rcases til_next HS.out.t p HPS.out with h | h
              · left; rw [HD.out] at h; rw [← HP2.out]; exact h
              · right; rw [HD.out] at h; rw [← HP2.out]; exact h
            · rcases Nat.lt_or_ge x p with h | h
              · exact HPX.out x hx h
              · by_cases e : x = p
                · omega
                · rcases til_disj (HR.out.kb k HKM.out).lt HS.out.t p HPS.out x hx (Ne.symm e) with h2 | h2
                  · rw [HD.out] at h2; have := HP2.out; dsimp only at h2; omega
                  · have := (til_mem (HR.out.kb k HKM.out).lt HS.out.t x hx).2.2.2; omega
            · exact (HB2.out.trans (hb1.mono HB2.out.size)).trans ((Below.refl _ _).alloc (by have := HB2.out.size; have := hb1.size; omega) _)
          · have f7 : ¬ (p : Int) < (s : Int) := by omega
            have f8 : decide ((p : Int) < (s : Int)) = false := decide_eq_false f7
            obtain ⟨D0, hD⟩ : ∃ D0, decP k.cw k.len s = D0 := ⟨_, rfl⟩
            have HD : Hid (decP k.cw k.len s = D0) := hD
            obtain ⟨de, ⟨xo, xd, xa, xb, xc, xn, xk, xx⟩, df, dn⟩ := D0
            clear hD hb2
            go_wp2_with (go_at_call 37; fail)
            refine Calls.mono (Ho.rDecode_any ca k.len ccap s k.cw _ (Ho.wds_keep HW.out HB2.out)) ?_
            rw [HD.out]
            rintro _ w1 ⟨rfl, hb1⟩
            dsimp only [cdV]
            have hbx : Below w.heap.size w (w1.alloc (.cells #[.int .i64 xo, .int .i64 xd, .int .i64 xa, .int .i64 xb, .int .i64 xc, .int .i64 xn, .int .u32 xk, .int .u32 xx] 41)) := (HB2.out.trans (hb1.mono HB2.out.size)).trans ((Below.refl _ _).alloc (by have := HB2.out.size; have := hb1.size; omega) _)
            have HBX : Hid _ := hbx
            have HSX : Hid (w.heap.size ≤ w1.heap.size) := Nat.le_trans HB2.out.size hb1.size
            have HX : Hid ((w1.alloc (.cells #[.int .i64 xo, .int .i64 xd, .int .i64 xa, .int .i64 xb, .int .i64 xc, .int .i64 xn, .int .u32 xk, .int .u32 xx] 41)).heap[w1.heap.size]? = some (.cells #[.int .i64 xo, .int .i64 xd, .int .i64 xa, .int .i64 xb, .int .i64 xc, .int .i64 xn, .int .u32 xk, .int .u32 xx] 41)) := World.alloc_heap_new _ _
            clear hb1 hbx
            go_upto_region 12 with fail
            go_cut [90] from 72 to 90 (fun v wx => RlC k s (w1.alloc (.cells #[.int .i64 xo, .int .i64 xd, .int .i64 xa, .int .i64 xb, .int .i64 xc, .int .i64 xn, .int .u32 xk, .int .u32 xx] 41)) v wx)
            case first =>
              by_cases hpe : p = s
              · have HIN : Hid (s ∈ S) := (by rcases HP.out with h | h; rw [← hpe]; exact h; omega)
                subst hpe
                have x4 := (HBX.out.cell (p := ⟨g, i * 6 + 4, none⟩) hg).trans y4
                by_cases h14 : xo = 14
                · subst h14
                  go_wp2_with (go_at_call 47; fail)
                  refine Calls.mono (rleads_any g (i * 6) p k.ls _ _ x4 (HE3.out ▸ ((HR.out.below HBX.out).kb k HKM.out).lv) (by omega)) ?_
                  rintro _ w2 ⟨rfl, rfl⟩
                  dsimp only
                  rcases ldI_neg k.ls 0 (p : Int) with hL | ⟨hL, p0, hp0, hp1⟩
                  · have HL : Hid _ := (ldI_none k.ls 0 (p : Int)).1 hL
                    rw [hL]
                    clear hL
                    go_wp2
                    go_meet
                    exact ⟨false, rfl, by simp, fun _ => ⟨⟨S, HS.out, HIN.out⟩, by rw [HD.out]; rfl, HL.out⟩, rfl⟩
                  · have f6 : decide ((0 : Int) ≤ ldI k.ls 0 (p : Int)) = true := decide_eq_true hL
                    have HP0 : Hid _ := hp1
                    have HP1 : Hid _ := hp0
                    clear hp1 hp0
                    go_wp2
                    go_meet
                    exact ⟨true, rfl, fun _ hh => hh.2.2 p0 HP1.out HP0.out, by simp, rfl⟩
                · have n14 : decide (xo = 14) = false := decide_eq_false h14
                  have b14 : (xo == 14) = false := by simpa using h14
                  by_cases h11 : xo = 11
                  · subst h11
                    go_wp2_with (go_at_call 47; fail)
                    refine Calls.mono (rleads_any g (i * 6) p k.ls _ _ x4 (HE3.out ▸ ((HR.out.below HBX.out).kb k HKM.out).lv) (by omega)) ?_
                    rintro _ w2 ⟨rfl, rfl⟩
                    dsimp only
                    rcases ldI_neg k.ls 0 (p : Int) with hL | ⟨hL, p0, hp0, hp1⟩
                    · have HL : Hid _ := (ldI_none k.ls 0 (p : Int)).1 hL
                      rw [hL]
                      clear hL
                      go_wp2
                      go_meet
                      exact ⟨false, rfl, by simp, fun _ => ⟨⟨S, HS.out, HIN.out⟩, by rw [HD.out]; rfl, HL.out⟩, rfl⟩
                    · have f6 : decide ((0 : Int) ≤ ldI k.ls 0 (p : Int)) = true := decide_eq_true hL
                      have HP0 : Hid _ := hp1
                      have HP1 : Hid _ := hp0
                      clear hp1 hp0
                      go_wp2
                      go_meet
                      exact ⟨true, rfl, fun _ hh => hh.2.2 p0 HP1.out HP0.out, by simp, rfl⟩
                  · have n11 : decide (xo = 11) = false := decide_eq_false h11
                    have b11 : (xo == 11) = false := by simpa using h11
                    go_wp2
                    go_meet
                    refine ⟨true, rfl, fun _ hh => ?_, by simp, rfl⟩
                    have := hh.2.1
                    rw [HD.out] at this
                    simp [isX, h14, h11] at this
              · have f9 : ¬ (p : Int) = (s : Int) := by omega
                have f10 : decide ((p : Int) = (s : Int)) = false := decide_eq_false f9
                have f11 : ((p : Int) == (s : Int)) = false := by simpa using f9
                have f12 : ((p : Int) != (s : Int)) = true := by simpa using f9
                go_wp2
                go_meet
                refine ⟨true, rfl, fun _ hh => ?_, by simp, rfl⟩
                obtain ⟨⟨S', hS', hm⟩, _⟩ := hh
                rw [til_uniq (HR.out.kb k HKM.out).lt hS'.t HS.out.t] at hm
                have := HPX.out s hm (by omega)
                omega
            case rest =>
              obtain ⟨b, rfl, hbt, hbf, rfl⟩ := hcut
              cases b with
              | true =>
                have HBT : Hid _ := hbt rfl
                clear hbt hbf
                go_wp2
                go_ret
                exact ⟨.inl ⟨rfl, HBX.out, HONE.out HBT.out⟩⟩
              | false =>
                have HLK : Hid _ := hbf rfl
                clear hbt hbf
                go_wp2_with (go_at_call 46; fail)
                refine Calls.mono (rfind_any D xk J d _ (HR.out.below HBX.out)) ?_
                rintro _ w3 ⟨rfl, hb3⟩
                dsimp only
                have hB3 : Below w.heap.size w w3 := HBX.out.trans (hb3.mono HBX.out.size)
                have hX3 := (hb3.block _ (So.row_lt HX.out)).trans HX.out
                have HB3 : Hid _ := hB3
                have HX3 : Hid _ := hX3
                cases hfd : fdK d.bs xk with
                | none =>
                  rw [fdI_none d.bs 0 xk hfd]
                  have HFD : Hid _ := hfd
                  clear hfd hb3 hB3 hX3
                  go_wp2
                  go_ret
                  exact ⟨.inr (.inl ⟨k, s, HKM.out, hsl, HAT.out, HLK.out, by rw [HD.out]; exact HFD.out, rfl, HB3.out⟩)⟩
                | some k' =>
                  obtain ⟨j', hj', _⟩ := fdI_some d.bs 0 xk k' hfd
                  rw [hj', Nat.zero_add]
                  have f5 : ¬ (j' : Int) < 0 := by omega
                  have f6 : decide ((j' : Int) < 0) = false := decide_eq_false f5
                  have HFD : Hid _ := hfd
                  have HR3 : Hid (Rw w3 D J d) := HR.out.below hB3
                  have v4 := (hB3.cell (p := ⟨g, i * 6 + 4, none⟩) hg).trans y4
                  have v5 := (hB3.cell (p := ⟨g, i * 6 + 5, none⟩) hg).trans y5
                  have v6 : w3.cell? ⟨w1.heap.size, 6, none⟩ = some (.int .u32 xk) := (So.row_cell hX3 6).trans rfl
                  have lG : g < w3.heap.size := Nat.lt_of_lt_of_le hg hB3.size
                  have lX := So.row_lt hX3
                  have hbo : (Value.slice (some ⟨g, 0, none⟩) d.bs.length bcap).ownBlock = some g := rfl
                  have far := wrB_far HR3.out HBS.out
                  have gl : k.lv.ownBlock ≠ some g := fun e => (far g (.inl e)).1.2.2.2 (by rw [HBV.out]; rfl)
                  have gt : k.tv.ownBlock ≠ some g := fun e => (far g (.inr e)).1.2.2.2 (by rw [HBV.out]; rfl)
                  have lvlt : ∀ j, k.lv.ownBlock = some j → j < w.heap.size := fun j e => ((HR.out.kb k HKM.out).lv.lt j e).2
                  have tvlt : ∀ j, k.tv.ownBlock = some j → j < w.heap.size := fun j e => ((HR.out.kb k HKM.out).tv.lt j e).2
                  have hsX : w.heap.size ≤ w1.heap.size := HSX.out
                  have xl : k.lv.ownBlock ≠ some w1.heap.size := fun e => by have := lvlt _ e; omega
                  have xt : k.tv.ownBlock ≠ some w1.heap.size := fun e => by have := tvlt _ e; omega
                  have tvl : ∀ j, k.lv.ownBlock = some j → k.tv.ownBlock ≠ some j := fun j e1 e2 => by
                    have hn := HR3.out.nd
                    rw [HBS.out, wrB_mid, List.nodup_append] at hn
                    have hn2 := hn.2.1
                    rw [List.nodup_append] at hn2
                    have hn3 := hn2.1
                    rw [List.nodup_append] at hn3
                    exact hn3.2.2 j (by rw [e1]; simp) j (by rw [e2]; simp) rfl
                  have HF : Hid _ := far
                  clear hfd hj' hb3 hB3 hX3 far hbo
                  go_wp2_with (at_builtin; refine mkI ?_)
                  unfold Mk
                  refine wpList_append_own_at _ rfl _ _ 31 rfl 0 3 i0 (.int .i64 0) 1 8 Try.underlying31 hi0 hz0 hz1 hz2 rfl (by decide) _ k.ls.length _ rfl (HE3.out ▸ row_keep (HR3.out.kb k HKM.out).lv (fun j e => al_old _ _ j ((HR3.out.kb k HKM.out).lv.lt j e).2)) ⟨w3.heap.size, 0, none⟩ 1 1 [.int .i64 s] rfl rfl (cell_one_new _ _ _) (by simp [Value.oneCell']) (by rw [show maxLen = 9223372036854775807 by decide]; omega) (by omega) (Nat.zero_le _) ?_
                  intro nl w5 hnl hg5 _ ho5
                  obtain ⟨na, ncap, rfl⟩ := row_sl hnl
                  rw [← HE3.out] at hg5 ho5
                  have k5 : ∀ j, j < w3.heap.size → k.lv.ownBlock ≠ some j → w5.heap[j]? = w3.heap[j]? := fun j h1 h2 => (hg5.block j (by simp; omega) (Ne.symm h2)).trans (al_old _ _ j h1)
                  have s5 : w3.heap.size + 1 ≤ w5.heap.size := by have := hg5.size; simpa using this
                  obtain ⟨cur, hcur, hcs⟩ : ∃ cur, w3.heap[g]? = some (.cells cur 100) ∧ i * 6 + 5 < cur.size := HCU.out w3 HB3.out
                  have q4 : w5.cell? ⟨g, i * 6 + 4, none⟩ = some (.slice la k.ls.length lcap) := by rw [World.cell?_of_block (a := ⟨g, i * 6 + 4, none⟩) (k5 g lG gl)]; exact v4
                  have z4 := So.row_fr ((k5 g lG gl).trans hcur) (i * 6 + 4)
                  have q5 : w5.cell? ⟨g, i * 6 + 5, none⟩ = some (.slice ta k.ls.length tcap) := by rw [World.cell?_of_block (a := ⟨g, i * 6 + 5, none⟩) (k5 g lG gl)]; exact v5
                  have q6 : w5.cell? ⟨w1.heap.size, 6, none⟩ = some (.int .u32 xk) := by rw [World.cell?_of_block (a := ⟨w1.heap.size, 6, none⟩) (k5 _ lX xl)]; exact v6
                  have HNL : Hid (w5.ownsRow 0 3 1 (.slice na (k.ls.length + 1) ncap) (k.ls.length + 1) (k.ls.map (fun p => Value.int .i64 p.1) ++ [.int .i64 s])) := hnl
                  have HG5 : Hid _ := hg5
                  have HO5 : Hid _ := ho5
                  have HK5 : Hid _ := k5
                  clear hnl hg5 ho5 k5 v4 v5 v6
                  go_wp2
                  obtain ⟨w6, hw6⟩ : ∃ w6, w5.setCell ⟨g, i * 6 + 4, none⟩ (.slice na (k.ls.length + 1) ncap) = w6 := ⟨_, rfl⟩
                  have b6 : ∀ j, j ≠ g → w6.heap[j]? = w5.heap[j]? := fun j hj => by rw [← hw6]; exact So.blk_other hj _
                  have gX : w1.heap.size ≠ g := fun e => by have := hg; omega
                  have c6 : w6.heap[g]? = some (.cells (cur.setIfInBounds (i * 6 + 4) (.slice na (k.ls.length + 1) ncap)) 100) := by rw [← hw6]; exact So.blk_set ((HK5.out g lG gl).trans hcur) _
                  have r5 : w6.cell? ⟨g, i * 6 + 5, none⟩ = some (.slice ta k.ls.length tcap) := by
                    have q := q5
                    rw [So.row_cell ((HK5.out g lG gl).trans hcur)] at q
                    rw [So.row_cell c6, Array.getElem?_setIfInBounds, if_neg (by omega)]
                    exact q
                  have r6 : w6.cell? ⟨w1.heap.size, 6, none⟩ = some (.int .u32 xk) := by rw [World.cell?_of_block (a := ⟨w1.heap.size, 6, none⟩) (b6 _ gX)]; exact q6
                  have S6 : Hid (w6.heap.size = w5.heap.size) := (show w6.heap.size = w5.heap.size by rw [← hw6]; simp)
                  have os6 : w6.os = w5.os ∧ w6.tape = w5.tape ∧ w6.output = w5.output := by rw [← hw6]; exact ⟨rfl, rfl, rfl⟩
                  rw [hw6]
                  have HW6 : Hid _ := hw6
                  have HR6 : Hid _ := b6
                  have HC6 : Hid _ := c6
                  clear hw6 q4 z4 q5 q6
                  refine region_T 11 (fun w' => w'.cell? ⟨g, i * 6 + 5, none⟩ = some (.slice ta k.ls.length tcap) ∧ w'.cell? ⟨w1.heap.size, 6, none⟩ = some (.int .u32 xk)) (by kernel_rfl) ?_
                  have gS : ({ w6 with drawn := w6.drawn + 1 } : World).cell? ⟨g, i * 6 + 5, none⟩ = some (.slice ta k.ls.length tcap) ∧ ({ w6 with drawn := w6.drawn + 1 } : World).cell? ⟨w1.heap.size, 6, none⟩ = some (.int .u32 xk) := ⟨r5, r6⟩
                  obtain ⟨wd, hwd⟩ : ∃ wd, ({ w6 with drawn := w6.drawn + 1 } : World) = wd := ⟨_, rfl⟩
                  have hbd : ∀ j : Nat, wd.heap[j]? = w6.heap[j]? := fun j => by rw [← hwd]
                  have SBD : Hid (wd.heap.size = w6.heap.size) := (show wd.heap.size = w6.heap.size by rw [← hwd])
                  have osd : wd.os = w6.os ∧ wd.tape = w6.tape ∧ wd.output = w6.output := by rw [← hwd]; exact ⟨rfl, rfl, rfl⟩
                  rw [hwd] at gS ⊢
                  clear r5 r6 hwd
                  refine anyT_take (t := 11) (i := 0) (oi := { dst := some 106, op := .move (.tmp 6), type := 101, pos := "cache.go:114", after := #[], guard := none }) (v := .pointer (some ⟨g, i * 6, none⟩)) rfl (by kernel_rfl) (by kernel_rfl) (by kernel_rfl) (by kernel_rfl) (fun _ _ _ h => h) (Or.inl ⟨by rfl, ?_⟩) gS ?_
                  · (intro w hSw; (try dsimp only at hSw); (try obtain ⟨s1, s2⟩ := hSw); go_simp)
                  try simp only [Act.put, List.setIfInBounds_toArray, List.set_cons_zero, List.set_cons_succ]
                  refine anyT_take (t := 11) (i := 1) (oi := { dst := some 107, op := .move (.tmp 6), type := 101, pos := "cache.go:114", after := #[], guard := none }) (v := .pointer (some ⟨g, i * 6, none⟩)) rfl (by kernel_rfl) (by kernel_rfl) (by kernel_rfl) (by kernel_rfl) (fun _ _ _ h => h) (Or.inl ⟨by rfl, ?_⟩) gS ?_
                  · (intro w hSw; (try dsimp only at hSw); (try obtain ⟨s1, s2⟩ := hSw); go_simp)
                  try simp only [Act.put, List.setIfInBounds_toArray, List.set_cons_zero, List.set_cons_succ]
                  refine anyT_take (t := 11) (i := 2) (oi := { dst := some 108, op := .nilCheck (.tmp 107), type := 0, pos := "cache.go:114", after := #[{ on := 1, ground := .data }], guard := none }) (v := .pointer (some ⟨g, i * 6, none⟩)) rfl (by kernel_rfl) (by kernel_rfl) (by kernel_rfl) (by kernel_rfl) (fun _ _ _ h => h) (Or.inl ⟨by rfl, ?_⟩) gS ?_
                  · (intro w hSw; (try dsimp only at hSw); (try obtain ⟨s1, s2⟩ := hSw); go_simp)
                  try simp only [Act.put, List.setIfInBounds_toArray, List.set_cons_zero, List.set_cons_succ]
                  refine anyT_take (t := 11) (i := 3) (oi := { dst := some 109, op := .fieldAddr 100 (.tmp 108) 5, type := 0, pos := "cache.go:114", after := #[{ on := 2, ground := .data }], guard := none }) (v := .pointer (some ⟨g, i * 6 + 5, none⟩)) rfl (by kernel_rfl) (by kernel_rfl) (by kernel_rfl) (by kernel_rfl) (fun _ _ _ h => h) (Or.inl ⟨by rfl, ?_⟩) gS ?_
                  · (intro w hSw; (try dsimp only at hSw); (try obtain ⟨s1, s2⟩ := hSw); go_simp)
                  try simp only [Act.put, List.setIfInBounds_toArray, List.set_cons_zero, List.set_cons_succ]
                  refine anyT_take (t := 11) (i := 4) (oi := { dst := some 110, op := .load 32 (.tmp 109), type := 32, pos := "cache.go:114", after := #[{ on := 3, ground := .data }], guard := none }) (v := .slice ta k.ls.length tcap) rfl (by kernel_rfl) (by kernel_rfl) (by kernel_rfl) (by kernel_rfl) (fun _ _ _ h => h) (Or.inl ⟨by rfl, ?_⟩) gS ?_
                  · (intro w hSw; (try dsimp only at hSw); (try obtain ⟨s1, s2⟩ := hSw); go_simp)
                  try simp only [Act.put, List.setIfInBounds_toArray, List.set_cons_zero, List.set_cons_succ]
                  refine anyT_take (t := 11) (i := 5) (oi := { dst := some 111, op := .fieldAddr 41 (.tmp 12) 6, type := 0, pos := "cache.go:114", after := #[], guard := none }) (v := .pointer (some ⟨w1.heap.size, 6, none⟩)) rfl (by kernel_rfl) (by kernel_rfl) (by kernel_rfl) (by kernel_rfl) (fun _ _ _ h => h) (Or.inl ⟨by rfl, ?_⟩) gS ?_
                  · (intro w hSw; (try dsimp only at hSw); (try obtain ⟨s1, s2⟩ := hSw); go_simp)
                  try simp only [Act.put, List.setIfInBounds_toArray, List.set_cons_zero, List.set_cons_succ]
                  refine anyT_take (t := 11) (i := 6) (oi := { dst := some 112, op := .load 30 (.tmp 111), type := 30, pos := "cache.go:114", after := #[{ on := 5, ground := .data }], guard := none }) (v := .int .u32 xk) rfl (by kernel_rfl) (by kernel_rfl) (by kernel_rfl) (by kernel_rfl) (fun _ _ _ h => h) (Or.inl ⟨by rfl, ?_⟩) gS ?_
                  · (intro w hSw; (try dsimp only at hSw); (try obtain ⟨s1, s2⟩ := hSw); go_simp)
                  try simp only [Act.put, List.setIfInBounds_toArray, List.set_cons_zero, List.set_cons_succ]
                  have kl : ∀ j, j < w3.heap.size → k.lv.ownBlock ≠ some j → j ≠ g → wd.heap[j]? = w3.heap[j]? := fun j h1 h2 h3 => (hbd j).trans ((HR6.out j h3).trans (HK5.out j h1 h2))
                  have htr : wd.ownsRow 0 30 1 k.tv k.ls.length (k.ls.map fun p => .int .u32 p.2) := row_keep (HR3.out.kb k HKM.out).tv fun j e => kl j ((HR3.out.kb k HKM.out).tv.lt j e).2 (fun e2 => tvl j e2 e) (fun e2 => gt (by rw [← e2]; exact e))
                  rw [HE4.out] at htr
                  have HA : Hid (∃ v' W', (Builtin.append_ #[32, 32] 32 #[.slice ta k.ls.length tcap, .slice (some ⟨wd.heap.size, 0, none⟩) 1 1]).run Try.prog (wd.alloc (.cells #[.int .u32 xk] 30)) = .ok v' W' ∧ (W'.ownsRow 0 30 1 v' (k.ls.length + 1) (k.ls.map (fun p => Value.int .u32 p.2) ++ [.int .u32 xk]) ∧ (wd.alloc (.cells #[.int .u32 xk] 30)).grownBy W' (Value.slice ta k.ls.length tcap).ownBlock ∧ (v'.ownBlock = (Value.slice ta k.ls.length tcap).ownBlock ∨ v'.ownBlock = some (wd.heap.size + 1)))) := app_u1 wd _ _ _ xk htr hls1
                  refine anyT_step (i := 7) (by kernel_rfl) rfl rfl (fun K hK => ?_)
                  go_simp
                  have lgd : g < wd.heap.size := by have := S6.out; have := SBD.out; omega
                  have lxd : w1.heap.size < wd.heap.size := by have := S6.out; have := SBD.out; omega
                  have gA : (wd.alloc (.cells #[.int .u32 xk] 30)).cell? ⟨g, i * 6 + 5, none⟩ = some (.slice ta k.ls.length tcap) ∧ (wd.alloc (.cells #[.int .u32 xk] 30)).cell? ⟨w1.heap.size, 6, none⟩ = some (.int .u32 xk) := ⟨by rw [World.cell?_of_block (a := ⟨g, i * 6 + 5, none⟩) (al_old _ _ g lgd)]; exact gS.1, by rw [World.cell?_of_block (a := ⟨w1.heap.size, 6, none⟩) (al_old _ _ _ lxd)]; exact gS.2⟩
                  refine hK _ _ (fun _ => gA) ?_
                  clear hK K
                  obtain ⟨wA, hwA⟩ : ∃ wA, wd.alloc (.cells #[.int .u32 xk] 30) = wA := ⟨_, rfl⟩
                  have bA : ∀ j, j < wd.heap.size → wA.heap[j]? = wd.heap[j]? := fun j hj => by rw [← hwA]; exact al_old _ _ j hj
                  have SA' : Hid (wA.heap.size = wd.heap.size + 1) := (show wA.heap.size = wd.heap.size + 1 by rw [← hwA]; simp)
                  have osA : wA.os = wd.os ∧ wA.tape = wd.tape ∧ wA.output = wd.output := by rw [← hwA]; exact ⟨rfl, rfl, rfl⟩
                  rw [hwA] at HA gA ⊢
                  clear hwA
                  refine anyT_step (i := 8) (by kernel_rfl) rfl rfl (fun K hK => ?_)
                  refine wp_app (.tmp 110) (.tmp 113) 32 32 rfl rfl (.slice ta k.ls.length tcap) (.slice (some ⟨wd.heap.size, 0, none⟩) 1 1) (by kernel_rfl) (by kernel_rfl) _ HA.out ?_
                  rintro nt w7 ⟨hnt, hg7, ho7⟩
                  obtain ⟨ma, mcap, rfl⟩ := row_sl hnt
                  rw [← HE4.out] at hg7 ho7
                  have k7 : ∀ j, j < wd.heap.size → k.tv.ownBlock ≠ some j → w7.heap[j]? = wd.heap[j]? := fun j h1 h2 => (hg7.block j (by have := SA'.out; omega) (Ne.symm h2)).trans (bA j h1)
                  have c7 : w7.heap[g]? = some (.cells (cur.setIfInBounds (i * 6 + 4) (.slice na (k.ls.length + 1) ncap)) 100) := (k7 g lgd gt).trans ((hbd g).trans HC6.out)
                  have g7 : w7.cell? ⟨g, i * 6 + 5, none⟩ = some (.slice ta k.ls.length tcap) := by rw [World.cell?_of_block (a := ⟨g, i * 6 + 5, none⟩) (k7 g lgd gt)]; exact gS.1
                  have h7 : w7.cell? ⟨w1.heap.size, 6, none⟩ = some (.int .u32 xk) := by rw [World.cell?_of_block (a := ⟨w1.heap.size, 6, none⟩) (k7 _ lxd xt)]; exact gS.2
                  have z7 := So.row_fr c7 (i * 6 + 5)
                  have HNT : Hid (w7.ownsRow 0 30 1 (.slice ma (k.ls.length + 1) mcap) (k.ls.length + 1) (k.ls.map (fun p => Value.int .u32 p.2) ++ [.int .u32 xk])) := hnt
                  have HG7 : Hid _ := hg7
                  have HO7 : Hid _ := ho7
                  have HK7 : Hid _ := k7
                  have HC7 : Hid _ := c7
                  have HKL : Hid _ := kl
                  refine hK _ _ (fun _ => ⟨g7, h7⟩) ?_
                  clear hK K hnt hg7 ho7 k7 c7 kl htr HA gA gS
                  try simp only [Act.put, List.setIfInBounds_toArray, List.set_cons_zero, List.set_cons_succ]
                  refine anyT_step (i := 9) (by kernel_rfl) rfl rfl (fun K hK => ?_)
                  go_simp
                  refine hK _ _ (fun _ => ⟨g7, h7⟩) ?_
                  clear hK K
                  refine anyT_step (i := 10) (by kernel_rfl) rfl rfl (fun K hK => ?_)
                  go_simp
                  refine hK _ _ (fun _ => ⟨g7, h7⟩) ?_
                  clear hK K
                  refine anyT_step (i := 11) (by kernel_rfl) rfl rfl (fun K hK => ?_)
                  go_simp
                  refine hK _ _ (fun e => absurd rfl e) ?_
                  clear hK K
                  refine anyT_done (by kernel_rfl) ?_ _
                  go_wp2
                  go_ret
                  have s6 := S6.out
                  have sbd := SBD.out
                  have sA := SA'.out
                  have hgn : ∀ j, j < w3.heap.size → (some g : Option Nat) ≠ some j → j ≠ g := fun j _ h e => h (by rw [e])
                  have hks : ∀ j, j < w3.heap.size → J.bv.ownBlock ≠ some j → k.lv.ownBlock ≠ some j → k.tv.ownBlock ≠ some j → (w7.setCell ⟨g, i * 6 + 5, none⟩ (.slice ma (k.ls.length + 1) mcap)).heap[j]? = w3.heap[j]? := fun j h1 h2 h3 h4 => by
                    have hjg : j ≠ g := fun e => h2 (by rw [HBV.out, e]; rfl)
                    rw [So.blk_other hjg]
                    exact (HK7.out j (by omega) h4).trans (HKL.out j h1 h3 hjg)
                  have nlb : ∀ j, (Value.slice na (k.ls.length + 1) ncap).ownBlock = some j → k.lv.ownBlock = some j ∨ w3.heap.size ≤ j := fun j e => by
                    rcases HO5.out with e2 | e2
                    · exact .inl (e2 ▸ e)
                    · rw [e2] at e; cases e; exact .inr (by simp)
                  have ntb : ∀ j, (Value.slice ma (k.ls.length + 1) mcap).ownBlock = some j → k.tv.ownBlock = some j ∨ w3.heap.size ≤ j := fun j e => by
                    rcases HO7.out with e2 | e2
                    · exact .inl (e2 ▸ e)
                    · rw [e2] at e; cases e; exact .inr (by omega)
                  have nlg : ∀ j, (Value.slice na (k.ls.length + 1) ncap).ownBlock = some j → j ≠ g ∧ j < wd.heap.size ∧ k.tv.ownBlock ≠ some j ∧ (Value.slice ma (k.ls.length + 1) mcap).ownBlock ≠ some j := fun j e => by
                    have hj5 := (HNL.out.lt j e).2
                    refine ⟨fun e2 => ?_, by omega, fun e2 => ?_, fun e2 => ?_⟩
                    · subst e2
                      rcases nlb _ e with e3 | e3
                      · exact gl e3
                      · omega
                    · rcases nlb _ e with e3 | e3
                      · exact tvl j e3 e2
                      · have := tvlt j e2; have := HB3.out.size; omega
                    · rcases HO7.out with e4 | e4
                      · have e5 : k.tv.ownBlock = some j := e4 ▸ e2
                        rcases nlb _ e with e3 | e3
                        · exact tvl j e3 e5
                        · have := tvlt j e5; have := HB3.out.size; omega
                      · rw [e4] at e2; cases e2; omega
                  have ntg : ∀ j, (Value.slice ma (k.ls.length + 1) mcap).ownBlock = some j → j ≠ g := fun j e e2 => by
                    subst e2
                    rcases ntb _ e with e3 | e3
                    · exact gt e3
                    · omega
                  have R := HR3.out.setK (w' := w7.setCell ⟨g, i * 6 + 5, none⟩ (.slice ma (k.ls.length + 1) mcap)) HBS.out (k.ls ++ [(s, xk)]) (.slice na (k.ls.length + 1) ncap) (.slice ma (k.ls.length + 1) mcap)
                    (by
                      rw [List.length_append, List.map_append]
                      refine row_keep HNL.out fun j e => ?_
                      obtain ⟨u1, u2, u3, u4⟩ := nlg j e
                      rw [So.blk_other u1]
                      exact (HK7.out j u2 u3).trans ((hbd j).trans (HR6.out j u1)))
                    (by
                      rw [List.length_append, List.map_append]
                      exact row_keep HNT.out fun j e => So.blk_other (ntg j e) _)
                    (by
                      have hrow := HR3.out.row
                      rw [HBV.out] at hrow ⊢
                      have r1 : (w3.setCell ⟨g, i * 6 + 4, none⟩ (.slice na (k.ls.length + 1) ncap)).ownsRow 0 100 6 (.slice (some ⟨g, 0, none⟩) d.bs.length bcap) d.bs.length _ := row_setc hrow _
                      have r2 := row_setc (o := i * 6 + 5) r1 (.slice ma (k.ls.length + 1) mcap)
                      rw [HBS.out, ← HLI.out, encB_set l1 l2 k (k.ls ++ [(s, xk)])] at r2
                      rw [HBS.out]
                      refine row_keep r2 fun j e => ?_
                      cases e
                      rw [HLI.out, So.blk_set HC7.out, So.blk_set (So.blk_set hcur _)])
                    hks nlb ntb (fun j e => (nlg j e).2.2.2)
                  have oA := HG7.out.os
                  have tA := HG7.out.tape
                  have uA := HG7.out.output
                  have o5 := HG5.out.os
                  have t5 := HG5.out.tape
                  have u5 := HG5.out.output
                  refine ⟨.inr (.inr ⟨l1, k, l2, s, k', .slice na (k.ls.length + 1) ncap, .slice ma (k.ls.length + 1) mcap, HBS.out, hsl, HAT.out, HLK.out, by rw [HD.out]; exact HFD.out, rfl, by rw [HD.out]; exact R, fun j e => ?_, ?_⟩)⟩
                  · have hs3 := HB3.out.size
                    rcases e with e | e
                    · rcases nlb j e with e2 | e2
                      · exact .inl (mem_wr.2 (.inr (.inr (.inr (.inr ⟨k, HKM.out, .inl e2⟩)))))
                      · exact .inr (by omega)
                    · rcases ntb j e with e2 | e2
                      · exact .inl (mem_wr.2 (.inr (.inr (.inr (.inr ⟨k, HKM.out, .inr e2⟩)))))
                      · exact .inr (by omega)
                  · have hs3 := HB3.out.size
                    refine (Ch.of_below _ HB3.out).trans ⟨?_, ?_, ?_, ?_, fun j hj hp => hks j hj (fun e => hp (mem_wr.2 (.inr (.inr (.inr (.inl e)))))) (fun e => hp (mem_wr.2 (.inr (.inr (.inr (.inr ⟨k, HKM.out, .inl e⟩)))))) (fun e => hp (mem_wr.2 (.inr (.inr (.inr (.inr ⟨k, HKM.out, .inr e⟩))))))⟩
                    · exact oA.trans (osA.1.trans (osd.1.trans (os6.1.trans o5)))
                    · exact tA.trans (osA.2.1.trans (osd.2.1.trans (os6.2.1.trans t5)))
                    · exact uA.trans (osA.2.2.trans (osd.2.2.trans (os6.2.2.trans u5)))
                    · have := HG7.out.size
                      simp
                      omega
      · obtain ⟨z, hz⟩ : ∃ z, IntKind.i64.wrap (at' - (k.at' : Int)) = z := ⟨_, rfl⟩
        have hzr : z < 0 ∨ (k.len : Int) ≤ z := by
          rw [← hz]
          by_cases hq : -9223372036854775808 ≤ at' - (k.at' : Int)
          · rw [IntWalk.i64_in _ (by omega)]; omega
          · right
            have : IntKind.i64.wrap (at' - (k.at' : Int)) = at' - (k.at' : Int) + 18446744073709551616 := by
              have e : IntKind.i64.wrap (at' - (k.at' : Int)) = IntKind.i64.wrap (at' - (k.at' : Int) + 18446744073709551616) := by
                have e2 : (at' - (k.at' : Int) + 18446744073709551616) % 2 ^ IntKind.i64.bits = (at' - (k.at' : Int)) % 2 ^ IntKind.i64.bits := by
                  rw [show (2 : Int) ^ IntKind.i64.bits = 18446744073709551616 by decide]
                  omega
                unfold IntKind.wrap
                rw [e2]
              rw [e, IntWalk.i64_in _ (by omega)]
            rw [this]; omega
        have HN : Hid _ := hr
        clear hr hk
        by_cases hz0' : z < 0
        · have q1 : decide (z < 0) = true := decide_eq_true hz0'
          go_wp2
          exact ⟨⟨i1, rfl, by have := HI1.out; omega, fun j q hj hq => (by
            rcases Nat.lt_or_ge j i with h | h
            · exact HNO.out j q h hq
            · obtain rfl : j = i := by have := HI1.out; omega
              rw [HKI.out] at hq; cases hq; exact HN.out), HB.out⟩, by have := HI1.out; simp [intOf]; omega⟩
        · have q1 : decide (z < 0) = false := decide_eq_false hz0'
          have q2 : (k.len : Int) ≤ z := by omega
          have q3 : decide ((k.len : Int) ≤ z) = true := decide_eq_true q2
          go_wp2
          exact ⟨⟨i1, rfl, by have := HI1.out; omega, fun j q hj hq => (by
            rcases Nat.lt_or_ge j i with h | h
            · exact HNO.out j q h hq
            · obtain rfl : j = i := by have := HI1.out; omega
              rw [HKI.out] at hq; cases hq; exact HN.out), HB.out⟩, by have := HI1.out; simp [intOf]; omega⟩
    · have f1 : ¬ (i : Int) < (d.bs.length : Int) := by omega
      have f2 : decide ((i : Int) < (d.bs.length : Int)) = false := decide_eq_false f1
      go_wp2
      go_ret
      refine ⟨.inl ⟨rfl, HB.out, fun k hk s hs e => ?_⟩⟩
      obtain ⟨j, hj⟩ := List.getElem?_of_mem hk
      have hl := (List.getElem?_eq_some_iff.1 hj).1
      exact absurd ⟨by omega, by omega⟩ (HNO.out j k (by omega) hj)
end Go.Proofs.Ytgkkghphlbgcoaa.Ca
