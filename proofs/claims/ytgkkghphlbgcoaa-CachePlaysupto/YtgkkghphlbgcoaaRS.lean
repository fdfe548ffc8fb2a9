import Derived.Test.YtgkkghphlbgcoaaRG
import Derived.Deep.CutRange
import Derived.Deep.DrawnRows
namespace Go.Proofs.Ytgkkghphlbgcoaa.Ca
open Go.RowKit Go.Maps Ho
set_option maxRecDepth 100000
set_option linter.unusedVariables false
set_option linter.unusedSimpArgs false
/-- Is a page among the first m? -/
def anyP (pg : Nat → Int) (p : Int) : Nat → Bool
  | 0 => false
  | m + 1 => anyP pg p m || decide (pg m = p)
theorem anyP_iff (pg : Nat → Int) (p : Int) : ∀ m, anyP pg p m = true ↔ ∃ i, i < m ∧ pg i = p
  | 0 => by simp [anyP]
  | m + 1 => by
    simp only [anyP, Bool.or_eq_true, decide_eq_true_eq, anyP_iff pg p m]
    constructor
    · rintro (⟨i, h1, h2⟩ | h)
      · exact ⟨i, by omega, h2⟩
      · exact ⟨m, by omega, h⟩
    · rintro ⟨i, h1, h2⟩
      by_cases e : i = m
      · subst e; exact .inr h2
      · exact .inl ⟨i, by omega, h2⟩
def hpg (p : Int) (k : Rk) : Bool := anyP k.pg p k.pn
def live (bs : List Rk) (p : Nat × Nat) : Bool := (fdK bs p.2).isSome
theorem fdK_pcs {bs bs' : List Rk} (h : bs.map (·.pc) = bs'.map (·.pc)) (pc : Nat) : (fdK bs pc).isSome = (fdK bs' pc).isSome := by
  have key : ∀ l : List Rk, (fdK l pc).isSome = (l.map (·.pc)).any (· == pc) := fun l => by
    unfold fdK
    induction l with
    | nil => rfl
    | cons a r ih =>
      rw [List.find?_cons]
      simp only [List.map_cons, List.any_cons]
      cases e : (a.pc == pc) with
      | true => rfl
      | false => simpa using ih
  rw [key, key, h]
theorem flatMap_sub {f : Rk → List Nat} : ∀ {a b : List Rk}, a.Sublist b → (a.flatMap f).Sublist (b.flatMap f)
  | _, _, .slnil => List.Sublist.refl _
  | _, _, .cons x h => by
    rw [List.flatMap_cons]
    exact (flatMap_sub h).trans (List.sublist_append_right _ _)
  | _, _, .cons_cons x h => by
    rw [List.flatMap_cons, List.flatMap_cons]
    exact List.Sublist.append (List.Sublist.refl _) (flatMap_sub h)
/-- The document's cache with fewer blocks. -/
theorem Rw.sub {w w1 : World} {D : Nat} {J : Rd} {d : Rs} (h : Rw w D J d) (bs1 : List Rk) (hs : bs1.Sublist d.bs) (nv : Value) (hb : Below w.heap.size w w1) (hr : w1.ownsRow w.heap.size 100 6 nv bs1.length (encB bs1)) :
    Rw (w1.setCell ⟨D, 2, none⟩ nv) D { J with bv := nv } { d with bs := bs1 } ∧ Ch (fun j => j ∈ wrB D J d.bs) w (w1.setCell ⟨D, 2, none⟩ nv) ∧ (∀ j, j ∈ wrB D { J with bv := nv } bs1 → j ∈ wrB D J d.bs ∨ w.heap.size ≤ j) ∧ ∀ j, j ∈ rdB bs1 → j ∈ rdB d.bs := by
  obtain ⟨n1, n2, n3, n4, n5⟩ := h.ne
  obtain ⟨A, a1, a2⟩ := h.sl
  obtain ⟨B, b1, b2⟩ := h.hs
  have lD := So.row_lt h.c0
  have hm : ∀ k, k ∈ bs1 → k ∈ d.bs := fun k hk => hs.subset hk
  have kp : ∀ j, j < w.heap.size → j ≠ D → (w1.setCell ⟨D, 2, none⟩ nv).heap[j]? = w.heap[j]? := fun j h1 h2 => (So.blk_other h2 _).trans (hb.block j h1)
  have hw : ∀ j, j ∈ wrB D { J with bv := nv } bs1 → j ∈ wrB D J d.bs ∨ w.heap.size ≤ j := fun j hj => by
    rcases mem_wr.1 hj with e | e | e | e | ⟨k, hk, e⟩
    · exact .inl (mem_wr.2 (.inl e))
    · exact .inl (mem_wr.2 (.inr (.inl e)))
    · exact .inl (mem_wr.2 (.inr (.inr (.inl e))))
    · exact .inr (hr.lt j e).1
    · exact .inl (mem_wr.2 (.inr (.inr (.inr (.inr ⟨k, hm k hk, e⟩)))))
  have hrd : ∀ j, j ∈ rdB bs1 → j ∈ rdB d.bs := fun j hj => by
    obtain ⟨k, hk, e⟩ := mem_rd.1 hj
    exact mem_rd.2 ⟨k, hm k hk, e⟩
  refine ⟨⟨So.blk_set ((hb.block D lD).trans h.c0) _, row_base (row_keep hr fun j e => So.blk_other (by have := (hr.lt j e).1; omega) _) (Nat.zero_le _), ⟨A, (kp _ (So.row_lt a1) (Ne.symm n1)).trans a1, a2⟩, ⟨B, (kp _ (So.row_lt b1) (Ne.symm n2)).trans b1, b2⟩, fun k hk => (h.kb k (hm k hk)).keep fun j e => ?_, ?_, fun j hj hj2 => ?_, ⟨h.rm.1, h.rm.2.1, h.rm.2.2.1, h.rm.2.2.2.1, h.rm.2.2.2.2.1, Nat.le_trans hs.length_le h.rm.2.2.2.2.2⟩⟩, ?_, hw, hrd⟩
  · have hk' := hm k hk
    rcases e with e | e | e | e
    · have hj := mem_rd.2 ⟨k, hk', .inl e⟩
      exact kp j (h.lt j (.inr hj)) (fun e2 => h.ap j hj (mem_wr.2 (.inl e2)))
    · have hj := mem_rd.2 ⟨k, hk', .inr e⟩
      exact kp j (h.lt j (.inr hj)) (fun e2 => h.ap j hj (mem_wr.2 (.inl e2)))
    · exact kp j ((h.kb k hk').lv.lt j e).2 (n5 k hk' j (.inl e)).1
    · exact kp j ((h.kb k hk').tv.lt j e).2 (n5 k hk' j (.inr e)).1
  · have hn : ([D, J.sb, J.hb] ++ (J.bv.ownBlock.toList ++ bs1.flatMap fun k => k.lv.ownBlock.toList ++ k.tv.ownBlock.toList)).Nodup := h.nd.sublist (List.Sublist.append (List.Sublist.refl _) (List.Sublist.append (List.Sublist.refl _) (flatMap_sub hs)))
    refine nodup_mid hn (by cases nv.ownBlock <;> simp) fun x hx => .inr ?_
    simp only [Option.mem_toList] at hx
    have hx2 := (hr.lt x hx).1
    constructor
    · intro hx3
      have := h.lt x (.inl (List.mem_append.2 (.inl hx3)))
      omega
    · intro hx3
      have := h.lt x (.inl (List.mem_append.2 (.inr (List.mem_append.2 (.inr ((flatMap_sub hs).subset hx3))))))
      omega
  · have h1 := hrd j hj
    rcases hw j hj2 with h2 | h2
    · exact h.ap j h1 h2
    · have := h.lt j (.inr h1); omega
  · exact (Ch.of_below _ hb).set (mem_wr.2 (.inl rfl)) _ _
theorem filt_take {bs : List Rk} {i : Nat} {k : Rk} (h : bs[i]? = some k) (p : Rk → Bool) : (bs.take (i + 1)).filter p = (bs.take i).filter p ++ if p k = true then [k] else [] := by
  obtain ⟨h1, h2⟩ := List.getElem?_eq_some_iff.1 h
  rw [← List.take_append_getElem h1, h2, List.filter_append]
  congr 1
  by_cases hp : p k = true
  · simp [hp]
  · simp [hp]
theorem filt_ls {ls : List (Nat × Nat)} {i : Nat} {k : Nat × Nat} (h : ls[i]? = some k) (p : Nat × Nat → Bool) : (ls.take (i + 1)).filter p = (ls.take i).filter p ++ if p k = true then [k] else [] := by
  obtain ⟨h1, h2⟩ := List.getElem?_eq_some_iff.1 h
  rw [← List.take_append_getElem h1, h2, List.filter_append]
  congr 1
  by_cases hp : p k = true
  · simp [hp]
  · simp [hp]
section
variable {P : Program} {md : Region.Mode} {ops : Array Oper} {Q : Exit → Act → World → Prop} {S : World → Prop}
/-- One that is guarded, at the operation. -/
theorem anyT_stepG {t i : Nat} {o : Oper} {fuel : Nat} {listed : Array Bool} {a : Act} {w : World} (hr : Region.ready md ops listed = [i]) (ho : ops[i]? = some o) (hw : Region.wanted o (yielded ops a.tmps) = true)
    (h : ∀ K : Act → World → Prop, (∀ a' w', (i ≠ t → S w') → anyT P md ops Q S (· ≠ t) fuel (listed.setIfInBounds i true) a' w' → K a' w') → o.wp P a w K Q) : anyT P md ops Q S (· ≠ t) (fuel + 1) listed a w := by
  refine anyT_one hr ?_
  unfold wpOp
  simp only [ho, hw, if_true]
  exact .inl (h _ fun a' w' h1 h2 => ⟨h1, h2⟩)
end
end Go.Proofs.Ytgkkghphlbgcoaa.Ca
namespace Go.Proofs.Ytgkkghphlbgcoaa.Ca
open Go.RowKit Go.Maps Ho
set_option maxRecDepth 100000
set_option linter.unusedVariables false
set_option linter.unusedSimpArgs false
attribute [local go_sem ↓] Go.wp_at_zero Go.wp_at_succ
/-- The blocks that are left, what they lead to. -/
structure Drp (bs1 bs2 : List Rk) (i : Nat) : Prop where
  len : bs2.length = i
  at' : ∀ j k, j < i → bs1[j]? = some k → ∃ lv tv, bs2[j]? = some { k with ls := k.ls.filter (live bs1), lv := lv, tv := tv }
def hsD (d : Rs) (bs1 : List Rk) (n : Nat) : Nat → Bool := fun i => if i < n then d.hs i && (fdK bs1 (d.sl i)).isSome else d.hs i
structure RdP (w : World) (D : Nat) (J : Rd) (d : Rs) (page : Int) (e : Ending) (w' : World) : Prop where
  ex : ∃ J' bs2, e = .returned (.int .i64 (d.bs.filter (hpg page)).length) ∧ Drp (d.bs.filter fun k => !hpg page k) bs2 (d.bs.filter fun k => !hpg page k).length ∧ Rw w' D J' { d with bs := bs2, hs := hsD d (d.bs.filter fun k => !hpg page k) d.n } ∧ (∀ j, allB D J' bs2 j → allB D J d.bs j ∨ w.heap.size ≤ j) ∧ Ch (fun j => j ∈ wrB D J d.bs) w w'
structure Dl1 (w : World) (d : Rs) (page : Int) (u5 u6 v : Value) (wr : World) : Prop where
  ex : ∃ i : Nat, v = .int .i64 i ∧ i ≤ d.bs.length ∧ u5 = .int .i64 ((d.bs.take i).filter (hpg page)).length ∧ wr.ownsRow w.heap.size 100 6 u6 ((d.bs.take i).filter fun k => !hpg page k).length (encB ((d.bs.take i).filter fun k => !hpg page k)) ∧ Below w.heap.size w wr
structure Dl2 (W : World) (k : Rk) (page : Int) (u9 v : Value) (wr : World) : Prop where
  ex : ∃ m : Nat, v = .int .i64 m ∧ m ≤ k.pn ∧ u9 = .bool (anyP k.pg page m) ∧ wr = W
structure Dl3 (w : World) (D : Nat) (J J1 : Rd) (d : Rs) (bs1 : List Rk) (v : Value) (wr : World) : Prop where
  ex : ∃ (i : Nat) (dn : List Rk), v = .int .i64 i ∧ i ≤ bs1.length ∧ Drp bs1 dn i ∧ Rw wr D J1 { d with bs := dn ++ bs1.drop i } ∧ (∀ j, j ∈ wrB D J1 (dn ++ bs1.drop i) → j ∈ wrB D J d.bs ∨ w.heap.size ≤ j) ∧ (∀ j, j ∈ rdB (dn ++ bs1.drop i) → j ∈ rdB d.bs) ∧ Ch (fun j => j ∈ wrB D J d.bs) w wr
structure Dl4 (wq : World) (bs1 : List Rk) (k : Rk) (u14 u15 v : Value) (wr : World) : Prop where
  ex : ∃ m : Nat, v = .int .i64 m ∧ m ≤ k.ls.length ∧ wr.ownsRow wq.heap.size 3 1 u14 ((k.ls.take m).filter (live bs1)).length (((k.ls.take m).filter (live bs1)).map fun p => .int .i64 p.1) ∧ wr.ownsRow wq.heap.size 30 1 u15 ((k.ls.take m).filter (live bs1)).length (((k.ls.take m).filter (live bs1)).map fun p => .int .u32 p.2) ∧ (∀ j, u14.ownBlock = some j → u15.ownBlock ≠ some j) ∧ Below wq.heap.size wq wr
structure Dl5 (wz : World) (D : Nat) (J1 : Rd) (d : Rs) (bs1 dn : List Rk) (v : Value) (wr : World) : Prop where
  ex : ∃ k : Nat, v = .int .i64 k ∧ k ≤ d.n ∧ Rw wr D J1 { d with bs := dn, hs := hsD d bs1 k } ∧ Ch (fun j => j = J1.hb) wz wr
theorem Drp.pcs {bs1 dn : List Rk} {i : Nat} (h : Drp bs1 dn i) (hi : i ≤ bs1.length) : (dn ++ bs1.drop i).map (·.pc) = bs1.map (·.pc) := by
  apply List.ext_getElem?
  intro j
  rw [List.getElem?_map, List.getElem?_map]
  by_cases hj : j < i
  · rw [List.getElem?_append_left (by rw [h.len]; exact hj)]
    obtain ⟨k, hk⟩ : ∃ k, bs1[j]? = some k := ⟨_, List.getElem?_eq_getElem (by omega)⟩
    obtain ⟨lv, tv, e⟩ := h.at' j k hj hk
    rw [e, hk]
    rfl
  · rw [List.getElem?_append_right (by rw [h.len]; omega), h.len, List.getElem?_drop, show i + (j - i) = j by omega]
theorem hsD_step (d : Rs) (bs1 : List Rk) (k : Nat) (b : Bool) (hb : b = (d.hs k && (fdK bs1 (d.sl k)).isSome)) : setF (hsD d bs1 k) k b = hsD d bs1 (k + 1) := by
  funext i
  unfold setF hsD
  by_cases e : i = k
  · subst e
    simp [hb]
  · by_cases h : i < k
    · simp [e, h, show i < k + 1 by omega]
    · simp [e, h, show ¬ i < k + 1 by omega]
theorem hsD_at (d : Rs) (bs1 : List Rk) (k : Nat) : hsD d bs1 k k = d.hs k := by simp [hsD]
set_option maxHeartbeats 16000000 in
theorem rDrop_any (D : Nat) (page : Int) (J : Rd) (d : Rs) (w : World) (h : Rw w D J d) (hls : ∀ k ∈ d.bs, k.ls.length + 1 ≤ 1048576) (hpn : ∀ k ∈ d.bs, k.pn ≤ 1048576) :
    Calls Try.prog 25 #[.pointer (some ⟨D, 0, none⟩), .int .i64 page] w fun e w' => RdP w D J d page e w' := by
  obtain ⟨i0, hi0, hz0, hz1, hz2⟩ := info_parts infoBk
  obtain ⟨a0, ha0, ya0, ya1, ya2⟩ := info_parts infoI
  obtain ⟨b0, hb0, yb0, yb1, yb2⟩ := info_parts infoU
  obtain ⟨_, _, c2, _, _⟩ := h.cell
  obtain ⟨ba, bcap, hbv, _⟩ := h.blocks
  rw [hbv] at c2
  have HR : Hid (Rw w D J d) := h
  have HBV : Hid _ := hbv
  have HLS : Hid _ := hls
  have HPN : Hid _ := hpn
  obtain ⟨_, m2, m3, m4, m5, hbl⟩ := h.rm
  have lD := h.lt D (.inl (mem_wr.2 (.inl rfl)))
  clear h hbv hls hpn
  go_enter Try.func25, Try.ntmps25
  go_wp2
  go_loopw [5, 6, 24] (fun u5 u6 v wr => Dl1 w d page u5 u6 v wr) (fun _ _ v _ => d.bs.length - (intOf v).toNat)
  case atStart => exact ⟨0, rfl, Nat.zero_le _, rfl, World.ownsRow_nil _ _ _ _, Below.refl _ _⟩
  case round =>
    obtain ⟨wo, rfl⟩ : ∃ wo, wo = wr := ⟨_, rfl⟩
    obtain ⟨i, rfl, hi, rfl, hrow, hb⟩ := hrel
    obtain ⟨c, hc⟩ : ∃ c, ((d.bs.take i).filter (hpg page)).length = c := ⟨_, rfl⟩
    obtain ⟨L, hL⟩ : ∃ L, ((d.bs.take i).filter fun k => !hpg page k) = L := ⟨_, rfl⟩
    have hcl : c ≤ i := by rw [← hc]; exact Nat.le_trans (List.length_filter_le _ _) (by rw [List.length_take]; omega)
    have hLl : L.length ≤ i := by rw [← hL]; exact Nat.le_trans (List.length_filter_le _ _) (by rw [List.length_take]; omega)
    rw [hL] at hrow
    rw [hc]
    obtain ⟨a6, cap6, rfl⟩ := row_sl hrow
    have HC : Hid (((d.bs.take i).filter (hpg page)).length = c) := hc
    have HL : Hid (((d.bs.take i).filter fun k => !hpg page k) = L) := hL
    have HROW : Hid (wo.ownsRow w.heap.size 100 6 (.slice a6 L.length cap6) L.length (encB L)) := hrow
    have HB : Hid (Below w.heap.size w wo) := hb
    clear hc hL hrow
    by_cases hin : i < d.bs.length
    · obtain ⟨k, hk⟩ : ∃ k, d.bs[i]? = some k := ⟨_, List.getElem?_eq_getElem hin⟩
      obtain ⟨g, bcap', ca, ccap, pa, pcap, la, lcap, ta, tcap, e, hg, ⟨e1, e2, e3, e4⟩, y0, y1, y2, y3, y4, y5⟩ := HR.out.block hk
      rw [HBV.out] at e
      cases e
      have hkm : k ∈ d.bs := List.mem_of_getElem? hk
      have HPV : Hid (w.ownsRow 0 3 1 (.slice pa k.pn pcap) k.pn (pL k.pg k.pn)) := e2 ▸ (HR.out.kb k hkm).pv
      have HKE : Hid (encK k = [.int .u32 k.pc, .slice ca k.len ccap, .slice pa k.pn pcap, .int .i64 k.at', .slice la k.ls.length lcap, .slice ta k.ls.length tcap]) := (show encK k = [.int .u32 k.pc, .slice ca k.len ccap, .slice pa k.pn pcap, .int .i64 k.at', .slice la k.ls.length lcap, .slice ta k.ls.length tcap] by rw [encK, e1, e2, e3, e4])
      have HKI : Hid (d.bs[i]? = some k) := hk
      have hpk := HPN.out k hkm
      have x0 := (hb.cell (p := ⟨g, i * 6, none⟩) hg).trans y0
      have x1 := (hb.cell (p := ⟨g, i * 6 + 1, none⟩) hg).trans y1
      have x2 := (hb.cell (p := ⟨g, i * 6 + 2, none⟩) hg).trans y2
      have x3 := (hb.cell (p := ⟨g, i * 6 + 3, none⟩) hg).trans y3
      have x4 := (hb.cell (p := ⟨g, i * 6 + 4, none⟩) hg).trans y4
      have x5 := (hb.cell (p := ⟨g, i * 6 + 5, none⟩) hg).trans y5
      have f1 : (i : Int) < (d.bs.length : Int) := by omega
      have f2 : decide ((i : Int) < (d.bs.length : Int)) = true := decide_eq_true f1
      have f3 : (0 : Int) ≤ (i : Int) := by omega
      obtain ⟨i1, hi1⟩ : ∃ i1, i + 1 = i1 := ⟨_, rfl⟩
      have t1 : IntKind.i64.wrap ((i : Int) + 1) = (i1 : Int) := So.wr_one hi1 (by omega)
      have HI1 : Hid (i + 1 = i1) := hi1
      obtain ⟨c1, hc1⟩ : ∃ c1, c + 1 = c1 := ⟨_, rfl⟩
      have t2 : IntKind.i64.wrap ((c : Int) + 1) = (c1 : Int) := So.wr_one hc1 (by omega)
      have HC1 : Hid (c + 1 = c1) := hc1
      clear e1 e2 e3 e4 hi1 hc1 hk hkm y0 y1 y2 y3 y4 y5 hb
      go_wp2
      go_loopw [9, 31] (fun u9 v wr2 => Dl2 (wo.alloc (.cells #[.int .u32 k.pc, .slice ca k.len ccap, .slice pa k.pn pcap, .int .i64 k.at', .slice la k.ls.length lcap, .slice ta k.ls.length tcap] 100)) k page u9 v wr2) (fun _ v _ => k.pn - (intOf v).toNat)
      case atStart => exact ⟨0, rfl, Nat.zero_le _, rfl, rfl⟩
      case round =>
        obtain ⟨m, rfl, hm, rfl, rfl⟩ := hrel
        by_cases hml : m < k.pn
        · obtain ⟨pa', pcap', ep, hpa⟩ := row_one HPV.out
          cases ep
          obtain ⟨pgb, rfl, lpg, hpc⟩ := hpa (by omega)
          have yp := hpc m (.int .i64 (k.pg m)) (pL_get k.pg k.pn m hml)
          have zp := ((HB.out.trans ((Below.refl w.heap.size wo).alloc HB.out.size (.cells #[.int .u32 k.pc, .slice ca k.len ccap, .slice (some ⟨pgb, 0, none⟩) k.pn pcap, .int .i64 k.at', .slice la k.ls.length lcap, .slice ta k.ls.length tcap] 100))).cell (p := ⟨pgb, m, none⟩) lpg).trans yp
          have f5 : (m : Int) < (k.pn : Int) := by omega
          have f6 : decide ((m : Int) < (k.pn : Int)) = true := decide_eq_true f5
          have f7 : (0 : Int) ≤ (m : Int) := by omega
          obtain ⟨m1, hm1⟩ : ∃ m1, m + 1 = m1 := ⟨_, rfl⟩
          have t3 : IntKind.i64.wrap ((m : Int) + 1) = (m1 : Int) := So.wr_one hm1 (by omega)
          have HM1 : Hid (m + 1 = m1) := hm1
          have HAP : Hid (anyP k.pg page m1 = (anyP k.pg page m || decide (k.pg m = page))) := (by rw [← hm1]; rfl)
          clear hm1 hpc yp
          cases hh : anyP k.pg page m with
          | true =>
            rw [hh] at HAP
            clear hh
            go_wp2
            exact ⟨⟨m1, rfl, by have := HM1.out; omega, by rw [HAP.out]; rfl, rfl⟩, by have := HM1.out; simp [intOf]; omega⟩
          | false =>
            rw [hh] at HAP
            clear hh
            by_cases he : k.pg m = page
            · have g1 : (k.pg m == page) = true := by simpa using he
              have g2 : decide (k.pg m = page) = true := decide_eq_true he
              have HAP2 : Hid (anyP k.pg page m1 = true) := (by rw [HAP.out, g2]; rfl)
              clear he
              go_wp2
              exact ⟨⟨m1, rfl, by have := HM1.out; omega, by rw [HAP2.out], rfl⟩, by have := HM1.out; simp [intOf]; omega⟩
            · have g1 : (k.pg m == page) = false := by simpa using he
              have g2 : decide (k.pg m = page) = false := decide_eq_false he
              have HAP2 : Hid (anyP k.pg page m1 = false) := (by rw [HAP.out, g2]; rfl)
              go_wp2
              exact ⟨⟨m1, rfl, by have := HM1.out; omega, by rw [HAP2.out], rfl⟩, by have := HM1.out; simp [intOf]; omega⟩
        · obtain rfl : m = k.pn := by omega
          have f5 : ¬ (k.pn : Int) < (k.pn : Int) := by omega
          have f6 : decide ((k.pn : Int) < (k.pn : Int)) = false := decide_eq_false f5
          cases hh : anyP k.pg page k.pn with
          | true =>
            have HH : Hid (hpg page k = true) := hh
            clear hh
            go_wp2
            have e3 := HI1.out
            have e4 := HC1.out
            refine ⟨⟨i1, rfl, by omega, ?_, ?_, HB.out.trans ((Below.refl _ _).alloc HB.out.size _)⟩, by simp [intOf]; omega⟩
            · rw [← e3, filt_take HKI.out, if_pos HH.out, List.length_append, HC.out, ← e4]; rfl
            · rw [← e3, filt_take HKI.out, if_neg (by rw [HH.out]; simp), List.append_nil, HL.out]
              exact HROW.out.alloc _
          | false =>
            have HH : Hid (hpg page k = false) := hh
            clear hh
            go_wp2_with (at_builtin; refine mkI ?_)
            unfold Mk
            refine wpList_append_own _ rfl _ _ 59 rfl w.heap.size 100 i0 _ 6 112 Try.underlying59 hi0 hz0 hz1 hz2 rfl (by decide) _ L.length (encB L) rfl ((HROW.out.alloc _).alloc _) ⟨wo.heap.size + 1, 0, none⟩ 1 1 [.int .u32 k.pc, .slice ca k.len ccap, .slice pa k.pn pcap, .int .i64 k.at', .slice la k.ls.length lcap, .slice ta k.ls.length tcap] rfl rfl (fun j u hu => World.news_of_block (by have := World.alloc_heap_new (wo.alloc (.cells #[.int .u32 k.pc, .slice ca k.len ccap, .slice pa k.pn pcap, .int .i64 k.at', .slice la k.ls.length lcap, .slice ta k.ls.length tcap] 100)) (.cells #[.int .u32 k.pc, .slice ca k.len ccap, .slice pa k.pn pcap, .int .i64 k.at', .slice la k.ls.length lcap, .slice ta k.ls.length tcap] 100); simpa using this) j u (by simpa using hu)) (by simp [Value.oneCell']) (by rw [show maxLen = 9223372036854775807 by decide]; omega) (by omega) (by have := HB.out.size; simp; omega) ?_
            intro v4 w5 hown hgrow _
            have hbl5 : Below w.heap.size ((wo.alloc (.cells #[.int .u32 k.pc, .slice ca k.len ccap, .slice pa k.pn pcap, .int .i64 k.at', .slice la k.ls.length lcap, .slice ta k.ls.length tcap] 100)).alloc (.cells #[.int .u32 k.pc, .slice ca k.len ccap, .slice pa k.pn pcap, .int .i64 k.at', .slice la k.ls.length lcap, .slice ta k.ls.length tcap] 100)) w5 := ⟨hgrow.os, hgrow.tape, hgrow.output, hgrow.size, fun j hj => hgrow.block j (by have := HB.out.size; simp; omega) (fun e => by have := (HROW.out.lt j e.symm).1; omega)⟩
            have HBL : Hid (Below w.heap.size w w5) := (HB.out.trans ((((Below.refl w.heap.size wo).alloc HB.out.size _).alloc (by have := HB.out.size; simp; omega) _).trans hbl5))
            have HOWN : Hid (w5.ownsRow w.heap.size 100 6 v4 (L.length + 1) (encB L ++ [.int .u32 k.pc, .slice ca k.len ccap, .slice pa k.pn pcap, .int .i64 k.at', .slice la k.ls.length lcap, .slice ta k.ls.length tcap])) := hown
            clear hown hgrow hbl5
            go_wp2
            have e3 := HI1.out
            refine ⟨⟨i1, rfl, by omega, ?_, ?_, HBL.out⟩, by simp [intOf]; omega⟩
            · rw [← e3, filt_take HKI.out, if_neg (by rw [HH.out]; simp), List.append_nil, HC.out]
            · rw [← e3, filt_take HKI.out, if_pos (by rw [HH.out]; rfl), HL.out, List.length_append, encK_app, HKE.out]
              exact HOWN.out
    · have f1 : ¬ (i : Int) < (d.bs.length : Int) := by omega
      have f2 : decide ((i : Int) < (d.bs.length : Int)) = false := decide_eq_false f1
      obtain rfl : i = d.bs.length := by omega
      rw [List.take_length] at HC HL
      have hD : wo.heap[D]? = w.heap[D]? := hb.block D lD
      have c2' : wo.cell? ⟨D, 2, none⟩ = some (.slice ba d.bs.length bcap) := (hb.cell (p := ⟨D, 2, none⟩) lD).trans c2
      have z2 := So.row_fr (hD.trans HR.out.c0) 2
      have HSUB : Hid _ := HR.out.sub L (by rw [← HL.out]; exact List.filter_sublist) (.slice a6 L.length cap6) hb HROW.out
      clear hb hD
      go_wp2
      go_loopw [59] (fun v wr => Dl3 w D J { J with bv := .slice a6 L.length cap6 } d L v wr) (fun v _ => L.length - (intOf v).toNat)
      case atStart => exact ⟨0, [], rfl, Nat.zero_le _, ⟨rfl, fun j k hj => absurd hj (Nat.not_lt_zero _)⟩, HSUB.out.1, HSUB.out.2.2.1, HSUB.out.2.2.2, HSUB.out.2.1⟩
      case round =>
        obtain ⟨wq, rfl⟩ : ∃ wq, wq = wr := ⟨_, rfl⟩
        obtain ⟨i, dn, rfl, hi, hdr, hrw, hall, hrd, hch⟩ := hrel
        have HDR : Hid (Drp L dn i) := hdr
        have HRW : Hid (Rw wq D { J with bv := .slice a6 L.length cap6 } { d with bs := dn ++ L.drop i }) := hrw
        have HALL : Hid (∀ j, j ∈ wrB D { J with bv := .slice a6 L.length cap6 } (dn ++ L.drop i) → j ∈ wrB D J d.bs ∨ w.heap.size ≤ j) := hall
        have HRDB : Hid (∀ j, j ∈ rdB (dn ++ L.drop i) → j ∈ rdB d.bs) := hrd
        have HCH : Hid _ := hch
        obtain ⟨_, _, q2, q3, q4⟩ := hrw.cell
        have lDq := So.row_lt hrw.c0
        clear hall hch hrd
        by_cases hin : i < L.length
        · obtain ⟨k, hk⟩ : ∃ k, L[i]? = some k := ⟨_, List.getElem?_eq_getElem hin⟩
          have hcur : dn ++ L.drop i = dn ++ k :: L.drop (i + 1) := by
            obtain ⟨h1, h2⟩ := List.getElem?_eq_some_iff.1 hk
            rw [List.drop_eq_getElem_cons h1, h2]
          have hki : (dn ++ L.drop i)[i]? = some k := by rw [List.getElem?_append_right (by rw [hdr.len]; omega), hdr.len, Nat.sub_self, List.getElem?_drop, Nat.add_zero]; exact hk
          have hcl : (dn ++ L.drop i).length = L.length := by rw [List.length_append, hdr.len, List.length_drop]; omega
          obtain ⟨g, bcap', ca, ccap, pa, pcap, la, lcap, ta, tcap, e, hg, ⟨e1, e2, e3, e4⟩, y0, y1, y2, y3, y4, y5⟩ := hrw.block hki
          have e' : Value.slice a6 L.length cap6 = .slice (some ⟨g, 0, none⟩) L.length bcap' := by
            have e9 : Value.slice a6 L.length cap6 = .slice (some ⟨g, 0, none⟩) (dn ++ L.drop i).length bcap' := e
            rw [hcl] at e9; exact e9
          cases e'
          have HKI : Hid (L[i]? = some k) := hk
          have HCUR : Hid (dn ++ L.drop i = dn ++ k :: L.drop (i + 1)) := hcur
          have HCL : Hid ((dn ++ L.drop i).length = L.length) := hcl
          have hkm : k ∈ dn ++ L.drop i := List.mem_of_getElem? hki
          have HKM : Hid (k ∈ dn ++ L.drop i) := hkm
          have HLV : Hid (wq.ownsRow 0 3 1 (.slice la k.ls.length lcap) k.ls.length (k.ls.map fun p => .int .i64 p.1)) := e3 ▸ (hrw.kb k hkm).lv
          have HTV : Hid (wq.ownsRow 0 30 1 (.slice ta k.ls.length tcap) k.ls.length (k.ls.map fun p => .int .u32 p.2)) := e4 ▸ (hrw.kb k hkm).tv
          have hkd : k ∈ d.bs := by
            have : k ∈ L := List.mem_of_getElem? hk
            rw [← HL.out] at this
            exact (List.mem_filter.1 this).1
          have hls1 := HLS.out k hkd
          have f5 : (i : Int) < (L.length : Int) := by omega
          have f6 : decide ((i : Int) < (L.length : Int)) = true := decide_eq_true f5
          have f7 : (0 : Int) ≤ (i : Int) := by omega
          obtain ⟨i1, hi1⟩ : ∃ i1, i + 1 = i1 := ⟨_, rfl⟩
          have t1 : IntKind.i64.wrap ((i : Int) + 1) = (i1 : Int) := So.wr_one hi1 (by omega)
          have HI1 : Hid (i + 1 = i1) := hi1
          have HPCS : Hid (∀ pc, (fdK (dn ++ L.drop i) pc).isSome = (fdK L pc).isSome) := fun pc => fdK_pcs (hdr.pcs hi) pc
          clear hi1 hk hcur hki hcl hkm hdr hrw e1 e2 e3 e4 y0 y1 y2 y3 e
          go_wp2
          go_loopw [14, 15, 73] (fun u14 u15 v wr2 => Dl4 wq L k u14 u15 v wr2) (fun _ _ v _ => k.ls.length - (intOf v).toNat)
          case atStart => exact ⟨0, rfl, Nat.zero_le _, World.ownsRow_nil _ _ _ _, World.ownsRow_nil _ _ _ _, fun j e => (by cases e), Below.refl _ _⟩
          case round =>
            obtain ⟨we, rfl⟩ : ∃ we, we = wr := ⟨_, rfl⟩
            obtain ⟨m, rfl, hm, hr14, hr15, hne, hbe⟩ := hrel
            obtain ⟨fl, hfl⟩ : ∃ fl, (k.ls.take m).filter (live L) = fl := ⟨_, rfl⟩
            rw [hfl] at hr14 hr15
            have hfll : fl.length ≤ m := by rw [← hfl]; exact Nat.le_trans (List.length_filter_le _ _) (by rw [List.length_take]; omega)
            obtain ⟨a14, cap14, rfl⟩ := row_sl hr14
            obtain ⟨a15, cap15, rfl⟩ := row_sl hr15
            have HFL : Hid ((k.ls.take m).filter (live L) = fl) := hfl
            have HR14 : Hid (we.ownsRow wq.heap.size 3 1 (.slice a14 fl.length cap14) fl.length (fl.map fun p => .int .i64 p.1)) := hr14
            have HR15 : Hid (we.ownsRow wq.heap.size 30 1 (.slice a15 fl.length cap15) fl.length (fl.map fun p => .int .u32 p.2)) := hr15
            have HNE : Hid (∀ j, (Value.slice a14 fl.length cap14).ownBlock = some j → (Value.slice a15 fl.length cap15).ownBlock ≠ some j) := hne
            have HBE : Hid (Below wq.heap.size wq we) := hbe
            have v5 := (hbe.cell (p := ⟨g, i * 6 + 5, none⟩) hg).trans y5
            have v4 := (hbe.cell (p := ⟨g, i * 6 + 4, none⟩) hg).trans y4
            clear hfl hr14 hr15 hne
            by_cases hml : m < k.ls.length
            · obtain ⟨⟨s, tt⟩, hp⟩ : ∃ p, k.ls[m]? = some p := ⟨_, List.getElem?_eq_getElem hml⟩
              obtain ⟨la', lcap', el, hla⟩ := row_one HLV.out
              cases el
              obtain ⟨lg, rfl, llg, hlc⟩ := hla (by omega)
              obtain ⟨ta', tcap', et, hta⟩ := row_one HTV.out
              cases et
              obtain ⟨tg, rfl, ltg, htc⟩ := hta (by omega)
              have zl := (hbe.cell (p := ⟨lg, m, none⟩) llg).trans (hlc m (.int .i64 s) (by rw [List.getElem?_map, hp]; rfl))
              have yt := htc m (.int .u32 tt) (by rw [List.getElem?_map, hp]; rfl)
              have zt := (hbe.cell (p := ⟨tg, m, none⟩) ltg).trans yt
              have f8 : (m : Int) < (k.ls.length : Int) := by omega
              have f9 : decide ((m : Int) < (k.ls.length : Int)) = true := decide_eq_true f8
              have f10 : (0 : Int) ≤ (m : Int) := by omega
              obtain ⟨m1, hm1⟩ : ∃ m1, m + 1 = m1 := ⟨_, rfl⟩
              have t3 : IntKind.i64.wrap ((m : Int) + 1) = (m1 : Int) := So.wr_one hm1 (by omega)
              have HM1 : Hid (m + 1 = m1) := hm1
              have HP : Hid (k.ls[m]? = some (s, tt)) := hp
              clear hm1 hp hlc htc hbe
              go_wp2_with (go_at_call 46; fail)
              refine Calls.mono (rfind_any D tt _ _ _ (HRW.out.below HBE.out)) ?_
              rintro _ w3 ⟨rfl, hb3⟩
              dsimp only
              have hB3 : Below wq.heap.size wq w3 := HBE.out.trans (hb3.mono HBE.out.size)
              have HB3 : Hid _ := hB3
              have HR14' : Hid (w3.ownsRow wq.heap.size 3 1 (.slice a14 fl.length cap14) fl.length (fl.map fun p => .int .i64 p.1)) := row_keep HR14.out fun j e => hb3.block j (HR14.out.lt j e).2
              have HR15' : Hid (w3.ownsRow wq.heap.size 30 1 (.slice a15 fl.length cap15) fl.length (fl.map fun p => .int .u32 p.2)) := row_keep HR15.out fun j e => hb3.block j (HR15.out.lt j e).2
              cases hfd : fdK (dn ++ L.drop i) tt with
              | none =>
                rw [fdI_none _ 0 tt hfd]
                have HLF : Hid (live L (s, tt) = false) := (by show (fdK L tt).isSome = false; rw [← HPCS.out, hfd]; rfl)
                clear hfd hb3 hB3
                go_wp2
                have e3 := HM1.out
                have ef : (k.ls.take m1).filter (live L) = fl := by rw [← e3, filt_ls HP.out, if_neg (by rw [HLF.out]; simp), List.append_nil, HFL.out]
                exact ⟨⟨m1, rfl, by omega, by rw [ef]; exact HR14'.out, by rw [ef]; exact HR15'.out, HNE.out, HB3.out⟩, by simp [intOf]; omega⟩
              | some k' =>
                obtain ⟨j', hj', _⟩ := fdI_some _ 0 tt k' hfd
                rw [hj', Nat.zero_add]
                have f11 : (0 : Int) ≤ (j' : Int) := by omega
                have f12 : decide ((0 : Int) ≤ (j' : Int)) = true := decide_eq_true f11
                have HLF : Hid (live L (s, tt) = true) := (by show (fdK L tt).isSome = true; rw [← HPCS.out, hfd]; rfl)
                have v5' := (hB3.cell (p := ⟨g, i * 6 + 5, none⟩) hg).trans y5
                have zt' := (hB3.cell (p := ⟨tg, m, none⟩) ltg).trans yt
                have lg3 : g < w3.heap.size := Nat.lt_of_lt_of_le hg hB3.size
                have lt3 : tg < w3.heap.size := Nat.lt_of_lt_of_le ltg hB3.size
                clear hfd hj' hb3 hB3
                go_wp2_with (at_builtin; refine mkI ?_)
                unfold Mk
                refine wpList_append_own_at _ rfl _ _ 31 rfl wq.heap.size 3 a0 (.int .i64 0) 1 8 Try.underlying31 ha0 ya0 ya1 ya2 rfl (by decide) _ fl.length _ rfl (HR14'.out.alloc _) ⟨w3.heap.size, 0, none⟩ 1 1 [.int .i64 s] rfl rfl (cell_one_new _ _ _) (by simp [Value.oneCell']) (by rw [show maxLen = 9223372036854775807 by decide]; omega) (by omega) (by have := HB3.out.size; simp; omega) ?_
                intro n14 w5 hn14 hg5 _ ho5
                obtain ⟨b14, dap14, rfl⟩ := row_sl hn14
                have k5 : ∀ j, j < w3.heap.size → (Value.slice a14 fl.length cap14).ownBlock ≠ some j → w5.heap[j]? = w3.heap[j]? := fun j h1 h2 => (hg5.block j (by simp; omega) (Ne.symm h2)).trans (al_old _ _ j h1)
                have s5 : w3.heap.size + 1 ≤ w5.heap.size := by have := hg5.size; simpa using this
                have hB5 : Below wq.heap.size wq w5 := HB3.out.trans (((Below.refl wq.heap.size w3).alloc HB3.out.size _).trans ⟨hg5.os, hg5.tape, hg5.output, hg5.size, fun j hj => hg5.block j (by have := HB3.out.size; simp; omega) (fun e => by have := (HR14'.out.lt j e.symm).1; omega)⟩)
                have q5 := (hB5.cell (p := ⟨g, i * 6 + 5, none⟩) hg).trans y5
                have qt := (hB5.cell (p := ⟨tg, m, none⟩) ltg).trans yt
                have HR15'' : Hid (w5.ownsRow wq.heap.size 30 1 (.slice a15 fl.length cap15) fl.length (fl.map fun p => .int .u32 p.2)) := row_keep HR15'.out fun j e => k5 j (HR15'.out.lt j e).2 (fun e2 => HNE.out j e2 e)
                have HN14 : Hid (w5.ownsRow wq.heap.size 3 1 (.slice b14 (fl.length + 1) dap14) (fl.length + 1) ((fl.map fun p => Value.int .i64 p.1) ++ [.int .i64 s])) := hn14
                have HO5 : Hid _ := ho5
                have HB5 : Hid _ := hB5
                clear hn14 hg5 ho5 k5 v5' zt' hB5
                go_wp2_with (at_builtin; refine mkI ?_)
                unfold Mk
                refine wpList_append_own_at _ rfl _ _ 32 rfl wq.heap.size 30 b0 (.int .u32 0) 1 4 Try.underlying32 hb0 yb0 yb1 yb2 rfl (by decide) _ fl.length _ rfl (HR15''.out.alloc _) ⟨w5.heap.size, 0, none⟩ 1 1 [.int .u32 tt] rfl rfl (cell_one_new _ _ _) (by simp [Value.oneCell']) (by rw [show maxLen = 9223372036854775807 by decide]; omega) (by omega) (by have := HB5.out.size; simp; omega) ?_
                intro n15 w6 hn15 hg6 _ ho6
                obtain ⟨b15, dap15, rfl⟩ := row_sl hn15
                have hB6 : Below wq.heap.size wq w6 := HB5.out.trans (((Below.refl wq.heap.size w5).alloc HB5.out.size _).trans ⟨hg6.os, hg6.tape, hg6.output, hg6.size, fun j hj => hg6.block j (by have := HB5.out.size; simp; omega) (fun e => by have := (HR15''.out.lt j e.symm).1; omega)⟩)
                have n5n : ∀ j, (Value.slice b14 (fl.length + 1) dap14).ownBlock = some j → (Value.slice a15 fl.length cap15).ownBlock ≠ some j := fun j e e2 => by
                  rcases HO5.out with e3 | e3
                  · exact HNE.out j (e3 ▸ e) e2
                  · rw [e3] at e; cases e; have := (HR15'.out.lt _ e2).2; simp only [World.size_alloc] at this; omega
                have HR14'' : Hid (w6.ownsRow wq.heap.size 3 1 (.slice b14 (fl.length + 1) dap14) (fl.length + 1) ((fl.map fun p => Value.int .i64 p.1) ++ [.int .i64 s])) := row_keep HN14.out fun j e => (hg6.block j (by have := (HN14.out.lt j e).2; simp; omega) (fun e2 => n5n j e e2.symm)).trans (al_old _ _ j (HN14.out.lt j e).2)
                have HN15 : Hid (w6.ownsRow wq.heap.size 30 1 (.slice b15 (fl.length + 1) dap15) (fl.length + 1) ((fl.map fun p => Value.int .u32 p.2) ++ [.int .u32 tt])) := hn15
                have HNN : Hid (∀ j, (Value.slice b14 (fl.length + 1) dap14).ownBlock = some j → (Value.slice b15 (fl.length + 1) dap15).ownBlock ≠ some j) := (fun j e e2 => by
                  rcases ho6 with e3 | e3
                  · exact n5n j e (e3 ▸ e2)
                  · rw [e3] at e2; cases e2; have := (HN14.out.lt _ e).2; simp only [World.size_alloc] at this; omega)
                have HB6 : Hid _ := hB6
                clear hn15 hg6 ho6 n5n hB6 q5 qt
                go_wp2
                have e3 := HM1.out
                have ef : (k.ls.take m1).filter (live L) = fl ++ [(s, tt)] := by rw [← e3, filt_ls HP.out, if_pos HLF.out, HFL.out]
                refine ⟨⟨m1, rfl, by omega, ?_, ?_, HNN.out, HB6.out⟩, by simp [intOf]; omega⟩
                · rw [ef, List.length_append, List.map_append]; exact HR14''.out
                · rw [ef, List.length_append, List.map_append]; exact HN15.out
            · obtain rfl : m = k.ls.length := by omega
              rw [List.take_length] at HFL
              have f8 : ¬ (k.ls.length : Int) < (k.ls.length : Int) := by omega
              have f9 : decide ((k.ls.length : Int) < (k.ls.length : Int)) = false := decide_eq_false f8
              obtain ⟨cur, hcur, hcs⟩ : ∃ cur, wq.heap[g]? = some (.cells cur 100) ∧ i * 6 + 5 < cur.size := by
                rcases HRW.out.row.2 with ⟨e, h0⟩ | ⟨g', cap', cur, e, u2, u3, u4, u5, u6, u7⟩
                · cases e
                · have e9 : Value.slice (some ⟨g, 0, none⟩) L.length cap6 = .slice (some ⟨g', 0, none⟩) (dn ++ L.drop i).length cap' := e
                  have u4' : (dn ++ L.drop i).length ≤ cap' := u4
                  rw [HCL.out] at e9 u4'
                  cases e9
                  exact ⟨cur, u3, by omega⟩
              have hge : we.heap[g]? = some (.cells cur 100) := (hbe.block g hg).trans hcur
              have z4 := So.row_fr hge (i * 6 + 4)
              have z5 := So.row_fr hge (i * 6 + 5)
              clear hbe
              go_wp2
              have e3 := HI1.out
              have far := wrB_far HRW.out HCUR.out
              have hgb : (Value.slice (some ⟨g, 0, none⟩) L.length cap6).ownBlock = some g := rfl
              have g14 : ∀ j, (Value.slice a14 fl.length cap14).ownBlock = some j → j ≠ g := fun j e => by have := (HR14.out.lt j e).1; omega
              have g15 : ∀ j, (Value.slice a15 fl.length cap15).ownBlock = some j → j ≠ g := fun j e => by have := (HR15.out.lt j e).1; omega
              have hbk : ∀ j, j ≠ g → ((we.setCell ⟨g, i * 6 + 4, none⟩ (.slice a14 fl.length cap14)).setCell ⟨g, i * 6 + 5, none⟩ (.slice a15 fl.length cap15)).heap[j]? = we.heap[j]? := fun j hj => (So.blk_other hj _).trans (So.blk_other hj _)
              have R := HRW.out.setK (w' := (we.setCell ⟨g, i * 6 + 4, none⟩ (.slice a14 fl.length cap14)).setCell ⟨g, i * 6 + 5, none⟩ (.slice a15 fl.length cap15)) HCUR.out fl (.slice a14 fl.length cap14) (.slice a15 fl.length cap15)
                (row_base (row_keep HR14.out fun j e => hbk j (g14 j e)) (Nat.zero_le _))
                (row_base (row_keep HR15.out fun j e => hbk j (g15 j e)) (Nat.zero_le _))
                (by
                  have hrow := HRW.out.row
                  rw [show ({ J with bv := Value.slice (some ⟨g, 0, none⟩) L.length cap6 } : Rd).bv = Value.slice (some ⟨g, 0, none⟩) L.length cap6 from rfl] at hrow ⊢
                  dsimp only at hrow ⊢
                  rw [HCL.out] at hrow ⊢
                  have r1 : (wq.setCell ⟨g, i * 6 + 4, none⟩ (.slice a14 fl.length cap14)).ownsRow 0 100 6 (.slice (some ⟨g, 0, none⟩) L.length cap6) L.length _ := row_setc hrow _
                  have r2 := row_setc (o := i * 6 + 5) r1 (.slice a15 fl.length cap15)
                  rw [HCUR.out, ← HDR.out.len, encB_set dn (L.drop (dn.length + 1)) k fl] at r2
                  rw [HDR.out.len] at r2
                  refine row_keep r2 fun j e => ?_
                  cases e
                  rw [So.blk_set (So.blk_set hge _), So.blk_set (So.blk_set hcur _)])
                (fun j h1 h2 _ _ => (hbk j (fun e => h2 (by rw [e]; rfl))).trans (HBE.out.block j h1))
                (fun j e => .inr (HR14.out.lt j e).1) (fun j e => .inr (HR15.out.lt j e).1) HNE.out
              have sq := HCH.out.size
              refine ⟨⟨i1, dn ++ [{ k with ls := fl, lv := .slice a14 fl.length cap14, tv := .slice a15 fl.length cap15 }], rfl, by omega, ⟨by rw [List.length_append, HDR.out.len, ← e3]; rfl, fun j q hj hq => ?_⟩, ?_, fun j hj => ?_, fun j hj => ?_, ?_⟩, by simp [intOf]; omega⟩
              · by_cases hji : j < i
                · rw [List.getElem?_append_left (by rw [HDR.out.len]; exact hji)]
                  exact HDR.out.at' j q hji hq
                · obtain rfl : j = i := by omega
                  rw [HKI.out] at hq
                  cases hq
                  rw [List.getElem?_append_right (by rw [HDR.out.len]; omega), HDR.out.len, Nat.sub_self, HFL.out]
                  exact ⟨_, _, rfl⟩
              · rw [← e3, List.append_assoc]
                exact R
              · rw [← e3, List.append_assoc] at hj
                have key : j ∈ wrB D { J with bv := .slice (some ⟨g, 0, none⟩) L.length cap6 } (dn ++ L.drop i) ∨ w.heap.size ≤ j := by
                  rw [HCUR.out]
                  rcases mem_wr.1 hj with e | e | e | e | ⟨q, hq, e⟩
                  · exact .inl (mem_wr.2 (.inl e))
                  · exact .inl (mem_wr.2 (.inr (.inl e)))
                  · exact .inl (mem_wr.2 (.inr (.inr (.inl e))))
                  · exact .inl (mem_wr.2 (.inr (.inr (.inr (.inl e)))))
                  · simp only [List.mem_append, List.mem_cons, List.nil_append, List.cons_append] at hq
                    rcases hq with hq | rfl | hq
                    · exact .inl (mem_wr.2 (.inr (.inr (.inr (.inr ⟨q, by simp [hq], e⟩)))))
                    · rcases e with e | e
                      · exact .inr (by have := (HR14.out.lt j e).1; omega)
                      · exact .inr (by have := (HR15.out.lt j e).1; omega)
                    · exact .inl (mem_wr.2 (.inr (.inr (.inr (.inr ⟨q, by simp [hq], e⟩)))))
                rcases key with h1 | h1
                · exact HALL.out j h1
                · exact .inr h1
              · rw [← e3, List.append_assoc] at hj
                refine HRDB.out j ?_
                rw [HCUR.out]
                simpa [rdB] using hj
              · refine HCH.out.step (q := fun j => j ∈ wrB D { J with bv := .slice (some ⟨g, 0, none⟩) L.length cap6 } (dn ++ L.drop i)) ((Ch.of_below _ HBE.out).trans (((Ch.refl _ we).set (mem_wr.2 (.inr (.inr (.inr (.inl rfl))))) _ _).set (mem_wr.2 (.inr (.inr (.inr (.inl rfl))))) _ _)) fun j hj hq => ?_
                rcases HALL.out j hq with h1 | h1
                · exact h1
                · omega
        · obtain rfl : i = L.length := by omega
          have f5 : ¬ (L.length : Int) < (L.length : Int) := by omega
          have f6 : decide ((L.length : Int) < (L.length : Int)) = false := decide_eq_false f5
          rw [List.drop_length, List.append_nil] at HRW HALL HRDB
          clear hrw hdr
          go_wp2
          go_loopw [117] (fun v wr3 => Dl5 wq D { J with bv := .slice a6 L.length cap6 } d L dn v wr3) (fun v _ => d.n - (intOf v).toNat)
          case atStart => exact ⟨0, rfl, Nat.zero_le _, HRW.out, Ch.refl _ _⟩
          case round =>
            obtain ⟨wz, rfl⟩ : ∃ wz, wz = wr := ⟨_, rfl⟩
            obtain ⟨k, rfl, hk, hrz, hcz⟩ := hrel
            have HRZ : Hid (Rw wz D { J with bv := .slice a6 L.length cap6 } { d with bs := dn, hs := hsD d L k }) := hrz
            have HCZ : Hid _ := hcz
            obtain ⟨_, _, _, r3, r4⟩ := hrz.cell
            dsimp only at r3 r4
            have lDz := So.row_lt hrz.c0
            by_cases hkn : k < d.n
            · have f8 : (k : Int) < (d.n : Int) := by omega
              have f9 : decide ((k : Int) < (d.n : Int)) = true := decide_eq_true f8
              have f10 : (0 : Int) ≤ (k : Int) := by omega
              obtain ⟨k1, hk1⟩ : ∃ k1, k + 1 = k1 := ⟨_, rfl⟩
              have t3 : IntKind.i64.wrap ((k : Int) + 1) = (k1 : Int) := So.wr_one hk1 (by omega)
              have HK1 : Hid (k + 1 = k1) := hk1
              obtain ⟨A, hA, hA1, hA2⟩ := hrz.sl
              obtain ⟨B, hB, hB1, hB2⟩ := hrz.hs
              dsimp only at hA hA1 hA2 hB hB1 hB2
              have a0 := (So.row_cell hA k).trans (hA2 k hkn)
              have b0' := (So.row_cell hB k).trans (hB2 k hkn)
              rw [hsD_at] at b0'
              have bf := So.row_fr hB k
              have lS := So.row_lt hA
              have lH := So.row_lt hB
              obtain ⟨n1, n2, n3, _, _⟩ := hrz.ne
              have HN : Hid _ := And.intro n1 (And.intro n2 n3)
              have HBB : Hid (wz.heap[J.hb]? = some (.cells B 4)) := hB
              have HB1 : Hid _ := hB1
              have HB2 : Hid _ := hB2
              have HPCS : Hid (∀ pc, (fdK dn pc).isSome = (fdK L pc).isSome) := fun pc => by
                have := HDR.out.pcs (Nat.le_refl _)
                rw [List.drop_length, List.append_nil] at this
                exact fdK_pcs this pc
              clear hk1 hA hA1 hA2 hB hB1 hB2 n1 n2 n3 hrz hcz
              go_wp2
              cases hh : d.hs k with
              | true =>
                rw [hh] at b0'
                have HHS : Hid (d.hs k = true) := hh
                clear hh
                refine region_T 25 (fun w' => w'.cell? ⟨D, 3, none⟩ = some (.slice (some ⟨J.sb, 0, none⟩) d.n d.n) ∧ w'.cell? ⟨D, 4, none⟩ = some (.slice (some ⟨J.hb, 0, none⟩) d.n d.n) ∧ w'.cell? ⟨J.sb, k, none⟩ = some (.int .u32 (d.sl k)) ∧ w'.cell? ⟨J.hb, k, none⟩ = some (.bool true)) (by kernel_rfl) ?_
                have gS : ({ wz with drawn := wz.drawn + 1 } : World).cell? ⟨D, 3, none⟩ = some (.slice (some ⟨J.sb, 0, none⟩) d.n d.n) ∧ ({ wz with drawn := wz.drawn + 1 } : World).cell? ⟨D, 4, none⟩ = some (.slice (some ⟨J.hb, 0, none⟩) d.n d.n) ∧ ({ wz with drawn := wz.drawn + 1 } : World).cell? ⟨J.sb, k, none⟩ = some (.int .u32 (d.sl k)) ∧ ({ wz with drawn := wz.drawn + 1 } : World).cell? ⟨J.hb, k, none⟩ = some (.bool true) := ⟨r3, r4, a0, b0'⟩
                obtain ⟨wd, hwd⟩ : ∃ wd, ({ wz with drawn := wz.drawn + 1 } : World) = wd := ⟨_, rfl⟩
                have HBD : Hid (Below wz.heap.size wz wd) := (show Below wz.heap.size wz wd from hwd ▸ ⟨rfl, rfl, rfl, Nat.le_refl _, fun _ _ => rfl⟩)
                rw [hwd] at gS ⊢
                clear hwd r3 r4 a0 b0'
                refine anyT_take (t := 25) (i := 0) (oi := { dst := some 120, op := .move (.tmp 0), type := 27, pos := "cache.go:171", after := #[], guard := none }) (v := .pointer (some ⟨D, 0, none⟩)) rfl (by kernel_rfl) (by kernel_rfl) (by kernel_rfl) (by kernel_rfl) (fun _ _ _ h => h) (Or.inl ⟨by kernel_rfl, ?_⟩) gS ?_
                · (intro w hSw; (try dsimp only at hSw); (try obtain ⟨s1, s2, s3, s4⟩ := hSw); go_simp)
                try simp only [Act.put, List.setIfInBounds_toArray, List.set_cons_zero, List.set_cons_succ]
                refine anyT_take (t := 25) (i := 1) (oi := { dst := some 121, op := .nilCheck (.tmp 120), type := 0, pos := "cache.go:171", after := #[{ on := 0, ground := .data }], guard := none }) (v := .pointer (some ⟨D, 0, none⟩)) rfl (by kernel_rfl) (by kernel_rfl) (by kernel_rfl) (by kernel_rfl) (fun _ _ _ h => h) (Or.inl ⟨by kernel_rfl, ?_⟩) gS ?_
                · (intro w hSw; (try dsimp only at hSw); (try obtain ⟨s1, s2, s3, s4⟩ := hSw); go_simp)
                try simp only [Act.put, List.setIfInBounds_toArray, List.set_cons_zero, List.set_cons_succ]
                refine anyT_take (t := 25) (i := 2) (oi := { dst := some 122, op := .fieldAddr 61 (.tmp 121) 4, type := 0, pos := "cache.go:171", after := #[{ on := 1, ground := .data }], guard := none }) (v := .pointer (some ⟨D, 4, none⟩)) rfl (by kernel_rfl) (by kernel_rfl) (by kernel_rfl) (by kernel_rfl) (fun _ _ _ h => h) (Or.inl ⟨by kernel_rfl, ?_⟩) gS ?_
                · (intro w hSw; (try dsimp only at hSw); (try obtain ⟨s1, s2, s3, s4⟩ := hSw); go_simp)
                try simp only [Act.put, List.setIfInBounds_toArray, List.set_cons_zero, List.set_cons_succ]
                refine anyT_take (t := 25) (i := 3) (oi := { dst := some 123, op := .load 58 (.tmp 122), type := 58, pos := "cache.go:171", after := #[{ on := 2, ground := .data }], guard := none }) (v := .slice (some ⟨J.hb, 0, none⟩) d.n d.n) rfl (by kernel_rfl) (by kernel_rfl) (by kernel_rfl) (by kernel_rfl) (fun _ _ _ h => h) (Or.inl ⟨by kernel_rfl, ?_⟩) gS ?_
                · (intro w hSw; (try dsimp only at hSw); (try obtain ⟨s1, s2, s3, s4⟩ := hSw); go_simp)
                try simp only [Act.put, List.setIfInBounds_toArray, List.set_cons_zero, List.set_cons_succ]
                refine anyT_take (t := 25) (i := 4) (oi := { dst := some 124, op := .move (.tmp 18), type := 3, pos := "cache.go:171", after := #[], guard := none }) (v := .int .i64 k) rfl (by kernel_rfl) (by kernel_rfl) (by kernel_rfl) (by kernel_rfl) (fun _ _ _ h => h) (Or.inl ⟨by kernel_rfl, ?_⟩) gS ?_
                · (intro w hSw; (try dsimp only at hSw); (try obtain ⟨s1, s2, s3, s4⟩ := hSw); go_simp)
                try simp only [Act.put, List.setIfInBounds_toArray, List.set_cons_zero, List.set_cons_succ]
                refine anyT_take (t := 25) (i := 5) (oi := { dst := some 125, op := .move (.tmp 0), type := 27, pos := "cache.go:171", after := #[], guard := none }) (v := .pointer (some ⟨D, 0, none⟩)) rfl (by kernel_rfl) (by kernel_rfl) (by kernel_rfl) (by kernel_rfl) (fun _ _ _ h => h) (Or.inl ⟨by kernel_rfl, ?_⟩) gS ?_
                · (intro w hSw; (try dsimp only at hSw); (try obtain ⟨s1, s2, s3, s4⟩ := hSw); go_simp)
                try simp only [Act.put, List.setIfInBounds_toArray, List.set_cons_zero, List.set_cons_succ]
                refine anyT_take (t := 25) (i := 6) (oi := { dst := some 126, op := .nilCheck (.tmp 125), type := 0, pos := "cache.go:171", after := #[{ on := 5, ground := .data }], guard := none }) (v := .pointer (some ⟨D, 0, none⟩)) rfl (by kernel_rfl) (by kernel_rfl) (by kernel_rfl) (by kernel_rfl) (fun _ _ _ h => h) (Or.inl ⟨by kernel_rfl, ?_⟩) gS ?_
                · (intro w hSw; (try dsimp only at hSw); (try obtain ⟨s1, s2, s3, s4⟩ := hSw); go_simp)
                try simp only [Act.put, List.setIfInBounds_toArray, List.set_cons_zero, List.set_cons_succ]
                refine anyT_take (t := 25) (i := 7) (oi := { dst := some 127, op := .fieldAddr 61 (.tmp 126) 4, type := 0, pos := "cache.go:171", after := #[{ on := 6, ground := .data }], guard := none }) (v := .pointer (some ⟨D, 4, none⟩)) rfl (by kernel_rfl) (by kernel_rfl) (by kernel_rfl) (by kernel_rfl) (fun _ _ _ h => h) (Or.inl ⟨by kernel_rfl, ?_⟩) gS ?_
                · (intro w hSw; (try dsimp only at hSw); (try obtain ⟨s1, s2, s3, s4⟩ := hSw); go_simp)
                try simp only [Act.put, List.setIfInBounds_toArray, List.set_cons_zero, List.set_cons_succ]
                refine anyT_take (t := 25) (i := 8) (oi := { dst := some 128, op := .load 58 (.tmp 127), type := 58, pos := "cache.go:171", after := #[{ on := 7, ground := .data }], guard := none }) (v := .slice (some ⟨J.hb, 0, none⟩) d.n d.n) rfl (by kernel_rfl) (by kernel_rfl) (by kernel_rfl) (by kernel_rfl) (fun _ _ _ h => h) (Or.inl ⟨by kernel_rfl, ?_⟩) gS ?_
                · (intro w hSw; (try dsimp only at hSw); (try obtain ⟨s1, s2, s3, s4⟩ := hSw); go_simp)
                try simp only [Act.put, List.setIfInBounds_toArray, List.set_cons_zero, List.set_cons_succ]
                refine anyT_take (t := 25) (i := 9) (oi := { dst := some 129, op := .move (.tmp 18), type := 3, pos := "cache.go:171", after := #[], guard := none }) (v := .int .i64 k) rfl (by kernel_rfl) (by kernel_rfl) (by kernel_rfl) (by kernel_rfl) (fun _ _ _ h => h) (Or.inl ⟨by kernel_rfl, ?_⟩) gS ?_
                · (intro w hSw; (try dsimp only at hSw); (try obtain ⟨s1, s2, s3, s4⟩ := hSw); go_simp)
                try simp only [Act.put, List.setIfInBounds_toArray, List.set_cons_zero, List.set_cons_succ]
                refine anyT_take (t := 25) (i := 10) (oi := { dst := some 130, op := .indexAddr 58 (.tmp 128) (.tmp 129), type := 0, pos := "cache.go:171", after := #[{ on := 8, ground := .data }, { on := 9, ground := .data }], guard := none }) (v := .pointer (some ⟨J.hb, k, none⟩)) rfl (by kernel_rfl) (by kernel_rfl) (by kernel_rfl) (by kernel_rfl) (fun _ _ _ h => h) (Or.inl ⟨by kernel_rfl, ?_⟩) gS ?_
                · (intro w hSw; (try dsimp only at hSw); (try obtain ⟨s1, s2, s3, s4⟩ := hSw); go_simp)
                try simp only [Act.put, List.setIfInBounds_toArray, List.set_cons_zero, List.set_cons_succ]
                refine anyT_take (t := 25) (i := 11) (oi := { dst := some 131, op := .load 4 (.tmp 130), type := 4, pos := "cache.go:171", after := #[{ on := 10, ground := .data }], guard := none }) (v := .bool true) rfl (by kernel_rfl) (by kernel_rfl) (by kernel_rfl) (by kernel_rfl) (fun _ _ _ h => h) (Or.inl ⟨by kernel_rfl, ?_⟩) gS ?_
                · (intro w hSw; (try dsimp only at hSw); (try obtain ⟨s1, s2, s3, s4⟩ := hSw); go_simp)
                try simp only [Act.put, List.setIfInBounds_toArray, List.set_cons_zero, List.set_cons_succ]
                refine anyT_take (t := 25) (i := 12) (oi := { dst := some 132, op := .move (.tmp 131), type := 4, pos := "cache.go:171", after := #[{ on := 11, ground := .data }], guard := none }) (v := .bool true) rfl (by kernel_rfl) (by kernel_rfl) (by kernel_rfl) (by kernel_rfl) (fun _ _ _ h => h) (Or.inl ⟨by kernel_rfl, ?_⟩) gS ?_
                · (intro w hSw; (try dsimp only at hSw); (try obtain ⟨s1, s2, s3, s4⟩ := hSw); go_simp)
                try simp only [Act.put, List.setIfInBounds_toArray, List.set_cons_zero, List.set_cons_succ]
                refine anyT_take (t := 25) (i := 13) (oi := { dst := some 133, op := .move (.tmp 0), type := 27, pos := "cache.go:171", after := #[{ on := 12, ground := .guard }], guard := some (12, true) }) (v := .pointer (some ⟨D, 0, none⟩)) rfl (by kernel_rfl) (by kernel_rfl) (by kernel_rfl) (by kernel_rfl) (fun _ _ _ h => h) (Or.inl ⟨by kernel_rfl, ?_⟩) gS ?_
                · (intro w hSw; (try dsimp only at hSw); (try obtain ⟨s1, s2, s3, s4⟩ := hSw); go_simp)
                try simp only [Act.put, List.setIfInBounds_toArray, List.set_cons_zero, List.set_cons_succ]
                refine anyT_take (t := 25) (i := 14) (oi := { dst := some 134, op := .move (.tmp 0), type := 27, pos := "cache.go:171", after := #[{ on := 12, ground := .guard }], guard := some (12, true) }) (v := .pointer (some ⟨D, 0, none⟩)) rfl (by kernel_rfl) (by kernel_rfl) (by kernel_rfl) (by kernel_rfl) (fun _ _ _ h => h) (Or.inl ⟨by kernel_rfl, ?_⟩) gS ?_
                · (intro w hSw; (try dsimp only at hSw); (try obtain ⟨s1, s2, s3, s4⟩ := hSw); go_simp)
                try simp only [Act.put, List.setIfInBounds_toArray, List.set_cons_zero, List.set_cons_succ]
                refine anyT_take (t := 25) (i := 15) (oi := { dst := some 135, op := .nilCheck (.tmp 134), type := 0, pos := "cache.go:171", after := #[{ on := 14, ground := .data }, { on := 12, ground := .guard }], guard := some (12, true) }) (v := .pointer (some ⟨D, 0, none⟩)) rfl (by kernel_rfl) (by kernel_rfl) (by kernel_rfl) (by kernel_rfl) (fun _ _ _ h => h) (Or.inl ⟨by kernel_rfl, ?_⟩) gS ?_
                · (intro w hSw; (try dsimp only at hSw); (try obtain ⟨s1, s2, s3, s4⟩ := hSw); go_simp)
                try simp only [Act.put, List.setIfInBounds_toArray, List.set_cons_zero, List.set_cons_succ]
                refine anyT_take (t := 25) (i := 16) (oi := { dst := some 136, op := .fieldAddr 61 (.tmp 135) 3, type := 0, pos := "cache.go:171", after := #[{ on := 15, ground := .data }, { on := 12, ground := .guard }], guard := some (12, true) }) (v := .pointer (some ⟨D, 3, none⟩)) rfl (by kernel_rfl) (by kernel_rfl) (by kernel_rfl) (by kernel_rfl) (fun _ _ _ h => h) (Or.inl ⟨by kernel_rfl, ?_⟩) gS ?_
                · (intro w hSw; (try dsimp only at hSw); (try obtain ⟨s1, s2, s3, s4⟩ := hSw); go_simp)
                try simp only [Act.put, List.setIfInBounds_toArray, List.set_cons_zero, List.set_cons_succ]
                refine anyT_take (t := 25) (i := 17) (oi := { dst := some 137, op := .load 32 (.tmp 136), type := 32, pos := "cache.go:171", after := #[{ on := 16, ground := .data }, { on := 12, ground := .guard }], guard := some (12, true) }) (v := .slice (some ⟨J.sb, 0, none⟩) d.n d.n) rfl (by kernel_rfl) (by kernel_rfl) (by kernel_rfl) (by kernel_rfl) (fun _ _ _ h => h) (Or.inl ⟨by kernel_rfl, ?_⟩) gS ?_
                · (intro w hSw; (try dsimp only at hSw); (try obtain ⟨s1, s2, s3, s4⟩ := hSw); go_simp)
                try simp only [Act.put, List.setIfInBounds_toArray, List.set_cons_zero, List.set_cons_succ]
                refine anyT_take (t := 25) (i := 18) (oi := { dst := some 138, op := .move (.tmp 18), type := 3, pos := "cache.go:171", after := #[{ on := 12, ground := .guard }], guard := some (12, true) }) (v := .int .i64 k) rfl (by kernel_rfl) (by kernel_rfl) (by kernel_rfl) (by kernel_rfl) (fun _ _ _ h => h) (Or.inl ⟨by kernel_rfl, ?_⟩) gS ?_
                · (intro w hSw; (try dsimp only at hSw); (try obtain ⟨s1, s2, s3, s4⟩ := hSw); go_simp)
                try simp only [Act.put, List.setIfInBounds_toArray, List.set_cons_zero, List.set_cons_succ]
                refine anyT_take (t := 25) (i := 19) (oi := { dst := some 139, op := .indexAddr 32 (.tmp 137) (.tmp 138), type := 0, pos := "cache.go:171", after := #[{ on := 17, ground := .data }, { on := 18, ground := .data }, { on := 12, ground := .guard }], guard := some (12, true) }) (v := .pointer (some ⟨J.sb, k, none⟩)) rfl (by kernel_rfl) (by kernel_rfl) (by kernel_rfl) (by kernel_rfl) (fun _ _ _ h => h) (Or.inl ⟨by kernel_rfl, ?_⟩) gS ?_
                · (intro w hSw; (try dsimp only at hSw); (try obtain ⟨s1, s2, s3, s4⟩ := hSw); go_simp)
                try simp only [Act.put, List.setIfInBounds_toArray, List.set_cons_zero, List.set_cons_succ]
                refine anyT_take (t := 25) (i := 20) (oi := { dst := some 140, op := .load 30 (.tmp 139), type := 30, pos := "cache.go:171", after := #[{ on := 19, ground := .data }, { on := 12, ground := .guard }], guard := some (12, true) }) (v := .int .u32 (d.sl k)) rfl (by kernel_rfl) (by kernel_rfl) (by kernel_rfl) (by kernel_rfl) (fun _ _ _ h => h) (Or.inl ⟨by kernel_rfl, ?_⟩) gS ?_
                · (intro w hSw; (try dsimp only at hSw); (try obtain ⟨s1, s2, s3, s4⟩ := hSw); go_simp)
                try simp only [Act.put, List.setIfInBounds_toArray, List.set_cons_zero, List.set_cons_succ]
                refine anyT_stepG (i := 21) (by kernel_rfl) rfl (by kernel_rfl) (fun K hK => ?_)
                go_simp
                go_at_call 46
                refine Calls.mono (rfind_any D (d.sl k) _ _ wd (HRZ.out.below HBD.out)) ?_
                rintro _ w3 ⟨rfl, hb3⟩
                dsimp only
                have hB3 : Below wz.heap.size wz w3 := HBD.out.trans (hb3.mono HBD.out.size)
                have gS3 : w3.cell? ⟨D, 3, none⟩ = some (.slice (some ⟨J.sb, 0, none⟩) d.n d.n) ∧ w3.cell? ⟨D, 4, none⟩ = some (.slice (some ⟨J.hb, 0, none⟩) d.n d.n) ∧ w3.cell? ⟨J.sb, k, none⟩ = some (.int .u32 (d.sl k)) ∧ w3.cell? ⟨J.hb, k, none⟩ = some (.bool true) := ⟨(hb3.cell (p := ⟨D, 3, none⟩) (Nat.lt_of_lt_of_le lDz HBD.out.size)).trans gS.1, (hb3.cell (p := ⟨D, 4, none⟩) (Nat.lt_of_lt_of_le lDz HBD.out.size)).trans gS.2.1, (hb3.cell (p := ⟨J.sb, k, none⟩) (Nat.lt_of_lt_of_le lS HBD.out.size)).trans gS.2.2.1, (hb3.cell (p := ⟨J.hb, k, none⟩) (Nat.lt_of_lt_of_le lH HBD.out.size)).trans gS.2.2.2⟩
                have HB3 : Hid _ := hB3
                have fz3 : w3.frozen? ⟨J.hb, k, none⟩ = false := So.row_fr ((hB3.block _ lH).trans HBB.out) k
                have b3 := gS3.2.2.2
                refine hK _ _ (fun _ => gS3) ?_
                clear hK K
                try simp only [Act.put, List.setIfInBounds_toArray, List.set_cons_zero, List.set_cons_succ]
                obtain ⟨X, hX⟩ : ∃ X, fdI dn 0 (d.sl k) = X := ⟨_, rfl⟩
                rw [hX]
                have HX : Hid (fdI dn 0 (d.sl k) = X) := hX
                clear hX
                obtain ⟨bb, hbb⟩ : ∃ bb : Bool, decide ((0 : Int) ≤ X) = bb := ⟨_, rfl⟩
                have HBBB : Hid (bb = (fdK L (d.sl k)).isSome) := (show bb = (fdK L (d.sl k)).isSome by
                  rw [← hbb, ← HPCS.out, ← HX.out]
                  cases hf : fdK dn (d.sl k) with
                  | none => rw [fdI_none _ 0 _ hf]; rfl
                  | some q =>
                    obtain ⟨j', hj', _⟩ := fdI_some _ 0 _ q hf
                    rw [hj']
                    exact decide_eq_true (by omega))
                refine anyT_take (t := 25) (i := 22) (oi := { dst := some 142, op := .binOp .geq 3 (.tmp 141) (.const (.int .i64 0)) 3, type := 4, pos := "cache.go:171", after := #[{ on := 21, ground := .data }, { on := 12, ground := .guard }], guard := some (12, true) }) (v := .bool bb) rfl (by kernel_rfl) (by kernel_rfl) (by kernel_rfl) (by kernel_rfl) (fun _ _ _ h => h) (Or.inl ⟨by kernel_rfl, ?_⟩) gS3 ?_
                · (intro w hSw; (try dsimp only at hSw); (try obtain ⟨s1, s2, s3, s4⟩ := hSw); go_simp)
                try simp only [Act.put, List.setIfInBounds_toArray, List.set_cons_zero, List.set_cons_succ]
                refine anyT_take (t := 25) (i := 23) (oi := { dst := some 143, op := .pick (.tmp 132) (.tmp 142) (.const (.bool false)), type := 4, pos := "cache.go:171", after := #[{ on := 12, ground := .data }, { on := 22, ground := .data }], guard := none }) (v := .bool bb) rfl (by kernel_rfl) (by kernel_rfl) (by kernel_rfl) (by kernel_rfl) (fun _ _ _ h => h) (Or.inl ⟨by kernel_rfl, ?_⟩) gS3 ?_
                · (intro w hSw; (try dsimp only at hSw); (try obtain ⟨s1, s2, s3, s4⟩ := hSw); go_simp)
                try simp only [Act.put, List.setIfInBounds_toArray, List.set_cons_zero, List.set_cons_succ]
                refine anyT_take (t := 25) (i := 24) (oi := { dst := some 144, op := .indexAddr 58 (.tmp 123) (.tmp 124), type := 0, pos := "cache.go:171", after := #[{ on := 3, ground := .data }, { on := 4, ground := .data }, { on := 0, ground := .phase }, { on := 1, ground := .phase }, { on := 2, ground := .phase }, { on := 3, ground := .phase }, { on := 4, ground := .phase }, { on := 5, ground := .phase }, { on := 6, ground := .phase }, { on := 7, ground := .phase }, { on := 8, ground := .phase }, { on := 9, ground := .phase }, { on := 10, ground := .phase }, { on := 11, ground := .phase }, { on := 12, ground := .phase }, { on := 13, ground := .phase }, { on := 14, ground := .phase }, { on := 15, ground := .phase }, { on := 16, ground := .phase }, { on := 17, ground := .phase }, { on := 18, ground := .phase }, { on := 19, ground := .phase }, { on := 20, ground := .phase }, { on := 21, ground := .phase }, { on := 22, ground := .phase }, { on := 23, ground := .phase }], guard := none }) (v := .pointer (some ⟨J.hb, k, none⟩)) rfl (by kernel_rfl) (by kernel_rfl) (by kernel_rfl) (by kernel_rfl) (fun _ _ _ h => h) (Or.inl ⟨by kernel_rfl, ?_⟩) gS3 ?_
                · (intro w hSw; (try dsimp only at hSw); (try obtain ⟨s1, s2, s3, s4⟩ := hSw); go_simp)
                try simp only [Act.put, List.setIfInBounds_toArray, List.set_cons_zero, List.set_cons_succ]
                clear gS
                refine anyT_step (i := 25) (by kernel_rfl) rfl rfl (fun K hK => ?_)
                go_simp
                refine hK _ _ (fun e => absurd rfl e) ?_
                clear hK K
                refine anyT_done (by kernel_rfl) ?_ _
                go_wp2
                rw [← HK1.out]
                have h1 := HRZ.out.below HB3.out
                obtain ⟨B0, b0, b1, b2⟩ := h1.hs
                have hB' : w3.heap[J.hb]? = some (.cells B 4) := (HB3.out.block _ lH).trans HBB.out
                have b0'' : w3.heap[J.hb]? = some (.cells B0 4) := b0
                rw [hB'] at b0''; cases b0''
                have U2 := row_upd (v := .bool bb) b1 b2 hkn
                refine ⟨⟨k + 1, rfl, by omega, ?_, ?_⟩, by simp [intOf]; omega⟩
                · rw [← hsD_step d L k bb (by rw [HBBB.out, HHS.out]; rfl)]
                  exact h1.mk3 (fun j _ u1 u2 u3 => So.blk_other u3 _) d.filled d.sl _ ((So.blk_other HN.out.2.1 _).trans h1.c0) m3 (by obtain ⟨A0, a1, a2⟩ := h1.sl; exact ⟨A0, (So.blk_other HN.out.2.2 _).trans a1, a2⟩) ⟨_, So.blk_set hB' _, U2.1, fun q hq => by rw [U2.2 q hq]; unfold setF; split <;> rfl⟩
                · exact ((HCZ.out.trans (Ch.of_below _ HB3.out)).set rfl _ _)
              | false =>
                rw [hh] at b0'
                have HHS : Hid (d.hs k = false) := hh
                clear hh
                refine region_T 25 (fun w' => w'.cell? ⟨D, 3, none⟩ = some (.slice (some ⟨J.sb, 0, none⟩) d.n d.n) ∧ w'.cell? ⟨D, 4, none⟩ = some (.slice (some ⟨J.hb, 0, none⟩) d.n d.n) ∧ w'.cell? ⟨J.sb, k, none⟩ = some (.int .u32 (d.sl k)) ∧ w'.cell? ⟨J.hb, k, none⟩ = some (.bool false)) (by kernel_rfl) ?_
                have gS : ({ wz with drawn := wz.drawn + 1 } : World).cell? ⟨D, 3, none⟩ = some (.slice (some ⟨J.sb, 0, none⟩) d.n d.n) ∧ ({ wz with drawn := wz.drawn + 1 } : World).cell? ⟨D, 4, none⟩ = some (.slice (some ⟨J.hb, 0, none⟩) d.n d.n) ∧ ({ wz with drawn := wz.drawn + 1 } : World).cell? ⟨J.sb, k, none⟩ = some (.int .u32 (d.sl k)) ∧ ({ wz with drawn := wz.drawn + 1 } : World).cell? ⟨J.hb, k, none⟩ = some (.bool false) := ⟨r3, r4, a0, b0'⟩
                obtain ⟨wd, hwd⟩ : ∃ wd, ({ wz with drawn := wz.drawn + 1 } : World) = wd := ⟨_, rfl⟩
                have HBD : Hid (Below wz.heap.size wz wd) := (show Below wz.heap.size wz wd from hwd ▸ ⟨rfl, rfl, rfl, Nat.le_refl _, fun _ _ => rfl⟩)
                rw [hwd] at gS ⊢
                clear hwd r3 r4 a0 b0'
                refine anyT_take (t := 25) (i := 0) (oi := { dst := some 120, op := .move (.tmp 0), type := 27, pos := "cache.go:171", after := #[], guard := none }) (v := .pointer (some ⟨D, 0, none⟩)) rfl (by kernel_rfl) (by kernel_rfl) (by kernel_rfl) (by kernel_rfl) (fun _ _ _ h => h) (Or.inl ⟨by kernel_rfl, ?_⟩) gS ?_
                · (intro w hSw; (try dsimp only at hSw); (try obtain ⟨s1, s2, s3, s4⟩ := hSw); go_simp)
                try simp only [Act.put, List.setIfInBounds_toArray, List.set_cons_zero, List.set_cons_succ]
                refine anyT_take (t := 25) (i := 1) (oi := { dst := some 121, op := .nilCheck (.tmp 120), type := 0, pos := "cache.go:171", after := #[{ on := 0, ground := .data }], guard := none }) (v := .pointer (some ⟨D, 0, none⟩)) rfl (by kernel_rfl) (by kernel_rfl) (by kernel_rfl) (by kernel_rfl) (fun _ _ _ h => h) (Or.inl ⟨by kernel_rfl, ?_⟩) gS ?_
                · (intro w hSw; (try dsimp only at hSw); (try obtain ⟨s1, s2, s3, s4⟩ := hSw); go_simp)
                try simp only [Act.put, List.setIfInBounds_toArray, List.set_cons_zero, List.set_cons_succ]
                refine anyT_take (t := 25) (i := 2) (oi := { dst := some 122, op := .fieldAddr 61 (.tmp 121) 4, type := 0, pos := "cache.go:171", after := #[{ on := 1, ground := .data }], guard := none }) (v := .pointer (some ⟨D, 4, none⟩)) rfl (by kernel_rfl) (by kernel_rfl) (by kernel_rfl) (by kernel_rfl) (fun _ _ _ h => h) (Or.inl ⟨by kernel_rfl, ?_⟩) gS ?_
                · (intro w hSw; (try dsimp only at hSw); (try obtain ⟨s1, s2, s3, s4⟩ := hSw); go_simp)
                try simp only [Act.put, List.setIfInBounds_toArray, List.set_cons_zero, List.set_cons_succ]
                refine anyT_take (t := 25) (i := 3) (oi := { dst := some 123, op := .load 58 (.tmp 122), type := 58, pos := "cache.go:171", after := #[{ on := 2, ground := .data }], guard := none }) (v := .slice (some ⟨J.hb, 0, none⟩) d.n d.n) rfl (by kernel_rfl) (by kernel_rfl) (by kernel_rfl) (by kernel_rfl) (fun _ _ _ h => h) (Or.inl ⟨by kernel_rfl, ?_⟩) gS ?_
                · (intro w hSw; (try dsimp only at hSw); (try obtain ⟨s1, s2, s3, s4⟩ := hSw); go_simp)
                try simp only [Act.put, List.setIfInBounds_toArray, List.set_cons_zero, List.set_cons_succ]
                refine anyT_take (t := 25) (i := 4) (oi := { dst := some 124, op := .move (.tmp 18), type := 3, pos := "cache.go:171", after := #[], guard := none }) (v := .int .i64 k) rfl (by kernel_rfl) (by kernel_rfl) (by kernel_rfl) (by kernel_rfl) (fun _ _ _ h => h) (Or.inl ⟨by kernel_rfl, ?_⟩) gS ?_
                · (intro w hSw; (try dsimp only at hSw); (try obtain ⟨s1, s2, s3, s4⟩ := hSw); go_simp)
                try simp only [Act.put, List.setIfInBounds_toArray, List.set_cons_zero, List.set_cons_succ]
                refine anyT_take (t := 25) (i := 5) (oi := { dst := some 125, op := .move (.tmp 0), type := 27, pos := "cache.go:171", after := #[], guard := none }) (v := .pointer (some ⟨D, 0, none⟩)) rfl (by kernel_rfl) (by kernel_rfl) (by kernel_rfl) (by kernel_rfl) (fun _ _ _ h => h) (Or.inl ⟨by kernel_rfl, ?_⟩) gS ?_
                · (intro w hSw; (try dsimp only at hSw); (try obtain ⟨s1, s2, s3, s4⟩ := hSw); go_simp)
                try simp only [Act.put, List.setIfInBounds_toArray, List.set_cons_zero, List.set_cons_succ]
                refine anyT_take (t := 25) (i := 6) (oi := { dst := some 126, op := .nilCheck (.tmp 125), type := 0, pos := "cache.go:171", after := #[{ on := 5, ground := .data }], guard := none }) (v := .pointer (some ⟨D, 0, none⟩)) rfl (by kernel_rfl) (by kernel_rfl) (by kernel_rfl) (by kernel_rfl) (fun _ _ _ h => h) (Or.inl ⟨by kernel_rfl, ?_⟩) gS ?_
                · (intro w hSw; (try dsimp only at hSw); (try obtain ⟨s1, s2, s3, s4⟩ := hSw); go_simp)
                try simp only [Act.put, List.setIfInBounds_toArray, List.set_cons_zero, List.set_cons_succ]
                refine anyT_take (t := 25) (i := 7) (oi := { dst := some 127, op := .fieldAddr 61 (.tmp 126) 4, type := 0, pos := "cache.go:171", after := #[{ on := 6, ground := .data }], guard := none }) (v := .pointer (some ⟨D, 4, none⟩)) rfl (by kernel_rfl) (by kernel_rfl) (by kernel_rfl) (by kernel_rfl) (fun _ _ _ h => h) (Or.inl ⟨by kernel_rfl, ?_⟩) gS ?_
                · (intro w hSw; (try dsimp only at hSw); (try obtain ⟨s1, s2, s3, s4⟩ := hSw); go_simp)
                try simp only [Act.put, List.setIfInBounds_toArray, List.set_cons_zero, List.set_cons_succ]
                refine anyT_take (t := 25) (i := 8) (oi := { dst := some 128, op := .load 58 (.tmp 127), type := 58, pos := "cache.go:171", after := #[{ on := 7, ground := .data }], guard := none }) (v := .slice (some ⟨J.hb, 0, none⟩) d.n d.n) rfl (by kernel_rfl) (by kernel_rfl) (by kernel_rfl) (by kernel_rfl) (fun _ _ _ h => h) (Or.inl ⟨by kernel_rfl, ?_⟩) gS ?_
                · (intro w hSw; (try dsimp only at hSw); (try obtain ⟨s1, s2, s3, s4⟩ := hSw); go_simp)
                try simp only [Act.put, List.setIfInBounds_toArray, List.set_cons_zero, List.set_cons_succ]
                refine anyT_take (t := 25) (i := 9) (oi := { dst := some 129, op := .move (.tmp 18), type := 3, pos := "cache.go:171", after := #[], guard := none }) (v := .int .i64 k) rfl (by kernel_rfl) (by kernel_rfl) (by kernel_rfl) (by kernel_rfl) (fun _ _ _ h => h) (Or.inl ⟨by kernel_rfl, ?_⟩) gS ?_
                · (intro w hSw; (try dsimp only at hSw); (try obtain ⟨s1, s2, s3, s4⟩ := hSw); go_simp)
                try simp only [Act.put, List.setIfInBounds_toArray, List.set_cons_zero, List.set_cons_succ]
                refine anyT_take (t := 25) (i := 10) (oi := { dst := some 130, op := .indexAddr 58 (.tmp 128) (.tmp 129), type := 0, pos := "cache.go:171", after := #[{ on := 8, ground := .data }, { on := 9, ground := .data }], guard := none }) (v := .pointer (some ⟨J.hb, k, none⟩)) rfl (by kernel_rfl) (by kernel_rfl) (by kernel_rfl) (by kernel_rfl) (fun _ _ _ h => h) (Or.inl ⟨by kernel_rfl, ?_⟩) gS ?_
                · (intro w hSw; (try dsimp only at hSw); (try obtain ⟨s1, s2, s3, s4⟩ := hSw); go_simp)
                try simp only [Act.put, List.setIfInBounds_toArray, List.set_cons_zero, List.set_cons_succ]
                refine anyT_take (t := 25) (i := 11) (oi := { dst := some 131, op := .load 4 (.tmp 130), type := 4, pos := "cache.go:171", after := #[{ on := 10, ground := .data }], guard := none }) (v := .bool false) rfl (by kernel_rfl) (by kernel_rfl) (by kernel_rfl) (by kernel_rfl) (fun _ _ _ h => h) (Or.inl ⟨by kernel_rfl, ?_⟩) gS ?_
                · (intro w hSw; (try dsimp only at hSw); (try obtain ⟨s1, s2, s3, s4⟩ := hSw); go_simp)
                try simp only [Act.put, List.setIfInBounds_toArray, List.set_cons_zero, List.set_cons_succ]
                refine anyT_take (t := 25) (i := 12) (oi := { dst := some 132, op := .move (.tmp 131), type := 4, pos := "cache.go:171", after := #[{ on := 11, ground := .data }], guard := none }) (v := .bool false) rfl (by kernel_rfl) (by kernel_rfl) (by kernel_rfl) (by kernel_rfl) (fun _ _ _ h => h) (Or.inl ⟨by kernel_rfl, ?_⟩) gS ?_
                · (intro w hSw; (try dsimp only at hSw); (try obtain ⟨s1, s2, s3, s4⟩ := hSw); go_simp)
                try simp only [Act.put, List.setIfInBounds_toArray, List.set_cons_zero, List.set_cons_succ]
                refine anyT_take (t := 25) (i := 13) (oi := { dst := some 133, op := .move (.tmp 0), type := 27, pos := "cache.go:171", after := #[{ on := 12, ground := .guard }], guard := some (12, true) }) (v := undef) rfl (by kernel_rfl) (by kernel_rfl) (by kernel_rfl) (by kernel_rfl) (fun _ _ _ h => h) (Or.inr ⟨by kernel_rfl, rfl⟩) gS ?_
                try simp only [Act.put, List.setIfInBounds_toArray, List.set_cons_zero, List.set_cons_succ]
                refine anyT_take (t := 25) (i := 14) (oi := { dst := some 134, op := .move (.tmp 0), type := 27, pos := "cache.go:171", after := #[{ on := 12, ground := .guard }], guard := some (12, true) }) (v := undef) rfl (by kernel_rfl) (by kernel_rfl) (by kernel_rfl) (by kernel_rfl) (fun _ _ _ h => h) (Or.inr ⟨by kernel_rfl, rfl⟩) gS ?_
                try simp only [Act.put, List.setIfInBounds_toArray, List.set_cons_zero, List.set_cons_succ]
                refine anyT_take (t := 25) (i := 15) (oi := { dst := some 135, op := .nilCheck (.tmp 134), type := 0, pos := "cache.go:171", after := #[{ on := 14, ground := .data }, { on := 12, ground := .guard }], guard := some (12, true) }) (v := undef) rfl (by kernel_rfl) (by kernel_rfl) (by kernel_rfl) (by kernel_rfl) (fun _ _ _ h => h) (Or.inr ⟨by kernel_rfl, rfl⟩) gS ?_
                try simp only [Act.put, List.setIfInBounds_toArray, List.set_cons_zero, List.set_cons_succ]
                refine anyT_take (t := 25) (i := 16) (oi := { dst := some 136, op := .fieldAddr 61 (.tmp 135) 3, type := 0, pos := "cache.go:171", after := #[{ on := 15, ground := .data }, { on := 12, ground := .guard }], guard := some (12, true) }) (v := undef) rfl (by kernel_rfl) (by kernel_rfl) (by kernel_rfl) (by kernel_rfl) (fun _ _ _ h => h) (Or.inr ⟨by kernel_rfl, rfl⟩) gS ?_
                try simp only [Act.put, List.setIfInBounds_toArray, List.set_cons_zero, List.set_cons_succ]
                refine anyT_take (t := 25) (i := 17) (oi := { dst := some 137, op := .load 32 (.tmp 136), type := 32, pos := "cache.go:171", after := #[{ on := 16, ground := .data }, { on := 12, ground := .guard }], guard := some (12, true) }) (v := undef) rfl (by kernel_rfl) (by kernel_rfl) (by kernel_rfl) (by kernel_rfl) (fun _ _ _ h => h) (Or.inr ⟨by kernel_rfl, rfl⟩) gS ?_
                try simp only [Act.put, List.setIfInBounds_toArray, List.set_cons_zero, List.set_cons_succ]
                refine anyT_take (t := 25) (i := 18) (oi := { dst := some 138, op := .move (.tmp 18), type := 3, pos := "cache.go:171", after := #[{ on := 12, ground := .guard }], guard := some (12, true) }) (v := undef) rfl (by kernel_rfl) (by kernel_rfl) (by kernel_rfl) (by kernel_rfl) (fun _ _ _ h => h) (Or.inr ⟨by kernel_rfl, rfl⟩) gS ?_
                try simp only [Act.put, List.setIfInBounds_toArray, List.set_cons_zero, List.set_cons_succ]
                refine anyT_take (t := 25) (i := 19) (oi := { dst := some 139, op := .indexAddr 32 (.tmp 137) (.tmp 138), type := 0, pos := "cache.go:171", after := #[{ on := 17, ground := .data }, { on := 18, ground := .data }, { on := 12, ground := .guard }], guard := some (12, true) }) (v := undef) rfl (by kernel_rfl) (by kernel_rfl) (by kernel_rfl) (by kernel_rfl) (fun _ _ _ h => h) (Or.inr ⟨by kernel_rfl, rfl⟩) gS ?_
                try simp only [Act.put, List.setIfInBounds_toArray, List.set_cons_zero, List.set_cons_succ]
                refine anyT_take (t := 25) (i := 20) (oi := { dst := some 140, op := .load 30 (.tmp 139), type := 30, pos := "cache.go:171", after := #[{ on := 19, ground := .data }, { on := 12, ground := .guard }], guard := some (12, true) }) (v := undef) rfl (by kernel_rfl) (by kernel_rfl) (by kernel_rfl) (by kernel_rfl) (fun _ _ _ h => h) (Or.inr ⟨by kernel_rfl, rfl⟩) gS ?_
                try simp only [Act.put, List.setIfInBounds_toArray, List.set_cons_zero, List.set_cons_succ]
                refine anyT_take (t := 25) (i := 21) (oi := { dst := some 141, op := .call { callee := .value (.func 46), args := #[.tmp 133, .tmp 140], argTypes := #[27, 30] }, type := 3, pos := "cache.go:171", after := #[{ on := 13, ground := .data }, { on := 20, ground := .data }, { on := 12, ground := .chain }, { on := 12, ground := .guard }], guard := some (12, true) }) (v := undef) rfl (by kernel_rfl) (by kernel_rfl) (by kernel_rfl) (by kernel_rfl) (fun _ _ _ h => h) (Or.inr ⟨by kernel_rfl, rfl⟩) gS ?_
                try simp only [Act.put, List.setIfInBounds_toArray, List.set_cons_zero, List.set_cons_succ]
                refine anyT_take (t := 25) (i := 22) (oi := { dst := some 142, op := .binOp .geq 3 (.tmp 141) (.const (.int .i64 0)) 3, type := 4, pos := "cache.go:171", after := #[{ on := 21, ground := .data }, { on := 12, ground := .guard }], guard := some (12, true) }) (v := undef) rfl (by kernel_rfl) (by kernel_rfl) (by kernel_rfl) (by kernel_rfl) (fun _ _ _ h => h) (Or.inr ⟨by kernel_rfl, rfl⟩) gS ?_
                try simp only [Act.put, List.setIfInBounds_toArray, List.set_cons_zero, List.set_cons_succ]
                refine anyT_take (t := 25) (i := 23) (oi := { dst := some 143, op := .pick (.tmp 132) (.tmp 142) (.const (.bool false)), type := 4, pos := "cache.go:171", after := #[{ on := 12, ground := .data }, { on := 22, ground := .data }], guard := none }) (v := .bool false) rfl (by kernel_rfl) (by kernel_rfl) (by kernel_rfl) (by kernel_rfl) (fun _ _ _ h => h) (Or.inl ⟨by kernel_rfl, ?_⟩) gS ?_
                · (intro w hSw; (try dsimp only at hSw); (try obtain ⟨s1, s2, s3, s4⟩ := hSw); go_simp)
                try simp only [Act.put, List.setIfInBounds_toArray, List.set_cons_zero, List.set_cons_succ]
                refine anyT_take (t := 25) (i := 24) (oi := { dst := some 144, op := .indexAddr 58 (.tmp 123) (.tmp 124), type := 0, pos := "cache.go:171", after := #[{ on := 3, ground := .data }, { on := 4, ground := .data }, { on := 0, ground := .phase }, { on := 1, ground := .phase }, { on := 2, ground := .phase }, { on := 3, ground := .phase }, { on := 4, ground := .phase }, { on := 5, ground := .phase }, { on := 6, ground := .phase }, { on := 7, ground := .phase }, { on := 8, ground := .phase }, { on := 9, ground := .phase }, { on := 10, ground := .phase }, { on := 11, ground := .phase }, { on := 12, ground := .phase }, { on := 13, ground := .phase }, { on := 14, ground := .phase }, { on := 15, ground := .phase }, { on := 16, ground := .phase }, { on := 17, ground := .phase }, { on := 18, ground := .phase }, { on := 19, ground := .phase }, { on := 20, ground := .phase }, { on := 21, ground := .phase }, { on := 22, ground := .phase }, { on := 23, ground := .phase }], guard := none }) (v := .pointer (some ⟨J.hb, k, none⟩)) rfl (by kernel_rfl) (by kernel_rfl) (by kernel_rfl) (by kernel_rfl) (fun _ _ _ h => h) (Or.inl ⟨by kernel_rfl, ?_⟩) gS ?_
                · (intro w hSw; (try dsimp only at hSw); (try obtain ⟨s1, s2, s3, s4⟩ := hSw); go_simp)
                try simp only [Act.put, List.setIfInBounds_toArray, List.set_cons_zero, List.set_cons_succ]
                have fz3 : wd.frozen? ⟨J.hb, k, none⟩ = false := So.row_fr ((HBD.out.block _ lH).trans HBB.out) k
                have b3 := gS.2.2.2
                clear gS
                refine anyT_step (i := 25) (by kernel_rfl) rfl rfl (fun K hK => ?_)
                go_simp
                refine hK _ _ (fun e => absurd rfl e) ?_
                clear hK K
                refine anyT_done (by kernel_rfl) ?_ _
                go_wp2
                rw [← HK1.out]
                have h1 := HRZ.out.below HBD.out
                obtain ⟨B0, b0, b1, b2⟩ := h1.hs
                have hB' : wd.heap[J.hb]? = some (.cells B 4) := (HBD.out.block _ lH).trans HBB.out
                have b0'' : wd.heap[J.hb]? = some (.cells B0 4) := b0
                rw [hB'] at b0''; cases b0''
                have U2 := row_upd (v := .bool false) b1 b2 hkn
                refine ⟨⟨k + 1, rfl, by omega, ?_, ?_⟩, by simp [intOf]; omega⟩
                · rw [← hsD_step d L k false (by rw [HHS.out]; rfl)]
                  exact h1.mk3 (fun j _ u1 u2 u3 => So.blk_other u3 _) d.filled d.sl _ ((So.blk_other HN.out.2.1 _).trans h1.c0) m3 (by obtain ⟨A0, a1, a2⟩ := h1.sl; exact ⟨A0, (So.blk_other HN.out.2.2 _).trans a1, a2⟩) ⟨_, So.blk_set hB' _, U2.1, fun q hq => by rw [U2.2 q hq]; unfold setF; split <;> rfl⟩
                · exact ((HCZ.out.trans (Ch.of_below _ HBD.out)).set rfl _ _)
            · have f8 : ¬ (k : Int) < (d.n : Int) := by omega
              have f9 : decide ((k : Int) < (d.n : Int)) = false := decide_eq_false f8
              obtain rfl : k = d.n := by omega
              clear hrz hcz
              go_wp2
              go_ret
              refine ⟨{ J with bv := .slice a6 L.length cap6 }, dn, ?_, ?_, ?_, fun j hj => ?_, HCH.out.step HCZ.out fun j hj e => ?_⟩
              · rw [HC.out]; rfl
              · rw [HL.out]; exact HDR.out
              · rw [HL.out]; exact HRZ.out
              · rcases hj with hj | hj
                · rcases HALL.out j hj with h1 | h1
                  · exact .inl (.inl h1)
                  · exact .inr h1
                · exact .inl (.inr (HRDB.out j hj))
              · rw [e]; exact mem_wr.2 (.inr (.inr (.inl rfl)))
end Go.Proofs.Ytgkkghphlbgcoaa.Ca
