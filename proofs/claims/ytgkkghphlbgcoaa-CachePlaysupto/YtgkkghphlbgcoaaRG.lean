import Derived.Test.YtgkkghphlbgcoaaRC
import Derived.Test.YtgkkghphlbgcoaaPJ
import Derived.Deep.CutRange
namespace Go.Proofs.Ytgkkghphlbgcoaa.Ca
open Go.RowKit Go.Maps Ho
set_option maxRecDepth 100000
set_option linter.unusedVariables false
set_option linter.unusedSimpArgs false
/-- Where the block at a place lies. -/
def bgN (bs : List Rk) (pc : Nat) : Nat := match fdK bs pc with | none => 0 | some k => k.at'
theorem fnR_bg (d : Rs) (pc : Nat) : (fnR d pc).1 = (bgN d.bs pc : Int) := by
  unfold fnR bgN
  cases fdK d.bs pc <;> rfl
/-- A block's words, those that lead on laid. -/
def ledF (bs : List Rk) (cw : Nat → Nat) (ls : List (Nat × Nat)) : Nat → Nat := ls.foldl (fun f p => setF (setF f p.1 (othN (cw p.1))) (p.1 + 1) (bgN bs p.2)) cw
theorem ledF_snoc (bs : List Rk) (cw : Nat → Nat) (ls : List (Nat × Nat)) (p : Nat × Nat) : ledF bs cw (ls ++ [p]) = setF (setF (ledF bs cw ls) p.1 (othN (cw p.1))) (p.1 + 1) (bgN bs p.2) := by simp [ledF, List.foldl_append]
theorem ledF_take (bs : List Rk) (cw : Nat → Nat) (ls : List (Nat × Nat)) (m : Nat) (p : Nat × Nat) (h : ls[m]? = some p) : ledF bs cw (ls.take (m + 1)) = setF (setF (ledF bs cw (ls.take m)) p.1 (othN (cw p.1))) (p.1 + 1) (bgN bs p.2) := by
  obtain ⟨h1, h2⟩ := List.getElem?_eq_some_iff.1 h
  rw [← List.take_append_getElem h1, h2, ledF_snoc]
/-- What leads on is a leave or an if. -/
structure Lo (k : Rk) : Prop where
  ok : ∀ p ∈ k.ls, (decP k.cw k.len p.1).e = 0 ∧ isX (decP k.cw k.len p.1).x.op = true
theorem bgN_le {d : Rs} (g : Rg d) (pc : Nat) : bgN d.bs pc ≤ d.filled := by
  unfold bgN
  cases h : fdK d.bs pc with
  | none => exact Nat.zero_le _
  | some k =>
    have := g.tp k (List.mem_of_find?_eq_some h)
    show k.at' ≤ d.filled
    omega
/-- Words in a block of their own. -/
structure Wf (w : World) (G n : Nat) (F : Nat → Nat) : Prop where
  ex : ∃ A, w.heap[G]? = some (.cells A 30) ∧ A.size = n ∧ ∀ j, j < n → A[j]? = some (.int .u32 (F j))
theorem Wf.lt {w : World} {G n : Nat} {F : Nat → Nat} (h : Wf w G n F) : G < w.heap.size := let ⟨_, h1, _⟩ := h.ex; So.row_lt h1
theorem Wf.keep {w w' : World} {G n : Nat} {F : Nat → Nat} (h : Wf w G n F) (hk : w'.heap[G]? = w.heap[G]?) : Wf w' G n F := let ⟨A, h1, h2⟩ := h.ex; ⟨A, hk.trans h1, h2⟩
theorem Wf.cell {w : World} {G n : Nat} {F : Nat → Nat} (h : Wf w G n F) (j : Nat) (hj : j < n) : w.cell? ⟨G, j, none⟩ = some (.int .u32 (F j)) := let ⟨A, h1, h2, h3⟩ := h.ex; (So.row_cell h1 j).trans (h3 j hj)
theorem Wf.fr {w : World} {G n : Nat} {F : Nat → Nat} (h : Wf w G n F) (j : Nat) : w.frozen? ⟨G, j, none⟩ = false := let ⟨A, h1, h2, h3⟩ := h.ex; So.row_fr h1 j
theorem Wf.set {w : World} {G n : Nat} {F : Nat → Nat} (h : Wf w G n F) (x v : Nat) (hx : x < n) : Wf (w.setCell ⟨G, x, none⟩ (.int .u32 v)) G n (setF F x v) := by
  obtain ⟨A, h1, h2, h3⟩ := h.ex
  have U := row_upd (v := .int .u32 v) h2 h3 hx
  refine ⟨_, So.blk_set h1 _, U.1, fun k hk => ?_⟩
  rw [U.2 k hk]
  unfold setF
  split <;> rfl
theorem setF_at {α : Type} (f : Nat → α) (k : Nat) (v : α) : setF f k v k = v := by simp [setF]
theorem setF_ne {α : Type} (f : Nat → α) (k i : Nat) (v : α) (h : i ≠ k) : setF f k v i = f i := by simp [setF, h]
theorem mem_take_succ {bs : List Rk} {i : Nat} {k q : Rk} (h : bs[i]? = some k) : q ∈ bs.take (i + 1) ↔ q ∈ bs.take i ∨ q = k := by
  obtain ⟨h1, h2⟩ := List.getElem?_eq_some_iff.1 h
  rw [← List.take_append_getElem h1, h2]
  simp
theorem take_far {d : Rs} (g : Rg d) {i : Nat} {k q : Rk} (h : d.bs[i]? = some k) (hq : q ∈ d.bs.take i) : q.at' + q.len ≤ k.at' := by
  obtain ⟨j, hj⟩ := List.getElem?_of_mem hq
  have hl : j < i := by
    have := (List.getElem?_eq_some_iff.1 hj).1
    rw [List.length_take] at this
    omega
  rw [List.getElem?_take_of_lt hl] at hj
  obtain ⟨l1, e1⟩ := List.getElem?_eq_some_iff.1 hj
  obtain ⟨l2, e2⟩ := List.getElem?_eq_some_iff.1 h
  have := List.pairwise_iff_getElem.1 g.sr j i l1 l2 hl
  rw [e1, e2] at this
  exact this
end Go.Proofs.Ytgkkghphlbgcoaa.Ca
namespace Go.Proofs.Ytgkkghphlbgcoaa.Ca
open Go.RowKit Go.Maps Ho
set_option maxRecDepth 100000
set_option linter.unusedVariables false
set_option linter.unusedSimpArgs false
structure Wo1 (w : World) (d : Rs) (f : Nat → Nat) (v : Value) (wr : World) : Prop where
  ex : ∃ (i : Nat) (F : Nat → Nat), v = .int .i64 i ∧ i ≤ d.bs.length ∧ Wf wr w.heap.size d.filled F ∧ (∀ k ∈ d.bs.take i, ∀ j, j < k.len → F (k.at' + j) = f (k.at' + j)) ∧ (∀ j, j < d.filled → (∀ k ∈ d.bs.take i, ¬ (k.at' ≤ j ∧ j < k.at' + k.len)) → F j = 0) ∧ Below w.heap.size w wr
structure Wo2 (w : World) (n : Nat) (k : Rk) (F0 : Nat → Nat) (X : Nat) (A : Array Value) (v : Value) (wr : World) : Prop where
  ex : ∃ (m : Nat) (F : Nat → Nat), v = .int .i64 m ∧ m ≤ k.len ∧ Wf wr w.heap.size n F ∧ (∀ j, j < m → F (k.at' + j) = k.cw j) ∧ (∀ j, ¬ (k.at' ≤ j ∧ j < k.at' + k.len) → F j = F0 j) ∧ wr.heap[X]? = some (.cells A 100) ∧ Below w.heap.size w wr
structure Wo3 (w : World) (n : Nat) (bs : List Rk) (k : Rk) (F0 : Nat → Nat) (X : Nat) (A : Array Value) (v : Value) (wr : World) : Prop where
  ex : ∃ (m : Nat) (F : Nat → Nat), v = .int .i64 m ∧ m ≤ k.ls.length ∧ Wf wr w.heap.size n F ∧ (∀ j, j < k.len → F (k.at' + j) = ledF bs k.cw (k.ls.take m) j) ∧ (∀ j, ¬ (k.at' ≤ j ∧ j < k.at' + k.len) → F j = F0 j) ∧ wr.heap[X]? = some (.cells A 100) ∧ Below w.heap.size w wr
structure WoC (W : World) (wx : World) : Prop where
  eq : wx = W
set_option maxHeartbeats 16000000 in
theorem rWords_any (D : Nat) (J : Rd) (d : Rs) (w : World) (h : Rw w D J d) (g : Rg d) (lo : ∀ k ∈ d.bs, Lo k) (f : Nat → Nat) (f0 : ∀ j, j < d.filled → (∀ k ∈ d.bs, ¬ (k.at' ≤ j ∧ j < k.at' + k.len)) → f j = 0) (f1 : ∀ k ∈ d.bs, ∀ j, j < k.len → f (k.at' + j) = ledF d.bs k.cw k.ls j) :
    Calls Try.prog 31 #[.pointer (some ⟨D, 0, none⟩)] w fun e w' => ∃ v, e = .returned v ∧ w'.ownsRow w.heap.size 30 1 v d.filled (wL f d.filled) ∧ Below w.heap.size w w' := by
  obtain ⟨i0, hi0, hz0, hz1, hz2⟩ := info_parts infoU
  obtain ⟨_, c1, c2, _, _⟩ := h.cell
  obtain ⟨ba, bcap, hbv, _⟩ := h.blocks
  rw [hbv] at c2
  have HR : Hid _ := h
  have HBV : Hid _ := hbv
  have HG : Hid (Rg d) := g
  have HLO : Hid (∀ k ∈ d.bs, Lo k) := lo
  have HF0 : Hid _ := f0
  have HF1 : Hid _ := f1
  obtain ⟨_, m2, m3, _, _, hbl⟩ := h.rm
  have lD := h.lt D (.inl (mem_wr.2 (.inl rfl)))
  have hmk := fun w' : World => run_make (P := Try.prog) w' 32 30 i0 _ Try.underlying32 hi0 hz0 .i64 .i64 (d.filled : Int) (d.filled : Int) (by omega) (Int.le_refl _) (by rw [hz2]; omega) (by omega)
  rw [hz1] at hmk
  simp only [Int.toNat_natCast] at hmk
  have c2w := (((Below.refl w.heap.size w).alloc (Nat.le_refl _) (.cells (madeCells #[Value.int .u32 0] (d.filled * 1)) 30)).cell (p := ⟨D, 2, none⟩) lD).trans c2
  simp only [Nat.mul_one] at hmk c2w
  clear h hbv g lo f0 f1 hi0 hz0 hz1 hz2
  go_enter Try.func31, Try.ntmps31
  go_wp2
  go_loopw [27] (fun v wr => Wo1 w d f v wr) (fun v _ => d.bs.length - (intOf v).toNat)
  case atStart =>
    refine ⟨0, fun _ => 0, rfl, Nat.zero_le _, ⟨_, World.alloc_heap_new _ _, by simp [madeCells], fun j hj => made_get _ _ _ hj⟩, fun k hk => (by simp at hk), fun _ _ _ => rfl, (Below.refl _ _).alloc (Nat.le_refl _) _⟩
  case round =>
    obtain ⟨wo, rfl⟩ : ∃ wo, wo = wr := ⟨_, rfl⟩
    obtain ⟨i, F0, rfl, hi, hwf, hold, hzer, hb⟩ := hrel
    have HWF : Hid _ := hwf
    have HOLD : Hid (∀ k ∈ d.bs.take i, ∀ j, j < k.len → F0 (k.at' + j) = f (k.at' + j)) := hold
    have HZER : Hid (∀ j, j < d.filled → (∀ k ∈ d.bs.take i, ¬ (k.at' ≤ j ∧ j < k.at' + k.len)) → F0 j = 0) := hzer
    have HB : Hid _ := hb
    have lWo := hwf.lt
    clear hold hzer hwf
    by_cases hin : i < d.bs.length
    · obtain ⟨k, hk⟩ : ∃ k, d.bs[i]? = some k := ⟨_, List.getElem?_eq_getElem hin⟩
      obtain ⟨g, bcap', ca, ccap, pa, pcap, la, lcap, ta, tcap, e, hg, ⟨e1, e2, e3, e4⟩, y0, y1, y2, y3, y4, y5⟩ := HR.out.block hk
      rw [HBV.out] at e
      cases e
      have hkm : k ∈ d.bs := List.mem_of_getElem? hk
      have HKM : Hid (k ∈ d.bs) := hkm
      have HKI : Hid (d.bs[i]? = some k) := hk
      have x0 := (hb.cell (p := ⟨g, i * 6, none⟩) hg).trans y0
      have x1 := (hb.cell (p := ⟨g, i * 6 + 1, none⟩) hg).trans y1
      have x2 := (hb.cell (p := ⟨g, i * 6 + 2, none⟩) hg).trans y2
      have x3 := (hb.cell (p := ⟨g, i * 6 + 3, none⟩) hg).trans y3
      have x4 := (hb.cell (p := ⟨g, i * 6 + 4, none⟩) hg).trans y4
      have x5 := (hb.cell (p := ⟨g, i * 6 + 5, none⟩) hg).trans y5
      have f1 : (i : Int) < (d.bs.length : Int) := by omega
      have f2 : decide ((i : Int) < (d.bs.length : Int)) = true := decide_eq_true f1
      have f3 : (0 : Int) ≤ (i : Int) := by omega
      obtain ⟨i1, hi1⟩ : ∃ i1, i + 1 = i1 := ⟨_, rfl⟩
      have t1 : IntKind.i64.wrap ((i : Int) + 1) = (i1 : Int) := So.wr_one hi1 (by omega)
      have HI1 : Hid (i + 1 = i1) := hi1
      have kat := HG.out.tp k hkm
      have hlo := (HR.out.kb k hkm).lo
      have hls1 := HG.out.ls k hkm
      have HLT : Hid (∀ j, k.cw j < 4294967296) := (HR.out.kb k hkm).lt
      have HW : Hid (Ho.Wds w ca k.len ccap k.cw) := (by obtain ⟨a0, cap0, e0, hw0, _⟩ := row_wds (HR.out.kb k HKM.out).cv hlo (HR.out.kb k HKM.out).lt; rw [e1] at e0; cases e0; exact hw0)
      have HLV : Hid (w.ownsRow 0 3 1 (.slice la k.ls.length lcap) k.ls.length (k.ls.map fun p => .int .i64 p.1)) := e3 ▸ (HR.out.kb k hkm).lv
      have HTV : Hid (w.ownsRow 0 30 1 (.slice ta k.ls.length tcap) k.ls.length (k.ls.map fun p => .int .u32 p.2)) := e4 ▸ (HR.out.kb k hkm).tv
      clear e1 e2 e3 e4 hi1 hk hkm y0 y1 y2 y3 y4 y5 hb
      go_wp2
      go_loopw [34] (fun v wr2 => Wo2 w d.filled k F0 wo.heap.size #[.int .u32 k.pc, .slice ca k.len ccap, .slice pa k.pn pcap, .int .i64 k.at', .slice la k.ls.length lcap, .slice ta k.ls.length tcap] v wr2) (fun v _ => k.len - (intOf v).toNat)
      case atStart => exact ⟨0, F0, rfl, Nat.zero_le _, HWF.out.keep (al_old _ _ _ lWo), fun j hj => absurd hj (Nat.not_lt_zero _), fun _ _ => rfl, World.alloc_heap_new _ _, HB.out.trans ((Below.refl _ _).alloc HB.out.size _)⟩
      case round =>
        obtain ⟨wa, rfl⟩ : ∃ wa, wa = wr := ⟨_, rfl⟩
        obtain ⟨m, F, rfl, hm, hwf, hdone, hoth, hX, hbA⟩ := hrel
        have HWFA : Hid _ := hwf
        have HDONE : Hid (∀ j, j < m → F (k.at' + j) = k.cw j) := hdone
        have HOTH : Hid (∀ j, ¬ (k.at' ≤ j ∧ j < k.at' + k.len) → F j = F0 j) := hoth
        have HX : Hid (wa.heap[wo.heap.size]? = some (.cells #[.int .u32 k.pc, .slice ca k.len ccap, .slice pa k.pn pcap, .int .i64 k.at', .slice la k.ls.length lcap, .slice ta k.ls.length tcap] 100)) := hX
        have HBA : Hid _ := hbA
        have z1 : wa.cell? ⟨wo.heap.size, 1, none⟩ = some (.slice ca k.len ccap) := (So.row_cell hX 1).trans rfl
        have z3 : wa.cell? ⟨wo.heap.size, 3, none⟩ = some (.int .i64 k.at') := (So.row_cell hX 3).trans rfl
        have z4 : wa.cell? ⟨wo.heap.size, 4, none⟩ = some (.slice la k.ls.length lcap) := (So.row_cell hX 4).trans rfl
        by_cases hml : m < k.len
        · obtain ⟨cb, coff, rfl, hcw⟩ : ∃ cb coff, ca = some ⟨cb, coff, none⟩ ∧ Ho.WR wa cb coff k.len k.cw := by
            rcases Ho.wds_keep HW.out hbA with h0 | ⟨cb, coff, h1, _, _, h2⟩
            · omega
            · exact ⟨cb, coff, h1, h2⟩
          have zc := hcw.cell m hml
          obtain ⟨s1, hs1⟩ : ∃ s1, k.at' + m = s1 := ⟨_, rfl⟩
          have zg := hwf.cell s1 (by omega)
          have zf := hwf.fr s1
          have f5 : (m : Int) < (k.len : Int) := by omega
          have f6 : decide ((m : Int) < (k.len : Int)) = true := decide_eq_true f5
          have f7 : (0 : Int) ≤ (m : Int) := by omega
          have f8 : (0 : Int) ≤ (s1 : Int) := by omega
          have f9 : (s1 : Int) < (d.filled : Int) := by omega
          have t2 : IntKind.i64.wrap ((k.at' : Int) + (m : Int)) = (s1 : Int) := So.wr_add hs1 (by omega)
          obtain ⟨m1, hm1⟩ : ∃ m1, m + 1 = m1 := ⟨_, rfl⟩
          have t3 : IntKind.i64.wrap ((m : Int) + 1) = (m1 : Int) := So.wr_one hm1 (by omega)
          have HS1 : Hid (k.at' + m = s1) := hs1
          have HM1 : Hid (m + 1 = m1) := hm1
          clear hs1 hm1 hcw hwf hdone hoth hX hbA
          go_wp2
          have e1 := HS1.out
          have e2 := HM1.out
          refine ⟨⟨m1, _, rfl, by omega, HWFA.out.set s1 (k.cw m) (by omega), fun j hj => ?_, fun j hj => ?_, ?_, HBA.out.setCell (Nat.le_refl _) _⟩, by simp [intOf]; omega⟩
          · by_cases e : j = m
            · subst e; rw [e1]; exact setF_at _ _ _
            · rw [setF_ne _ _ _ _ (by omega)]; exact HDONE.out j (by omega)
          · rw [setF_ne _ _ _ _ (by omega)]; exact HOTH.out j hj
          · rw [So.blk_other (by omega)]; exact HX.out
        · obtain rfl : m = k.len := by omega
          have f5 : ¬ (k.len : Int) < (k.len : Int) := by omega
          have f6 : decide ((k.len : Int) < (k.len : Int)) = false := decide_eq_false f5
          clear hwf hdone hoth hX hbA
          go_wp2
          go_loopw [50] (fun v wr3 => Wo3 w d.filled d.bs k F0 wo.heap.size #[.int .u32 k.pc, .slice ca k.len ccap, .slice pa k.pn pcap, .int .i64 k.at', .slice la k.ls.length lcap, .slice ta k.ls.length tcap] v wr3) (fun v _ => k.ls.length - (intOf v).toNat)
          case atStart => exact ⟨0, F, rfl, Nat.zero_le _, HWFA.out, fun j hj => HDONE.out j hj, HOTH.out, HX.out, HBA.out⟩
          case round =>
            obtain ⟨wb, rfl⟩ : ∃ wb, wb = wr := ⟨_, rfl⟩
            obtain ⟨m, F', rfl, hm, hwf, hdone, hoth, hX, hbB⟩ := hrel
            have HWFB : Hid (Wf wb w.heap.size d.filled F') := hwf
            have HDON2 : Hid (∀ j, j < k.len → F' (k.at' + j) = ledF d.bs k.cw (k.ls.take m) j) := hdone
            have HOTH2 : Hid (∀ j, ¬ (k.at' ≤ j ∧ j < k.at' + k.len) → F' j = F0 j) := hoth
            have HX2 : Hid (wb.heap[wo.heap.size]? = some (.cells #[.int .u32 k.pc, .slice ca k.len ccap, .slice pa k.pn pcap, .int .i64 k.at', .slice la k.ls.length lcap, .slice ta k.ls.length tcap] 100)) := hX
            have HBB : Hid _ := hbB
            have lX := So.row_lt hX
            have z1 : wb.cell? ⟨wo.heap.size, 1, none⟩ = some (.slice ca k.len ccap) := (So.row_cell hX 1).trans rfl
            clear hwf hdone hoth
            by_cases hml : m < k.ls.length
            · obtain ⟨⟨s, tt⟩, hp⟩ : ∃ p, k.ls[m]? = some p := ⟨_, List.getElem?_eq_getElem hml⟩
              obtain ⟨la', lcap', el, hla⟩ := row_one HLV.out
              cases el
              obtain ⟨lg, rfl, llg, hlc⟩ := hla (by omega)
              obtain ⟨ta', tcap', et, hta⟩ := row_one HTV.out
              cases et
              obtain ⟨tg, rfl, ltg, htc⟩ := hta (by omega)
              have zl := (hbB.cell (p := ⟨lg, m, none⟩) llg).trans (hlc m (.int .i64 s) (by rw [List.getElem?_map, hp]; rfl))
              have yt := htc m (.int .u32 tt) (by rw [List.getElem?_map, hp]; rfl)
              have hpm := List.mem_of_getElem? hp
              obtain ⟨d0, dX⟩ := (HLO.out k HKM.out).ok (s, tt) hpm
              have E := exd HLT.out d0 (isx_ex dX).1
              have hs2 := E.le
              have HE : Hid (Exd k.cw k.len s) := E
              have HDX : Hid _ := dX
              obtain ⟨D0, hD⟩ : ∃ D0, decP k.cw k.len s = D0 := ⟨_, rfl⟩
              have HD : Hid (decP k.cw k.len s = D0) := hD
              obtain ⟨de, ⟨xo, xd, xa, xb, xc, xn, xk, xx⟩, df, dn⟩ := D0
              have HXX : Hid (xx = 0) := (by have := E.x; rw [hD] at this; exact this)
              have hxo : xo = 14 ∨ xo = 11 := by
                have := dX
                rw [hD] at this
                simpa [isX] using this
              have HXO : Hid (xo = 14 ∨ xo = 11) := hxo
              clear hxo
              have hen := E.enc (bgN d.bs tt) (by have := bgN_le HG.out tt; omega)
              rw [hD] at hen
              dsimp only at hen
              have HEN : Hid (encP ⟨othF xo, xd, xa, xb, xc, xn, bgN d.bs tt, xx⟩ = (0, [othN (k.cw s), bgN d.bs tt])) := hen
              have HP : Hid (k.ls[m]? = some (s, tt)) := hp
              have f5 : (m : Int) < (k.ls.length : Int) := by omega
              have f6 : decide ((m : Int) < (k.ls.length : Int)) = true := decide_eq_true f5
              have f7 : (0 : Int) ≤ (m : Int) := by omega
              have hbg : bgN d.bs tt ≤ 1048576 := by have := bgN_le HG.out tt; omega
              have t4 : IntKind.u32.wrap (bgN d.bs tt : Int) = (bgN d.bs tt : Int) := IntWalk.u32_in _ (by omega)
              obtain ⟨m1, hm1⟩ : ∃ m1, m + 1 = m1 := ⟨_, rfl⟩
              have t3 : IntKind.i64.wrap ((m : Int) + 1) = (m1 : Int) := So.wr_one hm1 (by omega)
              have HM1 : Hid (m + 1 = m1) := hm1
              clear hm1 hp d0 dX E hD hen hlc htc hX hbB hpm
              go_wp2_with (go_at_call 37; fail)
              refine Calls.mono (Ho.rDecode_any ca k.len ccap s k.cw _ (Ho.wds_keep HW.out HBB.out)) ?_
              rw [HD.out]
              rintro _ w1 ⟨rfl, hb1⟩
              dsimp only [cdV]
              have hbx : Below w.heap.size w (w1.alloc (.cells #[.int .i64 xo, .int .i64 xd, .int .i64 xa, .int .i64 xb, .int .i64 xc, .int .i64 xn, .int .u32 xk, .int .u32 xx] 41)) := (HBB.out.trans (hb1.mono HBB.out.size)).trans ((Below.refl _ _).alloc (by have := HBB.out.size; have := hb1.size; omega) _)
              have hbx2 : Below wb.heap.size wb (w1.alloc (.cells #[.int .i64 xo, .int .i64 xd, .int .i64 xa, .int .i64 xb, .int .i64 xc, .int .i64 xn, .int .u32 xk, .int .u32 xx] 41)) := hb1.trans ((Below.refl _ _).alloc hb1.size _)
              have HBX : Hid _ := hbx
              have HBX2 : Hid _ := hbx2
              have HXN : Hid ((w1.alloc (.cells #[.int .i64 xo, .int .i64 xd, .int .i64 xa, .int .i64 xb, .int .i64 xc, .int .i64 xn, .int .u32 xk, .int .u32 xx] 41)).heap[w1.heap.size]? = some (.cells #[.int .i64 xo, .int .i64 xd, .int .i64 xa, .int .i64 xb, .int .i64 xc, .int .i64 xn, .int .u32 xk, .int .u32 xx] 41)) := World.alloc_heap_new _ _
              have z5 : (w1.alloc (.cells #[.int .i64 xo, .int .i64 xd, .int .i64 xa, .int .i64 xb, .int .i64 xc, .int .i64 xn, .int .u32 xk, .int .u32 xx] 41)).cell? ⟨wo.heap.size, 5, none⟩ = some (.slice (some ⟨tg, 0, none⟩) k.ls.length tcap) := (So.row_cell ((hbx2.block _ lX).trans HX2.out) 5).trans rfl
              have zt := (hbx.cell (p := ⟨tg, m, none⟩) ltg).trans yt
              have lx1 : wb.heap.size ≤ w1.heap.size := hb1.size
              clear hb1 hbx hbx2
              go_wp2_with (go_at_call 21; fail)
              refine Calls.mono (rFind_any D tt J d _ (HR.out.below HBX.out)) ?_
              rw [fnR_bg]
              rintro _ w3 ⟨rfl, hb3⟩
              dsimp only
              have hB3 : Below w.heap.size w w3 := HBX.out.trans (hb3.mono HBX.out.size)
              have hB32 : Below wb.heap.size wb w3 := HBX2.out.trans (hb3.mono HBX2.out.size)
              have HB3 : Hid _ := hB3
              have HB32 : Hid _ := hB32
              have hX3 := (hb3.block _ (So.row_lt HXN.out)).trans HXN.out
              have HXN3 : Hid (w3.heap[w1.heap.size]? = some (.cells #[.int .i64 xo, .int .i64 xd, .int .i64 xa, .int .i64 xb, .int .i64 xc, .int .i64 xn, .int .u32 xk, .int .u32 xx] 41)) := hX3
              have q0 : w3.cell? ⟨w1.heap.size, 0, none⟩ = some (.int .i64 xo) := (So.row_cell hX3 0).trans rfl
              have q1 : w3.cell? ⟨w1.heap.size, 1, none⟩ = some (.int .i64 xd) := (So.row_cell hX3 1).trans rfl
              have q2 : w3.cell? ⟨w1.heap.size, 2, none⟩ = some (.int .i64 xa) := (So.row_cell hX3 2).trans rfl
              have q3 : w3.cell? ⟨w1.heap.size, 3, none⟩ = some (.int .i64 xb) := (So.row_cell hX3 3).trans rfl
              have q4 : w3.cell? ⟨w1.heap.size, 4, none⟩ = some (.int .i64 xc) := (So.row_cell hX3 4).trans rfl
              have q5 : w3.cell? ⟨w1.heap.size, 5, none⟩ = some (.int .i64 xn) := (So.row_cell hX3 5).trans rfl
              have q6 : w3.cell? ⟨w1.heap.size, 6, none⟩ = some (.int .u32 xk) := (So.row_cell hX3 6).trans rfl
              have q7 : w3.cell? ⟨w1.heap.size, 7, none⟩ = some (.int .u32 xx) := (So.row_cell hX3 7).trans rfl
              have r0 := So.row_fr hX3 0
              have r6 := So.row_fr hX3 6
              clear hX3 hb3 hB3 hB32
              go_upto_if 78 with fail
              go_cut [] from 79 to 80 (fun wx => WoC ((w3.setCell ⟨w1.heap.size, 6, none⟩ (.int .u32 (bgN d.bs tt))).setCell ⟨w1.heap.size, 0, none⟩ (.int .i64 (othF xo))) wx)
              case first =>
                rcases HXO.out with e | e
                · subst e
                  go_wp2
                  go_meet
                  exact ⟨rfl⟩
                · subst e
                  go_wp2
                  go_meet
                  exact ⟨rfl⟩
              case rest =>
                obtain rfl := hcut.eq
                go_wp2_with (go_at_call 9; fail)
                refine Calls.mono (Ho.rEncode_any ⟨othF xo, xd, xa, xb, xc, xn, bgN d.bs tt, xx⟩ _ (by show bgN d.bs tt < 4294967296; omega) (by show xx < 4294967296; have := HXX.out; omega)) ?_
                rw [HEN.out]
                rintro _ w5 ⟨sv, rfl, hlies, hb5⟩
                dsimp only
                obtain ⟨eb, ecap, rfl, hel, hec, hwr⟩ := lies_two hlies
                have v0 : w5.cell? ⟨eb, 0, none⟩ = some (.int .u32 (othN (k.cw s))) := hwr.cell 0 (by omega)
                have v1 : w5.cell? ⟨eb, 1, none⟩ = some (.int .u32 (bgN d.bs tt)) := hwr.cell 1 (by omega)
                have s45 : wb.heap.size ≤ w3.heap.size := HB32.out.size
                have b5 : Below wb.heap.size wb w5 := (HB32.out.trans (((Below.refl wb.heap.size w3).setCell lx1 _).setCell lx1 _)).trans (hb5.mono (by simp; omega))
                have hebG : w3.heap.size ≤ eb := by simpa using hel
                have zz3 : w5.cell? ⟨wo.heap.size, 3, none⟩ = some (.int .i64 k.at') := (So.row_cell ((b5.block _ lX).trans HX2.out) 3).trans rfl
                have hwf5 : Wf w5 w.heap.size d.filled F' := HWFB.out.keep (b5.block _ HWFB.out.lt)
                have lWb : w.heap.size < wb.heap.size := HWFB.out.lt
                obtain ⟨s1, hs1⟩ : ∃ s1, k.at' + s = s1 := ⟨_, rfl⟩
                obtain ⟨s2, hs2'⟩ : ∃ s2, s1 + 1 = s2 := ⟨_, rfl⟩
                have t5 : IntKind.i64.wrap ((k.at' : Int) + (s : Int)) = (s1 : Int) := So.wr_add hs1 (by omega)
                have t6 : IntKind.i64.wrap ((s1 : Int) + 1) = (s2 : Int) := So.wr_one hs2' (by omega)
                have zg := hwf5.cell s1 (by omega)
                have zf := hwf5.fr s1
                have zg2 := hwf5.cell s2 (by omega)
                have zf2 := hwf5.fr s2
                have f8 : (0 : Int) ≤ (s1 : Int) := by omega
                have f9 : (s1 : Int) < (d.filled : Int) := by omega
                have f10 : (0 : Int) ≤ (s2 : Int) := by omega
                have f11 : (s2 : Int) < (d.filled : Int) := by omega
                have nXG : ¬ wo.heap.size = w.heap.size := by omega
                have nGX : ¬ w.heap.size = wo.heap.size := by omega
                have neG : ¬ eb = w.heap.size := by omega
                have nGe : ¬ w.heap.size = eb := by omega
                have HS1 : Hid (k.at' + s = s1) := hs1
                have HS2 : Hid (s1 + 1 = s2) := hs2'
                have zg3 := (hwf5.set s1 (othN (k.cw s)) (by omega)).cell s2 (by omega)
                rw [setF_ne _ _ _ _ (by omega)] at zg3
                have zf3 := (hwf5.set s1 (othN (k.cw s)) (by omega)).fr s2
                have nss : ¬ s1 = s2 := by omega
                have nss2 : ¬ s2 = s1 := by omega
                have HB5 : Hid _ := b5
                have HWF5 : Hid _ := hwf5
                clear hs1 hs2' b5 hwf5 hb5 hwr hlies hel
                go_wp2
                go_region
                go_wp2
                go_region
                go_wp2
                have e1 := HS1.out
                have e2 := HS2.out
                have e3 := HM1.out
                have W1 := (HWF5.out.set s1 (othN (k.cw s)) (by omega)).set s2 (bgN d.bs tt) (by omega)
                refine ⟨⟨m1, _, rfl, by omega, W1.keep rfl, fun j hj => ?_, fun j hj => ?_, ?_, ?_⟩, by simp [intOf]; omega⟩
                · have e4 := ledF_take d.bs k.cw k.ls m (s, tt) HP.out
                  rw [e3] at e4
                  rw [e4]
                  dsimp only
                  by_cases c1 : j = s + 1
                  · subst c1
                    rw [show k.at' + (s + 1) = s2 by omega, setF_at, setF_at]
                  · rw [setF_ne _ _ _ _ (by omega), setF_ne _ (s + 1) _ _ c1]
                    by_cases c2 : j = s
                    · subst c2; rw [e1, setF_at, setF_at]
                    · rw [setF_ne _ _ _ _ (by omega), setF_ne _ s _ _ c2]; exact HDON2.out j hj
                · rw [setF_ne _ _ _ _ (by omega), setF_ne _ _ _ _ (by omega)]; exact HOTH2.out j hj
                · exact (So.blk_other nXG _).trans ((So.blk_other nXG _).trans ((HB5.out.block _ lX).trans HX2.out))
                · exact (HBB.out.trans (HB5.out.mono (by omega))).trans (((((Below.refl w.heap.size w5).drew).setCell (Nat.le_refl _) _).drew).setCell (Nat.le_refl _) _)
            · obtain rfl : m = k.ls.length := by omega
              have f5 : ¬ (k.ls.length : Int) < (k.ls.length : Int) := by omega
              have f6 : decide ((k.ls.length : Int) < (k.ls.length : Int)) = false := decide_eq_false f5
              clear hX hbB
              go_wp2
              have e3 := HI1.out
              refine ⟨⟨i1, F', rfl, by omega, HWFB.out, fun q hq j hj => ?_, fun j hj hn => ?_, HBB.out⟩, by simp [intOf]; omega⟩
              · rw [← e3] at hq
                rcases (mem_take_succ HKI.out).1 hq with hq | rfl
                · have := take_far HG.out HKI.out hq
                  rw [HOTH2.out _ (by omega)]
                  exact HOLD.out q hq j hj
                · rw [HDON2.out j hj, List.take_length]
                  exact (HF1.out q HKM.out j hj).symm
              · rw [← e3] at hn
                rw [HOTH2.out j (hn k ((mem_take_succ HKI.out).2 (.inr rfl)))]
                exact HZER.out j hj fun q hq => hn q ((mem_take_succ HKI.out).2 (.inl hq))
    · have f1 : ¬ (i : Int) < (d.bs.length : Int) := by omega
      have f2 : decide ((i : Int) < (d.bs.length : Int)) = false := decide_eq_false f1
      obtain rfl : i = d.bs.length := by omega
      clear hb
      go_wp2
      go_ret
      refine ⟨_, rfl, ?_, HB.out⟩
      rw [List.take_length] at HOLD HZER
      obtain ⟨A, a1, a2, a3⟩ := HWF.out.ex
      refine ⟨by rw [wL_len, Nat.mul_one], .inr ⟨w.heap.size, d.filled, A, rfl, Nat.le_refl _, a1, Nat.le_refl _, by rw [show maxLen = 9223372036854775807 by decide]; omega, by omega, ?_⟩⟩
      apply List.ext_getElem?
      intro j
      by_cases hj : j < d.filled
      · rw [List.getElem?_take_of_lt (by omega), wL_get f d.filled j hj]
        have := a3 j hj
        have ef : F0 j = f j := by
          by_cases hx : ∀ k ∈ d.bs, ¬ (k.at' ≤ j ∧ j < k.at' + k.len)
          · rw [HZER.out j hj hx, HF0.out j hj hx]
          · have : ∃ k ∈ d.bs, k.at' ≤ j ∧ j < k.at' + k.len := Classical.byContradiction fun hh => hx fun k hk h2 => hh ⟨k, hk, h2⟩
            obtain ⟨k, hk, h1, h2⟩ := this
            have := HOLD.out k hk (j - k.at') (by omega)
            rwa [show k.at' + (j - k.at') = j by omega] at this
        rw [ef] at this
        simpa using this
      · rw [List.getElem?_eq_none (by simp; omega), List.getElem?_eq_none (by rw [wL_len]; omega)]
end Go.Proofs.Ytgkkghphlbgcoaa.Ca
