import Derived.Test.YtgkkghphlbgcoaaRW
import Derived.Test.YtgkkghphlbgcoaaQD
import Derived.Test.YtgkkghphlbgcoaaRD
import Derived.Test.YtgkkghphlbgcoaaRG
import Derived.Test.YtgkkghphlbgcoaaHQ
import Derived.Test.YtgkkghphlbgcoaaLM
import Derived.Deep.DrawnRows
namespace Go.Proofs.Ytgkkghphlbgcoaa.Ca
open Go.RowKit Go.Maps Ho
set_option maxRecDepth 100000
set_option linter.unusedVariables false
set_option linter.unusedSimpArgs false
theorem tl_cells {w : World} {b n : Nat} {v : Value} {tp : Nat → Nat} {ta : Nat → Int} (h : w.ownsRow b 56 2 v n (tL tp ta n)) : ∃ a cap, v = .slice a n cap ∧ (0 < n → ∃ g, a = some ⟨g, 0, none⟩ ∧ b ≤ g ∧ g < w.heap.size ∧ ∀ k, k < n → w.cell? ⟨g, k * 2, none⟩ = some (.int .u32 (tp k)) ∧ w.cell? ⟨g, k * 2 + 1, none⟩ = some (.int .i64 (ta k))) := by
  rcases h.2 with ⟨e, h0⟩ | ⟨g, cap, cur, e, h2, h3, h4, h5, h6, h7⟩
  · exact ⟨none, 0, by rw [e, h0], fun hp => by omega⟩
  · refine ⟨_, cap, e, fun _ => ⟨g, rfl, h2, So.row_lt h3, fun k hk => ?_⟩⟩
    obtain ⟨e1, e2⟩ := tL_get tp ta n k hk
    rw [← h7, List.getElem?_take_of_lt (by omega)] at e1 e2
    rw [So.row_cell h3, So.row_cell h3]
    exact ⟨by simpa using e1, by simpa using e2⟩
structure SeI (w : World) (n : Nat) (v : Value) (wr : World) : Prop where
  ex : ∃ i : Nat, v = .int .i64 i ∧ i ≤ n ∧ Below w.heap.size w wr
set_option maxHeartbeats 4000000 in
theorem same_e (b1 b2 n : Nat) (v1 v2 : Value) (tp : Nat → Nat) (ta : Nat → Int) (w : World) (h1 : w.ownsRow b1 56 2 v1 n (tL tp ta n)) (h2 : w.ownsRow b2 56 2 v2 n (tL tp ta n)) (hn : n ≤ 65536) :
    Calls Try.prog 33 #[v1, v2] w fun e w' => e = .returned (.bool true) ∧ Below w.heap.size w w' := by
  obtain ⟨a1, c1, rfl, r1⟩ := tl_cells h1
  obtain ⟨a2, c2, rfl, r2⟩ := tl_cells h2
  have R1 : Hid _ := r1
  have R2 : Hid _ := r2
  clear h1 h2 r1 r2
  go_enter Try.func33, Try.ntmps33
  go_wp2
  go_loopw [13] (fun v wr => SeI w n v wr) (fun v _ => n - (intOf v).toNat)
  case atStart => exact ⟨0, rfl, Nat.zero_le _, Below.refl _ _⟩
  case round =>
    obtain ⟨i, rfl, hi, hb⟩ := hrel
    by_cases hin : i < n
    · obtain ⟨g1, rfl, _, l1, y1⟩ := R1.out (by omega)
      obtain ⟨g2, rfl, _, l2, y2⟩ := R2.out (by omega)
      have x1 := (hb.cell (p := ⟨g1, i * 2, none⟩) l1).trans (y1 i hin).1
      have x2 := (hb.cell (p := ⟨g1, i * 2 + 1, none⟩) l1).trans (y1 i hin).2
      have x3 := (hb.cell (p := ⟨g2, i * 2, none⟩) l2).trans (y2 i hin).1
      have x4 := (hb.cell (p := ⟨g2, i * 2 + 1, none⟩) l2).trans (y2 i hin).2
      have f1 : (i : Int) < (n : Int) := by omega
      have f2 : decide ((i : Int) < (n : Int)) = true := decide_eq_true f1
      have f3 : (0 : Int) ≤ (i : Int) := by omega
      obtain ⟨i1, hi1⟩ : ∃ i1, i + 1 = i1 := ⟨_, rfl⟩
      have t1 : IntKind.i64.wrap ((i : Int) + 1) = (i1 : Int) := So.wr_one hi1 (by omega)
      have HI1 : Hid _ := hi1
      have HB : Hid _ := hb
      clear hi1 y1 y2 hb
      go_wp2
      go_region
      go_wp2
      exact ⟨⟨i1, rfl, by have := HI1.out; omega, HB.out.drew⟩, by have := HI1.out; simp [intOf]; omega⟩
    · have f1 : ¬ (i : Int) < (n : Int) := by omega
      have f2 : decide ((i : Int) < (n : Int)) = false := decide_eq_false f1
      go_wp2
      go_ret
      exact ⟨rfl, hb⟩
end Go.Proofs.Ytgkkghphlbgcoaa.Ca
namespace Go.Proofs.Ytgkkghphlbgcoaa.Ca
open Go.RowKit Go.Maps Ho
set_option maxRecDepth 100000
set_option linter.unusedVariables false
set_option linter.unusedSimpArgs false
attribute [local go_sem ↓] Go.wp_at_zero Go.wp_at_succ
/-- Places that lie. -/
structure Pds (w : World) (a : Option Addr) (l : List Nat) : Prop where
  ex : 0 < l.length → ∃ g, a = some ⟨g, 0, none⟩ ∧ g < w.heap.size ∧ (∀ (i x : Nat), l[i]? = some x → w.cell? ⟨g, i, none⟩ = some (.int .u32 x)) ∧ ∀ i, w.frozen? ⟨g, i, none⟩ = false
theorem Pds.keep {w w' : World} {a : Option Addr} {l : List Nat} (h : Pds w a l) (hb : Below w.heap.size w w') : Pds w' a l := by
  refine ⟨fun h0 => ?_⟩
  obtain ⟨g, e, hg, hc, hf⟩ := h.ex h0
  refine ⟨g, e, Nat.lt_of_lt_of_le hg hb.size, fun i x hx => ?_, fun i => ?_⟩
  · exact (hb.cell (p := ⟨g, i, none⟩) hg).trans (hc i x hx)
  · exact (World.frozen?_of_block (a := ⟨g, i, none⟩) (hb.block g hg)).trans (hf i)
theorem row_pl {w : World} {b n : Nat} {v : Value} {l : List Nat} (h : w.ownsRow b 30 1 v n (uL l)) (hl : l.length = n) : ∃ a cap, v = .slice a n cap ∧ Pds w a l := by
  rcases h.2 with ⟨e, h0⟩ | ⟨g, cap, cur, e, h2, h3, h4, h5, h6, h7⟩
  · exact ⟨none, 0, by rw [e, h0], ⟨fun hp => by omega⟩⟩
  · refine ⟨_, cap, e, ⟨fun h0 => ⟨g, rfl, So.row_lt h3, fun i x hx => ?_, fun i => So.row_fr h3 i⟩⟩⟩
    have hi := (List.getElem?_eq_some_iff.1 hx).1
    have hu : (uL l)[i]? = some (.int .u32 x) := by simp [uL, hx]
    rw [← h7, List.getElem?_take_of_lt (by omega)] at hu
    rw [So.row_cell h3]
    simpa using hu
structure S2I (w : World) (n : Nat) (v : Value) (wr : World) : Prop where
  ex : ∃ k : Nat, k ≤ n ∧ v = .int .i64 k ∧ Below w.heap.size w wr
set_option maxHeartbeats 4000000 in
theorem same2 (a1 a2 : Option Addr) (l : List Nat) (c1 c2 : Nat) (w : World) (hl : l.length ≤ 1048576) (h1 : Pds w a1 l) (h2 : Pds w a2 l) :
    Calls Try.prog 19 #[.slice a1 l.length c1, .slice a2 l.length c2] w fun e w' => e = .returned (.bool true) ∧ Below w.heap.size w w' := by
  obtain ⟨len, hlen⟩ : ∃ len, l.length = len := ⟨_, rfl⟩
  have HLEN : Hid (l.length = len) := hlen
  rw [hlen] at hl ⊢
  have H1 : Hid _ := h1
  have H2 : Hid _ := h2
  clear h1 h2 hlen
  go_enter Try.func19, Try.ntmps19
  go_wp2
  go_loopw [13] (fun v wr => S2I w len v wr) (fun v _ => len - (intOf v).toNat)
  case atStart => exact ⟨0, by omega, rfl, Below.refl _ _⟩
  case round =>
    obtain ⟨k, hk, rfl, hbel⟩ := hrel
    by_cases hlt : k < len
    · obtain ⟨b1, rfl, l1, z1, _⟩ := H1.out.ex (by have := HLEN.out; omega)
      obtain ⟨b2, rfl, l2, z2, _⟩ := H2.out.ex (by have := HLEN.out; omega)
      obtain ⟨x, hx⟩ : ∃ x, l[k]? = some x := ⟨_, List.getElem?_eq_getElem (by have := HLEN.out; omega)⟩
      have y1 := (hbel.cell (p := ⟨b1, k, none⟩) l1).trans (z1 k x hx)
      have y2 := (hbel.cell (p := ⟨b2, k, none⟩) l2).trans (z2 k x hx)
      have k0 : (0 : Int) ≤ k := by omega
      have k1 : (k : Int) < len := by omega
      have f2 : decide ((k : Int) < (len : Int)) = true := decide_eq_true k1
      obtain ⟨k2, hk2⟩ : ∃ k2, k + 1 = k2 := ⟨_, rfl⟩
      have t1 : IntKind.i64.wrap ((k : Int) + 1) = (k2 : Int) := So.wr_one hk2 (by omega)
      have HK2 : Hid _ := hk2
      have HBEL : Hid _ := hbel
      clear hk2 z1 z2 hx hbel
      go_wp2
      go_region
      go_wp2
      exact ⟨⟨k2, by have := HK2.out; omega, rfl, HBEL.out.drew⟩, by have := HK2.out; simp [intOf]; omega⟩
    · have hk2 : k = len := by omega
      subst hk2
      have f1 : ¬ (k : Int) < (k : Int) := by omega
      have f2 : decide ((k : Int) < (k : Int)) = false := decide_eq_false f1
      go_wp2
      go_ret
      exact ⟨rfl, hbel⟩
/-- The program's places, in order. -/
theorem places_rel (C : Nat) (I : Ids) (c : Cs) (d : Rs) (w : World) (h : Cw w C I c) (r : Rel c d) :
    Calls Try.prog 29 #[.pointer (some ⟨C, 0, none⟩)] w fun e W' => ∃ a cap, e = .returned (.slice a (plP d.bs).length cap) ∧ Pds W' a (plP d.bs) ∧ (∀ g off, a = some ⟨g, off, none⟩ → w.heap.size ≤ g) ∧ Below w.heap.size w W' := by
  obtain ⟨nn, D0, ho, hmp⟩ := h.m1.ex
  obtain ⟨cd1, cd2⟩ := own_card Try.underlying30 ho
  refine Calls.mono (Ke.places_any C I.b1 nn D0 w (h.own_lt C (.inl rfl)) h.cell.2.2.2.1 ho (by rw [show maxLen = 9223372036854775807 by decide]; omega) (by omega) (fun l hn hl => by rw [cd2 l hn hl]; omega)) ?_
  rintro _ w3 ⟨pv, rfl, ds, ⟨hdn, hdm⟩, hpv, hb3⟩
  obtain ⟨sz1, sp1⟩ := sort_perm ds
  obtain ⟨_, hso⟩ := So.sort_is ds
  have hpm : ∀ x : Nat, x ∈ (Sort.sort So.lt ds).toList ↔ (c.bl x).isSome = true := fun x => by
    rw [sp1.mem_iff, hdm x, hmp.has_eq]
    simp [fB]
  have hnd : (Sort.sort So.lt ds).toList.Nodup := sp1.nodup_iff.2 hdn
  have heq : (Sort.sort So.lt ds).toList = plP d.bs := by
    obtain ⟨p1, p2⟩ := plP_ok d.bs
    refine rise_eq ?_ p1 (List.Perm.trans ?_ p2.symm)
    · rw [List.pairwise_iff_getElem]
      intro i j hi hj hij
      have hi' : i < (Sort.sort So.lt ds).size := by simpa using hi
      have hj' : j < (Sort.sort So.lt ds).size := by simpa using hj
      have := hso i j (Nat.zero_le _) hij (by omega)
      rw [getElem!_pos (Sort.sort So.lt ds) j hj', getElem!_pos (Sort.sort So.lt ds) i hi'] at this
      have h2 := of_decide_eq_false (show decide ((Sort.sort So.lt ds)[j] < (Sort.sort So.lt ds)[i]) = false from this)
      rw [Array.getElem_toList, Array.getElem_toList]
      omega
    · rw [List.perm_ext_iff_of_nodup hnd r.nd]
      intro x
      rw [hpm x, r.bl, List.mem_map]
      constructor
      · intro hx
        cases hf : fdK d.bs x with
        | none => rw [hf] at hx; cases hx
        | some k => exact ⟨k, (fdK_mem hf).1, (fdK_mem hf).2⟩
      · rintro ⟨k, hk, rfl⟩
        rw [fdK_of r.nd hk]; rfl
  have hlen : (plP d.bs).length = ds.size := by rw [← heq, Array.length_toList, sz1]
  rcases hpv with ⟨e1, e2⟩ | ⟨g, cap, e1, e2, e3⟩
  · have h0 : (plP d.bs).length = 0 := by rw [hlen, e1]; rfl
    exact ⟨none, 0, by rw [e2, h0], ⟨fun hp => by omega⟩, fun g off e => (by cases e), hb3⟩
  · refine ⟨some ⟨g, 0, none⟩, cap, by rw [e1, hlen], ⟨fun _ => ⟨g, rfl, e3.lt, fun i x hx => ?_, e3.fz⟩⟩, fun g' off e => (by cases e; exact e2), hb3⟩
    rw [← heq] at hx
    have hi : i < (Sort.sort So.lt ds).size := by have := (List.getElem?_eq_some_iff.1 hx).1; simpa using this
    have := e3.c i hi
    rw [getElem!_pos (Sort.sort So.lt ds) i hi] at this
    rw [this]
    have hx2 := (List.getElem?_eq_some_iff.1 hx).2
    rw [Array.getElem_toList] at hx2
    rw [hx2]
/-- Rows that are written over: m cells each, the first number o cells behind the begin of each. -/
def Lr (B : Nat) (q : IntKind) (o m : Nat) (a : Option Addr) (n : Nat) (wr : World) : Prop := 0 < n → ∃ g, a = some ⟨g, 0, none⟩ ∧ B ≤ g ∧ g < wr.heap.size ∧ (∀ k, k < n → ∃ x : Int, wr.cell? ⟨g, k * m + o, none⟩ = some (.int q x)) ∧ ∀ k, wr.frozen? ⟨g, k, none⟩ = false
theorem Lr.set {B : Nat} {q : IntKind} {o m n : Nat} {a : Option Addr} {wr : World} (h : Lr B q o m a n wr) {g k : Nat} (ha : a = some ⟨g, 0, none⟩) (hk : k < n) (x : Int) : Lr B q o m a n (wr.setCell ⟨g, k * m + o, none⟩ (.int q x)) := by
  intro h0
  obtain ⟨g', e, h1, h2, h3, h4⟩ := h h0
  rw [ha] at e
  cases e
  refine ⟨g, ha, h1, by simpa using h2, fun j hj => ?_, fun j => by rw [World.frozen?_setCell]; exact h4 j⟩
  by_cases e : k * m + o = j * m + o
  · rw [← e]
    obtain ⟨y, hy⟩ := h3 k hk
    exact ⟨x, World.cell?_setCell_same _ _ _ hy⟩
  · obtain ⟨y, hy⟩ := h3 j hj
    exact ⟨y, by rw [World.cell?_setCell_other _ _ _ _ (fun hh => e (by injection hh))]; exact hy⟩
theorem Lr.far {B : Nat} {q : IntKind} {o m n : Nat} {a : Option Addr} {wr : World} (h : Lr B q o m a n wr) {g x : Nat} (hg : g < B) (v : Value) : Lr B q o m a n (wr.setCell ⟨g, x, none⟩ v) := by
  intro h0
  obtain ⟨g', e, h1, h2, h3, h4⟩ := h h0
  refine ⟨g', e, h1, by simpa using h2, fun j hj => ?_, fun j => by rw [World.frozen?_setCell]; exact h4 j⟩
  obtain ⟨y, hy⟩ := h3 j hj
  exact ⟨y, by rw [World.cell?_setCell_far _ _ _ _ (show g ≠ g' by omega)]; exact hy⟩
theorem Lr.set1 {B : Nat} {q : IntKind} {n : Nat} {a : Option Addr} {wr : World} (h : Lr B q 0 1 a n wr) {g k : Nat} (ha : a = some ⟨g, 0, none⟩) (hk : k < n) (x : Int) : Lr B q 0 1 a n (wr.setCell ⟨g, k, none⟩ (.int q x)) := by
  have := h.set ha hk x
  rwa [Nat.mul_one, Nat.add_zero] at this
structure L1 (w : World) (B1 B2 : Nat) (wa pa ta : Option Addr) (n1 n2 n3 : Nat) (v : Value) (wr : World) : Prop where
  ex : ∃ k : Nat, v = .int .i64 k ∧ k ≤ n1 ∧ Lr w.heap.size .u32 0 1 wa n1 wr ∧ Lr B1 .u32 0 1 pa n2 wr ∧ Lr B2 .i64 1 2 ta n3 wr ∧ Below w.heap.size w wr
structure L2 (w : World) (B1 B2 : Nat) (pa ta : Option Addr) (n2 n3 : Nat) (v : Value) (wr : World) : Prop where
  ex : ∃ k : Nat, v = .int .i64 k ∧ k ≤ n2 ∧ Lr B1 .u32 0 1 pa n2 wr ∧ Lr B2 .i64 1 2 ta n3 wr ∧ Below w.heap.size w wr
structure L3 (w : World) (B2 : Nat) (ta : Option Addr) (n3 : Nat) (v : Value) (wr : World) : Prop where
  ex : ∃ k : Nat, v = .int .i64 k ∧ k ≤ n3 ∧ Lr B2 .i64 1 2 ta n3 wr ∧ Below w.heap.size w wr
theorem Lr.keep {B : Nat} {q : IntKind} {o m n : Nat} {a : Option Addr} {w wr : World} (h : Lr B q o m a n w) (hb : Below w.heap.size w wr) : Lr B q o m a n wr := by
  intro h0
  obtain ⟨g', e, h1, h2, h3, h4⟩ := h h0
  refine ⟨g', e, h1, Nat.lt_of_lt_of_le h2 hb.size, fun j hj => ?_, fun j => (World.frozen?_of_block (a := ⟨g', j, none⟩) (hb.block g' h2)).trans (h4 j)⟩
  obtain ⟨y, hy⟩ := h3 j hj
  exact ⟨y, (hb.cell (p := ⟨g', j * m + o, none⟩) h2).trans hy⟩

set_option maxHeartbeats 16000000 in
theorem looked_any (C D : Nat) (I : Ids) (J : Rd) (c : Cs) (d : Rs) (w : World) (hc : Cw w C I c) (hr : Rw w D J d) (r : Rel c d) :
    Calls Try.prog 8 #[.pointer (some ⟨C, 0, none⟩), .pointer (some ⟨D, 0, none⟩)] w fun e w' => e = .returned (.bool true) ∧ Below w.heap.size w w' := by
  have HC : Hid _ := hc
  have HR : Hid _ := hr
  have HREL : Hid _ := r
  have HFL : Hid (c.fill = d.filled) := r.fl
  have HSLN : Hid (d.n = c.slots) := r.sl.symm
  obtain ⟨sa, scap, hsl⟩ := hc.wb.slice
  have HSL : Hid (I.sl = .slice sa c.fill scap) := hsl
  obtain ⟨_, m2, m3⟩ := hc.rm
  obtain ⟨s1, s2, _⟩ := hc.st
  have lD := hr.lt D (.inl (mem_wr.2 (.inl rfl)))
  have HPLT : Hid ((plP d.bs).length = d.bs.length) := plP_len d.bs
  have HPLB : Hid ((plP d.bs).length ≤ 1048576) := (show (plP d.bs).length ≤ 1048576 by rw [plP_len]; exact hr.rm.2.2.2.2.2)
  have HZ : Hid (∀ j, j < d.filled → (∀ k ∈ d.bs, ¬ (k.at' ≤ j ∧ j < k.at' + k.len)) → c.ws j = 0) := (fun j hj hn => by
    obtain ⟨L, V⟩ := r.iv
    refine V.zero j (by rw [r.fl]; exact hj) fun pc b hb => ?_
    obtain ⟨k, hk, e⟩ := r.b2 pc b hb
    subst e
    rw [r.b1 k hk] at hb
    cases hb
    exact hn k hk)
  have HTE : Hid (tL (tpR d) (taR d) d.n = tL c.tp c.ta d.n) := (show tL (tpR d) (taR d) d.n = tL c.tp c.ta d.n by
    unfold tL
    rw [List.flatMap_def, List.flatMap_def]
    congr 1
    refine List.map_congr_left fun i hi => ?_
    obtain ⟨t1, t2⟩ := r.ta i (List.mem_range.1 hi)
    rw [t1, t2])
  clear hc hr r hsl
  go_enter Try.func8, Try.ntmps8
  go_wp2_with (go_at_call 28; fail)
  refine Calls.mono (words_any C I c w HC.out) ?_
  rintro _ w1 ⟨v1, rfl, hr1, hb1⟩
  dsimp only
  obtain ⟨wa, wcap, rfl, hwd, hwg⟩ := row_wds hr1 (by omega) HREL.out.lt
  have HWD1 : Hid (Ho.Wds w1 wa c.fill wcap c.ws) := hwd
  have HR1 : Hid (w1.ownsRow w.heap.size 30 1 (.slice wa c.fill wcap) c.fill (wL c.ws c.fill)) := hr1
  have HB1 : Hid (Below w.heap.size w w1) := hb1
  clear hr1 hwd hwg hb1
  go_wp2_with (go_at_call 29; fail)
  refine Calls.mono (places_rel C I c d w1 (HC.out.below HB1.out) HREL.out) ?_
  rintro _ w2 ⟨pa, pcap, rfl, hpd, hpg, hb2⟩
  dsimp only
  have HPD2 : Hid (Pds w2 pa (plP d.bs)) := hpd
  have HPG : Hid (∀ g off, pa = some ⟨g, off, none⟩ → w1.heap.size ≤ g) := hpg
  have HB12 : Hid (Below w1.heap.size w1 w2) := hb2
  have HB2 : Hid (Below w.heap.size w w2) := HB1.out.trans (hb2.mono HB1.out.size)
  clear hpd hpg hb2
  go_wp2_with (go_at_call 30; fail)
  refine Calls.mono (table_any C I c w2 (HC.out.below HB2.out)) ?_
  rintro _ w3 ⟨v3, rfl, hr3, hb3⟩
  dsimp only
  obtain ⟨ta, tcap, rfl⟩ := row_sl hr3
  have HTR : Hid (w3.ownsRow w2.heap.size 56 2 (.slice ta c.slots tcap) c.slots (tL c.tp c.ta c.slots)) := hr3
  have HB23 : Hid (Below w2.heap.size w2 w3) := hb3
  have HB3 : Hid (Below w.heap.size w w3) := HB2.out.trans (hb3.mono HB2.out.size)
  have HB13 : Hid (Below w1.heap.size w1 w3) := HB12.out.trans (hb3.mono HB12.out.size)
  have HWD : Hid (Ho.Wds w3 wa c.fill wcap c.ws) := Ho.wds_keep HWD1.out HB13.out
  have HPD : Hid (Pds w3 pa (plP d.bs)) := HPD2.out.keep HB23.out
  clear hr3 hb3
  go_upto_region 4 with fail
  refine region_T 99 (fun w' => w'.cell? ⟨D, 1, none⟩ = some (.int .i64 c.fill)) (by kernel_rfl) ?_
  obtain ⟨w4, hw4⟩ : ∃ w4, ({ w3 with drawn := w3.drawn + 1 } : World) = w4 := ⟨_, rfl⟩
  have hb4 : Below w3.heap.size w3 w4 := hw4 ▸ ⟨rfl, rfl, rfl, Nat.le_refl _, fun _ _ => rfl⟩
  have HB4 : Hid (Below w.heap.size w w4) := (show Below w.heap.size w w4 from HB3.out.trans (hb4.mono HB3.out.size))
  have HB34 : Hid (Below w3.heap.size w3 w4) := hb4
  have gS4 : w4.cell? ⟨D, 1, none⟩ = some (.int .i64 c.fill) := (HB4.out.cell (p := ⟨D, 1, none⟩) lD).trans (HR.out.cell.2.1.trans (by rw [HFL.out]))
  rw [hw4]
  clear hw4 hb4
  refine anyT_take (t := 99) (i := 0) (oi := { dst := some 17, op := .move (.tmp 0), type := 23, pos := "law.go:237", after := #[], guard := none }) (v := .pointer (some ⟨C, 0, none⟩)) rfl (by kernel_rfl) (by kernel_rfl) (by kernel_rfl) (by kernel_rfl) (fun _ _ _ h => h) (Or.inl ⟨by kernel_rfl, ?_⟩) gS4 ?_
  · (intro w hSw; (try dsimp only at hSw); (try obtain s1 := hSw); go_simp)
  try simp only [Act.put, List.setIfInBounds_toArray, List.set_cons_zero, List.set_cons_succ]
  refine anyT_take (t := 99) (i := 2) (oi := { dst := some 19, op := .move (.tmp 1), type := 27, pos := "law.go:237", after := #[], guard := none }) (v := .pointer (some ⟨D, 0, none⟩)) rfl (by kernel_rfl) (by kernel_rfl) (by kernel_rfl) (by kernel_rfl) (fun _ _ _ h => h) (Or.inl ⟨by kernel_rfl, ?_⟩) gS4 ?_
  · (intro w hSw; (try dsimp only at hSw); (try obtain s1 := hSw); go_simp)
  try simp only [Act.put, List.setIfInBounds_toArray, List.set_cons_zero, List.set_cons_succ]
  refine anyT_take (t := 99) (i := 3) (oi := { dst := some 20, op := .nilCheck (.tmp 19), type := 0, pos := "law.go:237", after := #[{ on := 2, ground := .data }], guard := none }) (v := .pointer (some ⟨D, 0, none⟩)) rfl (by kernel_rfl) (by kernel_rfl) (by kernel_rfl) (by kernel_rfl) (fun _ _ _ h => h) (Or.inl ⟨by kernel_rfl, ?_⟩) gS4 ?_
  · (intro w hSw; (try dsimp only at hSw); (try obtain s1 := hSw); go_simp)
  try simp only [Act.put, List.setIfInBounds_toArray, List.set_cons_zero, List.set_cons_succ]
  refine anyT_take (t := 99) (i := 4) (oi := { dst := some 21, op := .fieldAddr 61 (.tmp 20) 1, type := 0, pos := "law.go:237", after := #[{ on := 3, ground := .data }], guard := none }) (v := .pointer (some ⟨D, 1, none⟩)) rfl (by kernel_rfl) (by kernel_rfl) (by kernel_rfl) (by kernel_rfl) (fun _ _ _ h => h) (Or.inl ⟨by kernel_rfl, ?_⟩) gS4 ?_
  · (intro w hSw; (try dsimp only at hSw); (try obtain s1 := hSw); go_simp)
  try simp only [Act.put, List.setIfInBounds_toArray, List.set_cons_zero, List.set_cons_succ]
  refine anyT_take (t := 99) (i := 5) (oi := { dst := some 22, op := .load 3 (.tmp 21), type := 3, pos := "law.go:237", after := #[{ on := 4, ground := .data }], guard := none }) (v := .int .i64 c.fill) rfl (by kernel_rfl) (by kernel_rfl) (by kernel_rfl) (by kernel_rfl) (fun _ _ _ h => h) (Or.inl ⟨by kernel_rfl, ?_⟩) gS4 ?_
  · (intro w hSw; (try dsimp only at hSw); (try obtain s1 := hSw); go_simp)
  try simp only [Act.put, List.setIfInBounds_toArray, List.set_cons_zero, List.set_cons_succ]
  refine anyT_stepG (i := 1) (by kernel_rfl) rfl (by kernel_rfl) (fun K hK => ?_)
  go_simp
  go_at_call 13
  refine Calls.mono (Ke.used_any C w4 sa c.fill scap (((HC.out.below HB4.out).cell.2.1).trans (congrArg some HSL.out))) ?_
  rintro _ wu ⟨rfl, hwu⟩
  have hwu2 := hwu.symm
  subst hwu2
  dsimp only
  refine hK _ _ (fun _ => gS4) ?_
  clear hK K
  try simp only [Act.put, List.setIfInBounds_toArray, List.set_cons_zero, List.set_cons_succ]
  refine anyT_take (t := 99) (i := 6) (oi := { dst := some 23, op := .binOp .neq 3 (.tmp 18) (.tmp 22) 3, type := 4, pos := "law.go:237", after := #[{ on := 1, ground := .data }, { on := 5, ground := .data }], guard := none }) (v := .bool false) rfl (by kernel_rfl) (by kernel_rfl) (by kernel_rfl) (by kernel_rfl) (fun _ _ _ h => h) (Or.inl ⟨by kernel_rfl, ?_⟩) gS4 ?_
  · (intro w hSw; (try dsimp only at hSw); (try obtain s1 := hSw); go_simp)
  try simp only [Act.put, List.setIfInBounds_toArray, List.set_cons_zero, List.set_cons_succ]
  refine anyT_take (t := 99) (i := 7) (oi := { dst := some 24, op := .move (.tmp 23), type := 4, pos := "law.go:237", after := #[{ on := 6, ground := .data }, { on := 1, ground := .chain }], guard := none }) (v := .bool false) rfl (by kernel_rfl) (by kernel_rfl) (by kernel_rfl) (by kernel_rfl) (fun _ _ _ h => h) (Or.inl ⟨by kernel_rfl, ?_⟩) gS4 ?_
  · (intro w hSw; (try dsimp only at hSw); (try obtain s1 := hSw); go_simp)
  try simp only [Act.put, List.setIfInBounds_toArray, List.set_cons_zero, List.set_cons_succ]
  refine anyT_take (t := 99) (i := 8) (oi := { dst := some 25, op := .move (.tmp 5), type := 32, pos := "law.go:237", after := #[{ on := 7, ground := .guard }], guard := some (7, false) }) (v := .slice wa c.fill wcap) rfl (by kernel_rfl) (by kernel_rfl) (by kernel_rfl) (by kernel_rfl) (fun _ _ _ h => h) (Or.inl ⟨by kernel_rfl, ?_⟩) gS4 ?_
  · (intro w hSw; (try dsimp only at hSw); (try obtain s1 := hSw); go_simp)
  try simp only [Act.put, List.setIfInBounds_toArray, List.set_cons_zero, List.set_cons_succ]
  refine anyT_take (t := 99) (i := 9) (oi := { dst := some 26, op := .move (.tmp 1), type := 27, pos := "law.go:237", after := #[{ on := 7, ground := .guard }], guard := some (7, false) }) (v := .pointer (some ⟨D, 0, none⟩)) rfl (by kernel_rfl) (by kernel_rfl) (by kernel_rfl) (by kernel_rfl) (fun _ _ _ h => h) (Or.inl ⟨by kernel_rfl, ?_⟩) gS4 ?_
  · (intro w hSw; (try dsimp only at hSw); (try obtain s1 := hSw); go_simp)
  try simp only [Act.put, List.setIfInBounds_toArray, List.set_cons_zero, List.set_cons_succ]
  refine anyT_stepG (i := 10) (by kernel_rfl) rfl (by kernel_rfl) (fun K hK => ?_)
  go_simp
  go_at_call 31
  refine Calls.mono (rWords_any D J d w4 (HR.out.below HB4.out) HREL.out.rg HREL.out.lok c.ws HZ.out HREL.out.wd) ?_
  rintro _ w5 ⟨v5, rfl, hr5, hb5⟩
  dsimp only
  have hB5 : Below w.heap.size w w5 := HB4.out.trans (hb5.mono HB4.out.size)
  have HB5 : Hid _ := hB5
  have gS5 : w5.cell? ⟨D, 1, none⟩ = some (.int .i64 c.fill) := (hb5.cell (p := ⟨D, 1, none⟩) (Nat.lt_of_lt_of_le lD HB4.out.size)).trans gS4
  rw [← HFL.out] at hr5
  obtain ⟨qa, qcap, rfl, hqw, _⟩ := row_wds hr5 (by omega) HREL.out.lt
  have HQW : Hid (Ho.Wds w5 qa c.fill qcap c.ws) := hqw
  have HW5 : Hid (Ho.Wds w5 wa c.fill wcap c.ws) := Ho.wds_keep HWD.out (HB34.out.trans (hb5.mono HB34.out.size))
  have HB35 : Hid (Below w3.heap.size w3 w5) := HB34.out.trans (hb5.mono HB34.out.size)
  clear hr5 hqw
  clear hb5 hB5
  refine hK _ _ (fun _ => gS5) ?_
  clear hK K
  try simp only [Act.put, List.setIfInBounds_toArray, List.set_cons_zero, List.set_cons_succ]
  refine anyT_stepG (i := 11) (by kernel_rfl) rfl (by kernel_rfl) (fun K hK => ?_)
  go_simp
  go_at_call 19
  refine Calls.mono (Ho.same_true wa qa c.fill wcap qcap c.ws w5 HW5.out HQW.out) ?_
  rintro _ w6 ⟨rfl, hb6⟩
  dsimp only
  have hB6 : Below w.heap.size w w6 := HB5.out.trans (hb6.mono HB5.out.size)
  have HB6 : Hid _ := hB6
  have gS6 : w6.cell? ⟨D, 1, none⟩ = some (.int .i64 c.fill) := (hb6.cell (p := ⟨D, 1, none⟩) (Nat.lt_of_lt_of_le lD HB5.out.size)).trans gS5
  have HB36 : Hid (Below w3.heap.size w3 w6) := HB35.out.trans (hb6.mono HB35.out.size)
  clear hb6 hB6
  refine hK _ _ (fun _ => gS6) ?_
  clear hK K
  try simp only [Act.put, List.setIfInBounds_toArray, List.set_cons_zero, List.set_cons_succ]
  refine anyT_take (t := 99) (i := 12) (oi := { dst := some 29, op := .unOp Go.UnOp.not 4 (.tmp 28), type := 4, pos := "law.go:237", after := #[{ on := 11, ground := .data }, { on := 7, ground := .guard }], guard := some (7, false) }) (v := .bool false) rfl (by kernel_rfl) (by kernel_rfl) (by kernel_rfl) (by kernel_rfl) (fun _ _ _ h => h) (Or.inl ⟨by kernel_rfl, ?_⟩) gS6 ?_
  · (intro w hSw; (try dsimp only at hSw); (try obtain s1 := hSw); go_simp)
  try simp only [Act.put, List.setIfInBounds_toArray, List.set_cons_zero, List.set_cons_succ]
  refine anyT_take (t := 99) (i := 13) (oi := { dst := some 30, op := .pick (.tmp 24) (.const (.bool true)) (.tmp 29), type := 4, pos := "law.go:237", after := #[{ on := 7, ground := .data }, { on := 12, ground := .data }], guard := none }) (v := .bool false) rfl (by kernel_rfl) (by kernel_rfl) (by kernel_rfl) (by kernel_rfl) (fun _ _ _ h => h) (Or.inl ⟨by kernel_rfl, ?_⟩) gS6 ?_
  · (intro w hSw; (try dsimp only at hSw); (try obtain s1 := hSw); go_simp)
  try simp only [Act.put, List.setIfInBounds_toArray, List.set_cons_zero, List.set_cons_succ]
  refine anyT_take (t := 99) (i := 14) (oi := { dst := some 31, op := .move (.tmp 30), type := 4, pos := "law.go:237", after := #[{ on := 13, ground := .data }, { on := 11, ground := .chain }], guard := none }) (v := .bool false) rfl (by kernel_rfl) (by kernel_rfl) (by kernel_rfl) (by kernel_rfl) (fun _ _ _ h => h) (Or.inl ⟨by kernel_rfl, ?_⟩) gS6 ?_
  · (intro w hSw; (try dsimp only at hSw); (try obtain s1 := hSw); go_simp)
  try simp only [Act.put, List.setIfInBounds_toArray, List.set_cons_zero, List.set_cons_succ]
  refine anyT_take (t := 99) (i := 15) (oi := { dst := some 32, op := .move (.tmp 6), type := 32, pos := "law.go:237", after := #[{ on := 14, ground := .guard }], guard := some (14, false) }) (v := .slice pa (plP d.bs).length pcap) rfl (by kernel_rfl) (by kernel_rfl) (by kernel_rfl) (by kernel_rfl) (fun _ _ _ h => h) (Or.inl ⟨by kernel_rfl, ?_⟩) gS6 ?_
  · (intro w hSw; (try dsimp only at hSw); (try obtain s1 := hSw); go_simp)
  try simp only [Act.put, List.setIfInBounds_toArray, List.set_cons_zero, List.set_cons_succ]
  refine anyT_take (t := 99) (i := 16) (oi := { dst := some 33, op := .move (.tmp 1), type := 27, pos := "law.go:237", after := #[{ on := 14, ground := .guard }], guard := some (14, false) }) (v := .pointer (some ⟨D, 0, none⟩)) rfl (by kernel_rfl) (by kernel_rfl) (by kernel_rfl) (by kernel_rfl) (fun _ _ _ h => h) (Or.inl ⟨by kernel_rfl, ?_⟩) gS6 ?_
  · (intro w hSw; (try dsimp only at hSw); (try obtain s1 := hSw); go_simp)
  try simp only [Act.put, List.setIfInBounds_toArray, List.set_cons_zero, List.set_cons_succ]
  refine anyT_stepG (i := 17) (by kernel_rfl) rfl (by kernel_rfl) (fun K hK => ?_)
  go_simp
  go_at_call 32
  refine Calls.mono (rPlaces_any D J d w6 (HR.out.below HB6.out)) ?_
  rintro _ w7 ⟨v7, rfl, hr7, hb7⟩
  dsimp only
  have hB7 : Below w.heap.size w w7 := HB6.out.trans (hb7.mono HB6.out.size)
  have HB7 : Hid _ := hB7
  have gS7 : w7.cell? ⟨D, 1, none⟩ = some (.int .i64 c.fill) := (hb7.cell (p := ⟨D, 1, none⟩) (Nat.lt_of_lt_of_le lD HB6.out.size)).trans gS6
  obtain ⟨ra, rcap, rfl, hrw⟩ := row_pl hr7 HPLT.out
  rw [← plP_len]
  have HRW7 : Hid (Pds w7 ra (plP d.bs)) := hrw
  have HB37 : Hid (Below w3.heap.size w3 w7) := HB36.out.trans (hb7.mono HB36.out.size)
  have HP7 : Hid (Pds w7 pa (plP d.bs)) := HPD.out.keep HB37.out
  clear hr7 hrw
  clear hb7 hB7
  refine hK _ _ (fun _ => gS7) ?_
  clear hK K
  try simp only [Act.put, List.setIfInBounds_toArray, List.set_cons_zero, List.set_cons_succ]
  refine anyT_stepG (i := 18) (by kernel_rfl) rfl (by kernel_rfl) (fun K hK => ?_)
  go_simp
  go_at_call 19
  refine Calls.mono (same2 pa ra (plP d.bs) pcap rcap w7 HPLB.out HP7.out HRW7.out) ?_
  rintro _ w8 ⟨rfl, hb8⟩
  dsimp only
  have hB8 : Below w.heap.size w w8 := HB7.out.trans (hb8.mono HB7.out.size)
  have HB8 : Hid _ := hB8
  have gS8 : w8.cell? ⟨D, 1, none⟩ = some (.int .i64 c.fill) := (hb8.cell (p := ⟨D, 1, none⟩) (Nat.lt_of_lt_of_le lD HB7.out.size)).trans gS7
  have HB38 : Hid (Below w3.heap.size w3 w8) := HB37.out.trans (hb8.mono HB37.out.size)
  clear hb8 hB8
  refine hK _ _ (fun _ => gS8) ?_
  clear hK K
  try simp only [Act.put, List.setIfInBounds_toArray, List.set_cons_zero, List.set_cons_succ]
  refine anyT_take (t := 99) (i := 19) (oi := { dst := some 36, op := .unOp Go.UnOp.not 4 (.tmp 35), type := 4, pos := "law.go:237", after := #[{ on := 18, ground := .data }, { on := 14, ground := .guard }], guard := some (14, false) }) (v := .bool false) rfl (by kernel_rfl) (by kernel_rfl) (by kernel_rfl) (by kernel_rfl) (fun _ _ _ h => h) (Or.inl ⟨by kernel_rfl, ?_⟩) gS8 ?_
  · (intro w hSw; (try dsimp only at hSw); (try obtain s1 := hSw); go_simp)
  try simp only [Act.put, List.setIfInBounds_toArray, List.set_cons_zero, List.set_cons_succ]
  refine anyT_take (t := 99) (i := 20) (oi := { dst := some 37, op := .pick (.tmp 31) (.const (.bool true)) (.tmp 36), type := 4, pos := "law.go:237", after := #[{ on := 14, ground := .data }, { on := 19, ground := .data }], guard := none }) (v := .bool false) rfl (by kernel_rfl) (by kernel_rfl) (by kernel_rfl) (by kernel_rfl) (fun _ _ _ h => h) (Or.inl ⟨by kernel_rfl, ?_⟩) gS8 ?_
  · (intro w hSw; (try dsimp only at hSw); (try obtain s1 := hSw); go_simp)
  try simp only [Act.put, List.setIfInBounds_toArray, List.set_cons_zero, List.set_cons_succ]
  refine anyT_take (t := 99) (i := 21) (oi := { dst := some 38, op := .move (.tmp 37), type := 4, pos := "law.go:237", after := #[{ on := 20, ground := .data }, { on := 18, ground := .chain }], guard := none }) (v := .bool false) rfl (by kernel_rfl) (by kernel_rfl) (by kernel_rfl) (by kernel_rfl) (fun _ _ _ h => h) (Or.inl ⟨by kernel_rfl, ?_⟩) gS8 ?_
  · (intro w hSw; (try dsimp only at hSw); (try obtain s1 := hSw); go_simp)
  try simp only [Act.put, List.setIfInBounds_toArray, List.set_cons_zero, List.set_cons_succ]
  refine anyT_take (t := 99) (i := 22) (oi := { dst := some 39, op := .move (.tmp 7), type := 50, pos := "law.go:237", after := #[{ on := 21, ground := .guard }], guard := some (21, false) }) (v := .slice ta c.slots tcap) rfl (by kernel_rfl) (by kernel_rfl) (by kernel_rfl) (by kernel_rfl) (fun _ _ _ h => h) (Or.inl ⟨by kernel_rfl, ?_⟩) gS8 ?_
  · (intro w hSw; (try dsimp only at hSw); (try obtain s1 := hSw); go_simp)
  try simp only [Act.put, List.setIfInBounds_toArray, List.set_cons_zero, List.set_cons_succ]
  refine anyT_take (t := 99) (i := 23) (oi := { dst := some 40, op := .move (.tmp 1), type := 27, pos := "law.go:237", after := #[{ on := 21, ground := .guard }], guard := some (21, false) }) (v := .pointer (some ⟨D, 0, none⟩)) rfl (by kernel_rfl) (by kernel_rfl) (by kernel_rfl) (by kernel_rfl) (fun _ _ _ h => h) (Or.inl ⟨by kernel_rfl, ?_⟩) gS8 ?_
  · (intro w hSw; (try dsimp only at hSw); (try obtain s1 := hSw); go_simp)
  try simp only [Act.put, List.setIfInBounds_toArray, List.set_cons_zero, List.set_cons_succ]
  refine anyT_stepG (i := 24) (by kernel_rfl) rfl (by kernel_rfl) (fun K hK => ?_)
  go_simp
  go_at_call 34
  refine Calls.mono (rTable_any D J d w8 (HR.out.below HB8.out)) ?_
  rintro _ w9 ⟨v9, rfl, hr9, hb9⟩
  dsimp only
  have hB9 : Below w.heap.size w w9 := HB8.out.trans (hb9.mono HB8.out.size)
  have HB9 : Hid _ := hB9
  have gS9 : w9.cell? ⟨D, 1, none⟩ = some (.int .i64 c.fill) := (hb9.cell (p := ⟨D, 1, none⟩) (Nat.lt_of_lt_of_le lD HB8.out.size)).trans gS8
  rw [HTE.out, HSLN.out] at hr9
  have HR9 : Hid (w9.ownsRow w8.heap.size 56 2 v9 c.slots (tL c.tp c.ta c.slots)) := hr9
  have HB39 : Hid (Below w3.heap.size w3 w9) := HB38.out.trans (hb9.mono HB38.out.size)
  have HT9 : Hid (w9.ownsRow w2.heap.size 56 2 (.slice ta c.slots tcap) c.slots (tL c.tp c.ta c.slots)) := row_keep HTR.out fun j e => HB39.out.block j (HTR.out.lt j e).2
  clear hr9
  clear hb9 hB9
  refine hK _ _ (fun _ => gS9) ?_
  clear hK K
  try simp only [Act.put, List.setIfInBounds_toArray, List.set_cons_zero, List.set_cons_succ]
  refine anyT_stepG (i := 25) (by kernel_rfl) rfl (by kernel_rfl) (fun K hK => ?_)
  go_simp
  go_at_call 33
  refine Calls.mono (same_e w2.heap.size w8.heap.size c.slots (.slice ta c.slots tcap) v9 c.tp c.ta w9 HT9.out HR9.out (by omega)) ?_
  rintro _ w10 ⟨rfl, hb10⟩
  dsimp only
  have hB10 : Below w.heap.size w w10 := HB9.out.trans (hb10.mono HB9.out.size)
  have HB10 : Hid _ := hB10
  have gS10 : w10.cell? ⟨D, 1, none⟩ = some (.int .i64 c.fill) := (hb10.cell (p := ⟨D, 1, none⟩) (Nat.lt_of_lt_of_le lD HB9.out.size)).trans gS9
  have HB310 : Hid (Below w3.heap.size w3 w10) := HB39.out.trans (hb10.mono HB39.out.size)
  clear hb10 hB10
  refine hK _ _ (fun _ => gS10) ?_
  clear hK K
  try simp only [Act.put, List.setIfInBounds_toArray, List.set_cons_zero, List.set_cons_succ]
  refine anyT_take (t := 99) (i := 26) (oi := { dst := some 43, op := .unOp Go.UnOp.not 4 (.tmp 42), type := 4, pos := "law.go:237", after := #[{ on := 25, ground := .data }, { on := 21, ground := .guard }], guard := some (21, false) }) (v := .bool false) rfl (by kernel_rfl) (by kernel_rfl) (by kernel_rfl) (by kernel_rfl) (fun _ _ _ h => h) (Or.inl ⟨by kernel_rfl, ?_⟩) gS10 ?_
  · (intro w hSw; (try dsimp only at hSw); (try obtain s1 := hSw); go_simp)
  try simp only [Act.put, List.setIfInBounds_toArray, List.set_cons_zero, List.set_cons_succ]
  refine anyT_take (t := 99) (i := 27) (oi := { dst := some 44, op := .pick (.tmp 38) (.const (.bool true)) (.tmp 43), type := 4, pos := "law.go:237", after := #[{ on := 21, ground := .data }, { on := 26, ground := .data }], guard := none }) (v := .bool false) rfl (by kernel_rfl) (by kernel_rfl) (by kernel_rfl) (by kernel_rfl) (fun _ _ _ h => h) (Or.inl ⟨by kernel_rfl, ?_⟩) gS10 ?_
  · (intro w hSw; (try dsimp only at hSw); (try obtain s1 := hSw); go_simp)
  try simp only [Act.put, List.setIfInBounds_toArray, List.set_cons_zero, List.set_cons_succ]
  refine anyT_done (by kernel_rfl) ?_ _
  have HLW : Hid (Lr w.heap.size .u32 0 1 wa c.fill w10) := (show Lr w.heap.size .u32 0 1 wa c.fill w10 from Lr.keep (w := w1) (fun h0 => by
    rcases HR1.out.2 with ⟨e, h1⟩ | ⟨g, cap, cur, e, h2, h3, h4, h5, h6, h7⟩
    · omega
    · cases e
      refine ⟨g, rfl, h2, So.row_lt h3, fun k hk => ⟨(c.ws k : Int), ?_⟩, fun k => So.row_fr h3 k⟩
      rw [So.row_cell h3, Nat.mul_one, Nat.add_zero]
      have hu := wL_get c.ws c.fill k hk
      rw [← h7, List.getElem?_take_of_lt (by omega)] at hu
      simpa using hu) (HB13.out.trans (HB310.out.mono HB13.out.size)))
  have HLP : Hid (Lr w1.heap.size .u32 0 1 pa (plP d.bs).length w10) := (show Lr w1.heap.size .u32 0 1 pa (plP d.bs).length w10 from Lr.keep (w := w2) (fun h0 => by
    obtain ⟨g, e, h1, h2, h3⟩ := HPD2.out.ex h0
    refine ⟨g, e, HPG.out g 0 e, h1, fun k hk => ?_, h3⟩
    obtain ⟨x, hx⟩ : ∃ x, (plP d.bs)[k]? = some x := ⟨_, List.getElem?_eq_getElem hk⟩
    exact ⟨(x : Int), by rw [Nat.mul_one, Nat.add_zero]; exact h2 k x hx⟩) (HB23.out.trans (HB310.out.mono HB23.out.size)))
  have HLT : Hid (Lr w2.heap.size .i64 1 2 ta c.slots w10) := (show Lr w2.heap.size .i64 1 2 ta c.slots w10 from Lr.keep (w := w3) (fun h0 => by
    rcases HTR.out.2 with ⟨e, h1⟩ | ⟨g, cap, cur, e, h2, h3, h4, h5, h6, h7⟩
    · omega
    · cases e
      refine ⟨g, rfl, h2, So.row_lt h3, fun k hk => ⟨c.ta k, ?_⟩, fun k => So.row_fr h3 k⟩
      obtain ⟨_, e2⟩ := tL_get c.tp c.ta c.slots k hk
      rw [← h7, List.getElem?_take_of_lt (by omega)] at e2
      rw [So.row_cell h3]
      simpa using e2) HB310.out)
  have sz1 := HB1.out.size
  have sz2 := HB12.out.size
  have lwa : ∀ g, wa = some ⟨g, 0, none⟩ → 0 < c.fill → g < w1.heap.size := fun g e h0 => (HR1.out.lt g (by rw [e]; rfl)).2
  have HLWA : Hid _ := lwa
  have lpa : ∀ g, pa = some ⟨g, 0, none⟩ → 0 < (plP d.bs).length → g < w2.heap.size := fun g e h0 => by
    obtain ⟨g', e', h1, _⟩ := HPD2.out.ex h0
    rw [e] at e'; cases e'; exact h1
  have HLPA : Hid _ := lpa
  obtain ⟨pn, hpn⟩ : ∃ pn, (plP d.bs).length = pn := ⟨_, rfl⟩
  rw [hpn]
  rw [hpn] at HLP HLPA HPLB
  have hpb := HPLB.out
  clear lwa lpa hpn gS4 gS5 gS6 gS7 gS8 gS9 gS10
  go_wp2
  go_loopw [47] (fun v wr => L1 w w1.heap.size w2.heap.size wa pa ta c.fill pn c.slots v wr) (fun v _ => c.fill - (intOf v).toNat)
  case atStart => exact ⟨0, rfl, Nat.zero_le _, HLW.out, HLP.out, HLT.out, HB10.out⟩
  case round =>
    obtain ⟨wx1, rfl⟩ : ∃ wx, wx = wr := ⟨_, rfl⟩
    obtain ⟨k, rfl, hk, hw, hp, ht, hbx⟩ := hrel
    have HW1 : Hid (Lr w.heap.size .u32 0 1 wa c.fill wx1) := hw
    have HP1 : Hid (Lr w1.heap.size .u32 0 1 pa pn wx1) := hp
    have HT1 : Hid (Lr w2.heap.size .i64 1 2 ta c.slots wx1) := ht
    have HBX1 : Hid (Below w.heap.size w wx1) := hbx
    by_cases hkn : k < c.fill
    · obtain ⟨g, hag, hg1, hg2, hcell, hfz⟩ := HW1.out (by omega)
      subst hag
      obtain ⟨x, hx⟩ := hcell k hkn
      rw [Nat.mul_one, Nat.add_zero] at hx
      have zf := hfz k
      have f1 : (k : Int) < (c.fill : Int) := by omega
      have f2 : decide ((k : Int) < (c.fill : Int)) = true := decide_eq_true f1
      have f3 : (0 : Int) ≤ (k : Int) := by omega
      obtain ⟨k1, hk1⟩ : ∃ k1, k + 1 = k1 := ⟨_, rfl⟩
      have t1 : IntKind.i64.wrap ((k : Int) + 1) = (k1 : Int) := So.wr_one hk1 (by omega)
      have HK1 : Hid _ := hk1
      have HG1 : Hid _ := hg1
      have HGW : Hid (g < w1.heap.size) := HLWA.out g rfl (by omega)
      clear hk1 hcell hfz hg1 hbx hw hp ht
      go_wp2
      have e1 := HK1.out
      have g1 := HG1.out
      exact ⟨⟨k1, rfl, by omega, HW1.out.set1 rfl hkn _, HP1.out.far HGW.out _, HT1.out.far (by have := HGW.out; omega) _, HBX1.out.setCell (show w.heap.size ≤ g by omega) _⟩, by simp [intOf]; omega⟩
    · have f1 : ¬ (k : Int) < (c.fill : Int) := by omega
      have f2 : decide ((k : Int) < (c.fill : Int)) = false := decide_eq_false f1
      clear hbx hw hp ht
      go_wp2
      go_loopw [59] (fun v wr => L2 w w1.heap.size w2.heap.size pa ta pn c.slots v wr) (fun v _ => pn - (intOf v).toNat)
      case atStart => exact ⟨0, rfl, Nat.zero_le _, HP1.out, HT1.out, HBX1.out⟩
      case round =>
        obtain ⟨wx2, rfl⟩ : ∃ wx, wx = wr := ⟨_, rfl⟩
        obtain ⟨k, rfl, hk, hp, ht, hbx⟩ := hrel
        have HP2 : Hid (Lr w1.heap.size .u32 0 1 pa pn wx2) := hp
        have HT2 : Hid (Lr w2.heap.size .i64 1 2 ta c.slots wx2) := ht
        have HBX2 : Hid (Below w.heap.size w wx2) := hbx
        by_cases hkn : k < pn
        · obtain ⟨g, hag, hg1, hg2, hcell, hfz⟩ := HP2.out (by omega)
          subst hag
          obtain ⟨x, hx⟩ := hcell k hkn
          rw [Nat.mul_one, Nat.add_zero] at hx
          have zf := hfz k
          have f1 : (k : Int) < (pn : Int) := by omega
          have f2 : decide ((k : Int) < (pn : Int)) = true := decide_eq_true f1
          have f3 : (0 : Int) ≤ (k : Int) := by omega
          obtain ⟨k1, hk1⟩ : ∃ k1, k + 1 = k1 := ⟨_, rfl⟩
          have t1 : IntKind.i64.wrap ((k : Int) + 1) = (k1 : Int) := So.wr_one hk1 (by omega)
          have HK1 : Hid _ := hk1
          have HG1 : Hid _ := hg1
          have HGP : Hid (g < w2.heap.size) := HLPA.out g rfl (by omega)
          clear hk1 hcell hfz hg1 hbx hp ht
          go_wp2
          have e1 := HK1.out
          have g1 := HG1.out
          exact ⟨⟨k1, rfl, by omega, HP2.out.set1 rfl hkn _, HT2.out.far HGP.out _, HBX2.out.setCell (show w.heap.size ≤ g by omega) _⟩, by simp [intOf]; omega⟩
        · have f1 : ¬ (k : Int) < (pn : Int) := by omega
          have f2 : decide ((k : Int) < (pn : Int)) = false := decide_eq_false f1
          clear hbx hp ht
          go_wp2
          go_loopw [71] (fun v wr => L3 w w2.heap.size ta c.slots v wr) (fun v _ => c.slots - (intOf v).toNat)
          case atStart => exact ⟨0, rfl, Nat.zero_le _, HT2.out, HBX2.out⟩
          case round =>
            obtain ⟨wx3, rfl⟩ : ∃ wx, wx = wr := ⟨_, rfl⟩
            obtain ⟨k, rfl, hk, ht, hbx⟩ := hrel
            have HT3 : Hid (Lr w2.heap.size .i64 1 2 ta c.slots wx3) := ht
            have HBX3 : Hid (Below w.heap.size w wx3) := hbx
            by_cases hkn : k < c.slots
            · obtain ⟨g, hag, hg1, hg2, hcell, hfz⟩ := HT3.out (by omega)
              subst hag
              obtain ⟨x, hx⟩ := hcell k hkn
              skip
              have zf := hfz (k * 2 + 1)
              have f1 : (k : Int) < (c.slots : Int) := by omega
              have f2 : decide ((k : Int) < (c.slots : Int)) = true := decide_eq_true f1
              have f3 : (0 : Int) ≤ (k : Int) := by omega
              obtain ⟨k1, hk1⟩ : ∃ k1, k + 1 = k1 := ⟨_, rfl⟩
              have t1 : IntKind.i64.wrap ((k : Int) + 1) = (k1 : Int) := So.wr_one hk1 (by omega)
              have HK1 : Hid _ := hk1
              have HG1 : Hid _ := hg1
              skip
              clear hk1 hcell hfz hg1 hbx ht
              go_wp2
              have e1 := HK1.out
              have g1 := HG1.out
              exact ⟨⟨k1, rfl, by omega, Lr.set HT3.out rfl hkn _, HBX3.out.setCell (show w.heap.size ≤ g by omega) _⟩, by simp [intOf]; omega⟩
            · have f1 : ¬ (k : Int) < (c.slots : Int) := by omega
              have f2 : decide ((k : Int) < (c.slots : Int)) = false := decide_eq_false f1
              clear hbx ht
              go_wp2
              go_ret
              exact ⟨rfl, HBX3.out⟩
end Go.Proofs.Ytgkkghphlbgcoaa.Ca
