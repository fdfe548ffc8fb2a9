import Derived.Test.YtgkkghphlbgcoaaHK
import Derived.Test.YtgkkghphlbgcoaaHJ1
import Derived.Test.YtgkkghphlbgcoaaHJ3
import Derived.Test.YtgkkghphlbgcoaaHJ4
namespace Go.Proofs.Ytgkkghphlbgcoaa.Ho
open Go.RowKit
set_option maxRecDepth 100000
set_option linter.unusedVariables false
set_option linter.unusedSimpArgs false
structure Link (op k : Nat) : Prop where
  n : (fmR (op : Int)).n = szN (foOf k).has
  d : hasB (fmR (op : Int)).s 100 = hb (foOf k).has 448
  a : hasB (fmR (op : Int)).s 97 = hb (foOf k).has 1
  b : hasB (fmR (op : Int)).s 98 = hb (foOf k).has 2
  c : hasB (fmR (op : Int)).s 99 = hb (foOf k).has 4
  m : hasB (fmR (op : Int)).s 110 = hb (foOf k).has 8
  s : hb (foOf k).has 256 = (op == 12 || op == 13)
  most : if hasB (fmR (op : Int)).s 110 = true then (fmR (op : Int)).most = (foOf k).most + 1 else 0 ≤ (foOf k).most
  ex : hasB (fmR (op : Int)).s 110 = true → hasB (fmR (op : Int)).s 98 = false ∧ hasB (fmR (op : Int)).s 99 = false
theorem link_some {op k : Nat} (ho : op < 256) (hk : hit (op : Int) = some k) : Link op k := by
  have h := link_all ⟨op, ho⟩
  simp only [linkB, hk, Bool.and_eq_true, beq_iff_eq] at h
  obtain ⟨⟨⟨⟨⟨⟨⟨⟨h1, h2⟩, h3⟩, h4⟩, h5⟩, h6⟩, h7⟩, h8⟩, h9⟩ := h
  refine ⟨h1, h2, h3, h4, h5, h6, h7, ?_, ?_⟩
  · split at h8 <;> rename_i hh
    · rw [if_pos hh]; exact of_decide_eq_true h8
    · rw [if_neg hh]; exact of_decide_eq_true h8
  · intro hm
    rw [hm] at h9
    simpa using h9
theorem link_none {op : Nat} (ho : op < 256) (hk : hit (op : Int) = none) : (fmR (op : Int)).n = 0 := by
  have h := link_all ⟨op, ho⟩
  simp only [linkB, hk] at h
  simpa using h
theorem dec_same {k : Nat} (v u1 u2 : Nat) (hv : v < 4294967296) (L : Link (v % 256) k) :
    rdX (foOf k).has v (if 1 < szN (foOf k).has then u1 else 0) (if 2 < szN (foOf k).has then u2 else 0) = xR (fmR ((v % 256 : Nat) : Int)) v u1 u2
    ∧ (dcE (foOf k) v (xR (fmR ((v % 256 : Nat) : Int)) v u1 u2) = 0 ↔ okR (fmR ((v % 256 : Nat) : Int)) v (xR (fmR ((v % 256 : Nat) : Int)) v u1 u2) = true) := by
  obtain ⟨q1, q2, q3, q4, q5, q6, q7⟩ := rd_fields (hb (foOf k).has 448) (hb (foOf k).has 1) (hb (foOf k).has 2) (hb (foOf k).has 4) (hb (foOf k).has 8) v hv (fun h => by
    have := L.ex (by rw [L.m]; exact h)
    rw [L.b, L.c] at this; exact this)
  have e1 : rdX (foOf k).has v (if 1 < szN (foOf k).has then u1 else 0) (if 2 < szN (foOf k).has then u2 else 0) = xR (fmR ((v % 256 : Nat) : Int)) v u1 u2 := by
    unfold rdX xR
    rw [L.d, L.a, L.b, L.c, L.m, L.n]
    simp only [Cd.mk.injEq]
    exact ⟨q1, q2, q3, q4, q5, q6, trivial, trivial⟩
  refine ⟨e1, ?_⟩
  have hf : rd6 (foOf k).has v = 0 ↔ fst (xR (fmR ((v % 256 : Nat) : Int)) v u1 u2) = v := by
    unfold fst xR
    rw [L.d, L.a, L.b, L.c, L.m]
    exact q7
  have hm := L.most
  have hn : (xR (fmR ((v % 256 : Nat) : Int)) v u1 u2).n = if hasB (fmR ((v % 256 : Nat) : Int)).s 110 then (v : Int) / 65536 else 0 := rfl
  have hop : (xR (fmR ((v % 256 : Nat) : Int)) v u1 u2).op = ((v % 256 : Nat) : Int) := rfl
  have hs : hb (foOf k).has 256 = (decide ((xR (fmR ((v % 256 : Nat) : Int)) v u1 u2).op = 12) || decide ((xR (fmR ((v % 256 : Nat) : Int)) v u1 u2).op = 13)) := by
    rw [L.s, hop]
    generalize v % 256 = op
    rw [Bool.eq_iff_iff]; simp; omega
  unfold dcE okR
  rw [hs]
  generalize xR (fmR ((v % 256 : Nat) : Int)) v u1 u2 = X at *
  generalize fmR ((v % 256 : Nat) : Int) = f at *
  generalize foOf k = g at *
  have hal : decide (X.n ≤ g.most) = !(hasB f.s 110 && decide (f.most ≤ X.n)) := by
    rw [hn]
    cases hB : hasB f.s 110
    · rw [hB] at hm; simp at hm ⊢; exact hm
    · rw [hB] at hm; simp at hm ⊢
      rw [hm, Bool.eq_iff_iff]; simp; omega
  have hal2 : alB (decide (X.op = 12) || decide (X.op = 13)) X.d X.n g.most = (!(hasB f.s 110 && decide (f.most ≤ X.n)) && !((decide (X.op = 12) || decide (X.op = 13)) && (decide (X.d < 1) || decide (7 < X.d)))) := by
    unfold alB
    rw [hal]
    congr 1
    generalize (decide (X.op = 12) || decide (X.op = 13)) = b
    have h1 : decide (X.d < 1) = !decide (1 ≤ X.d) := by rw [Bool.eq_iff_iff]; simp
    have h7 : decide (7 < X.d) = !decide (X.d ≤ 7) := by rw [Bool.eq_iff_iff]; simp
    rw [h1, h7]
    cases b <;> cases decide (1 ≤ X.d) <;> cases decide (X.d ≤ 7) <;> rfl
  rw [hal2]
  by_cases h6 : rd6 g.has v = 0
  · have h7 := hf.1 h6
    simp only [h6, h7, true_and, decide_true, Bool.true_and]
    split <;> simp_all
  · have h7 : ¬ fst X = v := fun e => h6 (hf.2 e)
    simp [h6, h7]
theorem decP_some {ws : Nat → Nat} {len a k : Nat} (hlt : ∀ i, ws i < 4294967296) (ha : a < len) (hk : hit ((ws a % 256 : Nat) : Int) = some k) (hn : a + (fmR ((ws a % 256 : Nat) : Int)).n ≤ len) :
    rdV (okR (fmR ((ws a % 256 : Nat) : Int)) (ws a) (xR (fmR ((ws a % 256 : Nat) : Int)) (ws a) (ws (a + 1)) (ws (a + 2)))) (xR (fmR ((ws a % 256 : Nat) : Int)) (ws a) (ws (a + 1)) (ws (a + 2))) (fmR ((ws a % 256 : Nat) : Int)).n = .tuple #[cdV (decP ws len a).x, .int .i64 (decP ws len a).n, .int .i64 (decP ws len a).e] := by
  have L := link_some (Nat.mod_lt _ (by decide)) hk
  obtain ⟨e1, e2⟩ := dec_same (ws a) (ws (a + 1)) (ws (a + 2)) (hlt a) L
  unfold decP
  rw [if_neg (by omega), if_neg (by omega)]
  simp only [Int.toNat_natCast, hk]
  rw [if_neg (by rw [← L.n]; omega), e1]
  cases hO : okR (fmR ((ws a % 256 : Nat) : Int)) (ws a) (xR (fmR ((ws a % 256 : Nat) : Int)) (ws a) (ws (a + 1)) (ws (a + 2)))
  · rw [if_neg (by rw [e2, hO]; decide)]; rfl
  · rw [if_pos (e2.2 hO), L.n]; rfl
theorem fm_eta (f : Fm) {s : Array UInt8} {n : Nat} (hs : f.s = s) (hn : f.n = n) : f = ⟨s, f.most, n⟩ := by cases f; simp at hs hn; rw [hs, hn]
set_option maxHeartbeats 1000000 in
theorem rDecode_any (a : Option Addr) (len cap : Nat) (at' : Int) (ws : Nat → Nat) (w : World) (hw : Wds w a len cap ws) :
    Calls Try.prog 37 #[.slice a len cap, .int .i64 at'] w fun e w' => e = .returned (.tuple #[cdV (decP ws len at').x, .int .i64 (decP ws len at').n, .int .i64 (decP ws len at').e]) ∧ Below w.heap.size w w' := by
  have hl : len ≤ 140737488355328 := by rcases hw with h | ⟨b, off, _, _, h, _⟩ <;> omega
  by_cases h1 : at' < 0 ∨ (len : Int) < at'
  · have hd : decP ws len at' = ⟨4, zC, zF, 0⟩ := by unfold decP; rw [if_pos h1]
    rw [hd]
    by_cases h0 : at' < 0
    · exact rdec_neg a len cap at' w hl h0
    · exact rdec_far a len cap at' w hl h0 (by omega)
  · by_cases h2 : at' = len
    · have hd : decP ws len at' = ⟨1, zC, zF, 0⟩ := by unfold decP; rw [if_neg h1, if_pos h2]
      rw [hd]
      subst h2
      exact rdec_end a len cap w hl
    · rcases hw with h | ⟨b, off, rfl, hcap, _, hr⟩
      · exfalso; omega
      · obtain ⟨m, rfl⟩ : ∃ m : Nat, at' = m := ⟨at'.toNat, by omega⟩
        have hm : m < len := by omega
        have hv := hr.lt m
        have c0 := hr.cell m hm
        cases hk : hit ((ws m % 256 : Nat) : Int) with
        | none =>
          have hn := link_none (Nat.mod_lt _ (by decide)) hk
          have hd : decP ws len m = ⟨2, zC, zF, 0⟩ := by
            unfold decP; rw [if_neg h1, if_neg h2]; simp only [Int.toNat_natCast, hk]
          rw [hd]
          exact rdec_none b off len cap m (ws m) (ws m % 256) w hv c0 hr.lb hcap hl rfl hm _ _ (fm_eta _ rfl hn)
        | some k =>
          have L := link_some (Nat.mod_lt _ (by decide)) hk
          by_cases h3 : len < m + (fmR ((ws m % 256 : Nat) : Int)).n
          · have hd : decP ws len m = ⟨1, zC, zF, 0⟩ := by
              unfold decP; rw [if_neg h1, if_neg h2]; simp only [Int.toNat_natCast, hk]
              rw [if_pos (by rw [← L.n]; omega)]
            rw [hd]
            rcases szN_cases (foOf k).has with hz | hz | hz
            · rw [L.n, hz] at h3; exfalso; omega
            · exact rdec_short2 b off len cap m (ws m) (ws m % 256) w hv c0 hr.lb hcap hl rfl ⟨hm, by rw [L.n, hz] at h3; omega⟩ _ _ (fm_eta _ rfl (L.n.trans hz))
            · exact rdec_short3 b off len cap m (ws m) (ws m % 256) w hv c0 hr.lb hcap hl rfl ⟨hm, by rw [L.n, hz] at h3; omega⟩ _ _ (fm_eta _ rfl (L.n.trans hz))
          · have h3' : m + (fmR ((ws m % 256 : Nat) : Int)).n ≤ len := by omega
            rw [← decP_some hr.lt hm hk h3']
            rcases fm_cls ⟨ws m % 256, Nat.mod_lt _ (by decide)⟩ with hc | ⟨hs, hn, hc⟩ | ⟨hs, hn, hc⟩ | ⟨hs, hn, hc⟩ | ⟨hs, hn, hc⟩ | ⟨hs, hn, hc⟩ | ⟨hs, hn, hc⟩ | ⟨hs, hn, hc⟩ | ⟨hs, hn, hc⟩ | ⟨hs, hn, hc⟩ | ⟨hs, hn, hc⟩ | ⟨hs, hn, hc⟩ | ⟨hs, hn, hc⟩
            · exfalso
              simp only [] at hc
              rw [L.n] at hc
              rcases szN_cases (foOf k).has with hz | hz | hz <;> omega
            · simp only [] at hs hn
              have hE := fm_eta _ hs hn
              rw [hn] at h3'
              generalize (fmR ((ws m % 256 : Nat) : Int)).most = most at hE
              have hx := rdec_n2o b off len cap m (m + 1) (m + 2) (ws m) (ws m % 256) (ws (m + 1)) (ws (m + 2)) most ((ws m : Int) / 65536) rfl w hv c0 (hr.cell (m + 1) (by omega)) hr.lb hcap hl h3' rfl rfl rfl (by have h9 := hc.1; simp only [] at h9; omega) (by have h9 := hc.2; simp only [] at h9; omega) hE
              rw [hE]
              exact hx
            · simp only [] at hs hn
              have hE := fm_eta _ hs hn
              rw [hn] at h3'
              generalize (fmR ((ws m % 256 : Nat) : Int)).most = most at hE
              have hx := rdec_d2o b off len cap m (m + 1) (m + 2) (ws m) (ws m % 256) (ws (m + 1)) (ws (m + 2)) most ((ws m : Int) / 256 % 16) rfl w hv c0 (hr.cell (m + 1) (by omega)) hr.lb hcap hl h3' rfl rfl rfl (by have h9 := hc.1; simp only [] at h9; omega) (by have h9 := hc.2; simp only [] at h9; omega) hE
              rw [hE]
              exact hx
            · simp only [] at hs hn
              have hE := fm_eta _ hs hn
              rw [hn] at h3'
              generalize (fmR ((ws m % 256 : Nat) : Int)).most = most at hE
              have hx := rdec_da1o b off len cap m (m + 1) (m + 2) (ws m) (ws m % 256) (ws (m + 1)) (ws (m + 2)) most ((ws m : Int) / 256 % 16) ((ws m : Int) / 4096 % 16) rfl rfl w hv c0 hr.lb hcap hl h3' rfl rfl rfl (by have h9 := hc.1; simp only [] at h9; omega) (by have h9 := hc.2; simp only [] at h9; omega) hE
              rw [hE]
              exact hx
            · simp only [] at hs hn
              have hE := fm_eta _ hs hn
              rw [hn] at h3'
              generalize (fmR ((ws m % 256 : Nat) : Int)).most = most at hE
              have hx := rdec_an1o b off len cap m (m + 1) (m + 2) (ws m) (ws m % 256) (ws (m + 1)) (ws (m + 2)) most ((ws m : Int) / 4096 % 16) ((ws m : Int) / 65536) rfl rfl w hv c0 hr.lb hcap hl h3' rfl rfl rfl (by have h9 := hc.1; simp only [] at h9; omega) (by have h9 := hc.2; simp only [] at h9; omega) hE
              rw [hE]
              exact hx
            · simp only [] at hs hn
              have hE := fm_eta _ hs hn
              rw [hn] at h3'
              generalize (fmR ((ws m % 256 : Nat) : Int)).most = most at hE
              have hx := rdec_dabc1o b off len cap m (m + 1) (m + 2) (ws m) (ws m % 256) (ws (m + 1)) (ws (m + 2)) most ((ws m : Int) / 256 % 16) ((ws m : Int) / 4096 % 16) ((ws m : Int) / 65536 % 16) ((ws m : Int) / 1048576 % 16) rfl rfl rfl rfl w hv c0 hr.lb hcap hl h3' rfl rfl rfl (by have h9 := hc.1; simp only [] at h9; omega) (by have h9 := hc.2; simp only [] at h9; omega) hE
              rw [hE]
              exact hx
            · simp only [] at hs hn
              have hE := fm_eta _ hs hn
              rw [hn] at h3'
              generalize (fmR ((ws m % 256 : Nat) : Int)).most = most at hE
              have hx := rdec_dn1o b off len cap m (m + 1) (m + 2) (ws m) (ws m % 256) (ws (m + 1)) (ws (m + 2)) most ((ws m : Int) / 256 % 16) ((ws m : Int) / 65536) rfl rfl w hv c0 hr.lb hcap hl h3' rfl rfl rfl (by have h9 := hc.1; simp only [] at h9; omega) (by have h9 := hc.2; simp only [] at h9; omega) hE
              rw [hE]
              exact hx
            · simp only [] at hs hn
              have hE := fm_eta _ hs hn
              rw [hn] at h3'
              generalize (fmR ((ws m % 256 : Nat) : Int)).most = most at hE
              have hx := rdec_an2o b off len cap m (m + 1) (m + 2) (ws m) (ws m % 256) (ws (m + 1)) (ws (m + 2)) most ((ws m : Int) / 4096 % 16) ((ws m : Int) / 65536) rfl rfl w hv c0 (hr.cell (m + 1) (by omega)) hr.lb hcap hl h3' rfl rfl rfl (by have h9 := hc.1; simp only [] at h9; omega) (by have h9 := hc.2; simp only [] at h9; omega) hE
              rw [hE]
              exact hx
            · simp only [] at hs hn
              have hE := fm_eta _ hs hn
              rw [hn] at h3'
              generalize (fmR ((ws m % 256 : Nat) : Int)).most = most at hE
              have hx := rdec_dn3t b off len cap m (m + 1) (m + 2) (ws m) (ws m % 256) (ws (m + 1)) (ws (m + 2)) most ((ws m : Int) / 256 % 16) ((ws m : Int) / 65536) rfl rfl w hv c0 (hr.cell (m + 1) (by omega)) (hr.cell (m + 2) (by omega)) hr.lb hcap hl h3' rfl rfl rfl (by simp only [] at hc; omega) hE
              rw [hE]
              exact hx
            · simp only [] at hs hn
              have hE := fm_eta _ hs hn
              rw [hn] at h3'
              generalize (fmR ((ws m % 256 : Nat) : Int)).most = most at hE
              have hx := rdec_dan2o b off len cap m (m + 1) (m + 2) (ws m) (ws m % 256) (ws (m + 1)) (ws (m + 2)) most ((ws m : Int) / 256 % 16) ((ws m : Int) / 4096 % 16) ((ws m : Int) / 65536) rfl rfl rfl w hv c0 (hr.cell (m + 1) (by omega)) hr.lb hcap hl h3' rfl rfl rfl (by have h9 := hc.1; simp only [] at h9; omega) (by have h9 := hc.2; simp only [] at h9; omega) hE
              rw [hE]
              exact hx
            · simp only [] at hs hn
              have hE := fm_eta _ hs hn
              rw [hn] at h3'
              generalize (fmR ((ws m % 256 : Nat) : Int)).most = most at hE
              have hx := rdec_dan2h b off len cap m (m + 1) (m + 2) (ws m) (ws m % 256) (ws (m + 1)) (ws (m + 2)) most ((ws m : Int) / 256 % 16) ((ws m : Int) / 4096 % 16) ((ws m : Int) / 65536) rfl rfl rfl w hv c0 (hr.cell (m + 1) (by omega)) hr.lb hcap hl h3' rfl rfl rfl (by simp only [] at hc; omega) hE
              rw [hE]
              exact hx
            · simp only [] at hs hn
              have hE := fm_eta _ hs hn
              rw [hn] at h3'
              generalize (fmR ((ws m % 256 : Nat) : Int)).most = most at hE
              have hx := rdec_dab1o b off len cap m (m + 1) (m + 2) (ws m) (ws m % 256) (ws (m + 1)) (ws (m + 2)) most ((ws m : Int) / 256 % 16) ((ws m : Int) / 4096 % 16) ((ws m : Int) / 65536 % 16) rfl rfl rfl w hv c0 hr.lb hcap hl h3' rfl rfl rfl (by have h9 := hc.1; simp only [] at h9; omega) (by have h9 := hc.2; simp only [] at h9; omega) hE
              rw [hE]
              exact hx
            · simp only [] at hs hn
              have hE := fm_eta _ hs hn
              rw [hn] at h3'
              generalize (fmR ((ws m % 256 : Nat) : Int)).most = most at hE
              have hx := rdec_d1o b off len cap m (m + 1) (m + 2) (ws m) (ws m % 256) (ws (m + 1)) (ws (m + 2)) most ((ws m : Int) / 256 % 16) rfl w hv c0 hr.lb hcap hl h3' rfl rfl rfl (by have h9 := hc.1; simp only [] at h9; omega) (by have h9 := hc.2; simp only [] at h9; omega) hE
              rw [hE]
              exact hx
end Go.Proofs.Ytgkkghphlbgcoaa.Ho
