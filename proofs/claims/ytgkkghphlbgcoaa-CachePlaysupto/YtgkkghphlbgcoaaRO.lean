import Derived.Test.YtgkkghphlbgcoaaEQ
import Derived.Test.YtgkkghphlbgcoaaHL
import Derived.Test.YtgkkghphlbgcoaaIN
namespace Go.Proofs.Ytgkkghphlbgcoaa.Ca
open Go.RowKit Go.Maps Ho
set_option maxRecDepth 100000
set_option linter.unusedVariables false
set_option linter.unusedSimpArgs false
structure IsP (w : World) (pc : Nat) (ws : Nat → Nat) (len : Nat) (e : Ending) (w' : World) : Prop where
  ex : ∃ r, e = .returned (.bool r) ∧ Below w.heap.size w w' ∧ (r = true → 0 < len ∧ ∃ S, Good ws len pc S) ∧ (r = false → len = 0 ∨ Bad ws len pc)
structure IsI (w : World) (pc : Nat) (ws : Nat → Nat) (len : Nat) (v : Value) (wr : World) : Prop where
  ex : ∃ (at' : Nat) (S : List Nat), v = .int .i64 at' ∧ Sn ws len pc at' S ∧ Below w.heap.size w wr
set_option maxHeartbeats 8000000 in
theorem is_ref (a : Option Addr) (len cap pc : Nat) (ws : Nat → Nat) (w : World) (hw : Ho.Wds w a len cap ws) (hlt : ∀ i, ws i < 4294967296) (hlen : len ≤ 1048576) :
    Calls Try.prog 45 #[.int .u32 pc, .slice a len cap] w fun e w' => IsP w pc ws len e w' := by
  have HW : Hid (Ho.Wds w a len cap ws) := hw
  have HLT : Hid _ := hlt
  clear hw hlt
  go_enter Try.func45, Try.ntmps45
  go_wp2
  go_loopw [5] (fun v wr => IsI w pc ws len v wr) (fun v _ => len - (intOf v).toNat)
  case atStart => exact ⟨0, [], rfl, ⟨rfl, by simp, Nat.le_refl _, Nat.zero_le _⟩, Below.refl _ _⟩
  case round =>
    obtain ⟨at', S, rfl, hS, hbw⟩ := hrel
    have HS : Hid _ := hS
    have HBw : Hid _ := hbw
    have hm := hS.m
    clear hS hbw
    by_cases hc : at' < len
    · have c1 : (at' : Int) < (len : Int) := by omega
      have c2 : decide ((at' : Int) < (len : Int)) = true := decide_eq_true c1
      obtain ⟨D, hD⟩ : ∃ D, decP ws len at' = D := ⟨_, rfl⟩
      have HD : Hid (decP ws len at' = D) := hD
      obtain ⟨de, ⟨xo, xd, xa, xb, xc, xn, xk, xx⟩, df, dn⟩ := D
      clear hD
      go_wp2_with (go_at_call 37; fail)
      refine Calls.mono (Ho.rDecode_any a len cap at' ws _ (Ho.wds_keep HW.out HBw.out)) ?_
      rw [HD.out]
      rintro _ w1 ⟨rfl, hb1⟩
      dsimp only [cdV]
      have hbA : Below w.heap.size w (w1.alloc (.cells #[.int .i64 xo, .int .i64 xd, .int .i64 xa, .int .i64 xb, .int .i64 xc, .int .i64 xn, .int .u32 xk, .int .u32 xx] 41)) := (HBw.out.trans (hb1.mono HBw.out.size)).trans ((Below.refl _ _).alloc (by have := HBw.out.size; have := hb1.size; omega) _)
      have HBW : Hid _ := hbA
      clear hbA hb1
      by_cases he : de = 0
      · subst he
        have hd0 : (decP ws len at').e = 0 := by rw [HD.out]
        obtain ⟨z1, z2, z3⟩ := dec_size HLT.out hd0
        rw [HD.out] at z1 z2 z3
        dsimp only at z1 z2 z3
        have HD0 : Hid _ := hd0
        obtain ⟨at2, hat2⟩ : ∃ at2, at' + dn = at2 := ⟨_, rfl⟩
        have t1 : IntKind.i64.wrap ((at' : Int) + (dn : Int)) = (at2 : Int) := So.wr_add hat2 (by omega)
        have HA2 : Hid _ := hat2
        clear hd0 hat2
        by_cases ha : at' = 0
        · have a1 : (at' : Int) = 0 := by omega
          by_cases h1 : xo = 1
          · subst h1
            by_cases hk : xk = pc
            · subst hk
              have HT : Hid (thr xk at' ⟨1, xd, xa, xb, xc, xn, xk, xx⟩ = true) := (by subst ha; simp [thr]; exact trivial)
              subst ha
              go_wp2
              exact ⟨⟨dn, S ++ [0], rfl, by have := HS.out.next HLT.out HD0.out (by rw [HD.out]; exact HT.out); rw [HD.out] at this; dsimp only at this; rw [Nat.zero_add] at this; exact this, HBW.out⟩, by simp [intOf]; omega⟩

            · have k1 : ¬ (xk : Int) = (pc : Int) := by omega
              have k2 : decide ((xk : Int) = (pc : Int)) = false := decide_eq_false k1
              have k3 : ((xk : Int) == (pc : Int)) = false := by simpa using k1
              have k4 : ((xk : Int) != (pc : Int)) = true := by simpa using k1
              have hT : thr pc at' ⟨1, xd, xa, xb, xc, xn, xk, xx⟩ = false := by simp [thr, ha, hk]
              have HT : Hid _ := hT
              clear hT hk
              subst ha
              go_wp2
              go_ret
              exact ⟨false, rfl, HBW.out, by simp, fun _ => .inr ⟨0, S, HS.out, hc, .inr (by rw [HD.out]; exact HT.out)⟩⟩

          · have n1 : decide (xo = 1) = false := decide_eq_false h1
            have b1 : (xo == 1) = false := by simpa using h1
            have hT : thr pc at' ⟨xo, xd, xa, xb, xc, xn, xk, xx⟩ = false := by simp [thr, ha, h1]
            have HT : Hid _ := hT
            clear hT
            subst ha
            go_wp2
            go_ret
            exact ⟨false, rfl, HBW.out, by simp, fun _ => .inr ⟨0, S, HS.out, hc, .inr (by rw [HD.out]; exact HT.out)⟩⟩

        · have a1 : ¬ (at' : Int) = 0 := by omega
          have a2 : decide ((at' : Int) = 0) = false := decide_eq_false a1
          have a3 : ((at' : Int) == 0) = false := by simpa using a1
          by_cases h1 : xo = 1
          · subst h1
            have hT : thr pc at' ⟨1, xd, xa, xb, xc, xn, xk, xx⟩ = false := by simp [thr, ha]
            have HT : Hid _ := hT
            clear hT
            go_wp2
            go_ret
            exact ⟨false, rfl, HBW.out, by simp, fun _ => .inr ⟨at', S, HS.out, hc, .inr (by rw [HD.out]; exact HT.out)⟩⟩

          · have n1 : decide (xo = 1) = false := decide_eq_false h1
            have b1 : (xo == 1) = false := by simpa using h1
            by_cases h15 : xo = 15
            · subst h15
              have hT : thr pc at' ⟨15, xd, xa, xb, xc, xn, xk, xx⟩ = false := by simp [thr, ha]
              have HT : Hid _ := hT
              clear hT
              go_wp2
              go_ret
              exact ⟨false, rfl, HBW.out, by simp, fun _ => .inr ⟨at', S, HS.out, hc, .inr (by rw [HD.out]; exact HT.out)⟩⟩

            · have n15 : decide (xo = 15) = false := decide_eq_false h15
              have b15 : (xo == 15) = false := by simpa using h15
              by_cases h96 : xo = 96
              · subst h96
                have hT : thr pc at' ⟨96, xd, xa, xb, xc, xn, xk, xx⟩ = false := by simp [thr, ha]
                have HT : Hid _ := hT
                clear hT
                go_wp2
                go_ret
                exact ⟨false, rfl, HBW.out, by simp, fun _ => .inr ⟨at', S, HS.out, hc, .inr (by rw [HD.out]; exact HT.out)⟩⟩

              · have n96 : decide (xo = 96) = false := decide_eq_false h96
                have b96 : (xo == 96) = false := by simpa using h96
                have hT : thr pc at' ⟨xo, xd, xa, xb, xc, xn, xk, xx⟩ = true := by simp [thr, ha, h1, h15, h96]
                have HT : Hid _ := hT
                clear hT
                go_wp2
                exact ⟨⟨at2, S ++ [at'], rfl, by have := HS.out.next HLT.out HD0.out (by rw [HD.out]; exact HT.out); rw [HD.out] at this; dsimp only at this; rw [HA2.out] at this; exact this, HBW.out⟩, by have := HA2.out; simp [intOf]; omega⟩

      · have ge : decide (de = 0) = false := decide_eq_false he
        have gb : (de == 0) = false := by simpa using he
        have gn : (de != 0) = true := by simp [he]
        go_wp2
        go_ret
        exact ⟨false, rfl, HBW.out, by simp, fun _ => .inr ⟨at', S, HS.out, hc, .inl (by rw [HD.out]; exact he)⟩⟩
    · have c1 : ¬ (at' : Int) < (len : Int) := by omega
      have c2 : decide ((at' : Int) < (len : Int)) = false := decide_eq_false c1
      obtain rfl : at' = len := by omega
      by_cases h0 : 0 < at'
      · have g0 : (0 : Int) < (at' : Int) := by omega
        have g1 : decide ((0 : Int) < (at' : Int)) = true := decide_eq_true g0
        go_wp2
        go_ret
        exact ⟨true, rfl, HBw.out, fun _ => ⟨h0, S, HS.out⟩, by simp⟩
      · have g0 : ¬ (0 : Int) < (at' : Int) := by omega
        have g1 : decide ((0 : Int) < (at' : Int)) = false := decide_eq_false g0
        go_wp2
        go_ret
        exact ⟨false, rfl, HBw.out, by simp, fun _ => .inl (by omega)⟩
/-- Code is good, or it is not. -/
theorem good_bad {ws : Nat → Nat} {len pc : Nat} {S : List Nat} (hlt : ∀ i, ws i < 4294967296) (hg : Good ws len pc S) : ¬ Bad ws len pc := by
  rintro ⟨at', L, hS, hl, hb⟩
  have key : ∀ (L S : List Nat) (a : Nat), Til ws len a L at' → Til ws len a S len → at' ∈ S := by
    intro L
    induction L with
    | nil =>
      intro S a h1 h2
      have e : a = at' := h1
      subst e
      cases S with
      | nil => have e : a = len := h2; omega
      | cons x r => obtain ⟨rfl, _⟩ := h2; exact List.mem_cons_self
    | cons x r ih =>
      intro S a h1 h2
      obtain ⟨rfl, h3, h4⟩ := h1
      cases S with
      | nil =>
        have e : x = len := h2
        obtain ⟨u1, u2, u3⟩ := dec_size hlt h3
        omega
      | cons y r' =>
        obtain ⟨rfl, _, h5⟩ := h2
        exact List.mem_cons_of_mem _ (ih r' _ h4 h5)
  have hm := key L S 0 hS.t hg.t
  have h0 : (decP ws len at').e = 0 := by
    have tm : ∀ (S : List Nat) (a : Nat), Til ws len a S len → at' ∈ S → (decP ws len at').e = 0 := by
      intro S
      induction S with
      | nil => intro a _ h; cases h
      | cons x r ih =>
        intro a h1 h2
        obtain ⟨rfl, h3, h4⟩ := h1
        rcases List.mem_cons.1 h2 with rfl | h2
        · exact h3
        · exact ih _ h4 h2
    exact tm S 0 hg.t hm
  rcases hb with hb | hb
  · exact hb h0
  · rw [hg.o at' hm] at hb; cases hb
end Go.Proofs.Ytgkkghphlbgcoaa.Ca
namespace Go.Proofs.Ytgkkghphlbgcoaa.Ca
open Go.RowKit Go.Maps Ho
set_option maxRecDepth 100000
set_option linter.unusedVariables false
set_option linter.unusedSimpArgs false
/-- A block of the document's cache, and where its rows lie. -/
structure Rk where
  pc : Nat
  len : Nat
  cw : Nat → Nat
  pn : Nat
  pg : Nat → Int
  at' : Nat
  ls : List (Nat × Nat)
  cv : Value
  pv : Value
  lv : Value
  tv : Value
def encK (k : Rk) : List Value := [.int .u32 k.pc, k.cv, k.pv, .int .i64 k.at', k.lv, k.tv]
def encB (bs : List Rk) : List Value := bs.flatMap encK
def pL (pg : Nat → Int) (n : Nat) : List Value := (List.range n).map fun i => .int .i64 (pg i)
/-- The rows of a block. -/
structure Rkw (w : World) (k : Rk) : Prop where
  pc : k.pc < 4294967296
  lt : ∀ i, k.cw i < 4294967296
  cv : w.ownsRow 0 30 1 k.cv k.len (wL k.cw k.len)
  pv : w.ownsRow 0 3 1 k.pv k.pn (pL k.pg k.pn)
  lv : w.ownsRow 0 3 1 k.lv k.ls.length (k.ls.map fun p => .int .i64 p.1)
  tv : w.ownsRow 0 30 1 k.tv k.ls.length (k.ls.map fun p => .int .u32 p.2)
  lo : k.len ≤ 1048576
structure Rs where
  room : Nat
  filled : Nat
  n : Nat
  sl : Nat → Nat
  hs : Nat → Bool
  bs : List Rk
structure Rd where
  bv : Value
  sb : Nat
  hb : Nat
/-- The blocks that are written. -/
def wrB (D : Nat) (J : Rd) (bs : List Rk) : List Nat := [D, J.sb, J.hb] ++ (J.bv.ownBlock.toList ++ bs.flatMap fun k => k.lv.ownBlock.toList ++ k.tv.ownBlock.toList)
/-- The blocks that are read. -/
def rdB (bs : List Rk) : List Nat := bs.flatMap fun k => k.cv.ownBlock.toList ++ k.pv.ownBlock.toList
structure Rw (w : World) (D : Nat) (J : Rd) (d : Rs) : Prop where
  c0 : w.heap[D]? = some (.cells #[.int .i64 d.room, .int .i64 d.filled, J.bv, .slice (some ⟨J.sb, 0, none⟩) d.n d.n, .slice (some ⟨J.hb, 0, none⟩) d.n d.n] 61)
  row : w.ownsRow 0 100 6 J.bv d.bs.length (encB d.bs)
  sl : ∃ A, w.heap[J.sb]? = some (.cells A 30) ∧ A.size = d.n ∧ ∀ k, k < d.n → A[k]? = some (.int .u32 (d.sl k))
  hs : ∃ A, w.heap[J.hb]? = some (.cells A 4) ∧ A.size = d.n ∧ ∀ k, k < d.n → A[k]? = some (.bool (d.hs k))
  kb : ∀ k ∈ d.bs, Rkw w k
  nd : (wrB D J d.bs).Nodup
  ap : ∀ j ∈ rdB d.bs, j ∉ wrB D J d.bs
  rm : 1 ≤ d.room ∧ d.room ≤ 1048576 ∧ d.filled ≤ d.room ∧ 1 ≤ d.n ∧ d.n ≤ 65536 ∧ d.bs.length ≤ 1048576
theorem encB_get : ∀ (bs : List Rk) (i : Nat) (k : Rk), bs[i]? = some k → ∀ j v, (encK k)[j]? = some v → (encB bs)[i * 6 + j]? = some v
  | [], i, k, h, _, _, _ => by simp at h
  | b :: r, i, k, h, j, v, hj => by
    have ec : encB (b :: r) = encK b ++ encB r := rfl
    have el : (encK b).length = 6 := rfl
    rw [ec]
    cases i with
    | zero =>
      simp at h
      subst h
      have : j < 6 := by
        have := (List.getElem?_eq_some_iff.1 hj).1
        simpa [encK] using this
      rw [List.getElem?_append_left (by omega), show 0 * 6 + j = j by omega]
      exact hj
    | succ i =>
      simp at h
      rw [List.getElem?_append_right (by omega), el, show (i + 1) * 6 + j - 6 = i * 6 + j by omega]
      exact encB_get r i k h j v hj
theorem Rw.cell {w : World} {D : Nat} {J : Rd} {d : Rs} (h : Rw w D J d) : w.cell? ⟨D, 0, none⟩ = some (.int .i64 d.room) ∧ w.cell? ⟨D, 1, none⟩ = some (.int .i64 d.filled) ∧ w.cell? ⟨D, 2, none⟩ = some J.bv ∧ w.cell? ⟨D, 3, none⟩ = some (.slice (some ⟨J.sb, 0, none⟩) d.n d.n) ∧ w.cell? ⟨D, 4, none⟩ = some (.slice (some ⟨J.hb, 0, none⟩) d.n d.n) := by
  refine ⟨?_, ?_, ?_, ?_, ?_⟩ <;> rw [So.row_cell h.c0] <;> rfl
/-- The row of blocks. -/
theorem Rw.blocks {w : World} {D : Nat} {J : Rd} {d : Rs} (h : Rw w D J d) : ∃ a cap, J.bv = .slice a d.bs.length cap ∧ (0 < d.bs.length → ∃ g, a = some ⟨g, 0, none⟩ ∧ g < w.heap.size ∧ ∀ i k, d.bs[i]? = some k → w.cell? ⟨g, i * 6, none⟩ = some (.int .u32 k.pc) ∧ w.cell? ⟨g, i * 6 + 1, none⟩ = some k.cv ∧ w.cell? ⟨g, i * 6 + 2, none⟩ = some k.pv ∧ w.cell? ⟨g, i * 6 + 3, none⟩ = some (.int .i64 k.at') ∧ w.cell? ⟨g, i * 6 + 4, none⟩ = some k.lv ∧ w.cell? ⟨g, i * 6 + 5, none⟩ = some k.tv) := by
  rcases h.row.2 with ⟨e, h0⟩ | ⟨g, cap, cur, e, h2, h3, h4, h5, h6, h7⟩
  · exact ⟨none, 0, by rw [e, h0], fun hp => by omega⟩
  · refine ⟨_, cap, e, fun _ => ⟨g, rfl, So.row_lt h3, fun i k hk => ?_⟩⟩
    have hi : i < d.bs.length := (List.getElem?_eq_some_iff.1 hk).1
    have key : ∀ j v, (encK k)[j]? = some v → w.cell? ⟨g, i * 6 + j, none⟩ = some v := fun j v hj => by
      have hj6 : j < 6 := by
        have := (List.getElem?_eq_some_iff.1 hj).1
        simpa [encK] using this
      have e1 := encB_get d.bs i k hk j v hj
      rw [← h7, List.getElem?_take_of_lt (by omega)] at e1
      rw [So.row_cell h3]
      simpa using e1
    exact ⟨key 0 _ rfl, key 1 _ rfl, key 2 _ rfl, key 3 _ rfl, key 4 _ rfl, key 5 _ rfl⟩
/-- The number of the block at a place. -/
def fdI : List Rk → Nat → Nat → Int
  | [], _, _ => -1
  | b :: r, i, pc => if b.pc = pc then (i : Int) else fdI r (i + 1) pc
theorem fdI_step (bs : List Rk) (i pc : Nat) (k : Rk) (h : bs[i]? = some k) : fdI (bs.drop i) i pc = if k.pc = pc then (i : Int) else fdI (bs.drop (i + 1)) (i + 1) pc := by
  have hl := (List.getElem?_eq_some_iff.1 h)
  rw [List.drop_eq_getElem_cons hl.1, hl.2]
  rfl
end Go.Proofs.Ytgkkghphlbgcoaa.Ca
namespace Go.Proofs.Ytgkkghphlbgcoaa.Ca
open Go.RowKit Go.Maps Ho
set_option maxRecDepth 100000
set_option linter.unusedVariables false
set_option linter.unusedSimpArgs false
theorem row_sl {w : World} {b e sz n : Nat} {v : Value} {xs : List Value} (h : w.ownsRow b e sz v n xs) : ∃ a cap, v = .slice a n cap := by
  rcases h.2 with ⟨e, h0⟩ | ⟨g, cap, cur, e, _⟩
  · exact ⟨none, 0, by rw [e, h0]⟩
  · exact ⟨_, cap, e⟩
/-- One block of the row, its slices written out. -/
theorem Rw.block {w : World} {D : Nat} {J : Rd} {d : Rs} (h : Rw w D J d) {i : Nat} {k : Rk} (hk : d.bs[i]? = some k) : ∃ g bcap ca ccap pa pcap la lcap ta tcap, J.bv = .slice (some ⟨g, 0, none⟩) d.bs.length bcap ∧ g < w.heap.size ∧ (k.cv = .slice ca k.len ccap ∧ k.pv = .slice pa k.pn pcap ∧ k.lv = .slice la k.ls.length lcap ∧ k.tv = .slice ta k.ls.length tcap) ∧
    (w.cell? ⟨g, i * 6, none⟩ = some (.int .u32 k.pc) ∧ w.cell? ⟨g, i * 6 + 1, none⟩ = some (.slice ca k.len ccap) ∧ w.cell? ⟨g, i * 6 + 2, none⟩ = some (.slice pa k.pn pcap) ∧ w.cell? ⟨g, i * 6 + 3, none⟩ = some (.int .i64 k.at') ∧ w.cell? ⟨g, i * 6 + 4, none⟩ = some (.slice la k.ls.length lcap) ∧ w.cell? ⟨g, i * 6 + 5, none⟩ = some (.slice ta k.ls.length tcap)) := by
  have hi : i < d.bs.length := (List.getElem?_eq_some_iff.1 hk).1
  obtain ⟨a, cap, e, hb⟩ := h.blocks
  obtain ⟨g, rfl, hg, hc⟩ := hb (by omega)
  obtain ⟨c0, c1, c2, c3, c4, c5⟩ := hc i k hk
  have hkw := h.kb k (List.mem_of_getElem? hk)
  obtain ⟨ca, ccap, e1⟩ := row_sl hkw.cv
  obtain ⟨pa, pcap, e2⟩ := row_sl hkw.pv
  obtain ⟨la, lcap, e3⟩ := row_sl hkw.lv
  obtain ⟨ta, tcap, e4⟩ := row_sl hkw.tv
  rw [e1] at c1
  rw [e2] at c2
  rw [e3] at c4
  rw [e4] at c5
  exact ⟨g, cap, ca, ccap, pa, pcap, la, lcap, ta, tcap, e, hg, ⟨e1, e2, e3, e4⟩, c0, c1, c2, c3, c4, c5⟩
structure FdI (w : World) (d : Rs) (pc : Nat) (v : Value) (wr : World) : Prop where
  ex : ∃ i : Nat, v = .int .i64 i ∧ i ≤ d.bs.length ∧ fdI d.bs 0 pc = fdI (d.bs.drop i) i pc ∧ Below w.heap.size w wr
set_option maxHeartbeats 4000000 in
theorem rfind_any (D pc : Nat) (J : Rd) (d : Rs) (w : World) (h : Rw w D J d) :
    Calls Try.prog 46 #[.pointer (some ⟨D, 0, none⟩), .int .u32 pc] w fun e w' => e = .returned (.int .i64 (fdI d.bs 0 pc)) ∧ Below w.heap.size w w' := by
  obtain ⟨_, _, c2, _, _⟩ := h.cell
  obtain ⟨ba, bcap, hbv, _⟩ := h.blocks
  rw [hbv] at c2
  have HR : Hid _ := h
  have HBV : Hid _ := hbv
  obtain ⟨_, _, _, _, _, hbl⟩ := h.rm
  obtain ⟨X, hX⟩ : ∃ X, fdI d.bs 0 pc = X := ⟨_, rfl⟩
  have HX : Hid _ := hX
  rw [hX]
  clear h hX hbv
  go_enter Try.func46, Try.ntmps46
  go_wp2
  go_loopw [12] (fun v wr => FdI w d pc v wr) (fun v _ => d.bs.length - (intOf v).toNat)
  case atStart => exact ⟨0, rfl, Nat.zero_le _, rfl, Below.refl _ _⟩
  case round =>
    obtain ⟨i, rfl, hi, hfd, hb⟩ := hrel
    have HF : Hid _ := hfd
    have HB : Hid _ := hb
    clear hfd
    by_cases hin : i < d.bs.length
    · obtain ⟨k, hk⟩ : ∃ k, d.bs[i]? = some k := ⟨_, List.getElem?_eq_getElem hin⟩
      obtain ⟨g, bcap', ca, ccap, pa, pcap, la, lcap, ta, tcap, e, hg, _, y0, y1, y2, y3, y4, y5⟩ := HR.out.block hk
      rw [HBV.out] at e
      cases e
      have x0 := (hb.cell (p := ⟨g, i * 6, none⟩) hg).trans y0
      have x1 := (hb.cell (p := ⟨g, i * 6 + 1, none⟩) hg).trans y1
      have x2 := (hb.cell (p := ⟨g, i * 6 + 2, none⟩) hg).trans y2
      have x3 := (hb.cell (p := ⟨g, i * 6 + 3, none⟩) hg).trans y3
      have x4 := (hb.cell (p := ⟨g, i * 6 + 4, none⟩) hg).trans y4
      have x5 := (hb.cell (p := ⟨g, i * 6 + 5, none⟩) hg).trans y5
      have f1 : (i : Int) < (d.bs.length : Int) := by omega
      have f2 : decide ((i : Int) < (d.bs.length : Int)) = true := decide_eq_true f1
      have f3 : (0 : Int) ≤ (i : Int) := by omega
      obtain ⟨i1, hi1⟩ : ∃ i1, i + 1 = i1 := ⟨_, rfl⟩
      have t1 : IntKind.i64.wrap ((i : Int) + 1) = (i1 : Int) := So.wr_one hi1 (by omega)
      have HI1 : Hid _ := hi1
      have hst := fdI_step d.bs i pc k hk
      have HST : Hid _ := hst
      clear y0 y1 y2 y3 y4 y5 hb hi1 hst hk
      by_cases he : k.pc = pc
      · have e1 : (k.pc : Int) = (pc : Int) := by omega
        have e2 : ((k.pc : Int) == (pc : Int)) = true := by simpa using e1
        have HE : Hid _ := he
        have hXi : X = (i : Int) := by rw [← HX.out, HF.out, HST.out, if_pos he]
        have HXi : Hid _ := hXi
        clear he hXi
        go_wp2
        go_ret
        refine ⟨?_, HB.out.trans ((Below.refl _ _).alloc HB.out.size _)⟩
        rw [HXi.out]; rfl
      · have e1 : ¬ (k.pc : Int) = (pc : Int) := by omega
        have e2 : ((k.pc : Int) == (pc : Int)) = false := by simpa using e1
        have e3 : decide ((k.pc : Int) = (pc : Int)) = false := decide_eq_false e1
        have HE : Hid _ := he
        clear he
        go_wp2
        exact ⟨⟨i1, rfl, by have := HI1.out; omega, by rw [← HI1.out, HF.out, HST.out, if_neg HE.out], HB.out.trans ((Below.refl _ _).alloc HB.out.size _)⟩, by have := HI1.out; simp [intOf]; omega⟩
    · have f1 : ¬ (i : Int) < (d.bs.length : Int) := by omega
      have f2 : decide ((i : Int) < (d.bs.length : Int)) = false := decide_eq_false f1
      have hXi : X = -1 := by rw [← HX.out, HF.out, List.drop_eq_nil_of_le (by omega)]; rfl
      have HXi : Hid _ := hXi
      clear hXi hb
      go_wp2
      go_ret
      refine ⟨?_, HB.out⟩
      rw [HXi.out]; rfl
end Go.Proofs.Ytgkkghphlbgcoaa.Ca
namespace Go.Proofs.Ytgkkghphlbgcoaa.Ca
open Go.RowKit Go.Maps Ho
set_option maxRecDepth 100000
set_option linter.unusedVariables false
set_option linter.unusedSimpArgs false
/-- All blocks of the document's cache. -/
def allB (D : Nat) (J : Rd) (bs : List Rk) (j : Nat) : Prop := j ∈ wrB D J bs ∨ j ∈ rdB bs
theorem mem_wr {D : Nat} {J : Rd} {bs : List Rk} {j : Nat} : j ∈ wrB D J bs ↔ j = D ∨ j = J.sb ∨ j = J.hb ∨ J.bv.ownBlock = some j ∨ ∃ k ∈ bs, k.lv.ownBlock = some j ∨ k.tv.ownBlock = some j := by
  simp only [wrB, List.mem_append, List.mem_cons, List.not_mem_nil, or_false, List.mem_flatMap, Option.mem_toList]
  constructor
  · rintro ((h | h | h) | h | h)
    · exact .inl h
    · exact .inr (.inl h)
    · exact .inr (.inr (.inl h))
    · exact .inr (.inr (.inr (.inl h)))
    · exact .inr (.inr (.inr (.inr h)))
  · rintro (h | h | h | h | h)
    · exact .inl (.inl h)
    · exact .inl (.inr (.inl h))
    · exact .inl (.inr (.inr h))
    · exact .inr (.inl h)
    · exact .inr (.inr h)
theorem mem_rd {bs : List Rk} {j : Nat} : j ∈ rdB bs ↔ ∃ k ∈ bs, k.cv.ownBlock = some j ∨ k.pv.ownBlock = some j := by
  simp only [rdB, List.mem_flatMap, List.mem_append, Option.mem_toList]
theorem Rkw.keep {w w' : World} {k : Rk} (h : Rkw w k) (hk : ∀ j, (k.cv.ownBlock = some j ∨ k.pv.ownBlock = some j ∨ k.lv.ownBlock = some j ∨ k.tv.ownBlock = some j) → w'.heap[j]? = w.heap[j]?) : Rkw w' k :=
  ⟨h.pc, h.lt, row_keep h.cv fun j e => hk j (.inl e), row_keep h.pv fun j e => hk j (.inr (.inl e)), row_keep h.lv fun j e => hk j (.inr (.inr (.inl e))), row_keep h.tv fun j e => hk j (.inr (.inr (.inr e))), h.lo⟩
theorem Rw.keep {w w' : World} {D : Nat} {J : Rd} {d : Rs} (h : Rw w D J d) (hk : ∀ j, allB D J d.bs j → w'.heap[j]? = w.heap[j]?) : Rw w' D J d := by
  obtain ⟨A, a1, a2⟩ := h.sl
  obtain ⟨B, b1, b2⟩ := h.hs
  refine ⟨(hk D (.inl (mem_wr.2 (.inl rfl)))).trans h.c0, row_keep h.row fun j e => hk j (.inl (mem_wr.2 (.inr (.inr (.inr (.inl e)))))), ⟨A, (hk _ (.inl (mem_wr.2 (.inr (.inl rfl))))).trans a1, a2⟩, ⟨B, (hk _ (.inl (mem_wr.2 (.inr (.inr (.inl rfl)))))).trans b1, b2⟩, fun k hm => (h.kb k hm).keep fun j e => ?_, h.nd, h.ap, h.rm⟩
  rcases e with e | e | e | e
  · exact hk j (.inr (mem_rd.2 ⟨k, hm, .inl e⟩))
  · exact hk j (.inr (mem_rd.2 ⟨k, hm, .inr e⟩))
  · exact hk j (.inl (mem_wr.2 (.inr (.inr (.inr (.inr ⟨k, hm, .inl e⟩))))))
  · exact hk j (.inl (mem_wr.2 (.inr (.inr (.inr (.inr ⟨k, hm, .inr e⟩))))))
theorem Rw.lt {w : World} {D : Nat} {J : Rd} {d : Rs} (h : Rw w D J d) (j : Nat) (hj : allB D J d.bs j) : j < w.heap.size := by
  rcases hj with hj | hj
  · rcases mem_wr.1 hj with rfl | rfl | rfl | e | ⟨k, hm, e | e⟩
    · exact So.row_lt h.c0
    · obtain ⟨A, a1, _⟩ := h.sl; exact So.row_lt a1
    · obtain ⟨A, a1, _⟩ := h.hs; exact So.row_lt a1
    · exact (h.row.lt j e).2
    · exact ((h.kb k hm).lv.lt j e).2
    · exact ((h.kb k hm).tv.lt j e).2
  · obtain ⟨k, hm, e | e⟩ := mem_rd.1 hj
    · exact ((h.kb k hm).cv.lt j e).2
    · exact ((h.kb k hm).pv.lt j e).2
theorem Rw.below {w w' : World} {D : Nat} {J : Rd} {d : Rs} (h : Rw w D J d) (hb : Below w.heap.size w w') : Rw w' D J d := h.keep fun j hj => hb.block j (h.lt j hj)
theorem Rw.ch {p : Nat → Prop} {w w' : World} {D : Nat} {J : Rd} {d : Rs} (h : Rw w D J d) (hc : Ch p w w') (hp : ∀ j, allB D J d.bs j → ¬ p j) : Rw w' D J d := h.keep fun j hj => hc.block j (h.lt j hj) (hp j hj)
/-- The block at a place. -/
def fdK (bs : List Rk) (pc : Nat) : Option Rk := bs.find? fun k => k.pc == pc
theorem fdI_none : ∀ (bs : List Rk) (i pc : Nat), fdK bs pc = none → fdI bs i pc = -1
  | [], _, _, _ => rfl
  | b :: r, i, pc, h => by
    unfold fdK at h
    rw [List.find?_cons] at h
    unfold fdI
    by_cases e : b.pc = pc
    · have : (b.pc == pc) = true := by simpa using e
      rw [this] at h; cases h
    · have : (b.pc == pc) = false := by simpa using e
      rw [this] at h
      rw [if_neg e]
      exact fdI_none r (i + 1) pc h
theorem fdI_some : ∀ (bs : List Rk) (i pc : Nat) (k : Rk), fdK bs pc = some k → ∃ j : Nat, fdI bs i pc = ((i + j : Nat) : Int) ∧ bs[j]? = some k
  | [], _, _, _, h => by cases h
  | b :: r, i, pc, k, h => by
    unfold fdK at h
    rw [List.find?_cons] at h
    unfold fdI
    by_cases e : b.pc = pc
    · have : (b.pc == pc) = true := by simpa using e
      rw [this] at h; cases h
      exact ⟨0, by rw [if_pos e]; rfl, rfl⟩
    · have : (b.pc == pc) = false := by simpa using e
      rw [this] at h
      rw [if_neg e]
      obtain ⟨j, h1, h2⟩ := fdI_some r (i + 1) pc k h
      exact ⟨j + 1, by rw [h1]; congr 1; omega, by simpa using h2⟩
set_option maxHeartbeats 4000000 in
theorem rFind_none (D pc : Nat) (J : Rd) (d : Rs) (w : World) (h : Rw w D J d) (hf : fdK d.bs pc = none) :
    Calls Try.prog 21 #[.pointer (some ⟨D, 0, none⟩), .int .u32 pc] w fun e w' => e = .returned (.tuple #[.int .i64 0, .bool false]) ∧ Below w.heap.size w w' := by
  have HF : Hid _ := rfind_any D pc J d w h
  rw [fdI_none d.bs 0 pc hf] at HF
  clear h hf
  go_enter Try.func21, Try.ntmps21
  go_wp2_with (go_at_call 46; refine Calls.mono HF.out ?_; rintro _ w1 ⟨rfl, hb1⟩; dsimp only)
  go_ret2
  exact ⟨rfl, hb1⟩
set_option maxHeartbeats 4000000 in
theorem rFind_some (D pc : Nat) (J : Rd) (d : Rs) (k : Rk) (w : World) (h : Rw w D J d) (hf : fdK d.bs pc = some k) :
    Calls Try.prog 21 #[.pointer (some ⟨D, 0, none⟩), .int .u32 pc] w fun e w' => e = .returned (.tuple #[.int .i64 k.at', .bool true]) ∧ Below w.heap.size w w' := by
  have HF : Hid _ := rfind_any D pc J d w h
  obtain ⟨j, hj, hk⟩ := fdI_some d.bs 0 pc k hf
  rw [hj, Nat.zero_add] at HF
  obtain ⟨_, _, c2, _, _⟩ := h.cell
  obtain ⟨g, bcap, ca, ccap, pa, pcap, la, lcap, ta, tcap, e, hg, _, y0, y1, y2, y3, y4, y5⟩ := h.block hk
  rw [e] at c2
  have hl : j < d.bs.length := (List.getElem?_eq_some_iff.1 hk).1
  have lD := h.lt D (.inl (mem_wr.2 (.inl rfl)))
  have f1 : (j : Int) < (d.bs.length : Int) := by omega
  have f3 : (0 : Int) ≤ (j : Int) := by omega
  have f4 : ¬ (j : Int) < 0 := by omega
  clear h hf hj hk e
  go_enter Try.func21, Try.ntmps21
  go_wp2_with (go_at_call 46; refine Calls.mono HF.out ?_; rintro _ w1 ⟨rfl, hb1⟩; dsimp only; have c2' := (hb1.cell (p := ⟨D, 2, none⟩) lD).trans c2; have y3' := (hb1.cell (p := ⟨g, j * 6 + 3, none⟩) hg).trans y3)
  go_ret2
  exact ⟨rfl, hb1⟩
end Go.Proofs.Ytgkkghphlbgcoaa.Ca
namespace Go.Proofs.Ytgkkghphlbgcoaa.Ca
open Go.RowKit Go.Maps Ho
set_option maxRecDepth 100000
set_option linter.unusedVariables false
set_option linter.unusedSimpArgs false
theorem Rw.ne {w : World} {D : Nat} {J : Rd} {d : Rs} (h : Rw w D J d) : D ≠ J.sb ∧ D ≠ J.hb ∧ J.sb ≠ J.hb ∧ (∀ j, J.bv.ownBlock = some j → j ≠ D ∧ j ≠ J.sb ∧ j ≠ J.hb) ∧ (∀ k ∈ d.bs, ∀ j, (k.lv.ownBlock = some j ∨ k.tv.ownBlock = some j) → j ≠ D ∧ j ≠ J.sb ∧ j ≠ J.hb ∧ J.bv.ownBlock ≠ some j) := by
  have hn := h.nd
  unfold wrB at hn
  rw [List.nodup_append] at hn
  obtain ⟨h1, h2, h3⟩ := hn
  rw [List.nodup_append] at h2
  obtain ⟨_, _, h4⟩ := h2
  simp only [List.nodup_cons, List.mem_cons, List.not_mem_nil, or_false, not_or] at h1
  have mb : ∀ j, J.bv.ownBlock = some j → j ∈ J.bv.ownBlock.toList ++ d.bs.flatMap (fun k => k.lv.ownBlock.toList ++ k.tv.ownBlock.toList) := fun j e => List.mem_append.2 (.inl (by rw [e]; simp))
  have mk : ∀ k ∈ d.bs, ∀ j, (k.lv.ownBlock = some j ∨ k.tv.ownBlock = some j) → j ∈ d.bs.flatMap (fun k => k.lv.ownBlock.toList ++ k.tv.ownBlock.toList) := fun k hk j e => List.mem_flatMap.2 ⟨k, hk, List.mem_append.2 (e.elim (fun e => .inl (by rw [e]; simp)) fun e => .inr (by rw [e]; simp))⟩
  refine ⟨h1.1.1, h1.1.2, h1.2.1, fun j e => ⟨fun e2 => h3 D (by simp) j (mb j e) e2.symm, fun e2 => h3 J.sb (by simp) j (mb j e) e2.symm, fun e2 => h3 J.hb (by simp) j (mb j e) e2.symm⟩, fun k hk j e => ⟨fun e2 => h3 D (by simp) j (List.mem_append.2 (.inr (mk k hk j e))) e2.symm, fun e2 => h3 J.sb (by simp) j (List.mem_append.2 (.inr (mk k hk j e))) e2.symm, fun e2 => h3 J.hb (by simp) j (List.mem_append.2 (.inr (mk k hk j e))) e2.symm, fun e2 => h4 j (by rw [e2]; simp) j (mk k hk j e) rfl⟩⟩
/-- Only the cache's own block and the two rows of the table are changed. -/
theorem Rw.mk3 {w w' : World} {D : Nat} {J : Rd} {d : Rs} (h : Rw w D J d) (hk : ∀ j, j < w.heap.size → j ≠ D → j ≠ J.sb → j ≠ J.hb → w'.heap[j]? = w.heap[j]?) (fl : Nat) (sl' : Nat → Nat) (hs' : Nat → Bool)
    (c0 : w'.heap[D]? = some (.cells #[.int .i64 d.room, .int .i64 fl, J.bv, .slice (some ⟨J.sb, 0, none⟩) d.n d.n, .slice (some ⟨J.hb, 0, none⟩) d.n d.n] 61)) (hfl : fl ≤ d.room)
    (sl : ∃ A, w'.heap[J.sb]? = some (.cells A 30) ∧ A.size = d.n ∧ ∀ k, k < d.n → A[k]? = some (.int .u32 (sl' k))) (hs : ∃ A, w'.heap[J.hb]? = some (.cells A 4) ∧ A.size = d.n ∧ ∀ k, k < d.n → A[k]? = some (.bool (hs' k))) :
    Rw w' D J { d with filled := fl, sl := sl', hs := hs' } := by
  obtain ⟨n1, n2, n3, n4, n5⟩ := h.ne
  have hap := h.ap
  have hw : ∀ j, j ∈ wrB D J d.bs → j = D ∨ j = J.sb ∨ j = J.hb ∨ w'.heap[j]? = w.heap[j]? := fun j hj => by
    by_cases e1 : j = D
    · exact .inl e1
    · by_cases e2 : j = J.sb
      · exact .inr (.inl e2)
      · by_cases e3 : j = J.hb
        · exact .inr (.inr (.inl e3))
        · exact .inr (.inr (.inr (hk j (h.lt j (.inl hj)) e1 e2 e3)))
  refine ⟨c0, row_keep h.row fun j e => hk j (h.row.lt j e).2 (n4 j e).1 (n4 j e).2.1 (n4 j e).2.2, sl, hs, fun k hm => (h.kb k hm).keep fun j e => ?_, h.nd, h.ap, ⟨h.rm.1, h.rm.2.1, hfl, h.rm.2.2.2⟩⟩
  have hrd : j ∈ rdB d.bs → w'.heap[j]? = w.heap[j]? := fun hj => by
    have := hap j hj
    exact hk j (h.lt j (.inr hj)) (fun e => this (mem_wr.2 (.inl e))) (fun e => this (mem_wr.2 (.inr (.inl e)))) (fun e => this (mem_wr.2 (.inr (.inr (.inl e)))))
  rcases e with e | e | e | e
  · exact hrd (mem_rd.2 ⟨k, hm, .inl e⟩)
  · exact hrd (mem_rd.2 ⟨k, hm, .inr e⟩)
  · obtain ⟨a1, a2, a3, _⟩ := n5 k hm j (.inl e)
    exact hk j ((h.kb k hm).lv.lt j e).2 a1 a2 a3
  · obtain ⟨a1, a2, a3, _⟩ := n5 k hm j (.inr e)
    exact hk j ((h.kb k hm).tv.lt j e).2 a1 a2 a3
set_option maxHeartbeats 4000000 in
theorem rNote_none (D pc : Nat) (J : Rd) (d : Rs) (w : World) (h : Rw w D J d) (hf : fdK d.bs pc = none) :
    Calls Try.prog 24 #[.pointer (some ⟨D, 0, none⟩), .int .u32 pc] w fun e w' => e = .returned (.int .i64 9) ∧ Below w.heap.size w w' := by
  have HF : Hid _ := rfind_any D pc J d w h
  rw [fdI_none d.bs 0 pc hf] at HF
  clear h hf
  go_enter Try.func24, Try.ntmps24
  go_wp2_with (go_at_call 46; refine Calls.mono HF.out ?_; rintro _ w1 ⟨rfl, hb1⟩; dsimp only)
  go_ret
  exact ⟨rfl, hb1⟩
theorem row_upd {A : Array Value} {n x : Nat} {f : Nat → Value} {v : Value} (hs : A.size = n) (hc : ∀ k, k < n → A[k]? = some (f k)) (hx : x < n) : (A.setIfInBounds x v).size = n ∧ ∀ k, k < n → (A.setIfInBounds x v)[k]? = some (if k = x then v else f k) := by
  refine ⟨by simpa using hs, fun k hk => ?_⟩
  by_cases e : k = x
  · subst e
    have : k < A.size := by omega
    simp [this]
  · have e2 : ¬ x = k := fun h => e h.symm
    simp [Array.getElem?_setIfInBounds, e, e2, hc k hk]
set_option maxHeartbeats 4000000 in
theorem rNote_some (D pc : Nat) (J : Rd) (d : Rs) (k : Rk) (w : World) (h : Rw w D J d) (hf : fdK d.bs pc = some k) (hpc : pc < 4294967296) :
    Calls Try.prog 24 #[.pointer (some ⟨D, 0, none⟩), .int .u32 pc] w fun e w' => e = .returned (.int .i64 0) ∧ Rw w' D J { d with sl := setF d.sl (pc % d.n) pc, hs := setF d.hs (pc % d.n) true } ∧ Ch (fun j => j = J.sb ∨ j = J.hb) w w' := by
  have HF : Hid _ := rfind_any D pc J d w h
  obtain ⟨j, hj, hk⟩ := fdI_some d.bs 0 pc k hf
  rw [hj, Nat.zero_add] at HF
  have HR : Hid _ := h
  obtain ⟨_, _, _, c3, c4⟩ := h.cell
  obtain ⟨m1, m2, m3, m4, m5, m6⟩ := h.rm
  obtain ⟨x, hx⟩ : ∃ x, pc % d.n = x := ⟨_, rfl⟩
  have hxn : x < d.n := by rw [← hx]; exact Nat.mod_lt _ (by omega)
  have t2 : (pc : Int).tmod (d.n : Int) = (x : Int) := by rw [← hx]; rfl
  have t2' : (pc : Int) % (d.n : Int) = (x : Int) := by rw [← hx]; exact (Int.natCast_emod pc d.n).symm
  have t3 : IntKind.i64.wrap (pc : Int) = (pc : Int) := IntWalk.i64_in _ (by omega)
  have t4 : IntKind.i64.wrap (x : Int) = (x : Int) := IntWalk.i64_in _ (by omega)
  have n0 : ¬ (d.n : Int) = 0 := by omega
  have n1 : ((d.n : Int) == 0) = false := by simpa using n0
  have q0 : (0 : Int) ≤ (x : Int) := by omega
  have q1 : (x : Int) < (d.n : Int) := by omega
  obtain ⟨A, hA, hA1, hA2⟩ := h.sl
  obtain ⟨B, hB, hB1, hB2⟩ := h.hs
  have lD := h.lt D (.inl (mem_wr.2 (.inl rfl)))
  have lS := So.row_lt hA
  have lH := So.row_lt hB
  obtain ⟨e1, e2, e3, _⟩ := h.ne
  have s0 := (So.row_cell hA x).trans (hA2 x hxn)
  have b0 := (So.row_cell hB x).trans (hB2 x hxn)
  have sf := So.row_fr hA x
  have bf := So.row_fr hB x
  have f4 : ¬ (j : Int) < 0 := by omega
  have HX : Hid _ := hx
  have HA : Hid _ := hA
  have HB : Hid _ := hB
  clear h hf hj hk hx hA hB hA2 hB2
  go_enter Try.func24, Try.ntmps24
  go_wp2_with (go_at_call 46; refine Calls.mono HF.out ?_; rintro _ w1 ⟨rfl, hb1⟩; dsimp only; have c3' := (hb1.cell (p := ⟨D, 3, none⟩) lD).trans c3; have c4' := (hb1.cell (p := ⟨D, 4, none⟩) lD).trans c4; have s0' := (hb1.cell (p := ⟨J.sb, x, none⟩) lS).trans s0; have b0' := (hb1.cell (p := ⟨J.hb, x, none⟩) lH).trans b0; have sf' := (World.frozen?_of_block (a := ⟨J.sb, x, none⟩) (hb1.block _ lS)).trans sf; have bf' := (World.frozen?_of_block (a := ⟨J.hb, x, none⟩) (hb1.block _ lH)).trans bf)
  go_ret
  rw [HX.out]
  have h1 := HR.out.below hb1
  have hA' : w1.heap[J.sb]? = some (.cells A 30) := (hb1.block _ lS).trans HA.out
  have hB' : w1.heap[J.hb]? = some (.cells B 4) := (hb1.block _ lH).trans HB.out
  obtain ⟨_, hA1, hA2⟩ := HR.out.sl
  obtain ⟨A0, a0, a1, a2⟩ := h1.sl
  rw [hA'] at a0; cases a0
  obtain ⟨B0, b0, b1, b2⟩ := h1.hs
  rw [hB'] at b0; cases b0
  have U1 := row_upd (v := .int .u32 pc) a1 a2 hxn
  have U2 := row_upd (v := .bool true) b1 b2 hxn
  refine ⟨rfl, h1.mk3 (fun j _ n1 n2 n3 => by rw [So.blk_other n3, So.blk_other n2]) d.filled _ _ ?_ m3 ⟨_, (So.blk_other e3 _).trans (So.blk_set hA' _), U1.1, fun k hk => ?_⟩ ⟨_, So.blk_set ((So.blk_other (Ne.symm e3) _).trans hB') _, U2.1, fun k hk => ?_⟩, ?_⟩
  · rw [So.blk_other e2, So.blk_other e1]; exact h1.c0
  · rw [U1.2 k hk]; unfold setF; split <;> rfl
  · rw [U2.2 k hk]; unfold setF; split <;> rfl
  · exact ((Ch.of_below _ hb1).set (.inl rfl) _ _).set (.inr rfl) _ _
end Go.Proofs.Ytgkkghphlbgcoaa.Ca
