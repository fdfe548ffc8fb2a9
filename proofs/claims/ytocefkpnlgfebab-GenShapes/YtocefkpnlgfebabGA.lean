import Derived.Test.YtocefkpnlgfebabPC
import Derived.Test.YtocefkpnlgfebabHO
import Derived.Test.YtocefkpnlgfebabHK
import Derived.Deep.OwnRows
import Derived.Deep.AppendLies
import Derived.OwnWalk
namespace Go.Proofs.Ytocefkpnlgfebab.Ho
open Go.RowKit
set_option maxRecDepth 100000
set_option linter.unusedVariables false
set_option linter.unusedSimpArgs false

def upd {α : Type} (f : Nat → α) (i : Nat) (v : α) : Nat → α := fun j => if j = i then v else f j
/-- What is known of an operation ahead of its code. -/
structure PL where
  takes : Nat
  a0 : Nat
  a1 : Nat
  a2 : Nat
  gives : Bool
  next : Nat
  last : Nat
  lazy : Bool
def plC (p : PL) : Nat → Value
  | 0 => .int .i64 p.takes
  | 1 => .int .i64 p.a0
  | 2 => .int .i64 p.a1
  | 3 => .int .i64 p.a2
  | 4 => .bool p.gives
  | 5 => .int .i64 p.next
  | 6 => .int .i64 p.last
  | _ => .bool p.lazy
def plF (P : Nat → PL) (o : Nat) : Value := plC (P (o / 8)) (o % 8)
/-- Code that is being laid: registers (full, and of which value), those that are busy, spills that have their value; the plans; the words. -/
structure G where
  hf : Nat → Bool
  hv : Nat → Nat
  bz : Nat → Bool
  sv : Nat → Bool
  P : Nat → PL
  l : List Nat
def mkF (ov pv wv : Value) (regs : Nat) (g : G) (o : Nat) : Value :=
  if o = 0 then ov else if o = 1 then pv else if o = 2 then .int .i64 regs
  else if o < 35 then (if o % 2 = 1 then .bool (g.hf ((o - 3) / 2)) else .int .i64 (g.hv ((o - 3) / 2)))
  else if o < 51 then .bool (g.bz (o - 35)) else if o < 2099 then .bool (g.sv (o - 51)) else wv
theorem mk_reg (ov pv wv : Value) (regs : Nat) (g : G) (r v : Nat) (b : Bool) (hr : r < 16) : (fun j => if j = 3 + r * 2 + 1 then Value.int .i64 v else if j = 3 + r * 2 then .bool b else mkF ov pv wv regs g j) = mkF ov pv wv regs { g with hf := upd g.hf r b, hv := upd g.hv r v } := by
  funext o
  by_cases e1 : o = 3 + r * 2 + 1
  · rw [if_pos e1]; subst e1
    unfold mkF
    rw [if_neg (by omega), if_neg (by omega), if_neg (by omega), if_pos (by omega), if_neg (by omega), show (3 + r * 2 + 1 - 3) / 2 = r by omega]
    simp [upd]
  · rw [if_neg e1]
    by_cases e2 : o = 3 + r * 2
    · rw [if_pos e2]; subst e2
      unfold mkF
      rw [if_neg (by omega), if_neg (by omega), if_neg (by omega), if_pos (by omega), if_pos (by omega), show (3 + r * 2 - 3) / 2 = r by omega]
      simp [upd]
    · rw [if_neg e2]
      unfold mkF
      by_cases h0 : o = 0
      · rw [if_pos h0, if_pos h0]
      by_cases h1 : o = 1
      · rw [if_neg h0, if_neg h0, if_pos h1, if_pos h1]
      by_cases h2 : o = 2
      · rw [if_neg h0, if_neg h0, if_neg h1, if_neg h1, if_pos h2, if_pos h2]
      rw [if_neg h0, if_neg h0, if_neg h1, if_neg h1, if_neg h2, if_neg h2]
      by_cases h3 : o < 35
      · have hq : ¬ (o - 3) / 2 = r := by omega
        rw [if_pos h3, if_pos h3]
        simp only [upd, if_neg hq]
      · rw [if_neg h3, if_neg h3]
theorem mk_bz (ov pv wv : Value) (regs : Nat) (g : G) (r : Nat) (b : Bool) (hr : r < 16) : (fun j => if j = 35 + r then .bool b else mkF ov pv wv regs g j) = mkF ov pv wv regs { g with bz := upd g.bz r b } := by
  funext o
  unfold mkF
  by_cases e1 : o = 35 + r
  · rw [if_pos e1]; subst e1
    rw [if_neg (by omega), if_neg (by omega), if_neg (by omega), if_neg (by omega), if_pos (by omega), show 35 + r - 35 = r by omega]
    simp [upd]
  · rw [if_neg e1]
    by_cases h3 : o < 35
    · simp only [if_pos h3]
    by_cases h4 : o < 51
    · have hq : ¬ o - 35 = r := by omega
      simp only [if_neg h3, if_pos h4, upd, if_neg hq]
    · simp only [if_neg h3, if_neg h4]
theorem mk_sv (ov pv wv : Value) (regs : Nat) (g : G) (r : Nat) (b : Bool) (hr : r < 2048) : (fun j => if j = 51 + r then .bool b else mkF ov pv wv regs g j) = mkF ov pv wv regs { g with sv := upd g.sv r b } := by
  funext o
  unfold mkF
  by_cases e1 : o = 51 + r
  · rw [if_pos e1]; subst e1
    rw [if_neg (by omega), if_neg (by omega), if_neg (by omega), if_neg (by omega), if_neg (by omega), if_pos (by omega), show 51 + r - 51 = r by omega]
    simp [upd]
  · rw [if_neg e1]
    by_cases h3 : o < 51
    · simp only [if_pos h3]
    by_cases h4 : o < 2099
    · have hq : ¬ o - 51 = r := by omega
      simp only [if_neg h3, if_pos h4, upd, if_neg hq]
    · simp only [if_neg h3, if_neg h4]
theorem mk_wv (ov pv wv wv' : Value) (regs : Nat) (g g' : G) (l : List Nat) (o : Nat) (ho : o < 2100) (e : g' = { g with l := l }) : (if o = 2099 then wv' else mkF ov pv wv regs g o) = mkF ov pv wv' regs g' o := by
  subst e
  unfold mkF
  by_cases e1 : o = 2099
  · subst e1; rfl
  · have h3 : o < 2099 := by omega
    simp only [if_neg e1, if_pos h3]
theorem mk_0 (ov pv wv : Value) (regs : Nat) (g : G) : mkF ov pv wv regs g 0 = ov := rfl
theorem mk_1 (ov pv wv : Value) (regs : Nat) (g : G) : mkF ov pv wv regs g 1 = pv := rfl
theorem mk_2 (ov pv wv : Value) (regs : Nat) (g : G) : mkF ov pv wv regs g 2 = .int .i64 regs := rfl
theorem mk_w (ov pv wv : Value) (regs : Nat) (g : G) : mkF ov pv wv regs g 2099 = wv := rfl
theorem mk_hf (ov pv wv : Value) (regs : Nat) (g : G) (r : Nat) (hr : r < 16) : mkF ov pv wv regs g (3 + r * 2) = .bool (g.hf r) := by
  unfold mkF
  rw [if_neg (by omega), if_neg (by omega), if_neg (by omega), if_pos (by omega), if_pos (by omega), show (3 + r * 2 - 3) / 2 = r by omega]
theorem mk_hv (ov pv wv : Value) (regs : Nat) (g : G) (r : Nat) (hr : r < 16) : mkF ov pv wv regs g (3 + r * 2 + 1) = .int .i64 (g.hv r) := by
  unfold mkF
  rw [if_neg (by omega), if_neg (by omega), if_neg (by omega), if_pos (by omega), if_neg (by omega), show (3 + r * 2 + 1 - 3) / 2 = r by omega]
theorem mk_b (ov pv wv : Value) (regs : Nat) (g : G) (r : Nat) (hr : r < 16) : mkF ov pv wv regs g (35 + r) = .bool (g.bz r) := by
  unfold mkF
  rw [if_neg (by omega), if_neg (by omega), if_neg (by omega), if_neg (by omega), if_pos (by omega), show 35 + r - 35 = r by omega]
theorem mk_s (ov pv wv : Value) (regs : Nat) (g : G) (r : Nat) (hr : r < 2048) : mkF ov pv wv regs g (51 + r) = .bool (g.sv r) := by
  unfold mkF
  rw [if_neg (by omega), if_neg (by omega), if_neg (by omega), if_neg (by omega), if_neg (by omega), if_pos (by omega), show 51 + r - 51 = r by omega]
theorem pl_at (P : Nat → PL) (i r : Nat) (hr : r < 8) : plF P (i * 8 + r) = plC (P i) r := by
  unfold plF
  rw [show (i * 8 + r) / 8 = i by omega, show (i * 8 + r) % 8 = r by omega]
theorem pl_set (P : Nat → PL) (i r : Nat) (v : Value) (p : PL) (hr : r < 8) (h1 : plC p r = v) (h2 : ∀ q, q < 8 → q ≠ r → plC p q = plC (P i) q) : (fun j => if j = i * 8 + r then v else plF P j) = plF (upd P i p) := by
  funext o
  by_cases e : o = i * 8 + r
  · subst e; rw [if_pos rfl, pl_at _ _ _ hr]; simp [upd, h1]
  · rw [if_neg e]
    unfold plF upd
    by_cases e2 : o / 8 = i
    · rw [if_pos e2, e2]
      exact (h2 (o % 8) (Nat.mod_lt _ (by decide)) (by omega)).symm
    · rw [if_neg e2]
def wdL (l : List Nat) : List Value := l.map (fun x : Nat => Value.int .u32 (x : Int))
/-- What else stays as it was: all but the maker, the plans, and rows of words. -/
structure Kx (base M Q : Nat) (w w' : World) : Prop where
  bel : Below base w w'
  blk : ∀ i A T, w.heap[i]? = some (.cells A T) → i ≠ M → i ≠ Q → T ≠ 22 → w'.heap[i]? = some (.cells A T)
  size : w.heap.size ≤ w'.heap.size
theorem Kx.refl (base M Q : Nat) (w : World) : Kx base M Q w w := ⟨Below.refl _ _, fun _ _ _ h _ _ _ => h, Nat.le_refl _⟩
theorem Kx.trans {base M Q : Nat} {a b c : World} (h : Kx base M Q a b) (k : Kx base M Q b c) : Kx base M Q a c :=
  ⟨h.bel.trans k.bel, fun i A T h1 h2 h3 h4 => k.blk i A T (h.blk i A T h1 h2 h3 h4) h2 h3 h4, Nat.le_trans h.size k.size⟩
theorem Kx.of_below {base M Q : Nat} {w w' : World} (h : Below w.heap.size w w') (hb : base ≤ w.heap.size) : Kx base M Q w w' :=
  ⟨h.mono hb, fun i A T h1 _ _ _ => (h.block i (row_lt h1)).trans h1, h.size⟩
theorem Kx.next {base M Q : Nat} {w w' w2 : World} (k : Kx base M Q w w') (h : Below w'.heap.size w' w2) (hb : base ≤ w.heap.size) : Kx base M Q w w2 := k.trans (Kx.of_below h (Nat.le_trans hb k.size))
theorem Kx.setIn {base M Q : Nat} {w w' : World} (k : Kx base M Q w w') {B : Nat} (hB : B = M ∨ B = Q ∨ w.heap.size ≤ B) (hb : base ≤ B) (o : Nat) (v : Value) : Kx base M Q w (w'.setCell ⟨B, o, none⟩ v) :=
  ⟨k.bel.setCell hb v, fun i A T h1 h2 h3 h4 => by
    have hne : i ≠ B := by
      rcases hB with e | e | e
      · subst e; exact h2
      · subst e; exact h3
      · have := row_lt h1; omega
    exact (blk_other hne v).trans (k.blk i A T h1 h2 h3 h4), by simpa using k.size⟩
theorem Kx.row {base M Q : Nat} {w w' : World} (k : Kx base M Q w w') {b t n : Nat} {f : Nat → Value} (h : w.rowIs b t n f) (h1 : b ≠ M) (h2 : b ≠ Q) (h3 : t ≠ 22) : w'.rowIs b t n f := by
  obtain ⟨c, hb, hn, hc⟩ := h
  exact ⟨c, k.blk b c t hb h1 h2 h3, hn, hc⟩
/-- The world of code under way. -/
structure GW (w : World) (base M Q n : Nat) (bp : Option Addr) (cap pcap regs : Nat) (f : Nat → OpR) (g : G) (sv : Value) : Prop where
  mb : w.rowIs M 122 2100 (mkF (.slice bp n cap) (.slice (some ⟨Q, 0, none⟩) n pcap) sv regs g)
  wd : w.ownsRow base 22 1 sv g.l.length (wdL g.l)
  pl : w.rowIs Q 180 (n * 8) (plF g.P)
  ops : OpsR w bp n f
  ob : ∀ b off, bp = some ⟨b, off, none⟩ → b < base
  bM : base ≤ M
  bQ : base ≤ Q
  bw : base ≤ w.heap.size
theorem owns_blk {w : World} {base n g : Nat} {v : Value} {xs : List Value} (h : w.ownsRow base 22 1 v n xs) (hg : v.ownBlock = some g) : base ≤ g ∧ ∃ cur, w.heap[g]? = some (.cells cur 22) := by
  rcases h.2 with ⟨hv, h0⟩ | ⟨g', c', cur, hv, hb, hh, h1, h2, h3, h4⟩
  · rw [hv] at hg; cases hg
  · rw [hv] at hg; cases hg; exact ⟨hb, cur, hh⟩
theorem owns_keep {w w' : World} {base n : Nat} {v : Value} {xs : List Value} (h : w.ownsRow base 22 1 v n xs) (hk : ∀ g, v.ownBlock = some g → w'.heap[g]? = w.heap[g]?) : w'.ownsRow base 22 1 v n xs := by
  refine ⟨h.1, ?_⟩
  rcases h.2 with ⟨hv, h0⟩ | ⟨g', c', cur, hv, hb, hh, h1, h2, h3, h4⟩
  · exact Or.inl ⟨hv, h0⟩
  · exact Or.inr ⟨g', c', cur, hv, hb, (hk g' (by rw [hv]; rfl)).trans hh, h1, h2, h3, h4⟩
theorem GW.ne {w : World} {base M Q n : Nat} {bp : Option Addr} {cap pcap regs : Nat} {f : Nat → OpR} {g : G} {sv : Value} (h : GW w base M Q n bp cap pcap regs f g sv) : M ≠ Q := fun e => by
  obtain ⟨c, hc, -⟩ := h.mb
  obtain ⟨d, hd, -⟩ := h.pl
  rw [e, hd] at hc
  cases hc
theorem GW.ow {w : World} {base M Q n : Nat} {bp : Option Addr} {cap pcap regs : Nat} {f : Nat → OpR} {g : G} {sv : Value} (h : GW w base M Q n bp cap pcap regs f g sv) {k : Nat} (hk : sv.ownBlock = some k) : k ≠ M ∧ k ≠ Q := by
  obtain ⟨-, cur, hh⟩ := owns_blk h.wd hk
  obtain ⟨c, hc, -⟩ := h.mb
  obtain ⟨d, hd, -⟩ := h.pl
  exact ⟨fun e => by (rw [e, hc] at hh; cases hh), fun e => by (rw [e, hd] at hh; cases hh)⟩
theorem ops_bel {w w' : World} {bp : Option Addr} {n base : Nat} {f : Nat → OpR} (h : OpsR w bp n f) (k : Below base w w') (hb : ∀ b off, bp = some ⟨b, off, none⟩ → b < base) : OpsR w' bp n f := fun h0 => by
  obtain ⟨b, off, e, hl, hc⟩ := h h0
  exact ⟨b, off, e, Nat.lt_of_lt_of_le hl k.size, fun i hi => (hc i hi).below k (hb b off e)⟩
theorem GW.below {w w' : World} {base M Q n : Nat} {bp : Option Addr} {cap pcap regs : Nat} {f : Nat → OpR} {g : G} {sv : Value} (h : GW w base M Q n bp cap pcap regs f g sv) (k : Below w.heap.size w w') : GW w' base M Q n bp cap pcap regs f g sv :=
  ⟨h.mb.of_block (k.block _ h.mb.lt), owns_keep h.wd (fun g hg => by obtain ⟨-, cur, hh⟩ := owns_blk h.wd hg; exact k.block _ (row_lt hh)), h.pl.of_block (k.block _ h.pl.lt), ops_bel h.ops (k.mono h.bw) h.ob, h.ob, h.bM, h.bQ, Nat.le_trans h.bw k.size⟩
/-- A store elsewhere. -/
theorem GW.setOther {w : World} {base M Q n : Nat} {bp : Option Addr} {cap pcap regs : Nat} {f : Nat → OpR} {g : G} {sv : Value} (h : GW w base M Q n bp cap pcap regs f g sv) {B : Nat} (h1 : B ≠ M) (h2 : B ≠ Q) (h3 : sv.ownBlock ≠ some B) (hb : base ≤ B) (o : Nat) (v : Value) : GW (w.setCell ⟨B, o, none⟩ v) base M Q n bp cap pcap regs f g sv :=
  ⟨h.mb.setOther (fun e => h1 e.symm) v, owns_keep h.wd (fun g' hg => blk_other (fun e => h3 (by rw [hg, e])) v), h.pl.setOther (fun e => h2 e.symm) v, ops_bel h.ops ((Below.refl base w).setCell hb v) h.ob, h.ob, h.bM, h.bQ, by simpa using h.bw⟩
/-- A store into the maker, into a plan. -/
theorem GW.setM {w : World} {base M Q n : Nat} {bp : Option Addr} {cap pcap regs : Nat} {f : Nat → OpR} {g : G} {sv : Value} (h : GW w base M Q n bp cap pcap regs f g sv) (o : Nat) (v : Value) (g' : G) (e : (fun j => if j = o then v else mkF (.slice bp n cap) (.slice (some ⟨Q, 0, none⟩) n pcap) sv regs g j) = mkF (.slice bp n cap) (.slice (some ⟨Q, 0, none⟩) n pcap) sv regs g') (hP : g'.P = g.P) (hl : g'.l = g.l) : GW (w.setCell ⟨M, o, none⟩ v) base M Q n bp cap pcap regs f g' sv :=
  ⟨e ▸ h.mb.set o v, by rw [hl]; exact owns_keep h.wd (fun g hg => blk_other (fun e => (h.ow hg).1 e) v), by rw [hP]; exact h.pl.setOther (fun e => h.ne e.symm) v, ops_bel h.ops ((Below.refl base w).setCell h.bM v) h.ob, h.ob, h.bM, h.bQ, by simpa using h.bw⟩
theorem GW.setReg {w : World} {base M Q n : Nat} {bp : Option Addr} {cap pcap regs : Nat} {f : Nat → OpR} {g : G} {sv : Value} (h : GW w base M Q n bp cap pcap regs f g sv) (r v : Nat) (b : Bool) (hr : r < 16) : GW ((w.setCell ⟨M, 3 + r * 2, none⟩ (.bool b)).setCell ⟨M, 3 + r * 2 + 1, none⟩ (.int .i64 v)) base M Q n bp cap pcap regs f { g with hf := upd g.hf r b, hv := upd g.hv r v } sv :=
  ⟨mk_reg _ _ sv regs g r v b hr ▸ (h.mb.set (3 + r * 2) (.bool b)).set (3 + r * 2 + 1) (.int .i64 v), owns_keep (owns_keep h.wd (fun g hg => blk_other (fun e => (h.ow hg).1 e) (.bool b))) (fun g hg => blk_other (fun e => (h.ow hg).1 e) _), (h.pl.setOther (a := ⟨M, 3 + r * 2, none⟩) (fun e => h.ne e.symm) (.bool b)).setOther (fun e => h.ne e.symm) _, ops_bel h.ops (((Below.refl base w).setCell h.bM _).setCell h.bM _) h.ob, h.ob, h.bM, h.bQ, by simpa using h.bw⟩
theorem GW.setP {w : World} {base M Q n : Nat} {bp : Option Addr} {cap pcap regs : Nat} {f : Nat → OpR} {g : G} {sv : Value} (h : GW w base M Q n bp cap pcap regs f g sv) (i r : Nat) (v : Value) (p : PL) (hr : r < 8) (h1 : plC p r = v) (h2 : ∀ q, q < 8 → q ≠ r → plC p q = plC (g.P i) q) : GW (w.setCell ⟨Q, i * 8 + r, none⟩ v) base M Q n bp cap pcap regs f { g with P := upd g.P i p } sv :=
  ⟨h.mb.setOther (fun e => h.ne e) v, owns_keep h.wd (fun g hg => blk_other (fun e => (h.ow hg).2 e) v), pl_set g.P i r v p hr h1 h2 ▸ h.pl.set (i * 8 + r) v, ops_bel h.ops ((Below.refl base w).setCell h.bQ v) h.ob, h.ob, h.bM, h.bQ, by simpa using h.bw⟩
end Go.Proofs.Ytocefkpnlgfebab.Ho
namespace Go.Proofs.Ytocefkpnlgfebab.Ho
open Go.RowKit
set_option maxRecDepth 100000
set_option linter.unusedVariables false
set_option linter.unusedSimpArgs false

def layF (g : G) (x : Cd) : G := { g with l := g.l ++ (encP x).2 }
theorem infoW : (Try.prog.info? 22).map (fun i => (i.zero, i.size, i.bytes)) = some (some (.int .u32 0), 1, 4) := by kernel_rfl
theorem appn (base n : Nat) (sv : Value) (xs : List Value) (w : World) (h : w.ownsRow base 22 1 sv n xs) : (Builtin.append_ #[54, 54] 54 #[sv, .slice none 0 0]).run Try.prog w = .ok sv w := by
  rcases h.2 with ⟨hv, h0⟩ | ⟨g', c', cur, hv, hb, hh, h1, h2, h3, h4⟩
  · rw [hv]; simp [Builtin.append_, go_sem]
  · rw [hv]; simp [Builtin.append_, go_sem]; intro h; omega
theorem appz (base n : Nat) (sv : Value) (xs : List Value) (ad : Addr) (cp : Nat) (w : World) (h : w.ownsRow base 22 1 sv n xs) : (Builtin.append_ #[54, 54] 54 #[sv, .slice (some ad) 0 cp]).run Try.prog w = .ok sv w := by
  rcases h.2 with ⟨hv, h0⟩ | ⟨g', c', cur, hv, hb, hh, h1, h2, h3, h4⟩
  · rw [hv]; simp [Builtin.append_, go_sem]
  · rw [hv]; simp [Builtin.append_, go_sem]; intro h; omega
theorem wdL_len (l : List Nat) : (wdL l).length = l.length := by simp [wdL]
theorem wdL_one (l : List Nat) : ∀ u ∈ wdL l, u.oneCell' = true := by
  intro u hu
  simp only [wdL, List.mem_map] at hu
  obtain ⟨i, -, rfl⟩ := hu
  rfl
theorem wdL_app (a b : List Nat) : wdL a ++ wdL b = wdL (a ++ b) := by simp [wdL]
theorem wdL_at {l : List Nat} {j : Nat} {u : Value} (h : (wdL l)[j]? = some u) : j < l.length ∧ u = .int .u32 (wsF l j) := by
  have hj : j < l.length := by
    rcases Nat.lt_or_ge j l.length with k | k
    · exact k
    · rw [List.getElem?_eq_none (by rw [wdL_len]; exact k)] at h; cases h
  refine ⟨hj, ?_⟩
  simp only [wdL, List.getElem?_map, List.getElem?_eq_getElem hj, Option.map_some, Option.some.injEq] at h
  rw [← h]
  simp [wsF, hj]
set_option maxHeartbeats 2000000 in
theorem glay (base M Q n : Nat) (bp : Option Addr) (cap pcap regs : Nat) (f : Nat → OpR) (g : G) (sv : Value) (x : Cd) (w : World) (hG : GW w base M Q n bp cap pcap regs f g sv) (h1 : x.k < 4294967296) (h2 : x.x < 4294967296) (hl : g.l.length ≤ 100000) :
    Calls Try.prog 64 #[.pointer (some ⟨M, 0, none⟩), cdV x] w fun e w' => e = .returned (.tuple #[]) ∧ (∃ sv', GW w' base M Q n bp cap pcap regs f (layF g x) sv') ∧ Kx base M Q w w' := by
  obtain ⟨ex, HX⟩ : ∃ ex, Hid (encP x = ex) := ⟨_, rfl⟩
  obtain ⟨sa, sn, sc, rfl⟩ : ∃ sa sn sc, sv = .slice sa sn sc := by
    rcases hG.wd.2 with ⟨hv, h0⟩ | ⟨g', c', cur, hv, -⟩
    · exact ⟨_, _, _, hv⟩
    · exact ⟨_, _, _, hv⟩
  have HG : Hid _ := hG
  have HLL : Hid (g.l.length ≤ 100000) := hl
  obtain ⟨i0, hi, hz0, hz1, hz2⟩ := info_parts infoW
  have hb0 : Below w.heap.size w (w.alloc (.cells (cdA x) 57)) := (Below.refl _ _).alloc (Nat.le_refl _) _
  have HB0 : Hid _ := hb0
  clear hG hl hb0
  go_enter Try.func64, Try.ntmps64
  go_upto_region 2 with (go_at_call 27; refine (Encode_any x _ h1 h2).mono ?_; rintro e w1 ⟨sx, rfl, hL, hb⟩; rw [HX.out]; rw [HX.out] at hL; have HL : Hid _ := hL; have HB : Hid _ := hb; clear hL hb)
  have hB1 : Below w.heap.size w w1 := HB0.out.trans (HB.out.mono HB0.out.size)
  have hG1 := HG.out.below hB1
  have HK1 : Hid (Kx base M Q w w1) := Kx.of_below hB1 HG.out.bw
  have HG1 : Hid _ := hG1
  have HLY : Hid (layF g x = { g with l := g.l ++ ex.2 }) := show layF g x = _ by unfold layF; rw [HX.out]
  have cw : w1.cell? ⟨M, 2099, none⟩ = some (.slice sa sn sc) := hG1.mb.cell (i := 2099) (by omega)
  have fw : w1.frozen? ⟨M, 2099, none⟩ = false := hG1.mb.frozen 2099
  have lM := hG1.mb.lt
  have bM := hG1.bM
  clear hG1 hB1 HB0
  rcases HL.out with ⟨he, rfl⟩ | ⟨b, cp, rfl, hbb, hcp, h3, hr⟩
  · clear HL HB
    go_wp2_with (at_builtin; refine wpList_app rfl _ _ 54 rfl (.slice sa sn sc) _ (.slice sa sn sc) rfl rfl (appn base g.l.length (.slice sa sn sc) (wdL g.l) w1 HG1.out.wd) ?_)
    go_end0
    refine ⟨rfl, ⟨.slice sa sn sc, ?_⟩, HK1.out.setIn (.inl rfl) bM _ _⟩
    rw [HLY.out, he, List.append_nil]
    exact HG1.out.setM 2099 (.slice sa sn sc) g (by funext j; by_cases e : j = 2099 <;> simp [e, mk_w]) rfl rfl
  · have HM : Hid (0 < ex.2.length ∨ ex.2.length = 0) := show _ ∨ _ by omega
    rcases HM.out with hp | h0
    rotate_left
    · have he : ex.2 = [] := List.length_eq_zero_iff.1 h0
      rw [h0]
      clear HL HB hr
      go_wp2_with (at_builtin; refine wpList_app rfl _ _ 54 rfl (.slice sa sn sc) (.slice (some ⟨b, 0, none⟩) 0 cp) (.slice sa sn sc) rfl rfl ?_ ?_; (focus (exact appz base g.l.length (.slice sa sn sc) (wdL g.l) _ _ w1 HG1.out.wd)))
      go_end0
      refine ⟨rfl, ⟨.slice sa sn sc, ?_⟩, HK1.out.setIn (.inl rfl) bM _ _⟩
      rw [HLY.out, he, List.append_nil]
      exact HG1.out.setM 2099 (.slice sa sn sc) g (by funext j; by_cases e : j = 2099 <;> simp [e, mk_w]) rfl rfl
    · have HNW : Hid (∀ j u, (wdL ex.2)[j]? = some u → w1.cell? ((⟨b, 0, none⟩ : Addr).add j) = some u) := show ∀ j u, _ from fun j u hu => by
        obtain ⟨hj, rfl⟩ := wdL_at hu
        rw [Addr.add_mid]; exact hr.cell j hj
      have H63 : Hid (g.l.length + ex.2.length ≤ maxLen) := show _ ≤ maxLen by unfold maxLen; have := HLL.out; omega
      have HBY : Hid ((g.l.length + ex.2.length) * 4 ≤ 140737488355328) := show _ ≤ _ by have := HLL.out; omega
      have HP : Hid (0 < ex.2.length) := hp
      have HLE : Hid ((wdL ex.2).length = ex.2.length * 1) := show _ = _ by rw [wdL_len]; omega
      clear hr hp HL HB hbb hcp h3
      go_wp2_with (at_builtin; refine wpList_append_lies _ rfl _ _ _ rfl base 22 i0 _ 1 4 Try.underlying54 hi hz0 hz1 hz2 rfl (by decide) (.slice sa sn sc) g.l.length (wdL g.l) rfl HG1.out.wd ⟨b, 0, none⟩ ex.2.length cp (wdL ex.2) rfl HLE.out HNW.out (wdL_one _) HP.out H63.out HBY.out HG1.out.bw w1.heap.size rfl ?_; intro k cap2 w2 hown hgr hgg hlt; have HOW : Hid _ := hown; have HGR : Hid _ := hgr; have HGG : Hid _ := hgg; have HMM : Hid (w2.rowIs M 122 2100 _) := HG1.out.mb.of_block (hgr.block M lM (fun e => (HG1.out.ow e.symm).1 rfl)); have d2 : w2.cell? ⟨M, 2099, none⟩ = some (.slice sa sn sc) := HMM.out.cell (i := 2099) (by omega); have df : w2.frozen? ⟨M, 2099, none⟩ = false := HMM.out.frozen 2099; have dl := HMM.out.lt; clear hown hgr hgg)
      go_end0
      have hkM : k ≠ M := fun e => by
        rcases HGG.out with h | h
        · exact (HG1.out.ow h).1 e
        · omega
      have lQ := HG1.out.pl.lt
      have hkQ : k ≠ Q := fun e => by
        rcases HGG.out with h | h
        · exact (HG1.out.ow h).2 e
        · omega
      have hbel : Below base w1 w2 := Below.grown (Below.refl base w1) HGR.out HG1.out.bw (fun k hk => (owns_blk HG1.out.wd hk).1)
      have hK2 : Kx base M Q w1 w2 := ⟨hbel, fun i A T e1 e2 e3 e4 => (HGR.out.block i (row_lt e1) (fun e => by obtain ⟨-, cur, hh⟩ := owns_blk HG1.out.wd e.symm; rw [hh] at e1; cases e1; exact e4 rfl)).trans e1, HGR.out.size⟩
      refine ⟨rfl, ⟨.slice (some ⟨k, 0, none⟩) (g.l.length + ex.2.length) cap2, ?_⟩, (HK1.out.trans hK2).setIn (.inl rfl) bM _ _⟩
      rw [HLY.out]
      refine ⟨(HMM.out.set 2099 _).congr (fun j hj => mk_wv _ _ (.slice sa sn sc) _ regs g _ _ j hj rfl), ?_, (HG1.out.pl.of_block (HGR.out.block Q lQ (fun e => (HG1.out.ow e.symm).2 rfl))).setOther (fun e => HG1.out.ne e.symm) _, ops_bel HG1.out.ops (hbel.setCell bM _) HG1.out.ob, HG1.out.ob, bM, HG1.out.bQ, by simpa using Nat.le_trans HG1.out.bw HGR.out.size⟩
      show World.ownsRow _ base 22 1 _ (g.l ++ ex.2).length (wdL (g.l ++ ex.2))
      rw [← wdL_app, List.length_append]
      exact owns_keep HOW.out (fun g' hg' => by cases hg'; exact blk_other hkM _)
end Go.Proofs.Ytocefkpnlgfebab.Ho
namespace Go.Proofs.Ytocefkpnlgfebab.Ho
open Go.RowKit
set_option maxRecDepth 100000
set_option linter.unusedVariables false
set_option linter.unusedSimpArgs false

def findR (g : G) (v : Nat) : Nat → Nat → Option Nat
  | 0, _ => none
  | m + 1, r => if g.hf r = true ∧ g.hv r = v then some r else findR g v m (r + 1)
set_option maxHeartbeats 1000000 in
theorem find_any (base M Q n : Nat) (bp : Option Addr) (cap pcap regs : Nat) (f : Nat → OpR) (g : G) (sv : Value) (v : Nat) (w : World) (hG : GW w base M Q n bp cap pcap regs f g sv) (hr : regs ≤ 16) :
    Calls Try.prog 128 #[.pointer (some ⟨M, 0, none⟩), .int .i64 v] w fun e w' => e = .returned (.tuple #[.int .i64 ((findR g v regs 0).getD 0 : Nat), .bool (findR g v regs 0).isSome]) ∧ w = w' := by
  obtain ⟨E, HE⟩ : ∃ E, Hid (findR g v regs 0 = E) := ⟨_, rfl⟩
  have HG : Hid _ := hG
  have c2 : w.cell? ⟨M, 2, none⟩ = some (.int .i64 regs) := hG.mb.cell (i := 2) (by omega)
  have lM := hG.mb.lt
  have r16 : (regs : Int) ≤ 16 := by omega
  have HR : Hid (regs ≤ 16) := hr
  rw [HE.out]
  clear hG hr
  go_enter Try.func128, Try.ntmps128
  go_wp2
  go_loopw [11] (fun i wr => ∃ j : Nat, i = .int .i64 j ∧ j ≤ regs ∧ findR g v (regs - j) j = E ∧ wr = w) (fun i _ => regs - (intOf i).toNat)
  case atStart => exact ⟨0, rfl, by omega, HE.out, rfl⟩
  case round =>
    obtain ⟨j, rfl, hj, hsc, rfl⟩ := hrel
    have HSC : Hid _ := hsc
    clear hsc
    by_cases hlt : j < regs
    · have hji : (j : Int) < (regs : Int) := by omega
      have j16 : (j : Int) < 16 := by omega
      have dj : decide ((j : Int) < (regs : Int)) = true := decide_eq_true hji
      have j0 : (0 : Int) ≤ (j : Int) := by omega
      have hR := HR.out
      have m0 := HG.out.mb.cell (i := 3 + j * 2) (by omega)
      rw [mk_hf _ _ _ _ _ _ (by omega)] at m0
      have m1 := HG.out.mb.cell (i := 3 + j * 2 + 1) (by omega)
      rw [mk_hv _ _ _ _ _ _ (by omega)] at m1
      have HST : Hid (findR g v ((regs - (j + 1)) + 1) j = E) := (show regs - j = (regs - (j + 1)) + 1 by omega) ▸ HSC.out
      have HLT : Hid _ := hlt
      clear hlt hR
      by_cases hf : g.hf j = true
      · rw [hf] at m0
        by_cases hv : g.hv j = v
        · have hv' : (g.hv j : Int) = (v : Int) := by omega
          have HN : Hid (E = some j) := by
            show _ = _
            have := HST.out
            simp only [findR, hf, hv, and_self, if_true] at this
            exact this.symm
          rw [hv] at m1
          clear hv' hv hf
          go_wp2
          all_goals first | (exfalso; omega) | skip
          go_ret2
          exact ⟨by rw [HN.out]; rfl, rfl⟩
        · have hv' : ¬ (g.hv j : Int) = (v : Int) := by omega
          have HN : Hid (findR g v (regs - (j + 1)) (j + 1) = E) := by
            show _ = _
            have := HST.out
            simp only [findR, hf, hv, and_false, if_false] at this
            exact this
          clear hf
          go_wp2
          all_goals first | (exfalso; omega) | skip
          go_round
          case rel => exact ⟨j + 1, by go_num, HLT.out, HN.out, by first | rfl | trivial⟩
          case measure => have := HLT.out; simp [intOf]; omega
      · have hf' : g.hf j = false := by simpa using hf
        rw [hf'] at m0
        have HN : Hid (findR g v (regs - (j + 1)) (j + 1) = E) := by
          show _ = _
          have := HST.out
          simp only [findR, hf', Bool.false_eq_true, false_and, if_false] at this
          exact this
        clear hf hf'
        go_wp2
        go_round
        case rel => exact ⟨j + 1, by go_num, HLT.out, HN.out, by first | rfl | trivial⟩
        case measure => have := HLT.out; simp [intOf]; omega
    · obtain rfl : j = regs := by omega
      have dj : decide ((j : Int) < (j : Int)) = false := decide_eq_false (by omega)
      have HN : Hid (E = none) := by
        show _ = _
        have := HSC.out
        rw [Nat.sub_self] at this
        exact this.symm
      clear HSC hlt
      go_wp2
      go_ret2
      exact ⟨by rw [HN.out]; rfl, rfl⟩
def saveX (g : G) (r : Nat) : Cd := ⟨9, 0, r, 0, 0, g.hv r, 0, 0⟩
def saveF (g : G) (r : Nat) : G := if g.sv (g.hv r) = false ∧ (g.P (g.hv r)).lazy = false then { layF g (saveX g r) with sv := upd g.sv (g.hv r) true } else g
set_option maxHeartbeats 1000000 in
theorem save_any (base M Q n : Nat) (bp : Option Addr) (cap pcap regs : Nat) (f : Nat → OpR) (g : G) (sv : Value) (r : Nat) (w : World) (hG : GW w base M Q n bp cap pcap regs f g sv) (hr : r < 16) (hv : g.hv r < n) (hn : n ≤ 2048) (hl : g.l.length ≤ 100000) :
    Calls Try.prog 141 #[.pointer (some ⟨M, 0, none⟩), .int .i64 r] w fun e w' => e = .returned (.tuple #[]) ∧ (∃ sv', GW w' base M Q n bp cap pcap regs f (saveF g r) sv') ∧ Kx base M Q w w' := by
  obtain ⟨v, HV⟩ : ∃ v, Hid (g.hv r = v) := ⟨_, rfl⟩
  have hvn : v < n := HV.out ▸ hv
  have m1 := hG.mb.cell (i := 3 + r * 2 + 1) (by omega)
  rw [mk_hv _ _ _ _ _ _ hr, HV.out] at m1
  have m2 := hG.mb.cell (i := 51 + v) (by omega)
  rw [mk_s _ _ _ _ _ _ (by omega)] at m2
  have m3 : w.cell? ⟨M, 1, none⟩ = some (.slice (some ⟨Q, 0, none⟩) n pcap) := hG.mb.cell (i := 1) (by omega)
  have m4 := hG.pl.cell (i := v * 8 + 7) (by omega)
  rw [pl_at _ _ _ (by omega)] at m4
  have m4' : w.cell? ⟨Q, v * 8 + 7, none⟩ = some (.bool (g.P v).lazy) := m4
  have lM := hG.mb.lt
  have lQ := hG.pl.lt
  have r0 : (0 : Int) ≤ (r : Int) := by omega
  have r1 : (r : Int) < 16 := by omega
  have v0 : (0 : Int) ≤ (v : Int) := by omega
  have v1 : (v : Int) < (n : Int) := by omega
  have v2 : (v : Int) < 2048 := by omega
  have HSX : Hid (saveX g r = ⟨9, 0, r, 0, 0, v, 0, 0⟩) := show saveX g r = _ by unfold saveX; rw [HV.out]
  have HG : Hid _ := hG
  have HL : Hid (g.l.length ≤ 100000) := hl
  have HVN : Hid (v < 2048) := show v < 2048 by omega
  clear m4 hG hv hvn hn hl hr
  by_cases h1 : g.sv v = true
  · have HE : Hid (saveF g r = g) := show saveF g r = g by unfold saveF; rw [HV.out]; exact if_neg (fun h => by rw [h1] at h; exact absurd h.1 (by decide))
    rw [h1] at m2
    rw [HE.out]
    clear h1
    go_enter Try.func141, Try.ntmps141
    go_wp2
    go_end0
    exact ⟨rfl, ⟨sv, HG.out⟩, Kx.refl _ _ _ _⟩
  have h1 : g.sv v = false := by simpa using h1
  by_cases h2 : (g.P v).lazy = true
  · have HE : Hid (saveF g r = g) := show saveF g r = g by unfold saveF; rw [HV.out]; exact if_neg (fun h => by rw [h2] at h; exact absurd h.2 (by decide))
    rw [h1] at m2
    rw [h2] at m4'
    rw [HE.out]
    clear h1 h2
    go_enter Try.func141, Try.ntmps141
    go_wp2
    go_end0
    exact ⟨rfl, ⟨sv, HG.out⟩, Kx.refl _ _ _ _⟩
  have h2 : (g.P v).lazy = false := by simpa using h2
  have HE : Hid (saveF g r = { layF g (saveX g r) with sv := upd g.sv v true }) := show saveF g r = _ by unfold saveF; rw [HV.out]; exact if_pos ⟨h1, h2⟩
  rw [h1] at m2
  rw [h2] at m4'
  rw [HE.out, HSX.out]
  clear h1 h2
  go_enter Try.func141, Try.ntmps141
  go_wp2_with (go_at_call 64; refine (glay base M Q n bp cap pcap regs f g sv ⟨9, 0, r, 0, 0, v, 0, 0⟩ _ HG.out (Nat.zero_lt_succ _) (Nat.zero_lt_succ _) HL.out).mono ?_; rintro e w1 ⟨rfl, ⟨sv1, hG1⟩, hK1⟩; have HG1 : Hid _ := hG1; have HK1 : Hid _ := hK1; have q2 := hG1.mb.cell (i := 51 + v) (by have := HVN.out; omega); rw [mk_s _ _ _ _ _ _ HVN.out] at q2; have q3 := hG1.mb.frozen (51 + v); have q4 := hG1.mb.lt; clear hG1 hK1)
  go_end0
  exact ⟨rfl, ⟨sv1, HG1.out.setM (51 + v) (.bool true) _ (mk_sv _ _ _ _ _ v true HVN.out) rfl rfl⟩, HK1.out.setIn (.inl rfl) HG1.out.bM _ _⟩
end Go.Proofs.Ytocefkpnlgfebab.Ho
namespace Go.Proofs.Ytocefkpnlgfebab.Ho
open Go.RowKit
set_option maxRecDepth 100000
set_option linter.unusedVariables false
set_option linter.unusedSimpArgs false

def roomR (g : G) : Nat → Nat → Nat → Nat → Nat × Bool
  | 0, _, best, _ => (best, false)
  | m + 1, r, best, far => if g.bz r = true then roomR g m (r + 1) best far else if g.hf r = false then (r, true) else if far < (g.P (g.hv r)).next then roomR g m (r + 1) r (g.P (g.hv r)).next else roomR g m (r + 1) best far
def roomN (g : G) (regs : Nat) : Nat := (roomR g regs 0 0 0).1
def roomG (g : G) (regs : Nat) : G := if (roomR g regs 0 0 0).2 = true then g else saveF g (roomN g regs)
theorem roomR_lt (g : G) (regs : Nat) : ∀ m r best far, r + m = regs → best < regs → (roomR g m r best far).1 < regs
  | 0, _, best, _, _, h => h
  | m + 1, r, best, far, h, hb => by
    unfold roomR
    split
    · exact roomR_lt g regs m (r + 1) best far (by omega) hb
    · split
      · show r < regs; omega
      · split
        · exact roomR_lt g regs m (r + 1) r _ (by omega) (by omega)
        · exact roomR_lt g regs m (r + 1) best far (by omega) hb
theorem roomN_lt (g : G) (regs : Nat) (h : 0 < regs) : roomN g regs < regs := roomR_lt g regs regs 0 0 0 (by omega) h
theorem drewN_below (w : World) (k : Nat) : Below w.heap.size w (w.drewN k) := ⟨rfl, rfl, rfl, Nat.le_refl _, fun _ _ => rfl⟩
set_option maxHeartbeats 2000000 in
theorem room_any (base M Q n : Nat) (bp : Option Addr) (cap pcap regs : Nat) (f : Nat → OpR) (g : G) (sv : Value) (w : World) (hG : GW w base M Q n bp cap pcap regs f g sv) (h0 : 0 < regs) (hr : regs ≤ 16) (hv : ∀ r, r < 16 → g.hv r < n) (hn : n ≤ 2048) (hl : g.l.length ≤ 100000) :
    Calls Try.prog 129 #[.pointer (some ⟨M, 0, none⟩)] w fun e w' => e = .returned (.int .i64 (roomN g regs)) ∧ (∃ sv', GW w' base M Q n bp cap pcap regs f (roomG g regs) sv') ∧ Kx base M Q w w' := by
  obtain ⟨E, HE⟩ : ∃ E, Hid (roomR g regs 0 0 0 = E) := ⟨_, rfl⟩
  have HN0 : Hid (roomN g regs = E.1) := show roomN g regs = E.1 by unfold roomN; rw [HE.out]
  have HN1 : Hid (roomG g regs = if E.2 = true then g else saveF g E.1) := show roomG g regs = _ by unfold roomG; rw [HN0.out, HE.out]
  have HG : Hid _ := hG
  have c2 : w.cell? ⟨M, 2, none⟩ = some (.int .i64 regs) := hG.mb.cell (i := 2) (by omega)
  have lM := hG.mb.lt
  have r16 : (regs : Int) ≤ 16 := by omega
  have HR : Hid (regs ≤ 16) := hr
  have HR0 : Hid (0 < regs) := h0
  have HV : Hid _ := hv
  have HNN : Hid (n ≤ 2048) := hn
  have HL : Hid (g.l.length ≤ 100000) := hl
  clear hG hr h0 hv hn hl
  go_enter Try.func129, Try.ntmps129
  go_wp2
  go_loopw [11, 3, 4] (fun i bi fi wr => ∃ j best far : Nat, i = .int .i64 j ∧ bi = .int .i64 best ∧ fi = .int .i64 far ∧ best < regs ∧ j ≤ regs ∧ roomR g (regs - j) j best far = E ∧ Below w.heap.size w wr) (fun i _ _ _ => regs - (intOf i).toNat)
  case atStart => exact ⟨0, 0, 0, rfl, rfl, rfl, HR0.out, by omega, HE.out, Below.refl _ _⟩
  case round =>
    obtain ⟨j, best, far, rfl, rfl, rfl, hbl, hj, hsc, hbel⟩ := hrel
    have HSC : Hid _ := hsc
    have HBL : Hid _ := hbl
    have HBE : Hid _ := hbel
    have hG := HG.out.below hbel
    have lM' := hG.mb.lt
    have lQ' := hG.pl.lt
    have HGr : Hid _ := hG
    clear hsc hbl hbel
    by_cases hlt : j < regs
    · have hji : (j : Int) < (regs : Int) := by omega
      have j16 : (j : Int) < 16 := by have := HR.out; omega
      have dj : decide ((j : Int) < (regs : Int)) = true := decide_eq_true hji
      have j0 : (0 : Int) ≤ (j : Int) := by omega
      have hR := HR.out
      have HLT : Hid _ := hlt
      have m0 := hG.mb.cell (i := 3 + j * 2) (by omega)
      rw [mk_hf _ _ _ _ _ _ (by omega)] at m0
      have m1 := hG.mb.cell (i := 3 + j * 2 + 1) (by omega)
      rw [mk_hv _ _ _ _ _ _ (by omega)] at m1
      have m2 := hG.mb.cell (i := 35 + j) (by omega)
      rw [mk_b _ _ _ _ _ _ (by omega)] at m2
      have m3 : wr.cell? ⟨M, 1, none⟩ = some (.slice (some ⟨Q, 0, none⟩) n pcap) := hG.mb.cell (i := 1) (by omega)
      have HST : Hid (roomR g ((regs - (j + 1)) + 1) j best far = E) := (show regs - j = (regs - (j + 1)) + 1 by omega) ▸ HSC.out
      obtain ⟨v, HVV⟩ : ∃ v, Hid (g.hv j = v) := ⟨_, rfl⟩
      have hvn : v < n := HVV.out ▸ HV.out j (by omega)
      rw [HVV.out] at m1
      have v0 : (0 : Int) ≤ (v : Int) := by omega
      have v1 : (v : Int) < (n : Int) := by omega
      have m4 := hG.pl.cell (i := v * 8 + 5) (by omega)
      rw [pl_at _ _ _ (by omega)] at m4
      have m5 : wr.cell? ⟨Q, v * 8 + 5, none⟩ = some (.int .i64 ((g.P v).next : Nat)) := m4
      clear hlt hR m4 hG hvn
      by_cases hb : g.bz j = true
      · have HN : Hid (roomR g (regs - (j + 1)) (j + 1) best far = E) := by
          show _ = _
          have := HST.out
          simp only [roomR, hb, if_true] at this
          exact this
        rw [hb] at m2
        clear hb
        go_wp2
        go_round
        case rel => exact ⟨j + 1, best, far, by go_num, rfl, rfl, HBL.out, HLT.out, HN.out, HBE.out⟩
        case measure => have := HLT.out; simp [intOf]; omega
      have hb : g.bz j = false := by simpa using hb
      rw [hb] at m2
      by_cases hf : g.hf j = false
      · have HN : Hid (E = (j, true)) := by
          show _ = _
          have := HST.out
          simp only [roomR, hb, hf, Bool.false_eq_true, if_false, if_true] at this
          exact this.symm
        rw [hf] at m0
        clear hb hf
        go_wp2
        go_ret
        exact ⟨by rw [HN0.out, HN.out]; rfl, ⟨sv, by rw [HN1.out, HN.out]; exact HGr.out⟩, Kx.of_below HBE.out HG.out.bw⟩
      have hf : g.hf j = true := by simpa using hf
      rw [hf] at m0
      obtain ⟨nx, HNX⟩ : ∃ nx, Hid ((g.P v).next = nx) := ⟨_, rfl⟩
      rw [HNX.out] at m5
      by_cases hx : far < nx
      · have dx : decide ((far : Int) < (nx : Int)) = true := decide_eq_true (by omega)
        have HN : Hid (roomR g (regs - (j + 1)) (j + 1) j nx = E) := by
          show _ = _
          have := HST.out
          simp only [roomR, hb, hf, Bool.false_eq_true, reduceCtorEq, if_false, HVV.out, HNX.out, if_pos hx] at this
          exact this
        clear hb hf
        go_upto_region 8 with fail
        go_quiet (fail)
        go_wp2
        all_goals first | (exfalso; omega) | skip
        go_roundw
        case rel => exact ⟨j + 1, j, nx, by go_num, rfl, rfl, HLT.out, HLT.out, HN.out, HBE.out.trans (Below.mono (drewN_below _ _) HBE.out.size)⟩
        case measure => have := HLT.out; simp [intOf]; omega
      · have dx : decide ((far : Int) < (nx : Int)) = false := decide_eq_false (by omega)
        have HN : Hid (roomR g (regs - (j + 1)) (j + 1) best far = E) := by
          show _ = _
          have := HST.out
          simp only [roomR, hb, hf, Bool.false_eq_true, reduceCtorEq, if_false, HVV.out, HNX.out, if_neg hx] at this
          exact this
        clear hb hf
        go_upto_region 8 with fail
        go_quiet (fail)
        go_wp2
        all_goals first | (exfalso; omega) | skip
        go_roundw
        case rel => exact ⟨j + 1, best, far, by go_num, rfl, rfl, HBL.out, HLT.out, HN.out, HBE.out.trans (Below.mono (drewN_below _ _) HBE.out.size)⟩
        case measure => have := HLT.out; simp [intOf]; omega
    · obtain rfl : j = regs := by omega
      have dj : decide ((j : Int) < (j : Int)) = false := decide_eq_false (by omega)
      have HN : Hid (E = (best, false)) := by
        show _ = _
        have := HSC.out
        rw [Nat.sub_self] at this
        exact this.symm
      clear HSC hlt hG
      go_wp2_with (go_at_call 141; refine (save_any base M Q n bp cap pcap j f g sv best _ HGr.out (Nat.lt_of_lt_of_le HBL.out HR.out) (HV.out best (Nat.lt_of_lt_of_le HBL.out HR.out)) HNN.out HL.out).mono ?_; rintro e w1 ⟨rfl, hG1, hK1⟩; have HG1 : Hid _ := hG1; have HK1 : Hid _ := hK1; clear hG1 hK1)
      go_ret
      exact ⟨by rw [HN0.out, HN.out]; rfl, by rw [HN1.out, HN.out]; exact HG1.out, (Kx.of_below HBE.out HG.out.bw).trans HK1.out⟩
end Go.Proofs.Ytocefkpnlgfebab.Ho
