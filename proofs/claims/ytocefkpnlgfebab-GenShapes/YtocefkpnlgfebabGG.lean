import Derived.Test.YtocefkpnlgfebabGF
import Derived.Lib.SliceRun
namespace Go.Proofs.Ytocefkpnlgfebab.Ho
open Go.RowKit
set_option maxRecDepth 100000
set_option linter.unusedVariables false
set_option linter.unusedSimpArgs false

def giveG (g : G) (regs i : Nat) : G := inReg (roomG g regs) (roomN g regs) i ((g.P i).next != 0)
set_option maxHeartbeats 2000000 in
theorem give_any (base M Q n : Nat) (bp : Option Addr) (cap pcap regs : Nat) (f : Nat → OpR) (g : G) (sv : Value) (i : Nat) (w : World) (hG : GW w base M Q n bp cap pcap regs f g sv) (h0 : 0 < regs) (hr : regs ≤ 16) (hv : ∀ r, r < 16 → g.hv r < n) (hi : i < n) (hn : n ≤ 2048) (hl : g.l.length ≤ 100000) :
    Calls Try.prog 106 #[.pointer (some ⟨M, 0, none⟩), .int .i64 i] w fun e w' => e = .returned (.int .i64 (roomN g regs)) ∧ (∃ sv', GW w' base M Q n bp cap pcap regs f (giveG g regs i) sv') ∧ Kx base M Q w w' := by
  have hrl := roomN_lt g regs h0
  obtain ⟨r, HRN⟩ : ∃ r, Hid (roomN g regs = r) := ⟨_, rfl⟩
  obtain ⟨g1, HG1N⟩ : ∃ g1, Hid (roomG g regs = g1) := ⟨_, rfl⟩
  rw [HRN.out] at hrl
  have e4 := (roomG_keep g regs).2.2.2.1
  rw [HG1N.out] at e4
  obtain ⟨nx, HNX⟩ : ∃ nx, Hid ((g1.P i).next = nx) := ⟨_, rfl⟩
  obtain ⟨bn, hbn⟩ : ∃ bn, ((nx : Int) != 0) = bn := ⟨_, rfl⟩
  have HGV : Hid (giveG g regs i = inReg g1 r i bn) := show giveG g regs i = _ by
    unfold giveG; rw [HRN.out, HG1N.out, ← e4, HNX.out, ← hbn]
    congr 1
    by_cases h : nx = 0
    · subst h; rfl
    · have : ((nx : Int) != 0) = true := by simp; omega
      rw [this]; simpa using h
  have HG : Hid _ := hG
  have HR : Hid (regs ≤ 16) := hr
  have HR0 : Hid (0 < regs) := h0
  have HV : Hid _ := hv
  have HNN : Hid (n ≤ 2048) := hn
  have HL : Hid (g.l.length ≤ 100000) := hl
  have HR2 : Hid (r < 16) := show r < 16 by omega
  have HIN : Hid (i < n) := hi
  have r0 : (0 : Int) ≤ (r : Int) := by omega
  have r1 : (r : Int) < 16 := by omega
  have v0 : (0 : Int) ≤ (i : Int) := by omega
  have v1 : (i : Int) < (n : Int) := by omega
  clear hG hr h0 hv hn hl hrl hi e4
  rw [HRN.out, HGV.out]
  go_enter Try.func106, Try.ntmps106
  go_upto_region 2 with (go_at_call 129; refine (room_any base M Q n bp cap pcap regs f g sv _ HG.out HR0.out HR.out HV.out HNN.out HL.out).mono ?_; rintro e w1 ⟨rfl, ⟨sv1, hG1⟩, hK1⟩; rw [HRN.out]; rw [HG1N.out] at hG1; have HG1 : Hid _ := hG1; have HK1 : Hid _ := hK1; clear hG1 hK1)
  have m3 : w1.cell? ⟨M, 1, none⟩ = some (.slice (some ⟨Q, 0, none⟩) n pcap) := HG1.out.mb.cell (i := 1) (by omega)
  have m4 := HG1.out.pl.cell (i := i * 8 + 5) (by have := HIN.out; omega)
  rw [pl_at _ _ _ (by omega)] at m4
  have m4' : w1.cell? ⟨Q, i * 8 + 5, none⟩ = some (.int .i64 (nx : Nat)) := m4.trans (by show some (Value.int .i64 ((g1.P i).next : Nat)) = _; rw [HNX.out])
  have p0 := HG1.out.mb.cell (i := 3 + r * 2) (by have := HR2.out; omega)
  have p1 := HG1.out.mb.cell (i := 3 + r * 2 + 1) (by have := HR2.out; omega)
  have p3 := HG1.out.mb.frozen (3 + r * 2)
  have p4 := HG1.out.mb.frozen (3 + r * 2 + 1)
  have lM := HG1.out.mb.lt
  have lQ := HG1.out.pl.lt
  have nMQ := HG1.out.ne
  clear m4
  go_region
  all_goals go_wp2
  all_goals go_ret
  all_goals exact ⟨rfl, ⟨sv1, (HG1.out.setReg r i bn HR2.out).below ((Below.refl _ _).drew)⟩, ((HK1.out.setIn (.inl rfl) HG1.out.bM _ _).setIn (.inl rfl) HG1.out.bM _ _).trans (Kx.of_below ((Below.refl _ _).drew) (by have := HG1.out.bw; simpa using this))⟩
/-- Registers whose value nobody asks for are empty: those below j. -/
def relB (g : G) (r : Nat) : Bool := g.bz r && ((g.P (g.hv r)).next == 0)
def relG (g : G) (j : Nat) : G := { g with hf := fun r => if r < j ∧ relB g r = true then false else g.hf r, hv := fun r => if r < j ∧ relB g r = true then 0 else g.hv r }
def relF (g : G) : G := { relG g 16 with bz := fun _ => false }
theorem relG_zero (g : G) : relG g 0 = g := by
  unfold relG
  have h1 : (fun r => if r < 0 ∧ relB g r = true then false else g.hf r) = g.hf := by funext r; rw [if_neg (by omega)]
  have h2 : (fun r => if r < 0 ∧ relB g r = true then 0 else g.hv r) = g.hv := by funext r; rw [if_neg (by omega)]
  rw [h1, h2]
theorem relG_no (g : G) (j : Nat) (h : relB g j = false) : relG g (j + 1) = relG g j := by
  unfold relG
  have e : ∀ r, (r < j + 1 ∧ relB g r = true) ↔ (r < j ∧ relB g r = true) := fun r => by
    constructor
    · rintro ⟨a, b⟩
      refine ⟨?_, b⟩
      by_cases e : r = j
      · subst e; rw [h] at b; cases b
      · omega
    · rintro ⟨a, b⟩; exact ⟨by omega, b⟩
  simp only [e]
theorem relG_yes (g : G) (j : Nat) (h : relB g j = true) : relG g (j + 1) = inReg (relG g j) j 0 false := by
  unfold relG inReg
  have h1 : (fun r => if r < j + 1 ∧ relB g r = true then false else g.hf r) = upd (fun r => if r < j ∧ relB g r = true then false else g.hf r) j false := by
    funext r; unfold upd
    by_cases e : r = j
    · subst e; rw [if_pos rfl, if_pos ⟨by omega, h⟩]
    · rw [if_neg e]
      show (if r < j + 1 ∧ relB g r = true then _ else _) = (if r < j ∧ relB g r = true then _ else _)
      by_cases e2 : r < j ∧ relB g r = true
      · rw [if_pos e2, if_pos ⟨by omega, e2.2⟩]
      · rw [if_neg e2, if_neg (fun k => e2 ⟨by omega, k.2⟩)]
  have h2 : (fun r => if r < j + 1 ∧ relB g r = true then 0 else g.hv r) = upd (fun r => if r < j ∧ relB g r = true then 0 else g.hv r) j 0 := by
    funext r; unfold upd
    by_cases e : r = j
    · subst e; rw [if_pos rfl, if_pos ⟨by omega, h⟩]
    · rw [if_neg e]
      show (if r < j + 1 ∧ relB g r = true then _ else _) = (if r < j ∧ relB g r = true then _ else _)
      by_cases e2 : r < j ∧ relB g r = true
      · rw [if_pos e2, if_pos ⟨by omega, e2.2⟩]
      · rw [if_neg e2, if_neg (fun k => e2 ⟨by omega, k.2⟩)]
  rw [h1, h2]
theorem row_clear {b t n : Nat} (z : Value) : ∀ (m o : Nat) (w : World) (f : Nat → Value), w.rowIs b t n f → (w.setCells b o (List.replicate m z)).rowIs b t n (fun j => if o ≤ j ∧ j < o + m then z else f j)
  | 0, o, w, f, h => h.congr (fun i hi => by rw [if_neg (by omega)])
  | m + 1, o, w, f, h => by
    have := row_clear z m (o + 1) _ _ (h.set o z)
    refine this.congr (fun i hi => ?_)
    by_cases e : i = o
    · subst e; rw [if_neg (by omega), if_pos rfl, if_pos (by omega)]
    · by_cases e2 : o + 1 ≤ i ∧ i < o + 1 + m
      · rw [if_pos e2, if_pos (by omega)]
      · rw [if_neg e2, if_neg e, if_neg (by omega)]
theorem setCells_other {i b : Nat} (h : i ≠ b) : ∀ (vs : List Value) (o : Nat) (w : World), (w.setCells b o vs).heap[i]? = w.heap[i]?
  | [], _, _ => rfl
  | v :: vs, o, w => (setCells_other h vs (o + 1) _).trans (blk_other h v)
theorem setCells_bel {n b : Nat} (h : n ≤ b) : ∀ (vs : List Value) (o : Nat) (w w' : World), Below n w w' → Below n w (w'.setCells b o vs)
  | [], _, _, _, k => k
  | v :: vs, o, w, w', k => setCells_bel h vs (o + 1) w _ (k.setCell h v)
theorem setCells_size {b : Nat} : ∀ (vs : List Value) (o : Nat) (w : World), (w.setCells b o vs).heap.size = w.heap.size
  | [], _, _ => rfl
  | v :: vs, o, w => (setCells_size vs (o + 1) _).trans (by simp)
theorem mk_clear (ov pv wv : Value) (regs : Nat) (g : G) : (fun j => if 35 ≤ j ∧ j < 35 + 16 then .bool false else mkF ov pv wv regs g j) = mkF ov pv wv regs { g with bz := fun _ => false } := by
  funext o
  unfold mkF
  by_cases h3 : o < 35
  · rw [if_neg (by omega)]; simp only [if_pos h3]
  by_cases h4 : o < 51
  · rw [if_pos (by omega), if_neg (by omega), if_neg (by omega), if_neg (by omega), if_neg h3, if_pos h4]
  · rw [if_neg (by omega)]; simp only [if_neg h3, if_neg h4]
structure ClrPre (w : World) (b off n : Nat) : Prop where
  hc : ∀ j, j < n → (w.cell? ⟨b, off + j, none⟩).isSome = true
  hf : ∀ j, j < n → w.frozen? ⟨b, off + j, none⟩ = false
theorem wpList_clear {P : Program} {w : World} {ops : Array Oper} {rest : List Oper} {o : Oper} {a : Act} {Q : Exit → Act → World → Prop} (hgd : o.guard = none) (hd : o.dst = none) (x : Operand) (t : TypeId)
    (ho : o.op = .call { callee := .builtin .clear, args := #[x], argTypes := #[t] }) (e : TypeId) (z : Value) (ht : P.underlying t = some (.slice e)) (hv : ∀ w, (zeroValue e).run P w = .ok z w) (hz : z.cells = #[z]) (h1 : z.oneCell' = true)
    (b off n c : Nat) (hn : 0 < n) (hx : a.eval x = .slice (some ⟨b, off, none⟩) n c) (hp : ClrPre w b off n)
    (L : List Value) (hL : L = List.replicate n z) (h' : ∀ w', w' = w.setCells b off L → wpList P ops Q rest a w') : wpList P ops Q (o :: rest) a w := by
  have h := h' _ rfl
  clear h'
  subst hL
  refine wpList_plain hgd fun K hK => ?_
  have hrun := Go.Lib.run_clear_slice (P := P) w t e o.type z ht hv hz h1 b off n c hn hp.hc hp.hf
  unfold Oper.wp
  simp only [execOp, ho, resolve, invoke, builtin, hx, Sem.run_bind, Sem.run_pure, Result.andThen_ok, List.map_toArray, List.map_cons, List.map_nil, hrun]
  have := hK _ _ h
  show K (a.put o.dst (.tuple #[])) _
  rw [hd]
  exact this
abbrev bzA (b : Nat → Bool) : Array Value := #[.bool (b 0), .bool (b 1), .bool (b 2), .bool (b 3), .bool (b 4), .bool (b 5), .bool (b 6), .bool (b 7), .bool (b 8), .bool (b 9), .bool (b 10), .bool (b 11), .bool (b 12), .bool (b 13), .bool (b 14), .bool (b 15)]
theorem ix16 (b : Nat → Bool) (j : Nat) (hj : j < 16) (w : World) : (Instr.index 119 (.agg (bzA b)) (.int .i64 j)).run Try.prog w = .ok (.bool (b j)) w := by
  match j, hj with
  | 0, _ | 1, _ | 2, _ | 3, _ | 4, _ | 5, _ | 6, _ | 7, _ | 8, _ | 9, _ | 10, _ | 11, _ | 12, _ | 13, _ | 14, _ | 15, _ => simp [Instr.index, Try.underlying119, go_sem, part, asAgg]
  | n + 16, h => exact absurd h (by omega)
def noB : List Value := List.replicate 16 (.bool false)
theorem GW.clear {w : World} {base M Q n : Nat} {bp : Option Addr} {cap pcap regs : Nat} {f : Nat → OpR} {g : G} {sv : Value} (h : GW w base M Q n bp cap pcap regs f g sv) : GW (w.setCells M 35 noB) base M Q n bp cap pcap regs f { g with bz := fun _ => false } sv :=
  ⟨mk_clear _ _ _ _ _ ▸ row_clear (.bool false) 16 35 _ _ h.mb, owns_keep h.wd (fun g hg => setCells_other (fun e => (h.ow hg).1 e) _ _ _), h.pl.of_block (setCells_other (fun e => h.ne e.symm) _ _ _), ops_bel h.ops (setCells_bel h.bM _ _ _ _ (Below.refl base w)) h.ob, h.ob, h.bM, h.bQ, by rw [setCells_size]; exact h.bw⟩
theorem Kx.clear {base M Q : Nat} {w w' : World} (k : Kx base M Q w w') (hb : base ≤ M) : Kx base M Q w (w'.setCells M 35 noB) :=
  ⟨setCells_bel hb _ _ _ _ k.bel, fun i A T h1 h2 h3 h4 => (setCells_other h2 _ _ _).trans (k.blk i A T h1 h2 h3 h4), by rw [setCells_size]; exact k.size⟩

set_option maxHeartbeats 4000000 in
theorem release_any (base M Q n : Nat) (bp : Option Addr) (cap pcap regs : Nat) (f : Nat → OpR) (g : G) (sv : Value) (w : World) (hG : GW w base M Q n bp cap pcap regs f g sv) (hv : ∀ r, r < 16 → g.hv r < n) :
    Calls Try.prog 105 #[.pointer (some ⟨M, 0, none⟩)] w fun e w' => e = .returned (.tuple #[]) ∧ GW w' base M Q n bp cap pcap regs f (relF g) sv ∧ Kx base M Q w w' := by
  have b0 := hG.mb.cell (i := 35 + 0) (by omega)
  rw [mk_b _ _ _ _ _ _ (by omega)] at b0
  have b1 := hG.mb.cell (i := 35 + 1) (by omega)
  rw [mk_b _ _ _ _ _ _ (by omega)] at b1
  have b2 := hG.mb.cell (i := 35 + 2) (by omega)
  rw [mk_b _ _ _ _ _ _ (by omega)] at b2
  have b3 := hG.mb.cell (i := 35 + 3) (by omega)
  rw [mk_b _ _ _ _ _ _ (by omega)] at b3
  have b4 := hG.mb.cell (i := 35 + 4) (by omega)
  rw [mk_b _ _ _ _ _ _ (by omega)] at b4
  have b5 := hG.mb.cell (i := 35 + 5) (by omega)
  rw [mk_b _ _ _ _ _ _ (by omega)] at b5
  have b6 := hG.mb.cell (i := 35 + 6) (by omega)
  rw [mk_b _ _ _ _ _ _ (by omega)] at b6
  have b7 := hG.mb.cell (i := 35 + 7) (by omega)
  rw [mk_b _ _ _ _ _ _ (by omega)] at b7
  have b8 := hG.mb.cell (i := 35 + 8) (by omega)
  rw [mk_b _ _ _ _ _ _ (by omega)] at b8
  have b9 := hG.mb.cell (i := 35 + 9) (by omega)
  rw [mk_b _ _ _ _ _ _ (by omega)] at b9
  have b10 := hG.mb.cell (i := 35 + 10) (by omega)
  rw [mk_b _ _ _ _ _ _ (by omega)] at b10
  have b11 := hG.mb.cell (i := 35 + 11) (by omega)
  rw [mk_b _ _ _ _ _ _ (by omega)] at b11
  have b12 := hG.mb.cell (i := 35 + 12) (by omega)
  rw [mk_b _ _ _ _ _ _ (by omega)] at b12
  have b13 := hG.mb.cell (i := 35 + 13) (by omega)
  rw [mk_b _ _ _ _ _ _ (by omega)] at b13
  have b14 := hG.mb.cell (i := 35 + 14) (by omega)
  rw [mk_b _ _ _ _ _ _ (by omega)] at b14
  have b15 := hG.mb.cell (i := 35 + 15) (by omega)
  rw [mk_b _ _ _ _ _ _ (by omega)] at b15
  have HG : Hid _ := hG
  have HV : Hid _ := hv
  have lM := hG.mb.lt
  have zb : ∀ w, (zeroValue 4).run Try.prog w = .ok (.bool false) w := fun w => by simp [go_sem]
  have HZB : Hid _ := zb
  clear hG hv zb
  go_enter Try.func105, Try.ntmps105
  go_wp2
  clear b0 b1 b2 b3 b4 b5 b6 b7 b8 b9 b10 b11 b12 b13 b14 b15
  go_loopw [8] (fun i wr => ∃ j : Nat, i = .int .i64 j ∧ j ≤ 16 ∧ GW wr base M Q n bp cap pcap regs f (relG g j) sv ∧ Kx base M Q w wr) (fun i _ => 16 - (intOf i).toNat)
  case atStart => exact ⟨0, rfl, by omega, by rw [relG_zero]; exact HG.out, Kx.refl _ _ _ _⟩
  case round =>
    obtain ⟨j, rfl, hj, hGr, hK⟩ := hrel
    have HGr : Hid _ := hGr
    have HK : Hid _ := hK
    have lM' := hGr.mb.lt
    have lQ' := hGr.pl.lt
    by_cases hlt : j < 16
    · have HLT : Hid (j < 16) := hlt
      have j16 : (j : Int) < 16 := by omega
      have j0 : (0 : Int) ≤ (j : Int) := by omega
      have dj : decide ((j : Int) < 16) = true := decide_eq_true j16
      have m0 := hGr.mb.cell (i := 3 + j * 2) (by omega)
      have f0 := hGr.mb.frozen (3 + j * 2)
      have f1 := hGr.mb.frozen (3 + j * 2 + 1)
      have m1 := hGr.mb.cell (i := 3 + j * 2 + 1) (by omega)
      rw [mk_hv _ _ _ _ _ _ hlt] at m1
      have ehv : (relG g j).hv j = g.hv j := if_neg (by omega)
      rw [ehv] at m1
      obtain ⟨v, HVV⟩ : ∃ v, Hid (g.hv j = v) := ⟨_, rfl⟩
      rw [HVV.out] at m1
      have hvn : v < n := HVV.out ▸ HV.out j hlt
      have v0 : (0 : Int) ≤ (v : Int) := by omega
      have v1 : (v : Int) < (n : Int) := by omega
      have m3 : wr.cell? ⟨M, 1, none⟩ = some (.slice (some ⟨Q, 0, none⟩) n pcap) := hGr.mb.cell (i := 1) (by omega)
      have m4 := hGr.pl.cell (i := v * 8 + 5) (by omega)
      rw [pl_at _ _ _ (by omega)] at m4
      obtain ⟨nx, HNX⟩ : ∃ nx, Hid ((g.P v).next = nx) := ⟨_, rfl⟩
      have m5 : wr.cell? ⟨Q, v * 8 + 5, none⟩ = some (.int .i64 (nx : Nat)) := m4.trans (by show some (Value.int .i64 ((g.P v).next : Nat)) = _; rw [HNX.out])
      have HRB : Hid (relB g j = (g.bz j && (nx == 0))) := show relB g j = _ by unfold relB; rw [HVV.out, HNX.out]
      obtain ⟨bj, HBJ⟩ : ∃ bj, Hid (g.bz j = bj) := ⟨_, rfl⟩
      rw [HBJ.out] at HRB
      clear m4 hGr hK hlt ehv hvn
      cases bj with
      | false =>
        have HN : Hid (relG g (j + 1) = relG g j) := relG_no g j (by rw [HRB.out]; rfl)
        go_upto_region 3 with (refine wpList_ix rfl 119 (.tmp 7) (.tmp 8) rfl _ _ (.bool false) rfl rfl (fun w => by have := ix16 g.bz j HLT.out w; rw [HBJ.out] at this; exact this) ?_)
        go_quiet (fail)
        go_wp2
        go_roundw
        case rel => exact ⟨j + 1, by go_num, HLT.out, by rw [HN.out]; exact HGr.out.below (drewN_below _ _), HK.out.next (drewN_below _ _) HG.out.bw⟩
        case measure => have := HLT.out; simp [intOf]; omega
      | true =>
        by_cases hx : nx = 0
        · subst hx
          have HN : Hid (relG g (j + 1) = inReg (relG g j) j 0 false) := relG_yes g j (by rw [HRB.out]; rfl)
          go_upto_region 3 with (refine wpList_ix rfl 119 (.tmp 7) (.tmp 8) rfl _ _ (.bool true) rfl rfl (fun w => by have := ix16 g.bz j HLT.out w; rw [HBJ.out] at this; exact this) ?_)
          go_quiet (fail)
          go_wp2
          go_roundw
          case rel => exact ⟨j + 1, by go_num, HLT.out, by rw [HN.out]; exact (HGr.out.below (drewN_below _ _)).setReg j 0 false HLT.out, ((HK.out.next (drewN_below _ _) HG.out.bw).setIn (.inl rfl) HG.out.bM _ _).setIn (.inl rfl) HG.out.bM _ _⟩
          case measure => have := HLT.out; simp [intOf]; omega
        · have dx : ((nx : Int) == 0) = false := by simp; omega
          have HN : Hid (relG g (j + 1) = relG g j) := relG_no g j (by rw [HRB.out]; simpa using hx)
          go_upto_region 3 with (refine wpList_ix rfl 119 (.tmp 7) (.tmp 8) rfl _ _ (.bool true) rfl rfl (fun w => by have := ix16 g.bz j HLT.out w; rw [HBJ.out] at this; exact this) ?_)
          go_quiet (fail)
          go_wp2
          all_goals first | (exfalso; omega) | skip
          go_roundw
          case rel => exact ⟨j + 1, by go_num, HLT.out, by rw [HN.out]; exact HGr.out.below (drewN_below _ _), HK.out.next (drewN_below _ _) HG.out.bw⟩
          case measure => have := HLT.out; simp [intOf]; omega
    · obtain rfl : j = 16 := by omega
      have HCP : Hid (ClrPre wr M 35 16) := show ClrPre wr M 35 16 from ⟨fun q hq => by rw [hGr.mb.cell (i := 35 + q) (by omega)]; rfl, fun q hq => hGr.mb.frozen _⟩
      clear hGr hK hlt
      go_wp2_with (refine wpList_clear rfl rfl (.tmp 40) 94 rfl 4 (.bool false) Try.underlying94 HZB.out rfl rfl M 35 16 16 (by decide) rfl HCP.out noB rfl ?_; intro w2 hw2; have HW2 : Hid _ := hw2; clear hw2)
      go_end0
      exact ⟨rfl, by rw [HW2.out]; exact HGr.out.clear, by rw [HW2.out]; exact HK.out.clear HG.out.bM⟩
end Go.Proofs.Ytocefkpnlgfebab.Ho
namespace Go.Proofs.Ytocefkpnlgfebab.Ho
open Go.RowKit
set_option maxRecDepth 100000
set_option linter.unusedVariables false
set_option linter.unusedSimpArgs false

def argI (o : OpR) : Nat → Int
  | 0 => o.a
  | 1 => o.b
  | _ => o.c
def tkv (o : OpR) (j : Nat) : Nat := (argI o j).toNat
def aft (p : PL) : Nat → Nat
  | 0 => p.a0
  | 1 => p.a1
  | _ => p.a2
def setNext (g : G) (v x : Nat) : G := { g with P := upd g.P v { g.P v with next := x } }
/-- Behind the first j of the values that the operation i takes; and their registers. -/
def tkG (f : Nat → OpR) (regs i : Nat) (g : G) : Nat → G
  | 0 => g
  | j + 1 => setNext (bringG f (tkG f regs i g j) regs (tkv (f i) j)) (tkv (f i) j) (aft ((bringG f (tkG f regs i g j) regs (tkv (f i) j)).P i) j)
def tkρ (f : Nat → OpR) (regs i : Nat) (g : G) : Nat → Nat → Nat
  | 0 => fun _ => 0
  | j + 1 => upd (tkρ f regs i g j) j (bringN (tkG f regs i g j) regs (tkv (f i) j))
def opX (o : OpR) (ρ : Nat → Nat) : Cd := if o.kind = 10 then { cdF o with a := ρ 0, b := 0, c := ρ 2, d := ρ 1 } else { cdF o with a := ρ 0, b := ρ 1, c := ρ 2 }
def endG (regs i : Nat) (g : G) (X : Cd) : G := if (g.P i).gives = true then layF (giveG g regs i) { X with d := roomN g regs } else layF g X
def opG (f : Nat → OpR) (regs : Nat) (g : G) (i : Nat) : G :=
  if (g.P i).lazy = true then g else endG regs i (relF (tkG f regs i g (g.P i).takes)) (opX (f i) (tkρ f regs i g (g.P i).takes))
theorem bringG_inv (f : Nat → OpR) (g : G) (regs v n : Nat) (h : ∀ r, r < 16 → g.hv r < n) (hv : v < n) : (∀ r, r < 16 → (bringG f g regs v).hv r < n) ∧ (bringG f g regs v).l.length ≤ g.l.length + 6 := by
  unfold bringG
  split
  · exact ⟨h, by show g.l.length ≤ _; omega⟩
  · obtain ⟨e1, e2, e3, e4, e5⟩ := roomG_keep g regs
    refine ⟨fun r hr => ?_, ?_⟩
    · show upd (roomG g regs).hv _ v r < n
      unfold upd
      split
      · exact hv
      · rw [e2]; exact h r hr
    · show (layF (roomG g regs) _).l.length ≤ _
      have := layF_len (roomG g regs) (bringX f (roomG g regs) v (roomN g regs))
      omega
theorem tkG_inv (f : Nat → OpR) (regs i n : Nat) (g : G) (h : ∀ r, r < 16 → g.hv r < n) : ∀ j, (∀ q, q < j → tkv (f i) q < n) → (∀ r, r < 16 → (tkG f regs i g j).hv r < n) ∧ (tkG f regs i g j).l.length ≤ g.l.length + 6 * j
  | 0, _ => ⟨h, by show g.l.length ≤ _; omega⟩
  | j + 1, hq => by
    obtain ⟨a, b⟩ := tkG_inv f regs i n g h j (fun q e => hq q (by omega))
    obtain ⟨c, d⟩ := bringG_inv f (tkG f regs i g j) regs (tkv (f i) j) n a (hq j (by omega))
    exact ⟨c, by show (bringG f (tkG f regs i g j) regs (tkv (f i) j)).l.length ≤ _; omega⟩
theorem relF_inv (g : G) (n : Nat) (h : ∀ r, r < 16 → g.hv r < n) : ∀ r, r < 16 → (relF g).hv r < n := fun r hr => by
  show (if r < 16 ∧ relB g r = true then 0 else g.hv r) < n
  split
  · have := h r hr; omega
  · exact h r hr
/-- Code under way, and the three blocks of an operation's own. -/
structure OW (w W : World) (base M Q n : Nat) (bp : Option Addr) (cap pcap regs : Nat) (f : Nat → OpR) (g : G) (sv : Value) (BX BR BL : Nat) (X : Cd) (ρ : Nat → Nat) (o : OpR) : Prop where
  gw : GW W base M Q n bp cap pcap regs f g sv
  kx : Kx base M Q w W
  x : W.heap[BX]? = some (.cells (cdA X) 57)
  rg : W.rowIs BR 178 3 (fun q => .int .i64 (ρ q))
  ls : W.rowIs BL 178 3 (fun q => .int .i64 (argI o q))
  nx : w.heap.size ≤ BX
  nr : w.heap.size ≤ BR
  nl : w.heap.size ≤ BL
  xr : BX ≠ BR
  rl : BR ≠ BL
  xl : BX ≠ BL
  bw : base ≤ w.heap.size
theorem blk_t {w : World} {b : Nat} {t t' : TypeId} {A A' : Array Value} (h : w.heap[b]? = some (.cells A t)) (h' : w.heap[b]? = some (.cells A' t')) : t = t' := by rw [h] at h'; cases h'; rfl
theorem OW.neX {w W : World} {base M Q n : Nat} {bp : Option Addr} {cap pcap regs : Nat} {f : Nat → OpR} {g : G} {sv : Value} {BX BR BL : Nat} {X : Cd} {ρ : Nat → Nat} {o : OpR} (h : OW w W base M Q n bp cap pcap regs f g sv BX BR BL X ρ o) : BX ≠ M ∧ BX ≠ Q ∧ sv.ownBlock ≠ some BX := by
  obtain ⟨c, hc, -⟩ := h.gw.mb
  obtain ⟨d, hd, -⟩ := h.gw.pl
  refine ⟨fun e => ?_, fun e => ?_, fun e => ?_⟩
  · rw [← e] at hc; exact absurd (blk_t h.x hc) (by decide)
  · rw [← e] at hd; exact absurd (blk_t h.x hd) (by decide)
  · obtain ⟨-, cur, hh⟩ := owns_blk h.gw.wd e; exact absurd (blk_t h.x hh) (by decide)
theorem OW.neR {w W : World} {base M Q n : Nat} {bp : Option Addr} {cap pcap regs : Nat} {f : Nat → OpR} {g : G} {sv : Value} {BX BR BL : Nat} {X : Cd} {ρ : Nat → Nat} {o : OpR} (h : OW w W base M Q n bp cap pcap regs f g sv BX BR BL X ρ o) : BR ≠ M ∧ BR ≠ Q ∧ sv.ownBlock ≠ some BR := by
  obtain ⟨c, hc, -⟩ := h.gw.mb
  obtain ⟨d, hd, -⟩ := h.gw.pl
  obtain ⟨x, hx, -⟩ := h.rg
  refine ⟨fun e => ?_, fun e => ?_, fun e => ?_⟩
  · rw [← e] at hc; exact absurd (blk_t hx hc) (by decide)
  · rw [← e] at hd; exact absurd (blk_t hx hd) (by decide)
  · obtain ⟨-, cur, hh⟩ := owns_blk h.gw.wd e; exact absurd (blk_t hx hh) (by decide)
theorem OW.neL {w W : World} {base M Q n : Nat} {bp : Option Addr} {cap pcap regs : Nat} {f : Nat → OpR} {g : G} {sv : Value} {BX BR BL : Nat} {X : Cd} {ρ : Nat → Nat} {o : OpR} (h : OW w W base M Q n bp cap pcap regs f g sv BX BR BL X ρ o) : BL ≠ M ∧ BL ≠ Q := by
  obtain ⟨c, hc, -⟩ := h.gw.mb
  obtain ⟨d, hd, -⟩ := h.gw.pl
  obtain ⟨x, hx, -⟩ := h.ls
  refine ⟨fun e => ?_, fun e => ?_⟩
  · rw [← e] at hc; exact absurd (blk_t hx hc) (by decide)
  · rw [← e] at hd; exact absurd (blk_t hx hd) (by decide)
/-- Behind a call that works on the code. -/
theorem OW.call {w W W' : World} {base M Q n : Nat} {bp : Option Addr} {cap pcap regs : Nat} {f : Nat → OpR} {g g' : G} {sv sv' : Value} {BX BR BL : Nat} {X : Cd} {ρ : Nat → Nat} {o : OpR} (h : OW w W base M Q n bp cap pcap regs f g sv BX BR BL X ρ o) (hg : GW W' base M Q n bp cap pcap regs f g' sv') (k : Kx base M Q W W') : OW w W' base M Q n bp cap pcap regs f g' sv' BX BR BL X ρ o :=
  ⟨hg, h.kx.trans k, k.blk _ _ _ h.x h.neX.1 h.neX.2.1 (by decide), k.row h.rg h.neR.1 h.neR.2.1 (by decide), k.row h.ls h.neL.1 h.neL.2 (by decide), h.nx, h.nr, h.nl, h.xr, h.rl, h.xl, h.bw⟩
theorem OW.below {w W W' : World} {base M Q n : Nat} {bp : Option Addr} {cap pcap regs : Nat} {f : Nat → OpR} {g : G} {sv : Value} {BX BR BL : Nat} {X : Cd} {ρ : Nat → Nat} {o : OpR} (h : OW w W base M Q n bp cap pcap regs f g sv BX BR BL X ρ o) (k : Below W.heap.size W W') : OW w W' base M Q n bp cap pcap regs f g sv BX BR BL X ρ o :=
  h.call (h.gw.below k) (Kx.of_below k h.gw.bw)
theorem OW.setX {w W : World} {base M Q n : Nat} {bp : Option Addr} {cap pcap regs : Nat} {f : Nat → OpR} {g : G} {sv : Value} {BX BR BL : Nat} {X : Cd} {ρ : Nat → Nat} {o : OpR} (h : OW w W base M Q n bp cap pcap regs f g sv BX BR BL X ρ o) (Y : Cd) (q : Nat) (u : Value) (e : (cdA X).setIfInBounds q u = cdA Y) : OW w (W.setCell ⟨BX, q, none⟩ u) base M Q n bp cap pcap regs f g sv BX BR BL Y ρ o :=
  ⟨h.gw.setOther h.neX.1 h.neX.2.1 h.neX.2.2 (Nat.le_trans h.bw h.nx) q u, h.kx.setIn (.inr (.inr h.nx)) (Nat.le_trans h.bw h.nx) q u, (blk_set h.x u).trans (by rw [e]), h.rg.setOther (fun e => h.xr e.symm) u, h.ls.setOther (fun e => h.xl e.symm) u, h.nx, h.nr, h.nl, h.xr, h.rl, h.xl, h.bw⟩
theorem OW.setR {w W : World} {base M Q n : Nat} {bp : Option Addr} {cap pcap regs : Nat} {f : Nat → OpR} {g : G} {sv : Value} {BX BR BL : Nat} {X : Cd} {ρ : Nat → Nat} {o : OpR} (h : OW w W base M Q n bp cap pcap regs f g sv BX BR BL X ρ o) (j r : Nat) : OW w (W.setCell ⟨BR, j, none⟩ (.int .i64 r)) base M Q n bp cap pcap regs f g sv BX BR BL X (upd ρ j r) o :=
  ⟨h.gw.setOther h.neR.1 h.neR.2.1 h.neR.2.2 (Nat.le_trans h.bw h.nr) j _, h.kx.setIn (.inr (.inr h.nr)) (Nat.le_trans h.bw h.nr) j _, (blk_other h.xr _).trans h.x, (h.rg.set j _).congr (fun i hi => by unfold upd; split <;> rfl), h.ls.setOther (fun e => h.rl e.symm) _, h.nx, h.nr, h.nl, h.xr, h.rl, h.xl, h.bw⟩
theorem OW.setN {w W : World} {base M Q n : Nat} {bp : Option Addr} {cap pcap regs : Nat} {f : Nat → OpR} {g : G} {sv : Value} {BX BR BL : Nat} {X : Cd} {ρ : Nat → Nat} {o : OpR} (h : OW w W base M Q n bp cap pcap regs f g sv BX BR BL X ρ o) (v x : Nat) : OW w (W.setCell ⟨Q, v * 8 + 5, none⟩ (.int .i64 x)) base M Q n bp cap pcap regs f (setNext g v x) sv BX BR BL X ρ o :=
  ⟨h.gw.setP v 5 _ _ (by omega) rfl (fun q hq hne => by
    match q, hq, hne with
    | 0, _, _ | 1, _, _ | 2, _, _ | 3, _, _ | 4, _, _ | 6, _, _ | 7, _, _ => rfl
    | 5, _, h => exact absurd rfl h), h.kx.setIn (.inr (.inl rfl)) h.gw.bQ _ _, (blk_other h.neX.2.1 _).trans h.x, h.rg.setOther (fun e => h.neR.2.1 e) _, h.ls.setOther (fun e => h.neL.2 e) _, h.nx, h.nr, h.nl, h.xr, h.rl, h.xl, h.bw⟩
theorem ow_start {w w1 w2 : World} {base M Q n : Nat} {bp : Option Addr} {cap pcap regs : Nat} {f : Nat → OpR} {g : G} {sv : Value} (X : Cd) (o : OpR) (hG : GW w base M Q n bp cap pcap regs f g sv) (h1 : Below w.heap.size w w1) (h2 : Below ((w1.alloc (.cells (cdA X) 57)).alloc (.cells #[.int .i64 0, .int .i64 0, .int .i64 0] 178)).heap.size ((w1.alloc (.cells (cdA X) 57)).alloc (.cells #[.int .i64 0, .int .i64 0, .int .i64 0] 178)) w2) :
    OW w (w2.alloc (.cells #[.int .i64 o.a, .int .i64 o.b, .int .i64 o.c] 178)) base M Q n bp cap pcap regs f g sv w1.heap.size (w1.heap.size + 1) w2.heap.size X (fun _ => 0) o := by
  have s1 := h1.size
  have s2 := h2.size
  simp at s2
  obtain ⟨a1, a2⟩ := al2 w1 (.cells (cdA X) 57) (.cells #[.int .i64 0, .int .i64 0, .int .i64 0] 178)
  have hB : Below w.heap.size w (w2.alloc (.cells #[.int .i64 o.a, .int .i64 o.b, .int .i64 o.c] 178)) := (((h1.alloc s1 _).alloc (by simp; omega) _).trans (h2.mono (by simp; omega))).alloc (by omega) _
  have k1 : (w2.alloc (.cells #[.int .i64 o.a, .int .i64 o.b, .int .i64 o.c] 178)).heap[w1.heap.size]? = some (.cells (cdA X) 57) := by
    rw [Below.heap_alloc _ _ _ (by omega), h2.block _ (by simp; omega)]; exact a1
  have k2 : (w2.alloc (.cells #[.int .i64 o.a, .int .i64 o.b, .int .i64 o.c] 178)).heap[w1.heap.size + 1]? = some (.cells #[.int .i64 0, .int .i64 0, .int .i64 0] 178) := by
    rw [Below.heap_alloc _ _ _ (by omega), h2.block _ (by simp)]; exact a2
  refine ⟨hG.below hB, Kx.of_below hB hG.bw, k1, ⟨_, k2, rfl, fun i hi => ?_⟩, ⟨_, heap_alloc_last _ _, rfl, fun i hi => ?_⟩, by omega, by omega, by omega, by omega, by omega, by omega, hG.bw⟩
  · match i, hi with
    | 0, _ | 1, _ | 2, _ => rfl
  · match i, hi with
    | 0, _ | 1, _ | 2, _ => rfl
end Go.Proofs.Ytocefkpnlgfebab.Ho
