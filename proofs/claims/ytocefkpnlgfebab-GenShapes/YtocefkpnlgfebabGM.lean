import Derived.Test.YtocefkpnlgfebabGL
import Derived.Deep.RegionHeld3
namespace Go.Proofs.Ytocefkpnlgfebab.Ho
open Go.RowKit
set_option maxRecDepth 100000
set_option linter.unusedVariables false
set_option linter.unusedSimpArgs false

def mkRest : List Value := [.bool false, .int .i64 0, .bool false, .int .i64 0, .bool false, .int .i64 0, .bool false, .int .i64 0, .bool false, .int .i64 0, .bool false, .int .i64 0, .bool false, .int .i64 0, .bool false, .int .i64 0, .bool false, .int .i64 0, .bool false, .int .i64 0, .bool false, .int .i64 0, .bool false, .int .i64 0, .bool false, .int .i64 0, .bool false, .int .i64 0, .bool false, .int .i64 0, .bool false, .int .i64 0] ++ (List.replicate 2064 (.bool false) ++ [.slice none 0 0])
def mkA (ov pv rv : Value) : Array Value := (ov :: pv :: rv :: mkRest).toArray
def mkZ : Array Value := mkA (.slice none 0 0) (.slice none 0 0) (.int .i64 0)
theorem mk_info : (Try.prog.info? 122).map (fun i => (i.zero, i.size)) = some (some (.agg mkZ), 2100) := by kernel_rfl
theorem mk_size (ov pv rv : Value) : (mkA ov pv rv).size = 2100 := by
  show (ov :: pv :: rv :: mkRest).length = 2100
  simp [mkRest]
theorem fill3 (place : Nat → Option (Nat × Nat)) (Z : Array Value) (v0 v1 v2 : Value) (h0 : place 0 = some (0, 1)) (h1 : place 1 = some (1, 1)) (h2 : place 2 = some (2, 1)) (c0 : v0.cells = #[v0]) (c1 : v1.cells = #[v1]) (c2 : v2.cells = #[v2]) (hz : 3 ≤ Z.size) :
    Instr.fill place Z [(0, v0), (1, v1), (2, v2)] = some (((Z.setIfInBounds 0 v0).setIfInBounds 1 v1).setIfInBounds 2 v2) := by
  have e0 : ¬ Z.size < 1 := by omega
  have e1 : ¬ Z.size < 2 := by omega
  have e2 : ¬ Z.size < 3 := by omega
  simp [Instr.fill, h0, h1, h2, c0, c1, c2, e0, e1, e2]
  all_goals omega
def mkPl : List (Nat × Nat) := [(0, 1), (1, 1), (2, 1), (3, 32), (35, 16), (51, 2048), (2099, 1)]
theorem mk_pl : ∃ fs, Try.prog.underlying 122 = some (.struct fs) ∧ fs.toList.mapM (fun f => (Try.prog.info? f.type).map fun i => (f.offset, i.size)) = some mkPl := ⟨_, Try.underlying122, by kernel_rfl⟩
theorem mk_built (bp : Option Addr) (n cap regs Q : Nat) : Try.prog.built 122 [(0, .slice bp n cap), (1, .slice (some ⟨Q, 0, none⟩) n n), (2, .int .i64 regs)] = some (mkA (.slice bp n cap) (.slice (some ⟨Q, 0, none⟩) n n) (.int .i64 regs)) := by
  obtain ⟨fs, h1, h2⟩ := mk_pl
  have hi := mk_info
  cases hit : Try.prog.info? 122 with
  | none => rw [hit] at hi; cases hi
  | some it =>
    rw [hit] at hi
    simp only [Option.map_some, Option.some.injEq, Prod.mk.injEq] at hi
    unfold Program.built
    rw [hit, h1]
    simp only [hi.1, h2]
    rw [show (Value.agg mkZ).cells = mkZ from rfl, fill3 _ mkZ _ _ _ rfl rfl rfl rfl rfl rfl (by unfold mkZ; rw [mk_size]; decide)]
    unfold mkZ mkA
    simp only [List.setIfInBounds_toArray, List.set_cons_zero, List.set_cons_succ]
theorem mk_one (bp : Option Addr) (n cap regs Q : Nat) : (mkA (.slice bp n cap) (.slice (some ⟨Q, 0, none⟩) n n) (.int .i64 regs)).all (·.oneCell') = true := by
  unfold mkA
  rw [List.all_toArray]
  show (true && (true && (true && mkRest.all (·.oneCell')))) = true
  unfold mkRest
  rw [List.all_append, List.all_append, List.all_replicate]
  rfl
def g0 (P : Nat → PL) : G := ⟨fun _ => false, fun _ => 0, fun _ => false, fun _ => false, P, []⟩
theorem mk_rest_at (j : Nat) (hj : j < 2097) : mkRest[j]? = some (mkF (.slice none 0 0) (.slice none 0 0) (.slice none 0 0) 0 (g0 (fun _ => zeroP)) (j + 3)) := by
  unfold mkRest mkF
  rw [if_neg (by omega), if_neg (by omega), if_neg (by omega)]
  by_cases h1 : j < 32
  · rw [if_pos (by omega), List.getElem?_append_left (by simpa using h1)]
    match j, h1 with
    | 0, _ => rfl
    | 1, _ => rfl
    | 2, _ => rfl
    | 3, _ => rfl
    | 4, _ => rfl
    | 5, _ => rfl
    | 6, _ => rfl
    | 7, _ => rfl
    | 8, _ => rfl
    | 9, _ => rfl
    | 10, _ => rfl
    | 11, _ => rfl
    | 12, _ => rfl
    | 13, _ => rfl
    | 14, _ => rfl
    | 15, _ => rfl
    | 16, _ => rfl
    | 17, _ => rfl
    | 18, _ => rfl
    | 19, _ => rfl
    | 20, _ => rfl
    | 21, _ => rfl
    | 22, _ => rfl
    | 23, _ => rfl
    | 24, _ => rfl
    | 25, _ => rfl
    | 26, _ => rfl
    | 27, _ => rfl
    | 28, _ => rfl
    | 29, _ => rfl
    | 30, _ => rfl
    | 31, _ => rfl
    | n + 32, h => exact absurd h (by omega)
  · rw [if_neg (by omega), List.getElem?_append_right (by simp; omega)]
    by_cases h2 : j < 2096
    · rw [List.getElem?_append_left (by simp; omega), List.getElem?_replicate, if_pos (by simp; omega)]
      by_cases h3 : j + 3 < 51
      · rw [if_pos h3]; rfl
      · rw [if_neg h3, if_pos (by omega)]; rfl
    · obtain rfl : j = 2096 := by omega
      rw [List.getElem?_append_right (by simp)]
      simp
theorem mk_row (ov pv : Value) (regs : Nat) (P : Nat → PL) (o : Nat) (ho : o < 2100) : (mkA ov pv (.int .i64 regs))[o]? = some (mkF ov pv (.slice none 0 0) regs (g0 P) o) := by
  unfold mkA
  rw [List.getElem?_toArray]
  rcases o with _ | _ | _ | o
  · rfl
  · rfl
  · rfl
  · simp only [List.getElem?_cons_succ]
    rw [mk_rest_at o (by omega)]
    unfold mkF
    simp only [if_neg (show ¬ o + 1 + 1 + 1 = 0 by omega), if_neg (show ¬ o + 3 = 0 by omega), if_neg (show ¬ o + 1 + 1 + 1 = 1 by omega), if_neg (show ¬ o + 3 = 1 by omega), if_neg (show ¬ o + 1 + 1 + 1 = 2 by omega), if_neg (show ¬ o + 3 = 2 by omega)]
    rfl
end Go.Proofs.Ytocefkpnlgfebab.Ho
namespace Go.Proofs.Ytocefkpnlgfebab.Ho
open Go.RowKit
set_option maxRecDepth 100000
set_option linter.unusedVariables false
set_option linter.unusedSimpArgs false

theorem giveG_P (g : G) (regs i : Nat) : (giveG g regs i).P = g.P := (roomG_keep g regs).2.2.2.1
theorem endG_P (regs i : Nat) (g : G) (X : Cd) : (endG regs i g X).P = g.P := by
  unfold endG
  split
  · exact giveG_P g regs i
  · rfl
theorem opG_P (f : Nat → OpR) (regs : Nat) (g : G) (i q : Nat) : SameP ((opG f regs g i).P q) (g.P q) := by
  unfold opG
  split
  · exact SameP.refl _
  · rw [endG_P, relF_P]; exact tkG_P f regs i g q _
theorem endG_inv (regs i n : Nat) (g : G) (X : Cd) (h : ∀ r, r < 16 → g.hv r < n) (hi : i < n) : (∀ r, r < 16 → (endG regs i g X).hv r < n) ∧ (endG regs i g X).l.length ≤ g.l.length + 6 := by
  unfold endG
  split
  · obtain ⟨e1, e2, e3, e4, e5⟩ := roomG_keep g regs
    refine ⟨fun r hr => ?_, ?_⟩
    · show upd (roomG g regs).hv _ i r < n
      unfold upd
      split
      · exact hi
      · rw [e2]; exact h r hr
    · have := layF_len (giveG g regs i) { X with d := roomN g regs }
      have e : (giveG g regs i).l = (roomG g regs).l := rfl
      rw [e] at this
      omega
  · exact ⟨h, by have := layF_len g X; omega⟩
theorem opG_inv (f : Nat → OpR) (regs n i : Nat) (g : G) (h : ∀ r, r < 16 → g.hv r < n) (hi : i < n) (t3 : (g.P i).takes ≤ 3) (tk : ∀ q, q < (g.P i).takes → tkv (f i) q < n) : (∀ r, r < 16 → (opG f regs g i).hv r < n) ∧ (opG f regs g i).l.length ≤ g.l.length + 24 := by
  unfold opG
  split
  · exact ⟨h, by omega⟩
  · obtain ⟨a, b⟩ := tkG_inv f regs i n g h (g.P i).takes tk
    obtain ⟨c, d⟩ := endG_inv regs i n (relF (tkG f regs i g (g.P i).takes)) (opX (f i) (tkρ f regs i g (g.P i).takes)) (relF_inv _ n a) hi
    refine ⟨c, ?_⟩
    have e : (relF (tkG f regs i g (g.P i).takes)).l = (tkG f regs i g (g.P i).takes).l := rfl
    rw [e] at d
    omega
theorem askP_takes (P : Nat → PL) (i : Nat) (o : OpR) (t q : Nat) : (askP P i o t q).takes = (P q).takes ∧ (askP P i o t q).gives = (P q).gives ∧ (askP P i o t q).lazy = (P q).lazy := by
  unfold askP
  obtain ⟨a, b, c⟩ := askB_takes (askA P i o t) i o q t
  obtain ⟨d, e, f⟩ := askA_takes P i o q t
  exact ⟨a.trans d, b.trans e, c.trans f⟩
theorem stepP_takes (f : Nat → OpR) (s : PS) (i q : Nat) : ((stepP f s i).P q).takes = (if q = i then (ru (f i).kind).takes.toNat else (s.P q).takes) ∧ ((stepP f s i).P q).gives = (if q = i then (ru (f i).kind).gives else (s.P q).gives) := by
  have h : ∀ P' : Nat → PL, (∀ q, (P' q).takes = (upd s.P i (planP f s i) q).takes ∧ (P' q).gives = (upd s.P i (planP f s i) q).gives) → (P' q).takes = (if q = i then (ru (f i).kind).takes.toNat else (s.P q).takes) ∧ (P' q).gives = (if q = i then (ru (f i).kind).gives else (s.P q).gives) := fun P' hp => by
    rw [(hp q).1, (hp q).2]
    unfold upd
    split
    · exact ⟨rfl, rfl⟩
    · exact ⟨rfl, rfl⟩
  unfold stepP
  by_cases hl : lazyB (f i) (s.P i) s.puts = true
  · simp only [if_pos hl]; exact h _ (fun q => ⟨rfl, rfl⟩)
  · simp only [if_neg hl]; exact h _ (fun q => ⟨(askP_takes _ i (f i) _ q).1, (askP_takes _ i (f i) _ q).2.1⟩)
theorem planL_takes (f : Nat → OpR) (n : Nat) : ∀ m, m ≤ n → ∀ q, n - m ≤ q → q < n → ((planL f n m).P q).takes = (ru (f q).kind).takes.toNat ∧ ((planL f n m).P q).gives = (ru (f q).kind).gives
  | 0, _, q, h, h' => absurd h' (by omega)
  | m + 1, hm, q, h, h' => by
    obtain ⟨a, b⟩ := stepP_takes f (planL f n m) (n - 1 - m) q
    show ((stepP f (planL f n m) (n - 1 - m)).P q).takes = _ ∧ ((stepP f (planL f n m) (n - 1 - m)).P q).gives = _
    rw [a, b]
    by_cases e : q = n - 1 - m
    · rw [if_pos e, if_pos e, ← e]; exact ⟨rfl, rfl⟩
    · rw [if_neg e, if_neg e]; exact planL_takes f n m (by omega) q (by omega) h'
def enterX (count : Int) (pc : Nat) : Cd := ⟨1, 0, 0, 0, 0, count, pc, 0⟩
/-- The code behind the first i operations. -/
def runG (f : Nat → OpR) (n regs : Nat) (count : Int) (pc : Nat) : Nat → G
  | 0 => layF (g0 (planL f n n).P) (enterX count pc)
  | i + 1 => opG f regs (runG f n regs count pc i) i
theorem ru_t3 (k : Int) : (ru k).takes.toNat ≤ 3 := by
  unfold ru ruT
  split <;> decide
theorem runG_P (f : Nat → OpR) (n regs : Nat) (count : Int) (pc q : Nat) : ∀ i, SameP ((runG f n regs count pc i).P q) ((planL f n n).P q)
  | 0 => SameP.refl _
  | i + 1 => (opG_P f regs _ i q).trans (runG_P f n regs count pc q i)
theorem runG_takes (f : Nat → OpR) (n regs : Nat) (count : Int) (pc q i : Nat) (hq : q < n) : ((runG f n regs count pc i).P q).takes = (ru (f q).kind).takes.toNat ∧ ((runG f n regs count pc i).P q).gives = (ru (f q).kind).gives := by
  obtain ⟨a, b, -⟩ := runG_P f n regs count pc q i
  obtain ⟨c, d⟩ := planL_takes f n n (Nat.le_refl _) q (by omega) hq
  exact ⟨a.trans c, b.trans d⟩
theorem runG_inv (f : Nat → OpR) (n regs : Nat) (count : Int) (pc : Nat) (hB : BlkOk n f) : ∀ i, i ≤ n → (∀ r, r < 16 → (runG f n regs count pc i).hv r < n) ∧ (runG f n regs count pc i).l.length ≤ 3 + 24 * i
  | 0, _ => ⟨fun r _ => hB.n1, by have := layF_len (g0 (planL f n n).P) (enterX count pc); show (layF (g0 (planL f n n).P) (enterX count pc)).l.length ≤ _; have e : (g0 (planL f n n).P).l.length = 0 := rfl; omega⟩
  | i + 1, hi => by
    obtain ⟨a, b⟩ := runG_inv f n regs count pc hB i (by omega)
    have ht := (runG_takes f n regs count pc i i (by omega)).1
    obtain ⟨c, d⟩ := opG_inv f regs n i (runG f n regs count pc i) a (by omega) (by rw [ht]; exact ru_t3 _) (fun q hq => by rw [ht] at hq; have := (hB.tk i (by omega) q hq).2; omega)
    exact ⟨c, by show (opG f regs (runG f n regs count pc i) i).l.length ≤ _; omega⟩
theorem runG_in (f : Nat → OpR) (n regs : Nat) (count : Int) (pc : Nat) (hB : BlkOk n f) (h3 : 3 ≤ regs) (h16 : regs ≤ 16) (i : Nat) (hi : i < n) : OpIn n i f (runG f n regs count pc i) regs ((runG f n regs count pc i).P i).takes := by
  obtain ⟨a, b⟩ := runG_inv f n regs count pc hB i (by omega)
  have ht := (runG_takes f n regs count pc i i hi).1
  have hn := hB.hn
  exact ⟨by omega, h16, a, hi, hn, by omega, hB.ok, rfl, by rw [ht]; exact ru_t3 _, fun j hj => by rw [ht] at hj; have := hB.tk i hi j hj; exact ⟨this.1, by omega⟩⟩
theorem runG_10 (f : Nat → OpR) (n regs : Nat) (count : Int) (pc i : Nat) (hi : i < n) (h : (f i).kind = 10) : ((runG f n regs count pc i).P i).gives = false := by
  rw [(runG_takes f n regs count pc i i hi).2, h]; rfl
end Go.Proofs.Ytocefkpnlgfebab.Ho
namespace Go.Proofs.Ytocefkpnlgfebab.Ho
open Go.RowKit
set_option maxRecDepth 100000
set_option linter.unusedVariables false
set_option linter.unusedSimpArgs false

theorem op_alloc {P : Program} {o : Oper} {a : Act} {w : World} {K : Act → World → Prop} {Q : Exit → Act → World → Prop} (t : TypeId) (ho : o.op = .alloc t) (cs : Array Value) (hz : ∀ w, (zeroValue t).run P w = .ok (.agg cs) w) (H : Nat) (hH : w.heap.size = H)
    (h : K (a.put o.dst (.pointer (some ⟨H, 0, none⟩))) (w.alloc (.cells cs t))) : o.wp P a w K Q := by
  subst hH
  unfold Oper.wp execOp
  simp [ho, hz, Instr.alloc, go_sem]
  exact h
theorem run_mk (a : Act) (o : Oper) (parts : Array (Nat × Operand)) (ho : o.op = .build 122 parts) (bp : Option Addr) (n cap regs Q : Nat) (hp : (parts.map fun (i, x) => (i, a.eval x)).toList = [(0, .slice bp n cap), (1, .slice (some ⟨Q, 0, none⟩) n n), (2, .int .i64 regs)]) (w : World) : (execOp a.eval o).run Try.prog w = .ok (.value (.agg (mkA (.slice bp n cap) (.slice (some ⟨Q, 0, none⟩) n n) (.int .i64 regs)))) w := by
  unfold execOp
  simp only [ho, Sem.run_bind, run_build w 122 _ _ (hp ▸ mk_built bp n cap regs Q), Result.andThen_ok, Sem.run_pure]
theorem plansOf_at (n cap : Nat) (bp : Option Addr) (f : Nat → OpR) (w : World) (H : Nat) (hH : w.heap.size = H) (hO : OpsR w bp n f) (ob : ∀ b off, bp = some ⟨b, off, none⟩ → b < w.heap.size) (hB : BlkOk n f) :
    Calls Try.prog 63 #[.slice bp n cap] w fun e w' => e = .returned (.slice (some ⟨H, 0, none⟩) n n) ∧ w'.rowIs H 180 (n * 8) (plF (planL f n n).P) ∧ Below w.heap.size w w' := hH ▸ plansOf_any n cap bp f w hO ob hB
/-- The world of Code. -/
structure CV (w W : World) (M Q n : Nat) (bp : Option Addr) (cap regs : Nat) (f : Nat → OpR) (g : G) (sv : Value) (pc : Nat) (count bytes : Int) : Prop where
  gw : GW W w.heap.size M Q n bp cap n regs f g sv
  bx : W.heap[w.heap.size]? = some (.cells #[.int .u32 pc, .int .i64 count, .int .i64 bytes, .slice bp n cap] 25)
  bel : Below w.heap.size w W
theorem CV.ne {w W : World} {M Q n : Nat} {bp : Option Addr} {cap regs : Nat} {f : Nat → OpR} {g : G} {sv : Value} {pc : Nat} {count bytes : Int} (h : CV w W M Q n bp cap regs f g sv pc count bytes) : w.heap.size ≠ M ∧ w.heap.size ≠ Q := by
  obtain ⟨c, hc, -⟩ := h.gw.mb
  obtain ⟨d, hd, -⟩ := h.gw.pl
  exact ⟨fun e => by (rw [← e] at hc; exact absurd (blk_t h.bx hc) (by decide)), fun e => by (rw [← e] at hd; exact absurd (blk_t h.bx hd) (by decide))⟩
theorem CV.call {w W W' : World} {M Q n : Nat} {bp : Option Addr} {cap regs : Nat} {f : Nat → OpR} {g g' : G} {sv sv' : Value} {pc : Nat} {count bytes : Int} (h : CV w W M Q n bp cap regs f g sv pc count bytes) (hg : GW W' w.heap.size M Q n bp cap n regs f g' sv') (k : Kx w.heap.size M Q W W') : CV w W' M Q n bp cap regs f g' sv' pc count bytes :=
  ⟨hg, k.blk _ _ _ h.bx h.ne.1 h.ne.2 (by decide), h.bel.trans k.bel⟩
theorem cv_1 {w W w2 : World} {n : Nat} {bp : Option Addr} {cap regs : Nat} {f : Nat → OpR} {P : Nat → PL} {pc : Nat} {count bytes : Int} (hO : OpsR w bp n f) (ob : ∀ b off, bp = some ⟨b, off, none⟩ → b < w.heap.size) (hW : CW w W pc count bytes bp n cap) (hp : w2.rowIs W.heap.size 180 (n * 8) (plF P)) (hb : Below W.drew.heap.size W.drew w2) :
    CV w ((w2.alloc (.cells mkZ 122)).setRow w2.heap.size (mkA (.slice bp n cap) (.slice (some ⟨W.heap.size, 0, none⟩) n n) (.int .i64 regs))) w2.heap.size W.heap.size n bp cap regs f (g0 P) (.slice none 0 0) pc count bytes := by
  have sb := hW.bel.size
  have s2 := hb.size
  have e : W.drew.heap.size = W.heap.size := rfl
  rw [e] at s2
  rw [World.setRow_alloc_new]
  have hB2 : Below w.heap.size w w2 := (hW.bel.drew).trans (hb.mono (by rw [e]; exact sb))
  have hB : Below w.heap.size w (w2.alloc (.cells (mkA (.slice bp n cap) (.slice (some ⟨W.heap.size, 0, none⟩) n n) (.int .i64 regs)) 122)) := hB2.alloc (by omega) _
  refine ⟨⟨⟨_, heap_alloc_last _ _, mk_size _ _ _, fun i hi => mk_row _ _ regs P i hi⟩, World.ownsRow_nil _ _ _ _, hp.alloc _, hO.below hB (Nat.le_refl _), ob, by omega, sb, by simp; omega⟩, ?_, hB⟩
  have l1 := row_lt hW.b1
  rw [Below.heap_alloc _ _ _ (by omega), hb.block _ (by rw [e]; exact l1)]
  exact hW.b1
theorem setRow_at {w : World} {g : Nat} {old cs : Array Value} {t : TypeId} (h : w.heap[g]? = some (.cells old t)) : (w.setRow g cs).heap[g]? = some (.cells cs t) := setRow_heap w g old cs t (0, 0) h
theorem setRow_other {w : World} {g i : Nat} {cs : Array Value} (h : i ≠ g) : (w.setRow g cs).heap[i]? = w.heap[i]? := by
  simp only [World.setRow]
  rw [Array.getElem?_modify]
  simp [Ne.symm h]
end Go.Proofs.Ytocefkpnlgfebab.Ho
