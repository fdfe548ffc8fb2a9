import Derived.Test.YtjmffijdojeghaaJ01
import Derived.Test.YtjmffijdojeghaaJ03
import Derived.Test.YtjmffijdojeghaaJ09
import Derived.Test.YtjmffijdojeghaaProg
import Derived.WalkKit
import Derived.WalkSpells
import Derived.WalkLawsBesides
import Derived.Deep.QuietTactic
import Derived.BigQuiet
import Derived.BigRegion
import Derived.KernelRfl
import Derived.LoopN
import Derived.Laws.BitsAllLaws
import Derived.OwnWalk
import Derived.Test.YtjmffijdojeghaaJ10
import Derived.Deep.CutBlock
namespace Go.Proofs.Ytjmffijdojeghaa
open Go.RowKit
set_option maxRecDepth 100000
set_option linter.unusedVariables false

structure GS where
  R : Nat → Nat
  pc : Nat
  f : Nat
structure GS.Ok (s : GS) : Prop where
  r : ∀ i, s.R i < 4294967296
  p : s.pc < 4294967296
  f : s.f < 4294967296
abbrev gsC (s : GS) : Array Value := #[.int .u32 (s.R 0), .int .u32 (s.R 1), .int .u32 (s.R 2), .int .u32 (s.R 3), .int .u32 (s.R 4), .int .u32 (s.R 5), .int .u32 (s.R 6), .int .u32 (s.R 7), .int .u32 s.pc, .int .u32 s.f]
abbrev tSt : TypeId := 64
abbrev tStop : TypeId := 66
abbrev gsB (s : GS) : Obj := .cells (gsC s) tSt
abbrev stopB (k a : Int) : Obj := .cells #[.int .i64 k, .int .u32 a] tStop

theorem stop_cells {w : World} {X : Nat} {k a : Int} (h : w.heap[X]? = some (stopB k a)) : w.cell? ⟨X, 0, none⟩ = some (.int .i64 k) ∧ w.cell? ⟨X, 1, none⟩ = some (.int .u32 a) ∧ w.frozen? ⟨X, 0, none⟩ = false ∧ w.frozen? ⟨X, 1, none⟩ = false :=
  ⟨cell_of_row _ _ 0 _ _ (0, 0) h, cell_of_row _ _ 1 _ _ (0, 0) h, frozen_of_row _ _ 0 _ _ h, frozen_of_row _ _ 1 _ _ h⟩
theorem stop_set {w : World} {X : Nat} {k a : Int} (h : w.heap[X]? = some (stopB k a)) (k' a' : Int) : ((w.setCell ⟨X, 0, none⟩ (.int .i64 k')).setCell ⟨X, 1, none⟩ (.int .u32 a')).heap[X]? = some (stopB k' a') := by
  have h1 : (w.setCell ⟨X, 0, none⟩ (.int .i64 k')).heap[X]? = some (stopB k' a) := heap_setCell_same w X 0 _ _ _ h
  exact heap_setCell_same _ X 1 _ _ _ h1

structure IR where
  op : Int
  D : Nat
  S : Nat
  O : Int
  imm : Nat
  n : Nat
  k : Int
  a : Int
abbrev insV (i : IR) : Value := .tuple #[.agg #[.int .i64 i.op, .int .i64 i.D, .int .i64 i.S, .int .i64 i.O, .int .u32 i.imm], .int .i64 i.n, .agg #[.int .i64 i.k, .int .u32 i.a]]
def byL (s : MS) (pc n : Nat) : List Int := (List.range n).map fun i => s.B (pc + i)
def insOf (s : MS) (pc : Nat) : IR :=
  match badN s 4 pc 1 with
  | some x => ⟨0, 0, 0, 0, 0, 0, 4, x⟩
  | none =>
    match fet s pc (Gu.sizeF (s.B pc)) with
    | some x => ⟨0, 0, 0, 0, 0, 0, 4, x⟩
    | none =>
      let r := Gu.refDec (byL s pc (fetM s pc (Gu.sizeF (s.B pc)))) (fetM s pc (Gu.sizeF (s.B pc)))
      if r.e = 0 then ⟨r.op, r.D.toNat, r.S.toNat, r.O, r.imm.toNat, r.n.toNat, 0, 0⟩ else ⟨0, 0, 0, 0, 0, 0, 3, 0⟩

def sx (O : Int) (v : Nat) : Nat := if O = 1 ∧ 128 ≤ v then v + 4294967040 else if O = 3 ∧ 32768 ≤ v then v + 4294901760 else v
end Go.Proofs.Ytjmffijdojeghaa

namespace Go.Proofs.Ytjmffijdojeghaa
open Go.RowKit
set_option maxRecDepth 100000
set_option linter.unusedVariables false
set_option linter.unusedSimpArgs false

set_option maxHeartbeats 1000000 in
theorem rfetch_cap (k : RB) (a n : Nat) (s : MS) (w : World) (h0 : 0 < n) (h8 : n ≤ 8) (ha : a < 4294967296) (hs : s.Ok) (h : RM w k s) (hb : badN s 4 a n = none) :
    Calls Try.prog 78 #[.pointer (some ⟨k.y, 0, none⟩), .int .u32 a, .int .i64 n] w fun e w' => ∃ p c, e = .returned (.tuple #[.slice p n c, goV]) ∧ Out w w' p n (fun i => s.B (a + i)) ∧ n ≤ c ∧ c ≤ maxLen := by
  have d : decide ((n : Int) < 0) = false := decide_eq_false (by omega)
  have d2 : decide (8 < (n : Int)) = false := decide_eq_false (by omega)
  have d3 : decide (8 < n) = false := decide_eq_false (by omega)
  have dn : ((n : Int) == 0) = false := by simp; omega
  have dn' : (n == 0) = false := by simp; omega
  have hl := badN_lt hb h0
  have ha0 : (0 : Int) ≤ a := by omega
  have ha1 : (a : Int) < 4294967296 := by omega
  have hn0 : (0 : Int) ≤ n := by omega
  have hcb := k.hcb
  have hs1 : (a : Int) + n ≤ 65536 := by omega
  have hs2 : (a : Int) + n ≤ (k.cb : Int) := by omega
  have hne : ¬ k.cb = a := by omega
  have hw1 : IntKind.i64.wrap (a : Int) = a := by rw [IntKind.wrap_i64]; omega
  have hw2 : IntKind.i64.wrap ((a : Int) + n) = (a : Int) + n := by rw [IntKind.wrap_i64]; omega
  have hs0 : (0 : Int) ≤ (a : Int) + n := by omega
  have ht : ((a : Int) + n).toNat = a + n := by omega
  have HP : Hid (RM w k s) := h
  have HB : Hid (badN s 4 a (n : Int).toNat = none) := hb
  have HN0 : Hid (0 < n ∧ n ≤ 8 ∧ a + n ≤ 65536) := ⟨h0, h8, hl⟩
  clear h hb hl
  go_enter Try.func78, Try.ntmps78
  go_wp2_with (go_at_call 127; refine (use_ok k a n 4 4 s _ ha (.inr (.inr rfl)) hs (HP.out.alloc _) HB.out).mono ?_; rintro e w' ⟨rfl, hBl⟩; obtain ⟨q0, q1, q2, q3⟩ := own2 hBl; have HBl : Hid _ := hBl; have hR : RM w' k s := (HP.out.alloc _).below hBl (Nat.le_refl _); have hlty := hR.lty; have c0 := hR.c0; have HR : Hid (RM w' k s) := hR; clear hBl hR)
  have HT : TwinPre (w'.alloc (.cells #[.int .i64 0, .int .u32 0] 66)).drew ⟨k.b, a, none⟩ n (fun i => s.B (a + i)) :=
    ⟨fun j u hv => by obtain ⟨hj, rfl⟩ := byteCs_at _ _ _ _ hv; rw [Addr.add_mid]; exact ((HR.out.alloc _).drew).by_ _ (by have := HN0.out; omega), HN0.out.1, by have := HN0.out; omega⟩
  have HH : Hid ((w'.alloc (.cells #[.int .i64 0, .int .u32 0] 66)).drew.heap.size = w'.heap.size + 1) := show (w'.alloc _).heap.size = _ by simp
  go_region_law (refine step_twin rfl (.const (.slice none 0 0)) (.tmp 37) rfl rfl ⟨k.b, a, none⟩ _ n _ rfl (by omega) (fun i => s.B (a + i)) HT (w'.heap.size + 1) HH.out ?_; intro cap2 w2 hN2 hB2 hlt2 hc2 hc3; obtain ⟨r0, r1, rf, s0, s1, lt2, bel2⟩ := behind HBl.out hB2)
  all_goals
    have HN2 : Hid (NR w2 (w'.heap.size + 1) n (fun i => s.B (a + i))) := hN2
    have HB2 : Hid (Below w.heap.size w w2) := bel2
    have HC2 : Hid (n ≤ cap2 ∧ cap2 ≤ maxLen) := ⟨hc2, hc3⟩
    clear hN2 hB2 bel2 hlt2 hc2 hc3 HT
    go_wp2
    refine bodyPost_ret (v := .tuple #[.slice (some ⟨w'.heap.size + 1, 0, none⟩) n cap2, goV]) (by simp [results, Try.results78, go_sem, r0, r1]) rfl ⟨_, cap2, rfl, ⟨(HB2.out.setCell (Nat.le_refl _) _).setCell (Nat.le_refl _) _, fun _ => ⟨_, rfl, by omega, HN2.out.of_block ?_⟩⟩, HC2.out.1, HC2.out.2⟩
    rw [Below.heap_setCell _ _ _ _ (show w'.heap.size + 1 ≠ w.heap.size by omega), Below.heap_setCell _ _ _ _ (show w'.heap.size + 1 ≠ w.heap.size by omega)]

theorem rfetch_c (k : RB) (a : Nat) (n : Int) (s : MS) (w : World) (ha : a < 4294967296) (hs : s.Ok) (h : RM w k s) (hf : fet s a n = none) :
    Calls Try.prog 78 #[.pointer (some ⟨k.y, 0, none⟩), .int .u32 a, .int .i64 n] w fun e w' => ∃ p c, e = .returned (.tuple #[.slice p (fetM s a n) c, .agg #[.int .i64 0, .int .u32 0]]) ∧ Out w w' p (fetM s a n) (fun i => s.B (a + i)) ∧ (0 < fetM s a n → fetM s a n ≤ c ∧ c ≤ maxLen) := by
  by_cases hw : 0 < n ∧ n ≤ 8
  · have hb : badN s 4 a n.toNat = none := by rw [← hf]; exact (if_pos hw).symm
    have e : fetM s a n = n.toNat := if_pos ⟨hw, hb⟩
    rw [e]
    obtain ⟨m, rfl⟩ : ∃ m : Nat, n = m := ⟨n.toNat, by omega⟩
    exact (rfetch_cap k a m s w (by omega) (by omega) ha hs h hb).mono fun e w' ⟨p, c, he, hO, h1, h2⟩ => ⟨p, c, he, hO, fun _ => ⟨h1, h2⟩⟩
  · have e : fetM s a n = 0 := if_neg (fun h => hw h.1)
    refine (rfetch_tot k a n s w ha hs h).mono fun e' w' ⟨p, c, he, hr, hb⟩ => ⟨p, c, ?_, ⟨hb, fun h0 => ?_⟩, fun h0 => ?_⟩
    · rw [he, hf]; rfl
    · rw [e] at h0; omega
    · rw [e] at h0; omega

theorem byL_bd {s : MS} (hs : s.Ok) (pc n i : Nat) : 0 ≤ (byL s pc n).getD i 0 ∧ (byL s pc n).getD i 0 ≤ 255 := by
  unfold byL
  rw [List.getD_eq_getElem?_getD, List.getElem?_map]
  cases h : (List.range n)[i]? with
  | none => simp
  | some j => simpa using hs.by_ (pc + j)
theorem byL_at (s : MS) (pc n i : Nat) (h : i < n) : (byL s pc n).getD i 0 = s.B (pc + i) := by
  unfold byL; simp [List.getD_eq_getElem?_getD, h]

/-- What comes of a decoding that is right. -/
structure DOk (r : Gu.DecR) : Prop where
  op0 : 0 ≤ r.op
  op1 : r.op ≤ 31
  D0 : 0 ≤ r.D
  D1 : r.D ≤ 7
  S0 : 0 ≤ r.S
  S1 : r.S ≤ 7
  im0 : 0 ≤ r.imm
  im1 : r.imm < 4294967296
  n0 : 1 ≤ r.n
  n1 : r.n ≤ 9
  O0 : 0 ≤ r.O
  O1 : r.O ≤ 15
  ld : r.op = 30 → r.O ≤ 4
  st : r.op = 31 → r.O ≤ 2

structure StOk (st : Gu.St) : Prop where
  D0 : 0 ≤ st.D
  S0 : 0 ≤ st.S
  O0 : 0 ≤ st.O
  O1 : st.O ≤ 15
  i0 : 0 ≤ st.imm
  i1 : st.imm < 4294967296
theorem stp_ok {zs : List Int} (hz : ∀ i, 0 ≤ zs.getD i 0 ∧ zs.getD i 0 ≤ 255) {st : Gu.St} (h : StOk st) (c : Int) : StOk (Gu.stp zs st c) := by
  have h0 := hz st.at'
  have h1 := hz (st.at' + 1)
  have h2 := hz (st.at' + 2)
  have h3 := hz (st.at' + 3)
  obtain ⟨a1, a2, a3, a4, a5, a6⟩ := h
  unfold Gu.stp
  simp only
  split
  · exact ⟨a1, a2, a3, a4, h0.1, by show zs.getD st.at' 0 < _; omega⟩
  split
  · refine ⟨a1, a2, a3, a4, ?_, ?_⟩
    · show 0 ≤ ite _ _ _; split <;> omega
    · show ite _ _ _ < _; split <;> omega
  split
  · refine ⟨a1, a2, a3, a4, ?_, ?_⟩
    · show (0 : Int) ≤ _ + _ + _ + _; omega
    · show (_ + _ + _ + _ : Int) < _; omega
  split
  · exact ⟨h0.1, a2, a3, a4, a5, a6⟩
  split
  · exact ⟨a1, h0.1, a3, a4, a5, a6⟩
  split
  · exact ⟨by show 0 ≤ _ / _; omega, by show 0 ≤ _ % _; omega, a3, a4, a5, a6⟩
  split
  · exact ⟨by show 0 ≤ _ % _; omega, a2, by show 0 ≤ _ / _; omega, by show _ / _ ≤ _; omega, a5, a6⟩
  · exact ⟨a1, a2, a3, a4, a5, a6⟩
theorem fold_ok {zs : List Int} (hz : ∀ i, 0 ≤ zs.getD i 0 ∧ zs.getD i 0 ≤ 255) : ∀ (l : List Int) (st : Gu.St), StOk st → StOk (l.foldl (Gu.stp zs) st)
  | [], _, h => h
  | c :: l, st, h => fold_ok hz l _ (stp_ok hz h c)
theorem fit_of_hit {x : Int} {k : Nat} (h : Gu.hitF x = some k) : Gu.formI k 0 ≤ x ∧ x < Gu.formI k 0 + Gu.formI k 1 := by
  have := List.find?_some h
  simpa [Gu.fitF] using this
theorem form_num : ∀ k : _root_.Fin 32, Gu.formI k.val 1 ≤ 16 ∧ (k.val = 30 → Gu.formI k.val 1 ≤ 5) ∧ (k.val = 31 → Gu.formI k.val 1 ≤ 3) ∧ (k.val = 30 ∨ k.val = 31 → Gu.formS k.val 2 = ⟨#[79]⟩ ∧ ∀ c ∈ Gu.formB k.val, c ≠ 99) := by decide +kernel
theorem st0_ok {k : Nat} {y : Int} (h : Gu.hitF y = some k) : StOk (Gu.st0 k y) := by
  have hk := Gu.hitF_lt h
  have hf := fit_of_hit h
  have hn := (form_num ⟨k, hk⟩).1
  simp only at hn
  unfold Gu.st0
  simp only
  split
  · exact ⟨by show 0 ≤ _ - _; omega, by show (0 : Int) ≤ 0; omega, by show (0 : Int) ≤ 0; omega, by show (0 : Int) ≤ 15; omega, by show (0 : Int) ≤ 0; omega, by show (0 : Int) < _; omega⟩
  split
  · exact ⟨by show (0 : Int) ≤ 0; omega, by show 0 ≤ _ - _; omega, by show (0 : Int) ≤ 0; omega, by show (0 : Int) ≤ 15; omega, by show (0 : Int) ≤ 0; omega, by show (0 : Int) < _; omega⟩
  split
  · exact ⟨by show (0 : Int) ≤ 0; omega, by show (0 : Int) ≤ 0; omega, by show 0 ≤ _ - _; omega, by show _ - _ ≤ (15 : Int); omega, by show (0 : Int) ≤ 0; omega, by show (0 : Int) < _; omega⟩
  · exact ⟨by show (0 : Int) ≤ 0; omega, by show (0 : Int) ≤ 0; omega, by show (0 : Int) ≤ 0; omega, by show (0 : Int) ≤ 15; omega, by show (0 : Int) ≤ 0; omega, by show (0 : Int) < _; omega⟩
theorem fold_O {zs : List Int} : ∀ (l : List Int) (st : Gu.St), (∀ c ∈ l, c ≠ 99) → (l.foldl (Gu.stp zs) st).O = st.O
  | [], _, _ => rfl
  | c :: l, st, h => by
    rw [List.foldl_cons, fold_O l _ (fun d hd => h d (List.mem_cons_of_mem _ hd))]
    have hc := h c (List.mem_cons_self ..)
    unfold Gu.stp
    simp only
    split
    · rfl
    split
    · rfl
    split
    · rfl
    split
    · rfl
    split
    · rfl
    split
    · rfl
    first
      | rfl
      | (split
         · rename_i h9; exact absurd h9 hc
         · rfl)
theorem dec_ok_bd {zs : List Int} (len : Nat) (hz : ∀ i, 0 ≤ zs.getD i 0 ∧ zs.getD i 0 ≤ 255) (he : (Gu.refDec zs len).e = 0) : DOk (Gu.refDec zs len) := by
  unfold Gu.refDec at he ⊢
  by_cases hl : len = 0
  · rw [if_pos hl] at he; exact absurd he (by decide)
  rw [if_neg hl] at he ⊢
  cases hk : Gu.hitF (zs.getD 0 0) with
  | none => rw [hk] at he; exact absurd (show (2 : Int) = 0 from he) (by decide)
  | some k =>
    rw [hk] at he
    simp only at he ⊢
    split at he
    · exact absurd he (by decide)
    rename_i h1
    rw [if_neg h1]
    split at he
    · exact absurd he (by decide)
    rename_i h2
    rw [if_neg h2]
    have hlt := Gu.hitF_lt hk
    have hs := fold_ok hz (Gu.formB k) _ (st0_ok hk)
    have hb := Gu.szL_bd (Gu.formB k)
    have hn := Gu.formB_len ⟨k, hlt⟩
    have hfit := fit_of_hit hk
    obtain ⟨g1, g2, g3, g4⟩ := form_num ⟨k, hlt⟩
    simp only at hn g1 g2 g3 g4
    have hO : k = 30 ∨ k = 31 → (Gu.stF zs k).O = zs.getD 0 0 - Gu.formI k 0 := fun h => by
      unfold Gu.stF
      rw [fold_O _ _ (g4 h).2, Gu.st0_O _ (g4 h).1]
    have hD : 0 ≤ (Gu.stF zs k).D := hs.D0
    have hS : 0 ≤ (Gu.stF zs k).S := hs.S0
    refine ⟨by show (0 : Int) ≤ k; omega, by show (k : Int) ≤ 31; omega, hD, by show (Gu.stF zs k).D ≤ 7; omega, hS, by show (Gu.stF zs k).S ≤ 7; omega, hs.i0, hs.i1, by show 1 ≤ 1 + _; omega, by show 1 + _ ≤ (9 : Int); omega, hs.O0, hs.O1, fun h => ?_, fun h => ?_⟩
    · have h' : (k : Int) = 30 := h
      have e := hO (.inl (by omega))
      have := g2 (by omega)
      show (Gu.stF zs k).O ≤ 4
      omega
    · have h' : (k : Int) = 31 := h
      have e := hO (.inr (by omega))
      have := g3 (by omega)
      show (Gu.stF zs k).O ≤ 2
      omega

/-- Decode of what was fetched. -/
theorem rdec_f {s : MS} (hs : s.Ok) (pc m c : Nat) (p : Option Addr) (w : World) (hp : 0 < m → ∃ H, p = some ⟨H, 0, none⟩ ∧ NR w H m (fun i => s.B (pc + i))) (hc : 0 < m → m ≤ c ∧ c ≤ maxLen) :
    Calls Try.prog 17 #[.slice p m c] w fun e w' => e = .returned (Gu.decV (Gu.refDec (byL s pc m) m)) ∧ Below w.heap.size w w' := by
  by_cases h : 0 < m
  · obtain ⟨H, rfl, hN⟩ := hp h
    have hcap := hc h
    refine Gu.redec_any H 0 m c (byL s pc m) w ⟨hcap.1, hcap.2, fun i hi => ?_, byL_bd hs pc m, ?_⟩ h
    · rw [Nat.zero_add, byL_at _ _ _ _ hi]; exact hN.cell i hi
    · exact lt_of_cell (hN.cell 0 h)
  · have : m = 0 := by omega
    subst this
    exact Gu.redec_nil p c (byL s pc 0) w
end Go.Proofs.Ytjmffijdojeghaa

namespace Go.Proofs.Ytjmffijdojeghaa
open Go.RowKit
set_option maxRecDepth 100000
set_option linter.unusedVariables false
set_option linter.unusedSimpArgs false

theorem rfetch_b (k : RB) (a x : Nat) (n : Int) (s : MS) (w : World) (ha : a < 4294967296) (hs : s.Ok) (h : RM w k s) (hf : fet s a n = some x) :
    Calls Try.prog 78 #[.pointer (some ⟨k.y, 0, none⟩), .int .u32 a, .int .i64 n] w fun e w' => ∃ p c, e = .returned (.tuple #[.slice p (fetM s a n) c, .agg #[.int .i64 4, .int .u32 x]]) ∧ Below w.heap.size w w' := by
  refine (rfetch_tot k a n s w ha hs h).mono fun e w' ⟨p, c, he, _, hb⟩ => ⟨p, c, ?_, hb⟩
  rw [he, hf]; rfl
theorem rfetch_g (k : RB) (a : Nat) (n : Int) (s : MS) (w : World) (ha : a < 4294967296) (hs : s.Ok) (h : RM w k s) (hf : fet s a n = none) :
    Calls Try.prog 78 #[.pointer (some ⟨k.y, 0, none⟩), .int .u32 a, .int .i64 n] w fun e w' => ∃ p c, e = .returned (.tuple #[.slice p (fetM s a n) c, .agg #[.int .i64 0, .int .u32 0]]) ∧ SR w' p (fetM s a n) (fun i => s.B (a + i)) ∧ Below w.heap.size w w' := by
  refine (rfetch_tot k a n s w ha hs h).mono fun e w' ⟨p, c, he, hr, hb⟩ => ⟨p, c, ?_, hr, hb⟩
  rw [he, hf]; rfl

/-- What the call has made so far. -/
structure IB (w0 w : World) (k a : Int) (q : Nat) : Prop where
  b1 : w.heap[w0.heap.size]? = some (Gu.insB 0 0 0 0 0)
  b2 : w.heap[w0.heap.size + 1]? = some (stopB 0 0)
  b3 : w.heap[q]? = some (stopB k a)
  bel : Below w0.heap.size w0 w
  lt : w0.heap.size + 1 < q
theorem lt_of_block {w : World} {q : Nat} {o : Obj} (h : w.heap[q]? = some o) : q < w.heap.size := by
  rcases Nat.lt_or_ge q w.heap.size with h' | h'
  · exact h'
  · rw [Array.getElem?_eq_none h'] at h; cases h
theorem IB.below {w0 w w' : World} {k a : Int} {q : Nat} (h : IB w0 w k a q) (hb : Below w.heap.size w w') : IB w0 w' k a q :=
  ⟨(hb.block _ (lt_of_block h.b1)).trans h.b1, (hb.block _ (lt_of_block h.b2)).trans h.b2, (hb.block _ (lt_of_block h.b3)).trans h.b3, h.bel.trans (hb.mono h.bel.size), h.lt⟩
theorem heap_setOther (w : World) (q o : Nat) (v : Value) (b : Nat) (h : b ≠ q) : (w.setCell ⟨q, o, none⟩ v).heap[b]? = w.heap[b]? := Below.heap_setCell _ _ _ _ h
theorem IB.set {w0 w : World} {k a : Int} {q : Nat} (h : IB w0 w k a q) (k' a' : Int) : IB w0 ((w.setCell ⟨q, 0, none⟩ (.int .i64 k')).setCell ⟨q, 1, none⟩ (.int .u32 a')) k' a' q := by
  have hl := h.lt
  refine ⟨?_, ?_, stop_set h.b3 k' a', (h.bel.setCell (by show w0.heap.size ≤ q; omega) _).setCell (by show w0.heap.size ≤ q; omega) _, hl⟩
  · rw [heap_setOther _ _ _ _ _ (by omega), heap_setOther _ _ _ _ _ (by omega)]; exact h.b1
  · rw [heap_setOther _ _ _ _ _ (by omega), heap_setOther _ _ _ _ _ (by omega)]; exact h.b2
theorem ib_start {w w' : World} (hb : Below ((w.alloc (Gu.insB 0 0 0 0 0)).alloc (stopB 0 0)).heap.size ((w.alloc (Gu.insB 0 0 0 0 0)).alloc (stopB 0 0)) w') : IB w (w'.alloc (stopB 0 0)) 0 0 w'.heap.size := by
  have s1 := hb.size
  simp only [World.size_alloc] at s1 hb
  have hl := heap_alloc_last (w.alloc (Gu.insB 0 0 0 0 0)) (stopB 0 0)
  simp only [World.size_alloc] at hl
  have h2 : Below w.heap.size w w' := (((Below.refl _ _).alloc (Nat.le_refl _) _).alloc (by simp) _).trans (hb.mono (by omega))
  have ha : Below w'.heap.size w' (w'.alloc (stopB 0 0)) := (Below.refl _ _).alloc (Nat.le_refl _) _
  have hla : Below (w.alloc (Gu.insB 0 0 0 0 0)).heap.size (w.alloc (Gu.insB 0 0 0 0 0)) ((w.alloc (Gu.insB 0 0 0 0 0)).alloc (stopB 0 0)) := (Below.refl _ _).alloc (Nat.le_refl _) _
  refine ⟨?_, ?_, heap_alloc_last _ _, h2.alloc h2.size _, by omega⟩
  · rw [ha.block _ (by omega), hb.block _ (by omega), hla.block _ (by simp)]; exact heap_alloc_last w _
  · rw [ha.block _ (by omega), hb.block _ (by omega)]; exact hl
structure IP (w w' : World) : Prop where
  b1 : w'.heap[w.heap.size]? = some (Gu.insB 0 0 0 0 0)
  b2 : w'.heap[w.heap.size + 1]? = some (stopB 0 0)
  bel : Below w.heap.size w w'
  lt : w.heap.size + 1 < w'.heap.size
theorem ip_start {w w' : World} (hb : Below ((w.alloc (Gu.insB 0 0 0 0 0)).alloc (stopB 0 0)).heap.size ((w.alloc (Gu.insB 0 0 0 0 0)).alloc (stopB 0 0)) w') : IP w w' := by
  have s1 := hb.size
  simp only [World.size_alloc] at s1 hb
  have hl := heap_alloc_last (w.alloc (Gu.insB 0 0 0 0 0)) (stopB 0 0)
  simp only [World.size_alloc] at hl
  have h2 : Below w.heap.size w w' := (((Below.refl _ _).alloc (Nat.le_refl _) _).alloc (by simp) _).trans (hb.mono (by omega))
  have hla : Below (w.alloc (Gu.insB 0 0 0 0 0)).heap.size (w.alloc (Gu.insB 0 0 0 0 0)) ((w.alloc (Gu.insB 0 0 0 0 0)).alloc (stopB 0 0)) := (Below.refl _ _).alloc (Nat.le_refl _) _
  refine ⟨?_, ?_, h2, by omega⟩
  · rw [hb.block _ (by omega), hla.block _ (by simp)]; exact heap_alloc_last w _
  · rw [hb.block _ (by omega)]; exact hl

set_option maxHeartbeats 1000000 in
theorem rins_bad1 (k : RB) (pc x : Nat) (s : MS) (w : World) (hpc : pc < 4294967296) (hs : s.Ok) (h : RM w k s) (hf : fet s pc 1 = some x) :
    Calls Try.prog 97 #[.pointer (some ⟨k.y, 0, none⟩), .int .u32 pc] w fun e w' => e = .returned (insV ⟨0, 0, 0, 0, 0, 0, 4, x⟩) ∧ Below w.heap.size w w' := by
  have HR : Hid (RM ((w.alloc (Gu.insB 0 0 0 0 0)).alloc (stopB 0 0)) k s) := (h.alloc _).alloc _
  have HF : Hid (fet s pc 1 = some x) := hf
  clear h hf
  go_enter Try.func97, Try.ntmps97
  go_wp2_with (go_at_call 78; refine (rfetch_b k pc x 1 s _ hpc hs HR.out HF.out).mono ?_; rintro e w' ⟨p, c, rfl, hBl⟩; have HI : Hid (IP w w') := ip_start hBl; obtain ⟨i0, i1, i2, i3, i4⟩ := Gu.ins_cells HI.out.b1; obtain ⟨f0, f1, f2, f3, f4⟩ := Gu.ins_frozen HI.out.b1; obtain ⟨s0, s1, g0, g1⟩ := stop_cells HI.out.b2; have hl1 := HI.out.lt; have hl0 := Nat.lt_of_succ_lt hl1; clear hBl)
  go_region
  all_goals
    go_wp2
    exact bodyPost_ret (v := insV ⟨0, 0, 0, 0, 0, 0, 4, x⟩) (by simp [results, Try.results97, go_sem, i0, i1, i2, i3, i4, s0, s1, hl0, hl1]) rfl ⟨rfl, by
      have hB := HI.out.bel
      repeat first
        | with_reducible exact hB
        | with_reducible refine Below.setCell ?_ (by first | exact Nat.le_refl _ | exact Nat.le_succ _ | (simp only; omega)) _
        | with_reducible refine Below.alloc ?_ (by first | omega | (simp; omega)) _
        | with_reducible refine Below.drew ?_⟩

theorem one_byte {w : World} {b off pc : Nat} {s : MS} (hc : ∀ i, i < fetM s pc 1 → w.cell? ⟨b, off + i, none⟩ = some (.int .u8 (s.B (pc + i)))) (h1 : fetM s pc 1 = 1) : w.cell? ⟨b, off, none⟩ = some (.int .u8 (s.B pc)) := by
  simpa using hc 0 (by omega)

set_option maxHeartbeats 1000000 in
theorem rins_bad2 (k : RB) (pc x : Nat) (s : MS) (w : World) (hpc : pc < 4294967296) (hs : s.Ok) (h : RM w k s) (hf : fet s pc 1 = none) (hm : fetM s pc 1 = 1) (hf2 : fet s pc (Gu.sizeF (s.B pc)) = some x) :
    Calls Try.prog 97 #[.pointer (some ⟨k.y, 0, none⟩), .int .u32 pc] w fun e w' => e = .returned (insV ⟨0, 0, 0, 0, 0, 0, 4, x⟩) ∧ Below w.heap.size w w' := by
  have HR : Hid (RM ((w.alloc (Gu.insB 0 0 0 0 0)).alloc (stopB 0 0)) k s) := (h.alloc _).alloc _
  have HF : Hid (fet s pc 1 = none) := hf
  have HM : Hid (fetM s pc 1 = 1) := hm
  obtain ⟨y0, y1⟩ := hs.by_ pc
  have HF2 : Hid (fet s pc (Gu.sizeF (s.B pc)) = some x) := hf2
  clear h hf hm hf2
  go_enter Try.func97, Try.ntmps97
  go_wp2_with (first
    | (go_at_call 78; have HQ := HR2; refine (rfetch_b k pc x (Gu.sizeF (s.B pc)) s _ hpc hs HR2.out HF2.out).mono ?_; rintro e w3 ⟨p3, c3, rfl, hb3⟩; have HI3 : Hid _ := HI2.out.below hb3; obtain ⟨i0, i1, i2, i3, i4⟩ := Gu.ins_cells HI3.out.b1; obtain ⟨f0, f1, f2, f3, f4⟩ := Gu.ins_frozen HI3.out.b1; obtain ⟨s0, s1, g0, g1⟩ := stop_cells HI3.out.b2; obtain ⟨t0, t1, u0, u1⟩ := stop_cells HI3.out.b3; have hl1 := HI3.out.lt; have hl0 := Nat.lt_of_succ_lt hl1; clear hb3 HQ)
    | (go_at_call 78; have HQ := HR; refine (rfetch_g k pc 1 s _ hpc hs HR.out HF.out).mono ?_; rintro e w' ⟨p, c, rfl, hS, hBl⟩; rw [HM.out]; obtain ⟨b, off, rfl, hc⟩ := hS (by rw [HM.out]; exact Nat.zero_lt_one); have hc0 := one_byte hc HM.out; have hb0 := lt_of_cell hc0; have HB1 : Hid _ := hBl; have HRA : Hid (RM w' k s) := HR.out.below hBl (Nat.le_refl _); clear hc hS hBl HR HQ)
    | (go_at_call 20; refine (Gu.resize_any (s.B pc) _ y0 y1).mono ?_; rintro e w2 ⟨rfl, hb2⟩; have HI2 : Hid (IB w w2 0 0 w'.heap.size) := (ib_start HB1.out).below hb2; have HR2 : Hid (RM w2 k s) := (HRA.out.alloc _).below hb2 (Nat.le_refl _); clear hb2))
  go_region
  all_goals
    go_wp2
    exact bodyPost_ret (v := insV ⟨0, 0, 0, 0, 0, 0, 4, x⟩) (by simp [results, Try.results97, go_sem, i0, i1, i2, i3, i4, s0, s1, hl0, hl1, t0, t1]) rfl ⟨rfl, by
      have hB := HI3.out.bel
      repeat first
        | with_reducible exact hB
        | with_reducible refine Below.setCell ?_ (by first | exact Nat.le_refl _ | exact Nat.le_succ _ | (simp only; omega)) _
        | with_reducible refine Below.alloc ?_ (by first | omega | (simp; omega)) _
        | with_reducible refine Below.drew ?_⟩

/-- Behind the second fetch, with its stop laid down. -/
theorem nr_set {w2 w3 : World} {p : Option Addr} {m q : Nat} {z : Nat → Int} (hO : Out w2 w3 p m z) (hq : q < w2.heap.size) (v0 v1 : Value) :
    0 < m → ∃ H, p = some ⟨H, 0, none⟩ ∧ NR ((w3.setCell ⟨q, 0, none⟩ v0).setCell ⟨q, 1, none⟩ v1) H m z := fun h => by
  obtain ⟨H, e, hH, hN⟩ := hO.row h
  exact ⟨H, e, hN.of_block (by rw [heap_setOther _ _ _ _ _ (by omega), heap_setOther _ _ _ _ _ (by omega)])⟩

set_option maxHeartbeats 1000000 in
theorem rins_op (k : RB) (pc : Nat) (i : IR) (eR : Int) (s : MS) (w : World) (hpc : pc < 4294967296) (hs : s.Ok) (h : RM w k s) (hf : fet s pc 1 = none) (hm : fetM s pc 1 = 1) (hf2 : fet s pc (Gu.sizeF (s.B pc)) = none)
    (hd : ∀ (w3 : World) (p : Option Addr) (c : Nat), (0 < fetM s pc (Gu.sizeF (s.B pc)) → ∃ H, p = some ⟨H, 0, none⟩ ∧ NR w3 H (fetM s pc (Gu.sizeF (s.B pc))) (fun i => s.B (pc + i))) → (0 < fetM s pc (Gu.sizeF (s.B pc)) → fetM s pc (Gu.sizeF (s.B pc)) ≤ c ∧ c ≤ maxLen) →
      Calls Try.prog 17 #[.slice p (fetM s pc (Gu.sizeF (s.B pc))) c] w3 fun e w' => e = .returned (.tuple #[.agg #[.int .i64 i.op, .int .i64 i.D, .int .i64 i.S, .int .i64 i.O, .int .u32 i.imm], .int .i64 i.n, .int .i64 eR]) ∧ Below w3.heap.size w3 w') (he : (eR == 0) = false) (he2 : ¬ eR = 0) :
    Calls Try.prog 97 #[.pointer (some ⟨k.y, 0, none⟩), .int .u32 pc] w fun e w' => e = .returned (insV ⟨0, 0, 0, 0, 0, 0, 3, 0⟩) ∧ Below w.heap.size w w' := by
  have HR : Hid (RM ((w.alloc (Gu.insB 0 0 0 0 0)).alloc (stopB 0 0)) k s) := (h.alloc _).alloc _
  have HF : Hid (fet s pc 1 = none) := hf
  have HM : Hid (fetM s pc 1 = 1) := hm
  obtain ⟨y0, y1⟩ := hs.by_ pc
  have HF2 : Hid (fet s pc (Gu.sizeF (s.B pc)) = none) := hf2
  have HD : Hid _ := hd
  clear h hf hm hf2 hd
  go_enter Try.func97, Try.ntmps97
  go_wp2_with (first
    | (go_at_call 78; have HQ := HR2; refine (rfetch_c k pc (Gu.sizeF (s.B pc)) s _ hpc hs HR2.out HF2.out).mono ?_; rintro e w3 ⟨p3, c3, rfl, hO, hC⟩; have HC3 : Hid _ := hC; have HO3 : Hid _ := hO; have HI3 : Hid _ := HI2.out.below hO.bel; obtain ⟨t0, t1, u0, u1⟩ := stop_cells HI3.out.b3; have hl1 := HI3.out.lt; have hl0 := Nat.lt_of_succ_lt hl1; clear hC hO HQ)
    | (go_at_call 17; refine (HD.out _ p3 c3 (nr_set HO3.out (lt_of_block HI2.out.b3) _ _) HC3.out).mono ?_; rintro e w4 ⟨rfl, hb4⟩; have HI4 : Hid (IB w w4 0 0 w'.heap.size) := (HI3.out.set 0 0).below hb4; obtain ⟨i0, i1, i2, i3, i4⟩ := Gu.ins_cells HI4.out.b1; obtain ⟨f0, f1, f2, f3, f4⟩ := Gu.ins_frozen HI4.out.b1; obtain ⟨s0, s1, g0, g1⟩ := stop_cells HI4.out.b2; obtain ⟨t0, t1, u0, u1⟩ := stop_cells HI4.out.b3; have hm1 : w.heap.size < w4.heap.size := lt_of_block HI4.out.b1; have hm2 : w.heap.size + 1 < w4.heap.size := lt_of_block HI4.out.b2; have hm3 : w'.heap.size < w4.heap.size := lt_of_block HI4.out.b3; clear hb4)
    | (go_at_call 78; have HQ := HR; refine (rfetch_g k pc 1 s _ hpc hs HR.out HF.out).mono ?_; rintro e w' ⟨p, c, rfl, hS, hBl⟩; rw [HM.out]; obtain ⟨b, off, rfl, hc⟩ := hS (by rw [HM.out]; exact Nat.zero_lt_one); have hc0 := one_byte hc HM.out; have hb0 := lt_of_cell hc0; have HB1 : Hid _ := hBl; have HRA : Hid (RM w' k s) := HR.out.below hBl (Nat.le_refl _); clear hc hS hBl HR HQ)
    | (go_at_call 20; refine (Gu.resize_any (s.B pc) _ y0 y1).mono ?_; rintro e w2 ⟨rfl, hb2⟩; have HI2 : Hid (IB w w2 0 0 w'.heap.size) := (ib_start HB1.out).below hb2; have HR2 : Hid (RM w2 k s) := (HRA.out.alloc _).below hb2 (Nat.le_refl _); clear hb2))
  exact bodyPost_ret (v := insV ⟨0, 0, 0, 0, 0, 0, 3, 0⟩) (by simp [results, Try.results97, go_sem, i0, i1, i2, i3, i4, s0, s1, hl0, hl1, t0, t1, hm1, hm2, hm3]) rfl ⟨rfl, by
    have hB := HI4.out.bel
    repeat first
      | with_reducible exact hB
      | with_reducible refine Below.setCell ?_ (by first | exact Nat.le_refl _ | exact Nat.le_succ _ | (simp only; omega)) _
      | with_reducible refine Below.alloc ?_ (by first | omega | (simp; omega)) _
      | with_reducible refine Below.drew ?_⟩

set_option maxHeartbeats 1000000 in
theorem rins_ok (k : RB) (pc : Nat) (i : IR) (s : MS) (w : World) (hpc : pc < 4294967296) (hs : s.Ok) (h : RM w k s) (hf : fet s pc 1 = none) (hm : fetM s pc 1 = 1) (hf2 : fet s pc (Gu.sizeF (s.B pc)) = none)
    (hd : ∀ (w3 : World) (p : Option Addr) (c : Nat), (0 < fetM s pc (Gu.sizeF (s.B pc)) → ∃ H, p = some ⟨H, 0, none⟩ ∧ NR w3 H (fetM s pc (Gu.sizeF (s.B pc))) (fun i => s.B (pc + i))) → (0 < fetM s pc (Gu.sizeF (s.B pc)) → fetM s pc (Gu.sizeF (s.B pc)) ≤ c ∧ c ≤ maxLen) →
      Calls Try.prog 17 #[.slice p (fetM s pc (Gu.sizeF (s.B pc))) c] w3 fun e w' => e = .returned (.tuple #[.agg #[.int .i64 i.op, .int .i64 i.D, .int .i64 i.S, .int .i64 i.O, .int .u32 i.imm], .int .i64 i.n, .int .i64 0]) ∧ Below w3.heap.size w3 w') :
    Calls Try.prog 97 #[.pointer (some ⟨k.y, 0, none⟩), .int .u32 pc] w fun e w' => e = .returned (insV { i with k := 0, a := 0 }) ∧ Below w.heap.size w w' := by
  have HR : Hid (RM ((w.alloc (Gu.insB 0 0 0 0 0)).alloc (stopB 0 0)) k s) := (h.alloc _).alloc _
  have HF : Hid (fet s pc 1 = none) := hf
  have HM : Hid (fetM s pc 1 = 1) := hm
  obtain ⟨y0, y1⟩ := hs.by_ pc
  have HF2 : Hid (fet s pc (Gu.sizeF (s.B pc)) = none) := hf2
  have HD : Hid _ := hd
  clear h hf hm hf2 hd
  go_enter Try.func97, Try.ntmps97
  go_wp2_with (first
    | (go_at_call 78; have HQ := HR2; refine (rfetch_c k pc (Gu.sizeF (s.B pc)) s _ hpc hs HR2.out HF2.out).mono ?_; rintro e w3 ⟨p3, c3, rfl, hO, hC⟩; have HC3 : Hid _ := hC; have HO3 : Hid _ := hO; have HI3 : Hid _ := HI2.out.below hO.bel; obtain ⟨t0, t1, u0, u1⟩ := stop_cells HI3.out.b3; have hl1 := HI3.out.lt; have hl0 := Nat.lt_of_succ_lt hl1; clear hC hO HQ)
    | (go_at_call 17; refine (HD.out _ p3 c3 (nr_set HO3.out (lt_of_block HI2.out.b3) _ _) HC3.out).mono ?_; rintro e w4 ⟨rfl, hb4⟩; have HI4 : Hid (IB w w4 0 0 w'.heap.size) := (HI3.out.set 0 0).below hb4; obtain ⟨i0, i1, i2, i3, i4⟩ := Gu.ins_cells HI4.out.b1; obtain ⟨f0, f1, f2, f3, f4⟩ := Gu.ins_frozen HI4.out.b1; obtain ⟨s0, s1, g0, g1⟩ := stop_cells HI4.out.b2; obtain ⟨t0, t1, u0, u1⟩ := stop_cells HI4.out.b3; have hm1 : w.heap.size < w4.heap.size := lt_of_block HI4.out.b1; have hm2 : w.heap.size + 1 < w4.heap.size := lt_of_block HI4.out.b2; have hm3 : w'.heap.size < w4.heap.size := lt_of_block HI4.out.b3; clear hb4)
    | (go_at_call 78; have HQ := HR; refine (rfetch_g k pc 1 s _ hpc hs HR.out HF.out).mono ?_; rintro e w' ⟨p, c, rfl, hS, hBl⟩; rw [HM.out]; obtain ⟨b, off, rfl, hc⟩ := hS (by rw [HM.out]; exact Nat.zero_lt_one); have hc0 := one_byte hc HM.out; have hb0 := lt_of_cell hc0; have HB1 : Hid _ := hBl; have HRA : Hid (RM w' k s) := HR.out.below hBl (Nat.le_refl _); clear hc hS hBl HR HQ)
    | (go_at_call 20; refine (Gu.resize_any (s.B pc) _ y0 y1).mono ?_; rintro e w2 ⟨rfl, hb2⟩; have HI2 : Hid (IB w w2 0 0 w'.heap.size) := (ib_start HB1.out).below hb2; have HR2 : Hid (RM w2 k s) := (HRA.out.alloc _).below hb2 (Nat.le_refl _); clear hb2))
  exact bodyPost_ret (v := insV { i with k := 0, a := 0 }) (by simp [results, Try.results97, go_sem, i0, i1, i2, i3, i4, s0, s1, hl0, hl1, t0, t1, hm1, hm2, hm3]) rfl ⟨rfl, by
    have hB := HI4.out.bel
    repeat first
      | with_reducible exact hB
      | with_reducible refine Below.setCell ?_ (by first | exact Nat.le_refl _ | exact Nat.le_succ _ | (simp only; omega)) _
      | with_reducible refine Below.alloc ?_ (by first | omega | (simp; omega)) _
      | with_reducible refine Below.drew ?_⟩

theorem dec_err (zs : List Int) (len : Nat) (h : ¬ (Gu.refDec zs len).e = 0) : ∃ x, Gu.refDec zs len = Gu.decErr x := by
  unfold Gu.refDec at h ⊢
  by_cases hl : len = 0
  · rw [if_pos hl]; exact ⟨_, rfl⟩
  rw [if_neg hl] at h ⊢
  cases hk : Gu.hitF (zs.getD 0 0) with
  | none => exact ⟨2, rfl⟩
  | some k =>
    rw [hk] at h
    simp only at h ⊢
    split
    · exact ⟨_, rfl⟩
    rename_i h1
    rw [if_neg h1] at h
    split
    · exact ⟨_, rfl⟩
    rename_i h2
    rw [if_neg h2] at h
    exact absurd rfl h
theorem rins_any (k : RB) (pc : Nat) (s : MS) (w : World) (hpc : pc < 4294967296) (hs : s.Ok) (h : RM w k s) :
    Calls Try.prog 97 #[.pointer (some ⟨k.y, 0, none⟩), .int .u32 pc] w fun e w' => e = .returned (insV (insOf s pc)) ∧ Below w.heap.size w w' := by
  have e1 : fet s pc 1 = badN s 4 pc 1 := if_pos (by omega)
  cases hb : badN s 4 pc 1 with
  | some x =>
    have e : insOf s pc = ⟨0, 0, 0, 0, 0, 0, 4, x⟩ := by unfold insOf; rw [hb]
    rw [e]; exact rins_bad1 k pc x s w hpc hs h (e1.trans hb)
  | none =>
    have hm : fetM s pc 1 = 1 := if_pos ⟨by omega, hb⟩
    cases hb2 : fet s pc (Gu.sizeF (s.B pc)) with
    | some x =>
      have e : insOf s pc = ⟨0, 0, 0, 0, 0, 0, 4, x⟩ := by unfold insOf; rw [hb]; simp only [hb2]
      rw [e]; exact rins_bad2 k pc x s w hpc hs h (e1.trans hb) hm hb2
    | none =>
      by_cases he : (Gu.refDec (byL s pc (fetM s pc (Gu.sizeF (s.B pc)))) (fetM s pc (Gu.sizeF (s.B pc)))).e = 0
      · have hd := dec_ok_bd (fetM s pc (Gu.sizeF (s.B pc))) (byL_bd hs pc (fetM s pc (Gu.sizeF (s.B pc)))) he
        have e : insOf s pc = { insOf s pc with k := 0, a := 0 } := by unfold insOf; rw [hb]; simp only [hb2]; rw [if_pos he]
        rw [e]
        refine rins_ok k pc (insOf s pc) s w hpc hs h (e1.trans hb) hm hb2 fun w3 p c h1 h2 => (rdec_f hs pc _ c p w3 h1 h2).mono fun e w' ⟨he1, hb1⟩ => ⟨?_, hb1⟩
        rw [he1]
        unfold insOf; rw [hb]; simp only [hb2]; rw [if_pos he]
        simp only [Gu.decV, he, Int.toNat_of_nonneg hd.D0, Int.toNat_of_nonneg hd.S0, Int.toNat_of_nonneg hd.im0, Int.toNat_of_nonneg (Int.le_trans (by omega) hd.n0)]
      · have e : insOf s pc = ⟨0, 0, 0, 0, 0, 0, 3, 0⟩ := by unfold insOf; rw [hb]; simp only [hb2]; rw [if_neg he]
        rw [e]
        obtain ⟨i, hi⟩ : ∃ i : IR, Gu.decV (Gu.refDec (byL s pc (fetM s pc (Gu.sizeF (s.B pc)))) (fetM s pc (Gu.sizeF (s.B pc)))) = .tuple #[.agg #[.int .i64 i.op, .int .i64 i.D, .int .i64 i.S, .int .i64 i.O, .int .u32 i.imm], .int .i64 i.n, .int .i64 (Gu.refDec (byL s pc (fetM s pc (Gu.sizeF (s.B pc)))) (fetM s pc (Gu.sizeF (s.B pc)))).e] := by
          obtain ⟨x, hx⟩ := dec_err (byL s pc (fetM s pc (Gu.sizeF (s.B pc)))) (fetM s pc (Gu.sizeF (s.B pc))) he
          exact ⟨⟨0, 0, 0, 0, 0, 0, 0, 0⟩, by rw [hx]; rfl⟩
        refine rins_op k pc i _ s w hpc hs h (e1.trans hb) hm hb2 (fun w3 p c h1 h2 => (rdec_f hs pc _ c p w3 h1 h2).mono fun e w' ⟨he1, hb1⟩ => ⟨by rw [he1, hi], hb1⟩) (by simpa using he) he

structure InsOk (i : IR) : Prop where
  op0 : 0 ≤ i.op
  op1 : i.op ≤ 31
  D1 : i.D ≤ 7
  S1 : i.S ≤ 7
  im : i.imm < 4294967296
  n1 : i.n ≤ 9
  O0 : 0 ≤ i.O
  O1 : i.O ≤ 15
  ld : i.op = 30 → i.O ≤ 4
  st : i.op = 31 → i.O ≤ 2
theorem insOf_ok (s : MS) (pc : Nat) (hs : s.Ok) (hk : (insOf s pc).k = 0) : InsOk (insOf s pc) := by
  unfold insOf at hk ⊢
  cases hb : badN s 4 pc 1 with
  | some x => rw [hb] at hk; exact absurd (show (4 : Int) = 0 from hk) (by decide)
  | none =>
    rw [hb] at hk
    simp only at hk ⊢
    cases hb2 : fet s pc (Gu.sizeF (s.B pc)) with
    | some x => rw [hb2] at hk; exact absurd (show (4 : Int) = 0 from hk) (by decide)
    | none =>
      rw [hb2] at hk
      simp only at hk ⊢
      split at hk
      · rename_i he
        rw [if_pos he]
        have hd := dec_ok_bd (fetM s pc (Gu.sizeF (s.B pc))) (byL_bd hs pc (fetM s pc (Gu.sizeF (s.B pc)))) he
        obtain ⟨a1, a2, a3, a4, a5, a6, a7, a8, a9, a10, a11, a12, a13, a14⟩ := hd
        exact ⟨a1, a2, by show Int.toNat _ ≤ 7; omega, by show Int.toNat _ ≤ 7; omega, by show Int.toNat _ < _; omega, by show Int.toNat _ ≤ 9; omega, a11, a12, a13, a14⟩
      · exact absurd (show (3 : Int) = 0 from hk) (by decide)
end Go.Proofs.Ytjmffijdojeghaa

namespace Go.Proofs.Ytjmffijdojeghaa
open Go.RowKit
set_option maxRecDepth 100000
set_option linter.unusedVariables false
set_option linter.unusedSimpArgs false

theorem RM.off {w w' : World} {k : RB} {m : MS} {T : Nat} (h : RM w k m) (hT : T ∉ k.y :: k.all) (ho : ∀ b, b ≠ T → w'.heap[b]? = w.heap[b]?) : RM w' k m :=
  h.of_blocks fun x hx => ho x (fun e => hT (e ▸ hx))
/-- The world that a swap's store is asked in. -/
structure SwW (w W : World) (k : RB) (m : MS) (T q : Nat) (t' : GS) : Prop where
  rm : RM W k m
  chg : Chg (T :: k.all) w W
  bq : W.heap[q]? = some (stopB 0 0)
  bT : W.heap[T]? = some (gsB t')
  hq : w.heap.size ≤ q
  hT : T < w.heap.size
  nT : T ∉ k.y :: k.all
  lk : ∀ x ∈ k.y :: k.all, x < w.heap.size
theorem SwW.drew {w W : World} {k : RB} {m : MS} {T q : Nat} {t' : GS} (h : SwW w W k m T q t') : SwW w W.drew k m T q t' :=
  ⟨h.rm.drew, ⟨h.chg.os, h.chg.tape, h.chg.output, h.chg.size, h.chg.block⟩, h.bq, h.bT, h.hq, h.hT, h.nT, h.lk⟩
end Go.Proofs.Ytjmffijdojeghaa

namespace Go.Proofs.Ytjmffijdojeghaa
open Go.RowKit
set_option maxRecDepth 100000
set_option linter.unusedVariables false
set_option linter.unusedSimpArgs false

def gs0 : GS := ⟨fun _ => 0, 0, 0⟩
/-- Its blocks. -/
structure MmB (w0 w : World) (k : RB) (m : MS) (i : IR) (s t : GS) (kk aa : Int) : Prop where
  rm : RM w k m
  chg : Chg k.all w0 w
  b0 : w.heap[w0.heap.size]? = some (Gu.insB i.op i.D i.S i.O i.imm)
  b1 : w.heap[w0.heap.size + 1]? = some (gsB s)
  b2 : w.heap[w0.heap.size + 1 + 1]? = some (gsB t)
  b3 : w.heap[w0.heap.size + 1 + 1 + 1]? = some (gsB gs0)
  b4 : w.heap[w0.heap.size + 1 + 1 + 1 + 1]? = some (stopB 0 0)
  b5 : w.heap[w0.heap.size + 1 + 1 + 1 + 1 + 1]? = some (stopB kk aa)
  lk : ∀ x ∈ k.y :: k.all, x < w0.heap.size

theorem MmB.below {w0 w w' : World} {k : RB} {m : MS} {i : IR} {s t : GS} {kk aa : Int} (h : MmB w0 w k m i s t kk aa) (hb : Below w.heap.size w w') : MmB w0 w' k m i s t kk aa :=
  ⟨h.rm.below hb (Nat.le_refl _), h.chg.trans (Chg.of_below _ hb), (hb.block _ (lt_of_block h.b0)).trans h.b0, (hb.block _ (lt_of_block h.b1)).trans h.b1, (hb.block _ (lt_of_block h.b2)).trans h.b2, (hb.block _ (lt_of_block h.b3)).trans h.b3, (hb.block _ (lt_of_block h.b4)).trans h.b4, (hb.block _ (lt_of_block h.b5)).trans h.b5, h.lk⟩
theorem MmB.drew {w0 w : World} {k : RB} {m : MS} {i : IR} {s t : GS} {kk aa : Int} (h : MmB w0 w k m i s t kk aa) : MmB w0 w.drew k m i s t kk aa :=
  ⟨h.rm.drew, h.chg.drew, h.b0, h.b1, h.b2, h.b3, h.b4, h.b5, h.lk⟩
end Go.Proofs.Ytjmffijdojeghaa
