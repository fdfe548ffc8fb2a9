import Derived.Test.YtkhaajbhgenicaaME
import Derived.Laws.CopyOwn
import Derived.Laws.MakeOwn
import Derived.Deep.MidRow
import Derived.Deep.AppendLies
namespace Go.Proofs.Ytkhaajbhgenicaa
open Go.RowKit
set_option maxRecDepth 100000
set_option linter.unusedVariables false

theorem lies_yes (a n : Nat) (w : World) (h : a + n ≤ 65536) : Calls Try.prog 58 #[.int .i64 a, .int .i64 n] w (fun e w' => e = .returned (.bool true) ∧ w = w') := by
  have h0 : (0 : Int) ≤ a := by omega
  have h1 : (a : Int) ≤ 65536 := by omega
  have h2 : (0 : Int) ≤ n := by omega
  have h3 : (n : Int) ≤ 65536 - a := by omega
  go_enter Try.func58, Try.ntmps58; go_wp2; go_ret; exact ⟨rfl, rfl⟩
theorem lies_no (a n : Int) (w : World) (hn : -9223372036854775808 ≤ a ∧ a ≤ 9223372036854775807) (h : ¬ (0 ≤ a ∧ a ≤ 65536 ∧ 0 ≤ n ∧ n ≤ 65536 - a)) : Calls Try.prog 58 #[.int .i64 a, .int .i64 n] w (fun e w' => e = .returned (.bool false) ∧ w = w') := by
  by_cases h0 : 0 ≤ a
  · by_cases h1 : a ≤ 65536
    · by_cases h2 : 0 ≤ n
      · have h3 : ¬ n ≤ 65536 - a := by omega
        have d3 : decide (n ≤ 65536 - a) = false := decide_eq_false h3
        clear h hn
        go_enter Try.func58, Try.ntmps58; go_wp2; go_ret; exact ⟨rfl, rfl⟩
      · have d2 : decide (0 ≤ n) = false := decide_eq_false h2
        clear h hn
        go_enter Try.func58, Try.ntmps58; go_wp2; go_ret; exact ⟨rfl, rfl⟩
    · have d1 : decide (a ≤ 65536) = false := decide_eq_false h1
      clear h hn
      go_enter Try.func58, Try.ntmps58; go_wp2; go_ret; exact ⟨rfl, rfl⟩
  · have d0 : decide (0 ≤ a) = false := decide_eq_false h0
    clear h hn
    go_enter Try.func58, Try.ntmps58; go_wp2; go_ret; exact ⟨rfl, rfl⟩

def widB (n : Int) : Bool := decide (n = 1 ∨ n = 2 ∨ n = 4)
theorem wid_yes (n : Int) (w : World) (h : n = 1 ∨ n = 2 ∨ n = 4) : Calls Try.prog 62 #[.int .i64 n] w (fun e w' => e = .returned (.bool true) ∧ w = w') := by
  rcases h with rfl | rfl | rfl <;> (go_enter Try.func62, Try.ntmps62; go_wp2; go_ret; exact ⟨rfl, rfl⟩)
theorem wid_no (n : Int) (w : World) (h : ¬ (n = 1 ∨ n = 2 ∨ n = 4)) : Calls Try.prog 62 #[.int .i64 n] w (fun e w' => e = .returned (.bool false) ∧ w = w') := by
  have h1 : (n == 1) = false := by simp; omega
  have h2 : (n == 2) = false := by simp; omega
  have h4 : (n == 4) = false := by simp; omega
  clear h
  go_enter Try.func62, Try.ntmps62; go_wp2; go_ret; exact ⟨rfl, rfl⟩

/-! ## copy, by cells -/
theorem wpList_copy_set {P : Program} {w : World} {ops : Array Oper} {rest : List Oper} {o : Oper} {a : Act} {Q : Exit → Act → World → Prop} (hgd : o.guard = none) (d s : Operand) (dT sT : TypeId)
    (ho : o.op = .call { callee := .builtin .copy, args := #[d, s], argTypes := #[dT, sT] }) (elem : TypeId) (hu : P.underlying dT = some (.slice elem)) (hsz : (P.info? elem).map (·.size) = some 1)
    (dp sp : Option Addr) (dLen dCap sLen sCap : Nat) (hd : a.eval d = .slice dp dLen dCap) (hs : a.eval s = .slice sp sLen sCap)
    (b off : Nat) (cs : List Value) (hn : cs.length = Nat.min sLen dLen)
    (hpos : 0 < cs.length → dp = some ⟨b, off, none⟩ ∧ ∃ ad, sp = some ad ∧ ∀ j v, cs[j]? = some v → w.cell? (ad.add j) = some v)
    (hc : ∀ j, j < cs.length → (w.cell? ⟨b, off + j, none⟩).isSome = true) (hf : ∀ j, j < cs.length → w.frozen? ⟨b, off + j, none⟩ = false) (h1 : ∀ v ∈ cs, v.oneCell' = true)
    (h : wpList P ops Q rest (a.put o.dst (goInt cs.length)) (w.setCells b off cs)) : wpList P ops Q (o :: rest) a w := by
  by_cases h0 : cs.length = 0
  · obtain rfl : cs = [] := List.eq_nil_of_length_eq_zero h0
    exact wpList_copy_nothing hgd d s dT sT ho elem hu hsz dp sp dLen dCap sLen sCap hd hs (by simpa using hn.symm) h
  · obtain ⟨rfl, ad, rfl, hsrc⟩ := hpos (by omega)
    refine wpList_plain hgd fun K hK => ?_
    have hrun := run_copy_cells (P := P) w dT sT o.type elem b off dLen dCap ad sLen sCap cs hu hsz hn hsrc hc hf h1
    unfold Oper.wp
    simp only [execOp, ho, resolve, invoke, builtin, hd, hs, Sem.run_bind, Sem.run_pure, Result.andThen_ok, List.map_toArray, List.map_cons, List.map_nil, hrun]
    exact hK _ _ h

structure CopyPre (w : World) (dp sp : Option Addr) (sLen dLen b off : Nat) (cs : List Value) : Prop where
  hn : cs.length = Nat.min sLen dLen
  hpos : 0 < cs.length → dp = some ⟨b, off, none⟩ ∧ ∃ ad, sp = some ad ∧ ∀ j v, cs[j]? = some v → w.cell? (ad.add j) = some v
  hc : ∀ j, j < cs.length → (w.cell? ⟨b, off + j, none⟩).isSome = true
  hf : ∀ j, j < cs.length → w.frozen? ⟨b, off + j, none⟩ = false
  h1 : ∀ v ∈ cs, v.oneCell' = true
theorem wpList_copy_pre {P : Program} {w : World} {ops : Array Oper} {rest : List Oper} {o : Oper} {a : Act} {Q : Exit → Act → World → Prop} (hgd : o.guard = none) (d s : Operand) (dT sT : TypeId)
    (ho : o.op = .call { callee := .builtin .copy, args := #[d, s], argTypes := #[dT, sT] }) (elem : TypeId) (hu : P.underlying dT = some (.slice elem)) (hsz : (P.info? elem).map (·.size) = some 1)
    (dp sp : Option Addr) (dLen dCap sLen sCap : Nat) (hd : a.eval d = .slice dp dLen dCap) (hs : a.eval s = .slice sp sLen sCap)
    (b off : Nat) (cs : List Value) (hp : CopyPre w dp sp sLen dLen b off cs)
    (h : wpList P ops Q rest (a.put o.dst (goInt cs.length)) (w.setCells b off cs)) : wpList P ops Q (o :: rest) a w :=
  wpList_copy_set hgd d s dT sT ho elem hu hsz dp sp dLen dCap sLen sCap hd hs b off cs hp.hn hp.hpos hp.hc hp.hf hp.h1 h

/-- n bytes as cells. -/
def byteCs (z : Nat → Int) (n : Nat) : List Value := (List.range n).map fun i => Value.int .u8 (z i)
theorem byteCs_length (z : Nat → Int) (n : Nat) : (byteCs z n).length = n := by simp [byteCs]
theorem byteCs_at (z : Nat → Int) (n j : Nat) (v : Value) (h : (byteCs z n)[j]? = some v) : j < n ∧ v = .int .u8 (z j) := by
  simp only [byteCs, List.getElem?_map, Option.map_eq_some_iff] at h
  obtain ⟨i, hij, rfl⟩ := h
  obtain ⟨hlt, rfl⟩ := List.getElem?_eq_some_iff.1 hij
  simp only [List.getElem_range]
  exact ⟨by simpa using hlt, trivial⟩
theorem byteCs_get (z : Nat → Int) (n j : Nat) (h : j < (byteCs z n).length) : (byteCs z n)[j] = .int .u8 (z j) := by simp [byteCs]
theorem byteCs_one (z : Nat → Int) (n : Nat) : ∀ v ∈ byteCs z n, v.oneCell' = true := by
  intro v hv
  simp only [byteCs, List.mem_map] at hv
  obtain ⟨i, -, rfl⟩ := hv
  rfl

/-- The bytes from a place on are others. -/
def ovr (B : Nat → Int) (at' n : Nat) (z : Nat → Int) : Nat → Int := fun i => if at' ≤ i ∧ i < at' + n then z (i - at') else B i
theorem PM.setBytes {w : World} {X : Nat} {s : MS} (h : PM w X s) (at' n : Nat) (z : Nat → Int) (hl : at' + n ≤ 65536) : PM (w.setCells X at' (byteCs z n)) X { s with B := ovr s.B at' n z } := by
  have hout : ∀ o, (o < at' ∨ at' + n ≤ o) → (w.setCells X at' (byteCs z n)).cell? ⟨X, o, none⟩ = w.cell? ⟨X, o, none⟩ := fun o ho =>
    World.cell?_setCells_out X (byteCs z n) at' w ⟨X, o, none⟩ (fun _ _ => by rw [byteCs_length]; exact ho)
  refine ⟨fun j hj => ?_, fun j hj => ?_, fun j hj => ?_, fun j hj => ?_, ?_, fun o => ?_⟩
  · by_cases hin : at' ≤ j ∧ j < at' + n
    · obtain ⟨i, rfl⟩ : ∃ i, j = at' + i := ⟨j - at', by omega⟩
      have hi : i < n := by omega
      rw [World.cell?_setCells_in X (byteCs z n) at' w (fun q hq => by rw [byteCs_length] at hq; rw [h.by_ _ (by omega)]; rfl) i (by rw [byteCs_length]; exact hi), byteCs_get]
      simp only [ovr, if_pos hin, Nat.add_sub_cancel_left]
    · rw [hout j (by omega), h.by_ j hj]; simp only [ovr, if_neg hin]
  · rw [hout _ (by omega)]; exact h.ri j hj
  · rw [hout _ (by omega)]; exact h.wa j hj
  · rw [hout _ (by omega)]; exact h.to j hj
  · rw [hout _ (by omega)]; exact h.te
  · rw [World.frozen?_setCells]; exact h.fr o

/-- A row of bytes behind a slice. -/
def SR (w : World) (bp : Option Addr) (n : Nat) (z : Nat → Int) : Prop := 0 < n → ∃ b off, bp = some ⟨b, off, none⟩ ∧ ∀ i, i < n → w.cell? ⟨b, off + i, none⟩ = some (.int .u8 (z i))

theorem info5 : (Try.prog.info? 5).map (fun i => (i.zero, i.size, i.bytes)) = some (some (.int .u8 0), 1, 1) := by kernel_rfl
theorem size5 : (Try.prog.info? 5).map (·.size) = some 1 := by kernel_rfl

def pokeS (s : MS) (at' n : Nat) (z : Nat → Int) : MS := tellB { s with B := ovr s.B at' n z } at' n

theorem ovr_zero (B : Nat → Int) (a : Nat) (z : Nat → Int) : ovr B a 0 z = B := by
  funext i; simp only [ovr]; rw [if_neg (by omega)]
theorem pokeS_zero (s : MS) (a : Nat) (z : Nat → Int) : pokeS s a 0 z = s := by
  simp only [pokeS, tellB, if_true, ovr_zero]

theorem poke_no (X : Nat) (a : Int) (bp : Option Addr) (n c : Nat) (w : World) (ha : -9223372036854775808 ≤ a ∧ a ≤ 9223372036854775807) (h : ¬ (0 ≤ a ∧ a ≤ 65536 ∧ (n : Int) ≤ 65536 - a)) :
    Calls Try.prog 31 #[.pointer (some ⟨X, 0, none⟩), .int .i64 a, .slice bp n c] w fun e w' => e = .returned (.int .i64 4) ∧ w = w' := by
  have h' : ¬ (0 ≤ a ∧ a ≤ 65536 ∧ 0 ≤ (n : Int) ∧ (n : Int) ≤ 65536 - a) := by omega
  have HA : Hid (-9223372036854775808 ≤ a ∧ a ≤ 9223372036854775807) := ha
  have HB : Hid (¬ (0 ≤ a ∧ a ≤ 65536 ∧ 0 ≤ (n : Int) ∧ (n : Int) ≤ 65536 - a)) := h'
  clear ha h h'
  go_enter Try.func31, Try.ntmps31
  go_wp2_with (go_at_call 58; refine (lies_no _ _ _ HA.out HB.out).mono ?_; rintro e w' ⟨rfl, rfl⟩)
  go_ret
  exact ⟨rfl, rfl⟩

theorem poke_yes (X at' : Nat) (bp : Option Addr) (n c : Nat) (z : Nat → Int) (s : MS) (w : World) (hl : at' + n ≤ 65536) (hz : SR w bp n z) (h : PM w X s) :
    Calls Try.prog 31 #[.pointer (some ⟨X, 0, none⟩), .int .i64 at', .slice bp n c] w fun e w' => e = .returned (.int .i64 0) ∧ PM w' X (pokeS s at' n z) ∧ Chg [X] w w' := by
  have hn0 : (0 : Int) ≤ n := by omega
  have hn1 : (n : Int) ≤ 65536 := by omega
  have ha0 : (0 : Int) ≤ at' := by omega
  have ha1 : (at' : Int) ≤ 65536 := by omega
  have HP : Hid (PM w X s) := h
  have HL : Hid (at' + n ≤ 65536) := hl
  by_cases hn : n = 0
  · subst hn
    rw [pokeS_zero]
    clear h hz hl
    go_enter Try.func31, Try.ntmps31
    go_wp2_with first
      | (go_at_call 58; refine (lies_yes _ _ _ HL.out).mono ?_; rintro e w' ⟨rfl, rfl⟩)
      | (refine wpList_copy_nothing rfl (.tmp 16) (.tmp 17) 22 22 rfl 5 Try.underlying22 size5 _ _ _ _ _ _ rfl rfl (by simp) ?_)
      | (go_at_call 59; refine (change_any X at' 0 s _ HL.out HP.out).mono ?_; rintro e w' ⟨rfl, hP', hC'⟩)
    all_goals
      go_ret
      exact ⟨rfl, hP', hC'⟩
  · obtain ⟨b, off, rfl, hz'⟩ := hz (by omega)
    have hne : ¬ 65536 = at' := by omega
    have HZ : Hid (∀ i, i < n → w.cell? ⟨b, off + i, none⟩ = some (.int .u8 (z i))) := hz'
    have HN : Hid (at' < 65536) := show at' < 65536 by omega
    have HC : CopyPre w (some ⟨X, at', none⟩) (some ⟨b, off, none⟩) n (65536 - at') X at' (byteCs z n) :=
      ⟨by rw [byteCs_length]; exact (Nat.min_eq_left (by omega)).symm,
      fun _ => ⟨rfl, _, rfl, fun j v hv => by obtain ⟨hj, rfl⟩ := byteCs_at _ _ _ _ hv; rw [Addr.add_mid]; exact hz' j hj⟩,
      fun j hj => by rw [byteCs_length] at hj; rw [h.by_ _ (by omega)]; rfl, fun j _ => h.fr _, byteCs_one _ _⟩
    clear h hz hl hz' hn
    go_enter Try.func31, Try.ntmps31
    go_wp2_with first
      | (go_at_call 58; refine (lies_yes _ _ _ HL.out).mono ?_; rintro e w' ⟨rfl, rfl⟩)
      | (refine wpList_copy_pre rfl (.tmp 16) (.tmp 17) 22 22 rfl 5 Try.underlying22 size5 _ _ _ _ _ _ rfl rfl X at' (byteCs z n) HC ?_)
      | (go_at_call 59; refine (change_any X at' n _ _ HL.out (HP.out.setBytes at' n z HL.out)).mono ?_; rintro e w' ⟨rfl, hP', hC'⟩)
    go_ret
    exact ⟨rfl, hP', (Chg.of_only (Only.setCells _ _ _ (Only.refl _ _))).trans hC'⟩

theorem ovr_next (B : Nat → Int) (a k : Nat) (z : Nat → Int) : upd (ovr B a k z) (a + k) (z k) = ovr B a (k + 1) z := by
  funext i
  simp only [upd, ovr]
  by_cases e : i = a + k
  · subst e; rw [if_pos rfl, if_pos (by omega), Nat.add_sub_cancel_left]
  · rw [if_neg e]
    by_cases h : a ≤ i ∧ i < a + k
    · rw [if_pos h, if_pos (by omega)]
    · rw [if_neg h, if_neg (by omega)]
theorem pokeS_next (s : MS) (a k : Nat) (z : Nat → Int) : tellS { pokeS s a k z with B := upd (pokeS s a k z).B (a + k) (z k) } ((a + k) / 256) = pokeS s a (k + 1) z := by
  have hB : (pokeS s a k z).B = ovr s.B a k z := by simp only [pokeS, tellB_withB]
  rw [hB, ovr_next, tellS_withB]
  simp only [pokeS, tellB_withB]
  rw [tellS_withB, tellB_next]

theorem rpoke_no (k : RB) (a : Int) (bp : Option Addr) (n c : Nat) (w : World) (ha : -9223372036854775808 ≤ a ∧ a ≤ 9223372036854775807) (hn : n ≤ maxLen) (h : ¬ (0 ≤ a ∧ a ≤ 65536 ∧ (n : Int) ≤ 65536 - a)) :
    Calls Try.prog 32 #[.pointer (some ⟨k.y, 0, none⟩), .int .i64 a, .slice bp n c] w fun e w' => e = .returned (.int .i64 4) ∧ w = w' := by
  unfold maxLen at hn
  by_cases h0 : a < 0
  · have d0 : decide (a < 0) = true := decide_eq_true h0
    clear h ha hn
    go_enter Try.func32, Try.ntmps32; go_wp2; go_ret; exact ⟨rfl, rfl⟩
  · have d0 : decide (a < 0) = false := decide_eq_false h0
    by_cases h1 : 65536 < a
    · have d1 : decide (65536 < a) = true := decide_eq_true h1
      clear h ha hn
      go_enter Try.func32, Try.ntmps32; go_wp2; go_ret; exact ⟨rfl, rfl⟩
    · have d1 : decide (65536 < a) = false := decide_eq_false h1
      have d2 : decide (65536 - a < (n : Int)) = true := decide_eq_true (by omega)
      have h2 : 65536 - a < (n : Int) := by omega
      have h3 : 0 ≤ a := by omega
      have h4 : a ≤ 65536 := by omega
      clear h ha hn h0 h1
      go_enter Try.func32, Try.ntmps32; go_wp2; go_ret; exact ⟨rfl, rfl⟩

set_option maxHeartbeats 400000 in
theorem rpoke_yes (k : RB) (at' : Nat) (bp : Option Addr) (n c : Nat) (z : Nat → Int) (s : MS) (w : World) (hl : at' + n ≤ 65536) (hz : SR w bp n z) (hb : 0 < n → ∀ b off, bp = some ⟨b, off, none⟩ → b ∉ k.all) (h : RM w k s) :
    Calls Try.prog 32 #[.pointer (some ⟨k.y, 0, none⟩), .int .i64 at', .slice bp n c] w fun e w' => e = .returned (.int .i64 0) ∧ RM w' k (pokeS s at' n z) ∧ Chg k.all w w' := by
  have hn0 : (0 : Int) ≤ n := by omega
  have hn1 : (n : Int) ≤ 65536 := by omega
  have ha0 : (0 : Int) ≤ at' := by omega
  have ha1 : (at' : Int) ≤ 65536 := by omega
  have d0 : decide ((at' : Int) < 0) = false := decide_eq_false (by omega)
  have d1 : decide (65536 < (at' : Int)) = false := decide_eq_false (by omega)
  have d2 : decide (65536 - (at' : Int) < (n : Int)) = false := decide_eq_false (by omega)
  have HP : Hid (RM w k s) := h
  have HZ : Hid (SR w bp n z) := hz
  have HL : Hid (at' + n ≤ 65536) := hl
  have HB : Hid (0 < n → ∀ b off, bp = some ⟨b, off, none⟩ → b ∉ k.all) := hb
  clear h hz hl hb
  go_enter Try.func32, Try.ntmps32
  go_wp2
  go_loopw [24] (fun i wr => ∃ j : Nat, i = .int .i64 j ∧ j ≤ n ∧ RM wr k (pokeS s at' j z) ∧ Chg k.all w wr) (fun i _ => n - (intOf i).toNat)
  case atStart => exact ⟨0, rfl, by omega, by rw [pokeS_zero]; exact HP.out, Chg.refl _ _⟩
  case round =>
    obtain ⟨j, rfl, hj, hR, hC⟩ := hrel
    have HR : Hid (RM wr k (pokeS s at' j z)) := hR
    have HC : Hid (Chg k.all w wr) := hC
    clear hC
    by_cases hlt : j < n
    · obtain ⟨b, off, rfl, hz'⟩ := HZ.out (by omega)
      have hzj := hz' j hlt
      have hc1 : wr.cell? ⟨b, off + j, none⟩ = some (.int .u8 (z j)) := by
        rw [HC.out.cell (lt_of_cell hzj) (HB.out (by omega) b off rfl)]; exact hzj
      have hd0 := hR.c0
      have hai : at' + j < 65536 := by have := HL.out; omega
      have hcb := hR.by_ (at' + j) hai
      have hfb := hR.fb (at' + j)
      have hji : (j : Int) < n := by omega
      have hj0 : (0 : Int) ≤ j := by omega
      obtain ⟨x, hx⟩ : ∃ x, at' + j = x := ⟨_, rfl⟩
      obtain ⟨q, hq⟩ : ∃ q, x / 256 = q := ⟨_, rfl⟩
      have hsum : (at' : Int) + j = x := by omega
      have hdiv : (x : Int) / 256 = q := by omega
      have hx0 : (0 : Int) ≤ x := by omega
      have hx1 : (x : Int) < 65536 := by omega
      have hq1 : q < 256 := by omega
      rw [hx] at hcb hfb
      have HX : Hid (at' + j = x ∧ x / 256 = q) := ⟨hx, hq⟩
      clear hR hzj hz' hai hx hq hj
      go_wp2_with (go_at_call 57; refine (rchange_any k q _ _ hq1 (HR.out.setByte x (by omega) (z j))).mono ?_; rintro e w' ⟨rfl, hP', hC'⟩)
      have HQ' : Hid (RM w' k (tellS { pokeS s at' j z with B := upd (pokeS s at' j z).B x (z j) } q)) := hP'
      have HC' : Hid (Chg k.all (wr.setCell ⟨k.b, x, none⟩ (.int .u8 (z j))) w') := hC'
      clear hP' hC'
      go_roundw
      case rel => exact ⟨j + 1, by go_num, by omega, by
        have := HQ'.out
        rw [← HX.out.2, ← HX.out.1, pokeS_next] at this
        exact this, (HC.out.setIn (by simp [RB.all])).trans HC'.out⟩
      case measure => simp [intOf]; omega
    · go_wp2
      go_ret
      have : j = n := by omega
      subst this
      exact ⟨rfl, HR.out, HC.out⟩
end Go.Proofs.Ytkhaajbhgenicaa
