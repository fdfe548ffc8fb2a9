import Derived.Test.YtocefkpnlgfebabGO
namespace Go.Proofs.Ytocefkpnlgfebab.Ho
open Go.RowKit
set_option maxRecDepth 100000
set_option linter.unusedVariables false
set_option linter.unusedSimpArgs false

/-! ## Code goes straight on -/
theorem decP_parts {ws : Nat → Nat} {len a : Nat} (h : (decP ws len a).e = 0) : ∃ k, hit ((ws a % 256 : Nat) : Int) = some k ∧ a + szN (foOf k).has ≤ len ∧ dcE (foOf k) (ws a) (rdX (foOf k).has (ws a) (if 1 < szN (foOf k).has then ws (a + 1) else 0) (if 2 < szN (foOf k).has then ws (a + 2) else 0)) = 0 ∧ (decP ws len a).x = rdX (foOf k).has (ws a) (if 1 < szN (foOf k).has then ws (a + 1) else 0) (if 2 < szN (foOf k).has then ws (a + 2) else 0) ∧ (decP ws len a).n = szN (foOf k).has := by
  by_cases h1 : (a : Int) < 0 ∨ (len : Int) < a
  · unfold decP at h; rw [if_pos h1] at h; exact absurd h (by decide)
  by_cases h2 : (a : Int) = len
  · unfold decP at h; rw [if_neg h1, if_pos h2] at h; exact absurd h (by decide)
  cases hk : hit ((ws a % 256 : Nat) : Int) with
  | none =>
    unfold decP at h; rw [if_neg h1, if_neg h2] at h; simp only [Int.toNat_natCast, hk] at h
    exact absurd h (by decide)
  | some k =>
    by_cases h3 : (len : Int) < a + szN (foOf k).has
    · unfold decP at h; rw [if_neg h1, if_neg h2] at h; simp only [Int.toNat_natCast, hk] at h
      rw [if_pos h3] at h; exact absurd h (by decide)
    · have hd : decP ws len a = if dcE (foOf k) (ws a) (rdX (foOf k).has (ws a) (if 1 < szN (foOf k).has then ws (a + 1) else 0) (if 2 < szN (foOf k).has then ws (a + 2) else 0)) = 0 then ⟨0, rdX (foOf k).has (ws a) (if 1 < szN (foOf k).has then ws (a + 1) else 0) (if 2 < szN (foOf k).has then ws (a + 2) else 0), foOf k, szN (foOf k).has⟩ else ⟨3, zC, zF, 0⟩ := by
        unfold decP; rw [if_neg h1, if_neg h2]; simp only [Int.toNat_natCast, hk]
        rw [if_neg h3]
      by_cases h4 : dcE (foOf k) (ws a) (rdX (foOf k).has (ws a) (if 1 < szN (foOf k).has then ws (a + 1) else 0) (if 2 < szN (foOf k).has then ws (a + 2) else 0)) = 0
      · rw [if_pos h4] at hd
        exact ⟨k, rfl, by omega, h4, by rw [hd], by rw [hd]⟩
      · rw [if_neg h4] at hd; rw [hd] at h; exact absurd h (by decide)
theorem decP_move {ws ws2 : Nat → Nat} {len len2 a b : Nat} (h : (decP ws len a).e = 0) (hw : ∀ i, i < (decP ws len a).n → ws2 (b + i) = ws (a + i)) (hl : b + (decP ws len a).n ≤ len2) :
    (decP ws2 len2 b).e = 0 ∧ (decP ws2 len2 b).x = (decP ws len a).x ∧ (decP ws2 len2 b).n = (decP ws len a).n ∧ a + (decP ws len a).n ≤ len ∧ 0 < (decP ws len a).n := by
  obtain ⟨k, hk, hle, hdc, hx, hn⟩ := decP_parts h
  have hz := szN_cases (foOf k).has
  rw [hn] at hw hl ⊢
  have w0 : ws2 b = ws a := by have := hw 0 (by omega); simpa using this
  have w1 : (if 1 < szN (foOf k).has then ws2 (b + 1) else 0) = (if 1 < szN (foOf k).has then ws (a + 1) else 0) := by
    split
    · exact hw 1 (by assumption)
    · rfl
  have w2 : (if 2 < szN (foOf k).has then ws2 (b + 2) else 0) = (if 2 < szN (foOf k).has then ws (a + 2) else 0) := by
    split
    · exact hw 2 (by assumption)
    · rfl
  have hd : decP ws2 len2 b = ⟨0, rdX (foOf k).has (ws a) (if 1 < szN (foOf k).has then ws (a + 1) else 0) (if 2 < szN (foOf k).has then ws (a + 2) else 0), foOf k, szN (foOf k).has⟩ := by
    unfold decP; rw [if_neg (by omega), if_neg (by omega)]; simp only [Int.toNat_natCast, w0, hk]
    rw [if_neg (by omega), w1, w2, if_pos hdc]
  rw [hd, hx]
  exact ⟨rfl, rfl, rfl, hle, by omega⟩
theorem rdX_op (h : Int) (v k x : Nat) : (rdX h v k x).op = ((v % 256 : Nat) : Int) := by
  unfold rdX fld
  simp
/-- An instruction's own words are read as it. -/
theorem encP_dec (x : Cd) (h : (encP x).2 ≠ []) : (decP (wsF (encP x).2) (encP x).2.length 0).e = 0 ∧ (decP (wsF (encP x).2) (encP x).2.length 0).x = x ∧ (decP (wsF (encP x).2) (encP x).2.length 0).n = (encP x).2.length := by
  cases hk : hit x.op with
  | none => exact absurd (by unfold encP; rw [hk]) h
  | some k =>
    by_cases hc : (decP (wsF (wsE (szN (foOf k).has) (ly5 (foOf k).has x) x.k x.x)) (szN (foOf k).has) 0).e = 0 ∧ (decP (wsF (wsE (szN (foOf k).has) (ly5 (foOf k).has x) x.k x.x)) (szN (foOf k).has) 0).x = x
    · have he := encP_yes hk hc.1 hc.2
      rw [he]
      show (decP (wsF (wsE (szN (foOf k).has) (ly5 (foOf k).has x) x.k x.x)) (wsE (szN (foOf k).has) (ly5 (foOf k).has x) x.k x.x).length 0).e = 0 ∧ _
      rw [wsE_len]
      refine ⟨hc.1, hc.2, ?_⟩
      obtain ⟨k', hk', hle, hdc, hx, hn⟩ := decP_parts (a := 0) hc.1
      have e0 : ((0 : Nat) : Int) = 0 := rfl
      rw [e0] at hx hn
      have ho : x.op = ((wsF (wsE (szN (foOf k).has) (ly5 (foOf k).has x) x.k x.x) 0 % 256 : Nat) : Int) := by
        rw [← rdX_op (foOf k').has _ _ _, ← hx, hc.2]
      rw [← ho, hk] at hk'
      cases hk'
      exact hn
    · exact absurd (by rw [encP_no hk hc]) h
theorem encP_sz {x : Cd} {k : Nat} (hk : hit x.op = some k) : (encP x).2.length ≤ szN (foOf k).has := by
  unfold encP; rw [hk]
  show (if _ then _ else _ : Int × List Nat).2.length ≤ _
  split
  · show (wsE _ _ _ _).length ≤ _; rw [wsE_len]; exact Nat.le_refl _
  · exact Nat.zero_le _
def dOf (x : Cd) : Int := if x.op = 12 ∨ x.op = 13 then 0 else x.d
/-- An instruction that code within a block may have. -/
structure GoodX (regs : Nat) (x : Cd) : Prop where
  o1 : x.op ≠ 1
  o15 : x.op ≠ 15
  o96 : x.op ≠ 96
  d : dOf x < regs
  a : x.a < regs
  b : x.b < regs
  c : x.c < regs
  wk : x.k < 4294967296
  wx : x.x < 4294967296
inductive Pc (regs : Nat) : List Nat → Prop
  | nil : Pc regs []
  | app (l : List Nat) (x : Cd) : Pc regs l → GoodX regs x → Pc regs (l ++ (encP x).2)
theorem enc_small (x : Cd) (hk : x.k < 4294967296) (hx : x.x < 4294967296) : ∀ y ∈ (encP x).2, y < 4294967296 := by
  unfold encP
  split
  · intro y hy; cases hy
  · rename_i k _
    split
    · intro y hy
      have h5 := ly5_lt (foOf k).has x
      have hy : y ∈ ([ly5 (foOf k).has x, x.k, x.x] : List Nat) := List.mem_of_mem_take hy
      simp only [List.mem_cons, List.not_mem_nil, or_false] at hy
      rcases hy with rfl | rfl | rfl
      · exact h5
      · exact hk
      · exact hx
    · intro y hy; cases hy
theorem Pc.small {regs : Nat} {l : List Nat} (h : Pc regs l) : ∀ y ∈ l, y < 4294967296 := by
  induction h with
  | nil => intro y hy; cases hy
  | app l x _ hx ih =>
    intro y hy
    rcases List.mem_append.1 hy with h | h
    · exact ih y h
    · exact enc_small x hx.wk hx.wx y h
theorem cdF_x (o : OpR) : (cdF o).x < 4294967296 := by
  show (if o.kind = 14 then (o.b % 4294967296).toNat else 0) < 4294967296
  split <;> omega
theorem Pc.append {regs : Nat} {a b : List Nat} (ha : Pc regs a) (hb : Pc regs b) : Pc regs (a ++ b) := by
  induction hb with
  | nil => simpa using ha
  | app l x _ hx ih => rw [← List.append_assoc]; exact Pc.app _ x ih hx
inductive Str (regs : Nat) (l : List Nat) : Nat → Prop
  | done : Str regs l l.length
  | step (a : Nat) : a < l.length → (decP (wsF l) l.length a).e = 0 → GoodX regs (decP (wsF l) l.length a).x → 0 < (decP (wsF l) l.length a).n → Str regs l (a + (decP (wsF l) l.length a).n) → Str regs l a
theorem wsF_left (l p : List Nat) (i : Nat) (h : i < l.length) : wsF (l ++ p) i = wsF l i := by
  unfold wsF; simp only [List.getD_eq_getElem?_getD, List.getElem?_append_left h]
theorem wsF_right (l p : List Nat) (i : Nat) : wsF (l ++ p) (l.length + i) = wsF p i := by
  unfold wsF; simp only [List.getD_eq_getElem?_getD]
  rw [List.getElem?_append_right (by omega)]
  congr 2; omega
theorem Str.ext {regs : Nat} {l p : List Nat} {a : Nat} (h : Str regs l a) (hp : Str regs (l ++ p) l.length) : Str regs (l ++ p) a := by
  induction h with
  | done => exact hp
  | step a ha he hg hn _ ih =>
    have hm := decP_move (ws2 := wsF (l ++ p)) (len2 := (l ++ p).length) (b := a) he (fun i hi => wsF_left l p _ (by have := (decP_move (ws2 := wsF l) (len2 := l.length + a + (decP (wsF l) l.length a).n) (b := a) he (fun _ _ => rfl) (by omega)).2.2.2.1; omega)) (by have := (decP_move (ws2 := wsF l) (len2 := l.length + a + (decP (wsF l) l.length a).n) (b := a) he (fun _ _ => rfl) (by omega)).2.2.2.1; rw [List.length_append]; omega)
    refine Str.step a (by rw [List.length_append]; omega) hm.1 (by rw [hm.2.1]; exact hg) (by rw [hm.2.2.1]; exact hn) ?_
    rw [hm.2.2.1]; exact ih
theorem str_one (regs : Nat) (l : List Nat) (x : Cd) (hx : GoodX regs x) : Str regs (l ++ (encP x).2) l.length := by
  by_cases h : (encP x).2 = []
  · rw [h, List.append_nil]; exact Str.done
  · obtain ⟨h1, h2, h3⟩ := encP_dec x h
    have hm := decP_move (a := 0) (ws2 := wsF (l ++ (encP x).2)) (len2 := (l ++ (encP x).2).length) (b := l.length) h1 (fun i hi => by rw [wsF_right, Nat.zero_add]) (by rw [List.length_append]; have e0 : ((0 : Nat) : Int) = 0 := rfl; rw [e0, h3]; omega)
    have e0 : ((0 : Nat) : Int) = 0 := rfl
    rw [e0] at hm
    have hl : 0 < (encP x).2.length := List.length_pos_iff.2 h
    refine Str.step _ (by rw [List.length_append]; omega) hm.1 (by rw [hm.2.1, h2]; exact hx) (by rw [hm.2.2.1, h3]; exact hl) ?_
    rw [hm.2.2.1, h3, ← List.length_append]
    exact Str.done
theorem pc_str {regs : Nat} {r : List Nat} (h : Pc regs r) (pre : List Nat) : Str regs (pre ++ r) pre.length := by
  induction h with
  | nil => rw [List.append_nil]; exact Str.done
  | app l x _ hx ih => rw [← List.append_assoc]; exact ih.ext (str_one regs (pre ++ l) x hx)
/-- So many words more, all of them good. -/
def Ext (regs k : Nat) (l l' : List Nat) : Prop := ∃ r, l' = l ++ r ∧ Pc regs r ∧ r.length ≤ k
theorem Ext.refl (regs k : Nat) (l : List Nat) : Ext regs k l l := ⟨[], by simp, Pc.nil, Nat.zero_le _⟩
theorem Ext.trans {regs k1 k2 : Nat} {a b c : List Nat} (h : Ext regs k1 a b) (h' : Ext regs k2 b c) : Ext regs (k1 + k2) a c := by
  obtain ⟨r, rfl, p1, l1⟩ := h
  obtain ⟨r', rfl, p2, l2⟩ := h'
  exact ⟨r ++ r', by rw [List.append_assoc], p1.append p2, by rw [List.length_append]; omega⟩
theorem Ext.mono {regs k1 k2 : Nat} {a b : List Nat} (h : Ext regs k1 a b) (hk : k1 ≤ k2) : Ext regs k2 a b := by
  obtain ⟨r, e, p, l⟩ := h
  exact ⟨r, e, p, by omega⟩
theorem ext_lay {regs k : Nat} (g : G) (x : Cd) (hx : GoodX regs x) (hk : (encP x).2.length ≤ k) : Ext regs k g.l (layF g x).l :=
  ⟨(encP x).2, rfl, by have := Pc.app [] x Pc.nil hx; simpa using this, hk⟩
theorem sz9 (x : Cd) (h : x.op = 9) : (encP x).2.length ≤ 1 := by
  have := encP_sz (x := x) (k := 8) (by rw [h]; decide)
  have e : szN (foOf 8).has = 1 := by decide
  omega
theorem sz8 (x : Cd) (h : x.op = 8) : (encP x).2.length ≤ 1 := by
  have := encP_sz (x := x) (k := 7) (by rw [h]; decide)
  have e : szN (foOf 7).has = 1 := by decide
  omega
theorem ext_save {regs : Nat} (g : G) (r : Nat) (hr : r < regs) : Ext regs 1 g.l (saveF g r).l := by
  unfold saveF
  split
  · exact ext_lay g (saveX g r) ⟨by show (9 : Int) ≠ 1; decide, by show (9 : Int) ≠ 15; decide, by show (9 : Int) ≠ 96; decide, by show dOf _ < _; unfold dOf; rw [if_neg (by show ¬ ((9 : Int) = 12 ∨ (9 : Int) = 13); decide)]; show (0 : Int) < regs; omega, by show (r : Int) < regs; omega, by show (0 : Int) < regs; omega, by show (0 : Int) < regs; omega, Nat.zero_lt_succ _, Nat.zero_lt_succ _⟩ (sz9 _ rfl)
  · exact Ext.refl _ _ _
theorem ext_room {regs : Nat} (g : G) (h0 : 0 < regs) : Ext regs 1 g.l (roomG g regs).l := by
  unfold roomG
  split
  · exact Ext.refl _ _ _
  · exact ext_save g _ (roomN_lt g regs h0)
/-- The kinds' numbers on the host, none of which begins a block or leads on. -/
structure WOk (o : OpR) : Prop where
  ok : OpOk o
  kb : o.k < 4294967296
  lo : (ru o.kind).lo ≤ o.w
  hi : o.w ≤ (ru o.kind).hi
theorem op_no (o : OpR) (h : WOk o) : (cdF o).op ≠ 1 ∧ (cdF o).op ≠ 15 ∧ (cdF o).op ≠ 96 ∧ (dOf (cdF o) = 0) := by
  obtain ⟨⟨k1, k2, w0, w1, -⟩, -, lo, hi⟩ := h
  obtain ⟨k, hk⟩ : ∃ k : Nat, o.kind = k := ⟨o.kind.toNat, by omega⟩
  have a1 : 1 ≤ k := by omega
  have a2 : k ≤ 17 := by omega
  unfold ru at lo hi
  unfold dOf cdF
  rw [hk] at lo hi ⊢
  simp only [Int.toNat_natCast] at lo hi ⊢
  match k, a1, a2 with
  | 1, _, _ =>
    simp [ruT, toT, twT] at lo hi ⊢
    try omega
  | 2, _, _ =>
    simp [ruT, toT, twT] at lo hi ⊢
    try omega
  | 3, _, _ =>
    simp [ruT, toT, twT] at lo hi ⊢
    try omega
  | 4, _, _ =>
    simp [ruT, toT, twT] at lo hi ⊢
    try omega
  | 5, _, _ =>
    simp [ruT, toT, twT] at lo hi ⊢
    try omega
  | 6, _, _ =>
    simp [ruT, toT, twT] at lo hi ⊢
    try omega
  | 7, _, _ =>
    simp [ruT, toT, twT] at lo hi ⊢
    try omega
  | 8, _, _ =>
    simp [ruT, toT, twT] at lo hi ⊢
    try omega
  | 9, _, _ =>
    simp [ruT, toT, twT] at lo hi ⊢
    try omega
  | 10, _, _ =>
    simp [ruT, toT, twT] at lo hi ⊢
    try omega
  | 11, _, _ =>
    simp [ruT, toT, twT] at lo hi ⊢
    try omega
  | 12, _, _ =>
    simp [ruT, toT, twT] at lo hi ⊢
    try omega
  | 13, _, _ =>
    simp [ruT, toT, twT] at lo hi ⊢
    try omega
  | 14, _, _ =>
    simp [ruT, toT, twT] at lo hi ⊢
    try omega
  | 15, _, _ =>
    simp [ruT, toT, twT] at lo hi ⊢
    try omega
  | 16, _, _ =>
    simp [ruT, toT, twT] at lo hi ⊢
    try omega
  | 17, _, _ =>
    simp [ruT, toT, twT] at lo hi ⊢
    try omega
  | n + 18, _, h => exact absurd h (by omega)
end Go.Proofs.Ytocefkpnlgfebab.Ho
namespace Go.Proofs.Ytocefkpnlgfebab.Ho
open Go.RowKit
set_option maxRecDepth 100000
set_option linter.unusedVariables false
set_option linter.unusedSimpArgs false

theorem bringN_lt (g : G) (regs v : Nat) (h0 : 0 < regs) : bringN g regs v < regs := by
  unfold bringN
  split
  · rename_i r h; exact findR_lt g v regs regs 0 r (by omega) h
  · exact roomN_lt g regs h0
theorem ext_bring {regs : Nat} (f : Nat → OpR) (g : G) (v : Nat) (h0 : 0 < regs) (hw : WOk (f v)) : Ext regs 4 g.l (bringG f g regs v).l := by
  unfold bringG
  split
  · exact Ext.refl _ _ _
  · have hr := roomN_lt g regs h0
    refine ((ext_room g h0).trans (k2 := 3) ?_)
    show Ext regs 3 (roomG g regs).l (layF (roomG g regs) (bringX f (roomG g regs) v (roomN g regs))).l
    refine ext_lay _ _ ?_ (encP_len _)
    unfold bringX
    split
    · obtain ⟨a, b, c, d⟩ := op_no (f v) hw
      refine ⟨a, b, c, ?_, by show (0 : Int) < regs; omega, by show (0 : Int) < regs; omega, by show (0 : Int) < regs; omega, hw.kb, cdF_x (f v)⟩
      unfold dOf
      split
      · omega
      · show ((roomN g regs : Nat) : Int) < regs; omega
    · refine ⟨by show (8 : Int) ≠ 1; decide, by show (8 : Int) ≠ 15; decide, by show (8 : Int) ≠ 96; decide, ?_, by show (0 : Int) < regs; omega, by show (0 : Int) < regs; omega, by show (0 : Int) < regs; omega, Nat.zero_lt_succ _, Nat.zero_lt_succ _⟩
      unfold dOf
      split
      · omega
      · show ((roomN g regs : Nat) : Int) < regs; omega
theorem ext_tk {regs : Nat} (f : Nat → OpR) (i n : Nat) (g : G) (h0 : 0 < regs) (hw : ∀ v, v < n → WOk (f v)) : ∀ j, (∀ q, q < j → tkv (f i) q < n) → Ext regs (4 * j) g.l (tkG f regs i g j).l
  | 0, _ => Ext.refl _ _ _
  | j + 1, hq => ((ext_tk f i n g h0 hw j (fun q e => hq q (by omega))).trans (ext_bring f (tkG f regs i g j) (tkv (f i) j) h0 (hw _ (hq j (by omega))))).mono (by omega)
theorem tkρ_lt {regs : Nat} (f : Nat → OpR) (i : Nat) (g : G) (h0 : 0 < regs) : ∀ j q, tkρ f regs i g j q < regs
  | 0, _ => h0
  | j + 1, q => by
    show upd (tkρ f regs i g j) j _ q < regs
    unfold upd
    split
    · exact bringN_lt _ regs _ h0
    · exact tkρ_lt f i g h0 j q
theorem opX_op (o : OpR) (ρ : Nat → Nat) : (opX o ρ).op = (cdF o).op := by unfold opX; split <;> rfl
theorem opX_k (o : OpR) (ρ : Nat → Nat) (hw : WOk o) : (opX o ρ).k < 4294967296 := by unfold opX; split <;> exact hw.kb
theorem opX_x (o : OpR) (ρ : Nat → Nat) : (opX o ρ).x < 4294967296 := by unfold opX; split <;> exact cdF_x o
theorem opX_abc {regs : Nat} (o : OpR) (ρ : Nat → Nat) (h0 : 0 < regs) (hρ : ∀ q, ρ q < regs) : (opX o ρ).a < regs ∧ (opX o ρ).b < regs ∧ (opX o ρ).c < regs := by
  have h1 := hρ 0
  have h2 := hρ 1
  have h3 := hρ 2
  unfold opX
  split
  · exact ⟨by show (ρ 0 : Int) < regs; omega, by show (0 : Int) < regs; omega, by show (ρ 2 : Int) < regs; omega⟩
  · exact ⟨by show (ρ 0 : Int) < regs; omega, by show (ρ 1 : Int) < regs; omega, by show (ρ 2 : Int) < regs; omega⟩
theorem ext_end {regs : Nat} (i : Nat) (g : G) (o : OpR) (ρ : Nat → Nat) (h0 : 0 < regs) (hρ : ∀ q, ρ q < regs) (hw : WOk o) : Ext regs 4 g.l (endG regs i g (opX o ρ)).l := by
  obtain ⟨a, b, c, d⟩ := op_no o hw
  obtain ⟨e1, e2, e3⟩ := opX_abc o ρ h0 hρ
  have hr := roomN_lt g regs h0
  unfold endG
  split
  · refine ((ext_room g h0).trans (k2 := 3) ?_)
    show Ext regs 3 (giveG g regs i).l (layF (giveG g regs i) { opX o ρ with d := roomN g regs }).l
    refine ext_lay _ _ ⟨by show (opX o ρ).op ≠ 1; rw [opX_op]; exact a, by show (opX o ρ).op ≠ 15; rw [opX_op]; exact b, by show (opX o ρ).op ≠ 96; rw [opX_op]; exact c, ?_, e1, e2, e3, by first | exact opX_k o ρ hw | exact (opX_k o ρ hw), by first | exact opX_x o ρ | exact (opX_x o ρ)⟩ (encP_len _)
    unfold dOf
    split
    · omega
    · show ((roomN g regs : Nat) : Int) < regs; omega
  · refine (ext_lay g (opX o ρ) ⟨by rw [opX_op]; exact a, by rw [opX_op]; exact b, by rw [opX_op]; exact c, ?_, e1, e2, e3, by first | exact opX_k o ρ hw | exact (opX_k o ρ hw), by first | exact opX_x o ρ | exact (opX_x o ρ)⟩ (encP_len _)).mono (by omega)
    have hx := opX_op o ρ
    unfold dOf at d ⊢
    rw [hx]
    split
    · omega
    · rename_i hn
      rw [if_neg hn] at d
      unfold opX
      split
      · show (ρ 1 : Int) < regs; have := hρ 1; omega
      · show (cdF o).d < regs; omega
theorem ext_op {regs : Nat} (f : Nat → OpR) (i n : Nat) (g : G) (h0 : 0 < regs) (hi : i < n) (hw : ∀ v, v < n → WOk (f v)) (t3 : (g.P i).takes ≤ 3) (tk : ∀ q, q < (g.P i).takes → tkv (f i) q < n) : Ext regs 16 g.l (opG f regs g i).l := by
  unfold opG
  split
  · exact Ext.refl _ _ _
  · have h1 := ext_tk f i n g h0 hw (g.P i).takes tk
    have h2 := ext_end i (relF (tkG f regs i g (g.P i).takes)) (f i) (tkρ f regs i g (g.P i).takes) h0 (tkρ_lt f i g h0 _) (hw i hi)
    have e : (relF (tkG f regs i g (g.P i).takes)).l = (tkG f regs i g (g.P i).takes).l := rfl
    rw [e] at h2
    exact (h1.trans h2).mono (by omega)
theorem ext_run (f : Nat → OpR) (n regs : Nat) (count : Int) (pc : Nat) (hB : BlkOk n f) (h0 : 0 < regs) (hw : ∀ v, v < n → WOk (f v)) : ∀ i, i ≤ n → Ext regs (16 * i) (encP (enterX count pc)).2 (runG f n regs count pc i).l
  | 0, _ => by
    have e : (runG f n regs count pc 0).l = (encP (enterX count pc)).2 := by show [] ++ (encP (enterX count pc)).2 = _; rfl
    rw [e]; exact Ext.refl _ _ _
  | i + 1, hi => by
    have ht := (runG_takes f n regs count pc i i (by omega)).1
    exact ((ext_run f n regs count pc hB h0 hw i (by omega)).trans (ext_op f i n (runG f n regs count pc i) h0 (by omega) hw (by rw [ht]; exact ru_t3 _) (fun q hq => by rw [ht] at hq; have := (hB.tk i (by omega) q hq).2; omega))).mono (by omega)
/-! The enter -/
theorem ent_w : ∀ c : Fin 65, ly5 (foOf 0).has ⟨1, 0, 0, 0, 0, (c.val : Int), 0, 0⟩ = 1 + c.val * 65536 := by decide
theorem ent_x : ∀ c : Fin 65, rdX (foOf 0).has (1 + c.val * 65536) 0 0 = ⟨1, 0, 0, 0, 0, (c.val : Int), 0, 0⟩ := by
  intro c
  have h : ∀ c : Fin 65, (rdX (foOf 0).has (1 + c.val * 65536) 0 0).op = 1 ∧ (rdX (foOf 0).has (1 + c.val * 65536) 0 0).d = 0 ∧ (rdX (foOf 0).has (1 + c.val * 65536) 0 0).a = 0 ∧ (rdX (foOf 0).has (1 + c.val * 65536) 0 0).b = 0 ∧ (rdX (foOf 0).has (1 + c.val * 65536) 0 0).c = 0 ∧ (rdX (foOf 0).has (1 + c.val * 65536) 0 0).n = (c.val : Int) := by decide
  obtain ⟨a1, a2, a3, a4, a5, a6⟩ := h c
  exact cd_ext _ _ a1 a2 a3 a4 a5 a6 rfl rfl
theorem ent_e : ∀ c : Fin 65, dcE (foOf 0) (1 + c.val * 65536) ⟨1, 0, 0, 0, 0, (c.val : Int), 0, 0⟩ = 0 := by decide
theorem ent_h : ∀ c : Fin 65, hit (((1 + c.val * 65536) % 256 : Nat) : Int) = some 0 := by decide
theorem enter_enc (count : Int) (pc : Nat) (h0 : 0 ≤ count) (h1 : count ≤ 64) : (encP (enterX count pc)).2 = [1 + count.toNat * 65536, pc] := by
  obtain ⟨c, hc⟩ : ∃ c : Fin 65, count = (c.val : Int) := ⟨⟨count.toNat, by omega⟩, by show count = (count.toNat : Int); omega⟩
  subst hc
  have hk : hit (enterX (c.val : Int) pc).op = some 0 := by show hit 1 = some 0; decide
  have hs : szN (foOf 0).has = 2 := by decide
  have hl : ly5 (foOf 0).has (enterX (c.val : Int) pc) = 1 + c.val * 65536 := ent_w c
  have hw : wsE (szN (foOf 0).has) (ly5 (foOf 0).has (enterX (c.val : Int) pc)) (enterX (c.val : Int) pc).k (enterX (c.val : Int) pc).x = [1 + c.val * 65536, pc] := by rw [hs, hl]; rfl
  have hx : rdX (foOf 0).has (1 + c.val * 65536) pc 0 = enterX (c.val : Int) pc := by
    have := ent_x c
    have e : rdX (foOf 0).has (1 + c.val * 65536) pc 0 = { rdX (foOf 0).has (1 + c.val * 65536) 0 0 with k := pc } := rfl
    rw [e, this]; rfl
  have hd : decP (wsF [1 + c.val * 65536, pc]) 2 0 = ⟨0, enterX (c.val : Int) pc, foOf 0, 2⟩ := by
    unfold decP
    rw [if_neg (by omega), if_neg (by omega)]
    have e0 : wsF [1 + c.val * 65536, pc] (0 : Int).toNat = 1 + c.val * 65536 := rfl
    have e1 : wsF [1 + c.val * 65536, pc] ((0 : Int).toNat + 1) = pc := rfl
    simp only [e0, ent_h c, hs, e1]
    rw [if_neg (show ¬ (((2 : Nat) : Int) < 0 + ((2 : Nat) : Int)) by decide), if_pos (show 1 < 2 by decide), if_neg (show ¬ 2 < 2 by decide), hx]
    have hz : dcE (foOf 0) (1 + c.val * 65536) (enterX (c.val : Int) pc) = 0 := ent_e c
    rw [if_pos hz]
  have := encP_yes hk (by rw [hw, hs, hd]) (by rw [hw, hs, hd])
  rw [this, hw]
  show [1 + c.val * 65536, pc] = [1 + ((c.val : Int)).toNat * 65536, pc]
  rfl
theorem enter_dec (count : Int) (pc : Nat) (h0 : 0 ≤ count) (h1 : count ≤ 64) (r : List Nat) : (decP (wsF ([1 + count.toNat * 65536, pc] ++ r)) ([1 + count.toNat * 65536, pc] ++ r).length 0).e = 0 ∧ (decP (wsF ([1 + count.toNat * 65536, pc] ++ r)) ([1 + count.toNat * 65536, pc] ++ r).length 0).x = enterX count pc ∧ (decP (wsF ([1 + count.toNat * 65536, pc] ++ r)) ([1 + count.toNat * 65536, pc] ++ r).length 0).n = 2 := by
  have he := enter_enc count pc h0 h1
  obtain ⟨a, b, c⟩ := encP_dec (enterX count pc) (by rw [he]; simp)
  rw [he] at a b c
  have hm := decP_move (a := 0) (ws2 := wsF ([1 + count.toNat * 65536, pc] ++ r)) (len2 := ([1 + count.toNat * 65536, pc] ++ r).length) (b := 0) a (fun i hi => by
    have e0 : ((0 : Nat) : Int) = 0 := rfl
    rw [e0, c] at hi
    rw [Nat.zero_add]; exact wsF_left _ r i hi) (by have e0 : ((0 : Nat) : Int) = 0 := rfl; rw [e0, c, List.length_append]; omega)
  have e0 : ((0 : Nat) : Int) = 0 := rfl
  rw [e0] at hm
  exact ⟨hm.1, hm.2.1.trans b, hm.2.2.1.trans c⟩
theorem own_wds {w : World} {base : Nat} {sx : Value} {l : List Nat} (h2 : 2 ≤ l.length) (hl : ∀ y ∈ l, y < 4294967296) (hm : l.length ≤ 140737488355328) (h : w.ownsRow base 22 1 sx l.length (wdL l)) : ∃ a c, sx = .slice a l.length c ∧ Wds w a l.length c (wsF l) := by
  rcases h.2 with ⟨hv, h0⟩ | ⟨g', c', cur, hv, hb, hh, h1, h2', h3, h4⟩
  · omega
  · refine ⟨_, _, hv, .inr ⟨g', 0, rfl, h1, hm, fun i hi => ?_, fun i => ?_, row_lt hh⟩⟩
    · rw [Nat.zero_add, row_cell hh]
      have h5 : (wdL l)[i]? = some (.int .u32 (wsF l i)) := by simp [wdL, wsF, hi]
      rw [← h4, List.getElem?_take, if_pos (by omega)] at h5
      simpa using h5
    · unfold wsF
      rw [List.getD_eq_getElem?_getD]
      rcases Nat.lt_or_ge i l.length with k | k
      · rw [List.getElem?_eq_getElem k]; exact hl _ (List.getElem_mem k)
      · rw [List.getElem?_eq_none k]; decide
/-- What a block that is checked has. -/
theorem scan_all (count : Int) (n : Nat) (f : Nat → OpR) : ∀ m i, (scan count n f m i).1 = 0 → (∀ j, i ≤ j → j < i + m → opErr count n f j = 0) ∧ (endR n f).1 = 0
  | 0, i, h => ⟨fun j a b => absurd b (by omega), h⟩
  | m + 1, i, h => by
    unfold scan at h
    by_cases he : opErr count n f i = 0
    · rw [if_pos he] at h
      obtain ⟨a, b⟩ := scan_all count n f m (i + 1) h
      refine ⟨fun j hj hl => ?_, b⟩
      by_cases e : j = i
      · subst e; exact he
      · exact a j (by omega) (by omega)
    · rw [if_neg he] at h; exact absurd h he
theorem opErr_zero {count : Int} {n : Nat} {f : Nat → OpR} {i : Nat} (h : opErr count n f i = 0) : eOp (f i) = false ∧ fieldBad (flT (f i).kind.toNat) (f i) count = false ∧ takenBad (flT (f i).kind.toNat) (f i) f i = false := by
  unfold opErr at h
  cases h1 : eOp (f i) with
  | true => rw [h1, if_pos rfl] at h; exact absurd h (by decide)
  | false =>
    rw [h1, if_neg (by decide)] at h
    cases h2 : fieldBad (flT (f i).kind.toNat) (f i) count with
    | true => rw [h2, if_pos rfl] at h; exact absurd h (by decide)
    | false =>
      rw [h2, if_neg (by decide)] at h
      cases h3 : takenBad (flT (f i).kind.toNat) (f i) f i with
      | true => rw [h3, if_pos rfl] at h; exact absurd h (by decide)
      | false => exact ⟨rfl, rfl, rfl⟩
theorem wok_of {o : OpR} (h : eOp o = false) (hb : ∀ count, fieldBad (flT o.kind.toNat) o count = false → o.kind = 14 → 0 ≤ o.b ∧ o.b ≤ 4294967295) (count : Int) (hf : fieldBad (flT o.kind.toNat) o count = false) (hkb : o.k < 4294967296) : WOk o := by
  unfold eOp at h
  simp only [Bool.or_eq_false_iff, Bool.not_eq_eq_eq_not, Bool.not_false, decide_eq_false_iff_not] at h
  obtain ⟨⟨h1, h2⟩, h3⟩ := h
  have hk := (isK_iff _).1 h1
  obtain ⟨a, b, -, -⟩ := ru_rr o.kind
  obtain ⟨c, -, -, d⟩ := rr_bd o.kind
  exact ⟨⟨hk.1, hk.2, by omega, by omega, fun e => hb count hf e⟩, hkb, by omega, by omega⟩
theorem b14_of (o : OpR) (count : Int) (h : fieldBad (flT o.kind.toNat) o count = false) (hk : o.kind = 14) : 0 ≤ o.b ∧ o.b ≤ 4294967295 := by
  unfold fieldBad at h
  simp only [Bool.or_eq_false_iff] at h
  obtain ⟨⟨-, h⟩, -⟩ := h
  unfold bg at h
  rw [hk] at h
  simp [flT] at h
  omega
theorem blk_of (count bytes : Int) (n : Nat) (f : Nat → OpR) (h : (checkF count bytes n f).1 = 0) (hk : ∀ v, v < n → (f v).k < 4294967296) : BlkOk n f ∧ (∀ v, v < n → WOk (f v)) ∧ 0 ≤ count ∧ count ≤ 64 := by
  unfold checkF at h
  by_cases h1 : 2048 < n
  · rw [if_pos h1] at h; exact absurd h (by decide)
  rw [if_neg h1] at h
  by_cases h2 : (0 ≤ count ∧ count ≤ 64) ∧ (0 ≤ bytes ∧ bytes ≤ 384)
  · rw [if_pos h2] at h
    obtain ⟨ha, he⟩ := scan_all count n f n 0 h
    have hn : 0 < n := by
      rcases Nat.eq_zero_or_pos n with e | e
      · subst e; unfold endR at he; rw [if_pos (.inl rfl)] at he; exact absurd he (by decide)
      · exact e
    have hz : ∀ v, v < n → eOp (f v) = false ∧ fieldBad (flT (f v).kind.toNat) (f v) count = false ∧ takenBad (flT (f v).kind.toNat) (f v) f v = false := fun v hv => opErr_zero (ha v (by omega) (by omega))
    have hw : ∀ v, v < n → WOk (f v) := fun v hv => wok_of (hz v hv).1 (fun c hc => b14_of (f v) c hc) count (hz v hv).2.1 (hk v hv)
    refine ⟨⟨hn, by omega, fun v hv => ⟨(hw v hv).ok, hk v hv⟩, fun i hi j hj => ?_, fun i hi hh => ?_⟩, hw, h2.1.1, h2.1.2⟩
    · have hb := (hz i hi).2.2
      have k1 := (hw i hi).ok.k1
      have k2 := (hw i hi).ok.k2
      have hr := ru_ok (f i).kind.toNat (by omega) (by omega)
      have e : ru (f i).kind = ruT (f i).kind.toNat := rfl
      rw [e] at hj
      have ha' := hr.a
      have hb' := hr.b
      have hc' := hr.c
      have t3 := hr.t3
      unfold takenBad at hb
      simp only [Bool.or_eq_false_iff] at hb
      obtain ⟨⟨q0, q1⟩, q2⟩ := hb
      have key : ∀ (x : Bool) (a : Int), x = true → (x && !(gvn f i a)) = false → a = ((a.toNat : Nat) : Int) ∧ a.toNat < i := fun x a hx hg => by
        rw [hx] at hg
        unfold gvn at hg
        simp only [Bool.true_and, Bool.not_eq_eq_eq_not, Bool.not_false, Bool.and_eq_true, decide_eq_true_eq] at hg
        omega
      rcases (by omega : j = 0 ∨ j = 1 ∨ j = 2) with rfl | rfl | rfl
      · exact key _ _ (by rw [← ha']; exact decide_eq_true (by omega)) q0
      · exact key _ _ (by rw [← hb']; exact decide_eq_true (by omega)) q1
      · exact key _ _ (by rw [← hc']; exact decide_eq_true (by omega)) q2
    · have hh' := (hw i hi).hi
      have h0 := (hw i hi).ok.w0
      rcases hh with e | e
      · rw [e] at hh'; have : (ru 2).hi = 11 := rfl; omega
      · rw [e] at hh'; have : (ru 3).hi = 11 := rfl; omega
  · rw [if_neg h2] at h; exact absurd h (by decide)
end Go.Proofs.Ytocefkpnlgfebab.Ho
