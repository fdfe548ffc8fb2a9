/-
  GuestRounds: the statement, out of the walks.
-/
import Derived.Test.YtnnnmhpbdkalaaaRows
import Derived.Test.YtnnnmhpbdkalaaaAB
import Derived.Test.YtnnnmhpbdkalaaaWrites
namespace Go.Proofs.Ytnnnmhpbdkalaaa
open Go.ChangeShapes Go.WideShapes Go.ChangeAt Go.RowKit
set_option linter.unusedVariables false

theorem bytes5R : Try.prog.bytesOf 5 = 1 := by kernel_rfl

/-- A slice of bytes that came in: nothing in it, or a row. -/
def CameInR (w : World) (a : Option Addr) (len cap : Nat) : Prop :=
  (len = 0 ∧ (a = none → cap = 0)) ∨ ∃ b off zs, a = some ⟨b, off, none⟩ ∧ 0 < len ∧ len ≤ 140737488351232 ∧ Row w b off len cap zs

/-- Decode of what was laid, whatever stands behind it. -/
theorem dec_behind (l bs : List Int) (g c m : Nat) (w' : World) (op D S O im : Int) (l0 : 0 < l.length) (hm : bs.length = m) (hbl : ∀ j, 0 ≤ l.getD j 0 ∧ l.getD j 0 ≤ 255) (hbb : ∀ j, 0 ≤ bs.getD j 0 ∧ bs.getD j 0 ≤ 255)
    (hr : refDec l l.length = ⟨op, D, S, O, im, l.length, 0⟩) (hg : g < w'.heap.size) (h1 : l.length + m ≤ c) (h2 : c ≤ maxLen) (hc1 : ∀ i, i < l.length → w'.cell? ⟨g, i, none⟩ = some (.int .u8 (l.getD i 0))) (hc2 : ∀ i, i < m → w'.cell? ⟨g, l.length + i, none⟩ = some (.int .u8 (bs.getD i 0))) :
    Calls Try.prog 7 #[.slice (some ⟨g, 0, none⟩) (l.length + m) c] w' fun e w'' => e = .returned (decV ⟨op, D, S, O, im, l.length, 0⟩) ∧ Below w'.heap.size w' w'' := by
  have hget : ∀ j, (l ++ bs).getD j 0 = if j < l.length then l.getD j 0 else bs.getD (j - l.length) 0 := fun j => by
    simp only [List.getD_eq_getElem?_getD, List.getElem?_append]
    split <;> rfl
  have hbd : ∀ j, 0 ≤ (l ++ bs).getD j 0 ∧ (l ++ bs).getD j 0 ≤ 255 := fun j => by
    rw [hget]; split
    · exact hbl j
    · exact hbb _
  have hex : refDec (l ++ bs) (l.length + m) = refDec l l.length := dec_ext (by rw [hr]) (by rw [hr]; simp only; omega) (fun j hj => by
    rw [hr] at hj
    simp only at hj
    rw [hget, if_pos (by omega)])
  have hde := dec_eq (l ++ bs) (l.length + m) (hbd 0)
  have := dec_any g 0 (l.length + m) c (l ++ bs) w' ⟨h1, h2, fun i hi => by
    rw [Nat.zero_add, hget]
    split
    · exact hc1 i ‹_›
    · have := hc2 (i - l.length) (by omega)
      rw [show l.length + (i - l.length) = i by omega] at this
      exact this, hbd, hg⟩ (by omega)
  rw [hde, hex, hr] at this
  exact this

theorem rounds_walk (a : Option Addr) (len cap : Nat) (op D S O im : Int) (w : World) (h : CameInR w a len cap) (m0 : 0 ≤ im) (m1 : im ≤ 4294967295) :
    Calls Try.prog 5 #[.slice a len cap, insV op D S O im] w fun e w' => e = .returned (.bool true) ∧ Below w.heap.size w w' := by
  have hX : (∃ er, er ≠ 0 ∧ ∀ w', Calls Try.prog 14 #[insV op D S O im] w' fun e w'' => e = .returned (.tuple #[.slice none 0 0, .int .i64 er]) ∧ Below w'.heap.size w' w'') ∨
      (∃ l : List Int, 0 < l.length ∧ l.length ≤ 9 ∧ (∀ w', Calls Try.prog 14 #[insV op D S O im] w' fun e w'' => ∃ g, e = .returned (.tuple #[.slice (some ⟨g, 0, none⟩) l.length l.length, .int .i64 0]) ∧ Below w'.heap.size w' w'' ∧ w'.heap.size ≤ g ∧ ∀ i, i < l.length → w''.cell? ⟨g, i, none⟩ = some (.int .u8 (l.getD i 0))) ∧
        (len = 0 ∧ (a = none → cap = 0) ∨ ∃ b off zs, a = some ⟨b, off, none⟩ ∧ 0 < len ∧ len ≤ 140737488351232 ∧ Row w b off len cap zs) ∧
        ∀ g c (w' : World), g < w'.heap.size → l.length + len ≤ c → c ≤ maxLen → (∀ i, i < l.length → w'.cell? ⟨g, i, none⟩ = some (.int .u8 (l.getD i 0))) → (∀ b off zs, a = some ⟨b, off, none⟩ → Row w b off len cap zs → ∀ i, i < len → w'.cell? ⟨g, l.length + i, none⟩ = some (.int .u8 (zs.getD i 0))) →
          Calls Try.prog 7 #[.slice (some ⟨g, 0, none⟩) (l.length + len) c] w' fun e w'' => e = .returned (decV ⟨op, D, S, O, im, l.length, 0⟩) ∧ Below w'.heap.size w' w'') := by
    have ho := hitO_eq op
    by_cases hop : 0 ≤ op ∧ op < 32
    · rw [if_pos hop] at ho
      obtain ⟨k, rfl⟩ := Int.eq_ofNat_of_zero_le hop.1
      rw [Int.toNat_natCast] at ho
      have hk : k < 32 := by omega
      have hbd := layL_bd (tg k 1) (tg k 3) (tg k 4) (tg k 5) D S O im
      have hde := dec_eq (layK k D S O im) (layK k D S O im).length (hbd 0)
      have hll := encF_len k hk D S O im
      rw [← lay_eq k hk D S O im] at hll
      cases hq : isB (guestDec (layK k D S O im) (layK k D S O im).length) k D S O im with
      | false => exact .inl ⟨3, by decide, fun w' => enc_no k D S O im w' k ho m0 m1 hq⟩
      | true =>
        have hr := lay_says k hk D S O im (by rw [← hde]; exact hq)
        refine .inr ⟨layK k D S O im, by omega, hll.2, fun w' => (enc_yes k D S O im w' k ho m0 m1 hq).mono fun e w'' ⟨g, a1, a2, a3, _, _, a6⟩ => ⟨g, a1, a2, a3, a6⟩, h, fun g c w' h1 h2 h3 h4 h5 => ?_⟩
        rcases h with ⟨rfl, -⟩ | ⟨b, off, zs, rfl, -, -, hrow⟩
        · exact dec_behind (layK k D S O im) [] g c 0 w' k D S O im (by omega) rfl hbd (fun j => by simp) hr h1 h2 h3 h4 (fun i hi => by omega)
        · refine dec_behind (layK k D S O im) ((List.range len).map fun i => zs.getD i 0) g c len w' k D S O im (by omega) (by simp) hbd (fun j => ?_) hr h1 h2 h3 h4 (fun i hi => ?_)
          · by_cases hj : j < len
            · have := hrow.bd j; simpa [List.getD_eq_getElem?_getD, hj] using this
            · rw [List.getD_eq_getElem?_getD, List.getElem?_eq_none (by simp; omega)]; simp
          · have := h5 b off zs rfl hrow i hi
            rw [this]
            simp [List.getD_eq_getElem?_getD, hi]
    · rw [if_neg hop] at ho
      exact .inl ⟨2, by decide, fun w' => enc_none op D S O im w' ho⟩
  rcases h with ⟨rfl, hnil⟩ | ⟨b, off, zs, rfl, hl0, hl1, hr⟩
  · refine rounds_first a 0 cap op D S O im (decErr 1) w (fun w' _ => dec_nil a cap [] w') (fun he => by cases he) hX (fun _ => ⟨rfl, rfl, rfl, rfl, rfl, rfl⟩)
  · have hde := dec_eq zs len (hr.bd 0)
    refine rounds_first _ len cap op D S O im (refDec zs len) w (fun w' hb => by rw [← hde]; exact dec_any b off len cap zs w' (hr.later hb len (Nat.le_refl _)) hl0) (fun he => ?_) hX (fun he => ?_)
    · obtain ⟨k, hk, hop, hhit, hn, hnl, i0, i1, hlen, hcells, hq⟩ := dec_back hr.bd he
      obtain ⟨-, -, -, -, -, -, q6, q7⟩ := row_bd ⟨k, hk⟩
      simp only at q6 q7
      have ho : hitO (refDec zs len).op = some k := by rw [hop, hitO_eq, if_pos (by omega), Int.toNat_natCast]
      obtain ⟨n, hnn⟩ := Int.eq_ofNat_of_zero_le (show (0 : Int) ≤ (refDec zs len).n by omega)
      have hll : (layK k (refDec zs len).D (refDec zs len).S (refDec zs len).O (refDec zs len).imm).length = n := by omega
      refine ⟨b, off, n, zs, rfl, hnn, by omega, by omega, by omega, hr, ?_, fun w' => ?_⟩
      · unfold sizeB; rw [hhit]; simp only [Option.isSome_some, if_true]; rw [← hnn, hn]; rfl
      · refine (enc_yes (refDec zs len).op (refDec zs len).D (refDec zs len).S (refDec zs len).O (refDec zs len).imm w' k ho i0 i1 (by rw [hop]; exact hq)).mono fun e w'' ⟨g, a1, a2, a3, _, _, a6⟩ => ?_
        rw [hll] at a1 a6
        exact ⟨g, a1, a2, fun i hi => by rw [a6 i hi, hcells i (by omega)]⟩
    · obtain ⟨er, -, hee⟩ := dec_err he
      rw [hee]
      exact ⟨rfl, rfl, rfl, rfl, rfl, rfl⟩

/-- Of an argument of type []byte. -/
theorem came_inR {H : Type} {enc : TypeId × Value → H} {W : World} {a0 : Option Addr} {len0 cap0 : Nat} {d0 : DataW H} {p0 : List MemPlace}
    (h0 : DataW.Trod enc Try.prog W 0 (fun _ => true) true 22 (.slice a0 len0 cap0) d0 p0)
    (hsz : ∀ elems spare, d0 = .slice elems spare → (elems.length + spare.length) * Try.prog.bytesOf 5 ≤ reachBytes) : CameInR W a0 len0 cap0 := by
  obtain ⟨fuel, hf⟩ := h0
  rcases open_ints Try.underlying22 Try.underlying5 (by kernel_rfl) hf with ⟨hcs, _⟩ | ⟨x, l, c, zs, hcs, _, hl, hm, hz, hx, hcell, hwz⟩
  · simp [Value.cells] at hcs
    obtain ⟨rfl, rfl, rfl⟩ := hcs
    exact .inl ⟨rfl, fun _ => rfl⟩
  · simp [Value.cells] at hcs
    obtain ⟨rfl, rfl, rfl⟩ := hcs
    simp only [Prod.mk.injEq] at hx
    simp only [if_true] at hz
    have hreach := hsz _ _ hx.1
    rw [bytes5R] at hreach
    simp only [lits, List.length_map, List.length_take, List.length_drop, reachBytes] at hreach
    by_cases h0 : len0 = 0
    · exact .inl ⟨h0, fun h => by cases h⟩
    · refine .inr ?_
      obtain ⟨b, off, spot⟩ := x
      have hc := hcell 0 (by omega)
      have hspot : spot = none := by simpa [Addr.add] using World.cell?_spot hc
      subst hspot
      refine ⟨b, off, zs, rfl, by omega, by omega, hl, hm, fun i hi => ?_, fun i => ?_, ?_⟩
      · have := hcell i (by omega)
        rw [Addr.add_mid] at this
        exact this
      · by_cases hi : i < zs.length
        · have hmem : zs.getD i 0 ∈ zs := by
            rw [List.getD_eq_getElem?_getD, List.getElem?_eq_getElem hi, Option.getD_some]; exact List.getElem_mem hi
          have := bounds_u8 (hwz _ hmem)
          omega
        · rw [List.getD_eq_getElem?_getD, List.getElem?_eq_none (by omega)]
          simp
      · exact block_lt_of_cell (a := ⟨b, off, none⟩) (by simpa [Addr.add] using hc)

set_option maxRecDepth 100000 in
theorem rounds_lifted (os : Os) (started : os.Started) (H : Type) (enc : TypeId × Value → H) :
    ReturnsInHanded {} Try.checked os 5 .any (Rows.guestRoundsSpec.pre6 enc Try.prog Try.f5 Rows.guestRoundsRow.domain false) (Rows.guestRoundsSpec.post enc Try.prog Try.f5 false true false false) := by
  refine returnsInHanded_of_change_sized (C := Try.checked) ownW started (by kernel_rfl) Try.func5
    (ChangeSpec.witness6 (enc := enc) (C := Try.checked) false ⟨#[], #[.slice none 0 0, .agg #[.int .i64 0, .int .i64 0, .int .i64 0, .int .i64 0, .int .u32 0]], []⟩ 8 (by kernel_rfl) (by kernel_rfl) (by kernel_rfl) (by kernel_rfl)) ?_
  intro W base args ds gs before hval0 hW hcnd hsz0 _
  have hsz : (DataW.weightsEach Try.prog (Try.f5.params.toList ++ Rows.guestRoundsSpec.plain.varTypes Try.prog) (ds ++ gs)).all (· ≤ reachBytes) = true := hsz0
  clear hsz0
  have hval : ∀ (j : Nat) t v, Try.f5.params[j]? = some t → args[j]? = some v → Value.okWide Try.prog W .any base t v := hval0
  have hW' := hW
  obtain ⟨p, q, hA0, hV, rfl, hfz, hnd⟩ := hW
  have hA : DataW.TrodAll enc Try.prog W 0 (fun _ => true) true Try.f5.params.toList args.toList ds p := hA0
  rw [Try.params5] at hA hval hsz
  obtain ⟨v0, v1, d0, d1, p0, p1, rfl, rfl, rfl, h0, h1⟩ := trodAll_two hA
  obtain ⟨rfl, rfl⟩ := trodVars_none hV
  obtain ⟨a0, len0, cap0, rfl⟩ := okWide_slice Try.underlying22 (hval 0 22 v0 rfl rfl)
  have k0 := h0
  have k1 := h1
  have lt0 : ∀ x ∈ p0, x.block < W.heap.size := by obtain ⟨m, hm⟩ := k0; exact DataW.trod_lt m _ _ _ hm
  have lt1 : ∀ x ∈ p1, x.block < W.heap.size := by obtain ⟨m, hm⟩ := k1; exact DataW.trod_lt m _ _ _ hm
  obtain ⟨op, D, S, O, im, rfl, m0, m1⟩ := open_ins (hval 1 26 v1 rfl rfl) h1
  have hin : CameInR W a0 len0 cap0 := came_inR h0 (fun elems spare he => by
    subst he
    exact sized_slice hsz (j := 0) (t := 22) (e := 5) rfl rfl Try.underlying22)
  clear hA0 hval0
  refine (rounds_walk a0 len0 cap0 op D S O im W hin m0 m1).mono fun e W' ⟨he, bel⟩ => ?_
  subst he
  exact ⟨_, rfl, _, _, _, [], _, [], hW', trodAll_mk1 (shut_bool Try.underlying4 _), trodAll_mk2 (Below.trod laidOutW (by kernel_rfl) (of_decide_eq_true (by kernel_rfl)) k0 bel lt0) (Below.trod laidOutW (by kernel_rfl) (of_decide_eq_true (by kernel_rfl)) k1 bel lt1), rfl, bel.frame _, fun h => by cases h⟩

theorem rounds_holds : Rows.GuestRoundsSaid :=
  OpenClaim.holds_of_wide 5 Try.f5 rfl rfl rfl rfl rfl rfl rfl ⟨rfl, rfl, rfl, rfl, rfl⟩ rfl rfl rfl rfl rfl (by kernel_rfl) Try.func5 (by kernel_rfl)
    (of_decide_eq_true (by kernel_rfl)) (by unfold Func.isWrapper; first | (rw [if_pos (by decide +kernel)]; kernel_rfl) | (rw [if_neg (by decide +kernel)]; exact ⟨rfl, rfl⟩))
    (fun os started H enc _ => rounds_lifted os started H enc)
#print axioms rounds_holds
end Go.Proofs.Ytnnnmhpbdkalaaa
