import Derived.Test.YtkhaajbhgenicaaMS
namespace Go.Proofs.Ytkhaajbhgenicaa
open Go.RowKit
set_option maxRecDepth 100000
set_option linter.unusedVariables false

/-- A row that is the step's own: its bytes from j on stand still. -/
structure XR (B : Nat) (w2 : World) (p : Option Addr) (n : Nat) (z : Nat → Int) (j : Nat) (wr : World) : Prop where
  le : j ≤ n
  row : 0 < n → ∃ H, p = some ⟨H, 0, none⟩ ∧ B ≤ H ∧ (∀ i, j ≤ i → i < n → wr.cell? ⟨H, i, none⟩ = some (.int .u8 (z i))) ∧ ∀ i, wr.frozen? ⟨H, i, none⟩ = false
  bel : Below B w2 wr
theorem XR.start {B : Nat} {w2 : World} {p : Option Addr} {n : Nat} {z : Nat → Int} (h : 0 < n → ∃ H, p = some ⟨H, 0, none⟩ ∧ B ≤ H ∧ NR w2 H n z) : XR B w2 p n z 0 w2 :=
  ⟨Nat.zero_le _, fun hn => by obtain ⟨H, hp, hB, hN⟩ := h hn; exact ⟨H, hp, hB, fun i _ hi => hN.cell i hi, hN.fr⟩, Below.refl _ _⟩
theorem XR.next {B : Nat} {w2 wr : World} {H n : Nat} {z : Nat → Int} {j : Nat} (h : XR B w2 (some ⟨H, 0, none⟩) n z j wr) (hj : j < n) (v : Value) (hH : B ≤ H) : XR B w2 (some ⟨H, 0, none⟩) n z (j + 1) (wr.setCell ⟨H, j, none⟩ v) :=
  ⟨hj, fun hn => by
    obtain ⟨H', hp, hB, hc, hf⟩ := h.row hn
    cases hp
    refine ⟨H, rfl, hH, fun i h1 h2 => ?_, fun i => by rw [World.frozen?_setCell]; exact hf i⟩
    rw [World.cell?_setCell_other _ _ _ _ (by intro e; cases e; omega)]
    exact hc i (by omega) h2, h.bel.setCell hH _⟩

theorem peekM_le (a n : Int) : peekM a n ≤ 65536 := by
  unfold peekM; split
  · rename_i h; unfold liesOk at h; omega
  · omega
theorem i64_wrap64 (x : Int) : I64 (wrap64 x) := by unfold wrap64; constructor <;> omega
theorem out_keep {p : Option Addr} {m B : Nat} {z : Nat → Int} {w2 w3 : World} (h : 0 < m → ∃ H, p = some ⟨H, 0, none⟩ ∧ B ≤ H ∧ NR w2 H m z) (hb : Below w2.heap.size w2 w3) : 0 < m → ∃ H, p = some ⟨H, 0, none⟩ ∧ B ≤ H ∧ NR w3 H m z := fun hm => by
  obtain ⟨H, hp, hB, hN⟩ := h hm
  exact ⟨H, hp, hB, hN.of_block (hb.block H (lt_of_cell (hN.cell 0 hm)))⟩
theorem out_next {w w1 w2 : World} {o : Obj} {p : Option Addr} {m : Nat} {z : Nat → Int} (h : Out (w.alloc o) w1 p m z) (hb : Below w1.heap.size w1 w2) : 0 < m → ∃ H, p = some ⟨H, 0, none⟩ ∧ w.heap.size + 1 ≤ H ∧ NR w2 H m z :=
  out_keep (fun hm => by obtain ⟨H, hp, hB, hN⟩ := h.row hm; exact ⟨H, hp, by simpa using hB, hN⟩) hb
theorem out_sr {p : Option Addr} {m B : Nat} {z : Nat → Int} {w2 : World} (h : 0 < m → ∃ H, p = some ⟨H, 0, none⟩ ∧ B ≤ H ∧ NR w2 H m z) : SR w2 p m z := fun hm => by
  obtain ⟨H, rfl, -, hN⟩ := h hm
  exact hN.sr hm

theorem peek_me (X : Nat) (a n : Int) (s : MS) (w : World) (m : Nat) (er : Int) (hm : peekM a n = m ∧ peekE a n = er) (ha : I64 a) (h : PM w X s) :
    Calls Try.prog 33 #[.pointer (some ⟨X, 0, none⟩), .int .i64 a, .int .i64 n] w fun e w' => ∃ p c, e = .returned (.tuple #[.slice p m c, .int .i64 er]) ∧ Out w w' p m (fun i => s.B (a.toNat + i)) := by
  obtain ⟨rfl, rfl⟩ := hm; exact peek_tot X a n s w ha h
theorem rpeek_me (k : RB) (a n : Int) (s : MS) (w : World) (m : Nat) (er : Int) (hm : peekM a n = m ∧ peekE a n = er) (ha : I64 a) (h : RM w k s) :
    Calls Try.prog 34 #[.pointer (some ⟨k.y, 0, none⟩), .int .i64 a, .int .i64 n] w fun e w' => ∃ p c, e = .returned (.tuple #[.slice p m c, .int .i64 er]) ∧ SR w' p m (fun i => s.B (a.toNat + i)) ∧ Below w.heap.size w w' := by
  obtain ⟨rfl, rfl⟩ := hm; exact rpeek_tot k a n s w ha h
theorem fetch_me (X a : Nat) (n : Int) (s : MS) (w : World) (m : Nat) (ki ar : Int) (hm : fetM s a n = m ∧ stK 4 (fet s a n) = ki ∧ stA (fet s a n) = ar) (ha : a < 4294967296) (hs : s.Ok) (h : PM w X s) :
    Calls Try.prog 39 #[.pointer (some ⟨X, 0, none⟩), .int .u32 a, .int .i64 n] w fun e w' => ∃ p c, e = .returned (.tuple #[.slice p m c, .agg #[.int .i64 ki, .int .u32 ar]]) ∧ Out w w' p m (fun i => s.B (a + i)) := by
  obtain ⟨rfl, rfl, rfl⟩ := hm; exact fetch_tot X a n s w ha hs h
theorem rfetch_me (k : RB) (a : Nat) (n : Int) (s : MS) (w : World) (m : Nat) (ki ar : Int) (hm : fetM s a n = m ∧ stK 4 (fet s a n) = ki ∧ stA (fet s a n) = ar) (ha : a < 4294967296) (hs : s.Ok) (h : RM w k s) :
    Calls Try.prog 40 #[.pointer (some ⟨k.y, 0, none⟩), .int .u32 a, .int .i64 n] w fun e w' => ∃ p c, e = .returned (.tuple #[.slice p m c, .agg #[.int .i64 ki, .int .u32 ar]]) ∧ SR w' p m (fun i => s.B (a + i)) ∧ Below w.heap.size w w' := by
  obtain ⟨rfl, rfl, rfl⟩ := hm; exact rfetch_tot k a n s w ha hs h

theorem i64_wrap (x : Int) : I64 (IntKind.i64.wrap x) := by rw [IntKind.wrap_i64]; constructor <;> omega

set_option maxHeartbeats 2000000 in
theorem step2 (X A : Nat) (k : RB) (N V : Int) (bp : Option Addr) (n c : Nat) (on : Bool) (s : MS) (w : World) (h : Both w X k s) (hA : A < 4294967296) :
    Calls Try.prog 19 #[.pointer (some ⟨X, 0, none⟩), .pointer (some ⟨k.y, 0, none⟩), .agg (stepC 2 A N V bp n c on)] w fun e w' => e = .returned (.bool true) ∧ Fin w X k w' := by
  have HB : Hid (Both w X k s) := h
  clear h
  have hB0 : Both (w.alloc (.cells (stepC 2 A N V bp n c on) 46)) X k s := HB.out.alloc _
  have O0 : Own w (w.alloc (.cells (stepC 2 A N V bp n c on) 46)) A N V bp n c on := own_of (Chg.refl _ _) HB.out.ltX
  obtain ⟨a, ha, hI⟩ : ∃ a, wrap64 (wrap32 (A : Int)) = a ∧ I64 a := ⟨_, rfl, i64_wrap64 _⟩
  have HI : Hid (I64 a) := hI
  clear hI
  have hm0 : peekM a N ≤ 65536 := peekM_le a N
  obtain ⟨m, hm⟩ : ∃ m, peekM a N = m := ⟨_, rfl⟩
  obtain ⟨er, her⟩ : ∃ er, peekE a N = er := ⟨_, rfl⟩
  rw [hm] at hm0
  have hmi : (m : Int) ≤ 65536 := by omega
  have HML : Hid (m ≤ maxLen) := show m ≤ maxLen by unfold maxLen; omega
  have HM : Hid (peekM a N = m ∧ peekE a N = er) := ⟨hm, her⟩
  clear hm her hm0
  go_enter Try.func19, Try.ntmps19
  go_wp2_with first
    | (go_at_call 33; refine (peek_me X a N s _ m er HM.out HI.out hB0.pm).mono ?_; rintro e w1 ⟨p1, c1, rfl, hO⟩; have O1 := O0.bel hO.bel; have p1' := O1.f1; have p2' := O1.f2; have hz1 : w.heap.size < w1.heap.size := lt_of_cell p1'; have HB1 : Hid (Both w1 X k s) := hB0.below hO.bel (Nat.le_refl _); have HO : Hid (Out (w.alloc (.cells (stepC 2 A N V bp n c on) 46)) w1 p1 m (fun i => s.B (a.toNat + i))) := hO; clear hO)
    | (go_at_call 34; refine (rpeek_me k a N s _ m er HM.out HI.out HB1.out.rm).mono ?_; rintro e w2 ⟨p2, c2, rfl, hS2, hL2⟩; have HL2 : Hid (Below w1.heap.size w1 w2) := hL2; have HS2 : Hid (SR w2 p2 m (fun i => s.B (a.toNat + i))) := hS2; have HO2 : Hid (0 < m → ∃ H, p1 = some ⟨H, 0, none⟩ ∧ w.heap.size + 1 ≤ H ∧ NR w2 H m (fun i => s.B (a.toNat + i))) := out_next HO.out hL2; clear hL2 hS2)
    | (go_at_call 10; refine (same_any p1 p2 m c1 c2 (fun i => s.B (a.toNat + i)) _ HML.out (out_sr HO2.out) HS2.out).mono ?_; rintro e w3 ⟨rfl, hL3⟩; have HL3 : Hid (Below w2.heap.size w2 w3) := hL3; have HX3 : Hid (XR (w.heap.size + 1) w3 p1 m (fun i => s.B (a.toNat + i)) 0 w3) := XR.start (out_keep HO2.out hL3); clear hL3)
  go_loopw [123] (fun i wr => ∃ j : Nat, i = .int .i64 j ∧ XR (w.heap.size + 1) w3 p1 m (fun i => s.B (a.toNat + i)) j wr) (fun i _ => m - (intOf i).toNat)
  case atStart => exact ⟨0, rfl, HX3.out⟩
  case round =>
    obtain ⟨j, rfl, hx⟩ := hrel
    have HX : Hid (XR (w.heap.size + 1) w3 p1 m (fun i => s.B (a.toNat + i)) j wr) := hx
    by_cases hlt : j < m
    · obtain ⟨H, rfl, hH, hc, hf⟩ := hx.row (by omega)
      have cj := hc j (Nat.le_refl _) hlt
      have fj := hf j
      have hji : (j : Int) < m := by omega
      have hj0 : (0 : Int) ≤ j := by omega
      clear hx hc hf
      go_wp2
      go_roundw
      case rel => exact ⟨j + 1, by go_num, HX.out.next hlt _ hH⟩
      case measure => simp [intOf]; omega
    · have hle := hx.le
      have hji : ¬ (j : Int) < m := by omega
      have hb : Below w.heap.size w wr := by
        have s0 : Below w.heap.size w (w.alloc (.cells (stepC 2 A N V bp n c on) 46)) := (Below.refl _ _).alloc (Nat.le_refl _) _
        have b1 := s0.trans (HO.out.bel.mono (by simp))
        have b2 := b1.trans (HL2.out.mono (by omega))
        have b3 := b2.trans (HL3.out.mono b2.size)
        exact b3.trans (hx.bel.mono (by omega))
      have HF : Hid (Fin w X k wr) := HB.out.fin hb
      clear hx hb hle
      go_wp2
      go_ret
      exact ⟨rfl, HF.out⟩

theorem SR.bel {w w' : World} {p : Option Addr} {m : Nat} {z : Nat → Int} (h : SR w p m z) (hb : Below w.heap.size w w') : SR w' p m z := fun hm => by
  obtain ⟨b, off, hp, hr⟩ := h hm
  have hlt : b < w.heap.size := lt_of_cell (hr 0 hm)
  exact ⟨b, off, hp, fun i hi => (hb.cell (p := ⟨b, off + i, none⟩) hlt).trans (hr i hi)⟩
theorem SR.alloc {w : World} {p : Option Addr} {m : Nat} {z : Nat → Int} (h : SR w p m z) (o : Obj) : SR (w.alloc o) p m z := h.bel ((Below.refl _ _).alloc (Nat.le_refl _) o)
theorem fetM_le (s : MS) (a : Nat) (n : Int) : fetM s a n ≤ 8 := by unfold fetM; split <;> omega

set_option maxHeartbeats 2000000 in
theorem step5 (X A : Nat) (k : RB) (N V : Int) (bp : Option Addr) (n c : Nat) (on : Bool) (s : MS) (w : World) (h : Both w X k s) (hA : A < 4294967296) :
    Calls Try.prog 19 #[.pointer (some ⟨X, 0, none⟩), .pointer (some ⟨k.y, 0, none⟩), .agg (stepC 5 A N V bp n c on)] w fun e w' => e = .returned (.bool true) ∧ Fin w X k w' := by
  have HB : Hid (Both w X k s) := h
  clear h
  have hB0 : Both (w.alloc (.cells (stepC 5 A N V bp n c on) 46)) X k s := HB.out.alloc _
  have O0 : Own w (w.alloc (.cells (stepC 5 A N V bp n c on) 46)) A N V bp n c on := own_of (Chg.refl _ _) HB.out.ltX
  have hm0 : fetM s A N ≤ 8 := fetM_le s A N
  obtain ⟨m, hm⟩ : ∃ m, fetM s A N = m := ⟨_, rfl⟩
  obtain ⟨ki, hki⟩ : ∃ er, stK 4 (fet s A N) = er := ⟨_, rfl⟩
  obtain ⟨ar, har⟩ : ∃ er, stA (fet s A N) = er := ⟨_, rfl⟩
  rw [hm] at hm0
  have hmi : (m : Int) ≤ 8 := by omega
  have HML : Hid (m ≤ maxLen) := show m ≤ maxLen by unfold maxLen; omega
  have HM : Hid (fetM s A N = m ∧ stK 4 (fet s A N) = ki ∧ stA (fet s A N) = ar) := ⟨hm, hki, har⟩
  clear hm hki har hm0
  go_enter Try.func19, Try.ntmps19
  go_wp2_with first
    | (go_at_call 39; refine (fetch_me X A N s _ m ki ar HM.out hA HB.out.ok hB0.pm).mono ?_; rintro e w1 ⟨p1, c1, rfl, hO⟩; have O1 := O0.bel hO.bel; have p1' := O1.f1; have p2' := O1.f2; have hz1 : w.heap.size < w1.heap.size := lt_of_cell p1'; have HB1 : Hid (Both w1 X k s) := hB0.below hO.bel (Nat.le_refl _); have HO : Hid (Out (w.alloc (.cells (stepC 5 A N V bp n c on) 46)) w1 p1 m (fun i => s.B (A + i))) := hO; clear hO)
    | (go_at_call 40; refine (rfetch_me k A N s _ m ki ar HM.out hA HB.out.ok (HB1.out.alloc _).rm).mono ?_; rintro e w2 ⟨p2, c2, rfl, hS2, hL2⟩; obtain ⟨t2, t3, -, hz2⟩ := own2 hL2; have hbb : Below w1.heap.size w1 w2 := ((Below.refl _ _).alloc (Nat.le_refl _) _).trans (hL2.mono (by simp)); have HL2 : Hid (Below w1.heap.size w1 w2) := hbb; have HS2 : Hid (SR w2 p2 m (fun i => s.B (A + i))) := hS2; have HO2 : Hid (0 < m → ∃ H, p1 = some ⟨H, 0, none⟩ ∧ w.heap.size + 1 ≤ H ∧ NR w2 H m (fun i => s.B (A + i))) := out_next HO.out hbb; clear hL2 hS2 hbb)
    | (go_at_call 10; refine (same_any p1 p2 m c1 c2 (fun i => s.B (A + i)) _ HML.out ((out_sr HO2.out).alloc _) (HS2.out.alloc _)).mono ?_; rintro e w3 ⟨rfl, hL3⟩; have hbb : Below w2.heap.size w2 w3 := ((Below.refl _ _).alloc (Nat.le_refl _) _).trans (hL3.mono (by simp)); have HL3 : Hid (Below w2.heap.size w2 w3) := hbb; have HX3 : Hid (XR (w.heap.size + 1) w3 p1 m (fun i => s.B (A + i)) 0 w3) := XR.start (out_keep HO2.out hbb); clear hL3 hbb)
  go_loopw [211] (fun i wr => ∃ j : Nat, i = .int .i64 j ∧ XR (w.heap.size + 1) w3 p1 m (fun i => s.B (A + i)) j wr) (fun i _ => m - (intOf i).toNat)
  case atStart => exact ⟨0, rfl, HX3.out⟩
  case round =>
    obtain ⟨j, rfl, hx⟩ := hrel
    have HX : Hid (XR (w.heap.size + 1) w3 p1 m (fun i => s.B (A + i)) j wr) := hx
    by_cases hlt : j < m
    · obtain ⟨H, rfl, hH, hc, hf⟩ := hx.row (by omega)
      have cj := hc j (Nat.le_refl _) hlt
      have fj := hf j
      have hji : (j : Int) < m := by omega
      have hj0 : (0 : Int) ≤ j := by omega
      clear hx hc hf
      go_wp2
      go_roundw
      case rel => exact ⟨j + 1, by go_num, HX.out.next hlt _ hH⟩
      case measure => simp [intOf]; omega
    · have hle := hx.le
      have hji : ¬ (j : Int) < m := by omega
      have hb : Below w.heap.size w wr := by
        have s0 : Below w.heap.size w (w.alloc (.cells (stepC 5 A N V bp n c on) 46)) := (Below.refl _ _).alloc (Nat.le_refl _) _
        have b1 := s0.trans (HO.out.bel.mono (by simp))
        have b2 := b1.trans (HL2.out.mono (by omega))
        have b3 := b2.trans (HL3.out.mono b2.size)
        exact b3.trans (hx.bel.mono (by omega))
      have HF : Hid (Fin w X k wr) := HB.out.fin hb
      clear hx hb hle
      go_wp2
      go_ret
      exact ⟨rfl, HF.out⟩
end Go.Proofs.Ytkhaajbhgenicaa
