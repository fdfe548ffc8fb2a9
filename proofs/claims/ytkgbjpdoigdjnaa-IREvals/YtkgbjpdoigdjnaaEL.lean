import Derived.Test.YtkgbjpdoigdjnaaEM
import Derived.Test.YtkgbjpdoigdjnaaEH
import Derived.Test.YtkgbjpdoigdjnaaEK
namespace Go.Proofs.Ytkgbjpdoigdjnaa
open Go.RowKit
set_option maxRecDepth 100000
set_option linter.unusedVariables false
set_option linter.unusedSimpArgs false
theorem upto4 {k : Int} (h : 0 ≤ k ∧ k ≤ 4) : k = 0 ∨ k = 1 ∨ k = 2 ∨ k = 3 ∨ k = 4 := by omega
theorem upto2 {k : Int} (h : 0 ≤ k ∧ k ≤ 2) : k = 0 ∨ k = 1 ∨ k = 2 := by omega
theorem pld_any (X : Nat) (a : Nat) (g : Int) (s : MS) (w : World) (ha : a < 4294967296) (hs : s.Ok) (h : PM w X s) (hg : 0 ≤ g ∧ g ≤ 4) :
    Calls Try.prog 164 #[.pointer (some ⟨X, 0, none⟩), .int .i64 g, .int .u32 a] w fun e w' => e = .returned (.tuple #[.int .u32 (ldW s g a : Nat), .agg #[.int .i64 (stK 5 (badN s 1 a (ldN g).toNat)), .int .u32 (stA (badN s 1 a (ldN g).toNat))]]) ∧ Below w.heap.size w w' := by
  rcases upto4 hg with rfl | rfl | rfl | rfl | rfl
  · obtain ⟨v, e, hv⟩ := ldX_nat s a 1 hs (by omega)
    have c := pld0 X a v s w _ ha hs h e hv rfl
    rw [show ldW s 0 a = v by simp [ldW, ldN, e]]
    exact c
  · obtain ⟨v, e, hv⟩ := ldX_nat s a 1 hs (by omega)
    have c := pld1 X a v s w _ ha hs h e hv rfl
    rw [show ldW s 1 a = unF 2 v by simp [ldW, ldN, e]]
    exact c
  · obtain ⟨v, e, hv⟩ := ldX_nat s a 2 hs (by omega)
    have c := pld2 X a v s w _ ha hs h e hv rfl
    rw [show ldW s 2 a = v by simp [ldW, ldN, e]]
    exact c
  · obtain ⟨v, e, hv⟩ := ldX_nat s a 2 hs (by omega)
    have c := pld3 X a v s w _ ha hs h e hv rfl
    rw [show ldW s 3 a = unF 3 v by simp [ldW, ldN, e]]
    exact c
  · obtain ⟨v, e, hv⟩ := ldX_nat s a 4 hs (by omega)
    have c := pld4 X a v s w _ ha hs h e hv rfl
    rw [show ldW s 4 a = v by simp [ldW, ldN, e]]
    exact c
theorem rld_any (k : RB) (a : Nat) (g : Int) (s : MS) (w : World) (ha : a < 4294967296) (hs : s.Ok) (h : RM w k s) (hg : 0 ≤ g ∧ g ≤ 4) :
    Calls Try.prog 143 #[.pointer (some ⟨k.y, 0, none⟩), .int .i64 g, .int .u32 a] w fun e w' => e = .returned (.tuple #[.int .u32 (ldW s g a : Nat), .agg #[.int .i64 (stK 5 (badN s 1 a (ldN g).toNat)), .int .u32 (stA (badN s 1 a (ldN g).toNat))]]) ∧ Below w.heap.size w w' := by
  rcases upto4 hg with rfl | rfl | rfl | rfl | rfl
  · obtain ⟨v, e, hv⟩ := ldX_nat s a 1 hs (by omega)
    have c := rld0 k a v s w _ ha hs h e hv rfl
    rw [show ldW s 0 a = v by simp [ldW, ldN, e]]
    exact c
  · obtain ⟨v, e, hv⟩ := ldX_nat s a 1 hs (by omega)
    have c := rld1 k a v s w _ ha hs h e hv rfl
    rw [show ldW s 1 a = unF 2 v by simp [ldW, ldN, e]]
    exact c
  · obtain ⟨v, e, hv⟩ := ldX_nat s a 2 hs (by omega)
    have c := rld2 k a v s w _ ha hs h e hv rfl
    rw [show ldW s 2 a = v by simp [ldW, ldN, e]]
    exact c
  · obtain ⟨v, e, hv⟩ := ldX_nat s a 2 hs (by omega)
    have c := rld3 k a v s w _ ha hs h e hv rfl
    rw [show ldW s 3 a = unF 3 v by simp [ldW, ldN, e]]
    exact c
  · obtain ⟨v, e, hv⟩ := ldX_nat s a 4 hs (by omega)
    have c := rld4 k a v s w _ ha hs h e hv rfl
    rw [show ldW s 4 a = v by simp [ldW, ldN, e]]
    exact c
theorem pst_any (X : Nat) (a v : Nat) (g : Int) (s : MS) (w : World) (ha : a < 4294967296) (hv : v < 4294967296) (hs : s.Ok) (h : PM w X s) (hg : 0 ≤ g ∧ g ≤ 2) :
    Calls Try.prog 165 #[.pointer (some ⟨X, 0, none⟩), .int .i64 g, .int .u32 a, .int .u32 v] w fun e w' => e = .returned (.agg #[.int .i64 (stK 6 (sto s a (stN g))), .int .u32 (stA (sto s a (stN g)))]) ∧ PM w' X (storeT s a (stN g) v) ∧ Chg [X] w w' := by
  rcases upto2 hg with rfl | rfl | rfl
  · exact pst0 X a v s w _ ha hv hs h rfl
  · exact pst1 X a v s w _ ha hv hs h rfl
  · exact pst2 X a v s w _ ha hv hs h rfl
theorem rst_any (k : RB) (a v : Nat) (g : Int) (s : MS) (w : World) (ha : a < 4294967296) (hv : v < 4294967296) (hs : s.Ok) (h : RM w k s) (hg : 0 ≤ g ∧ g ≤ 2) :
    Calls Try.prog 144 #[.pointer (some ⟨k.y, 0, none⟩), .int .i64 g, .int .u32 a, .int .u32 v] w fun e w' => e = .returned (.agg #[.int .i64 (stK 6 (sto s a (stN g))), .int .u32 (stA (sto s a (stN g)))]) ∧ RM w' k (storeT s a (stN g) v) ∧ Chg k.all w w' := by
  rcases upto2 hg with rfl | rfl | rfl
  · exact rst0 k a v s w _ ha hv hs h rfl
  · exact rst1 k a v s w _ ha hv hs h rfl
  · exact rst2 k a v s w _ ha hv hs h rfl
theorem opWf_of {n : Nat} {o : OpR} (h : OpGood n o) : OpWf o :=
  ⟨fun e => by have h1 := h.lo; have h2 := h.hi; rw [e] at h1 h2; exact ⟨h1, h2⟩, fun e => by have h1 := h.lo; have h2 := h.hi; rw [e] at h1 h2; exact ⟨h1, h2⟩⟩
theorem opW_hi {n : Nat} {o : OpR} (h : OpGood n o) : o.w ≤ 9223372036854775807 := by have h2 := h.hi; have := (rr_bd o.kind).2.2.2; omega
theorem rval_any (n : Nat) (o : OpR) (a b c : Nat) (w : World) (ha : a < 4294967296) (hb : b < 4294967296) (hc : c < 4294967296) (hk : o.kind = 1 ∨ o.kind = 4 ∨ o.kind = 5 ∨ o.kind = 6 ∨ o.kind = 7 ∨ o.kind = 8) (hw : OpGood n o) :
    Calls Try.prog 145 #[.agg #[.int .i64 o.kind, .int .i64 o.w, .int .i64 o.a, .int .i64 o.b, .int .i64 o.c, .int .u32 o.k, .int .i64 o.n], .int .u32 a, .int .u32 b, .int .u32 c] w fun e w' => e = .returned (.int .u32 (valF o a b c)) ∧ Below w.heap.size w w' := by
  rcases hk with h | h | h | h | h | h
  · exact rval1 o a b c w ha hb hc h (opWf_of hw)
  · exact rval4 o a b c w ha hb hc h (opWf_of hw)
  · exact rval5 o a b c w ha hb hc h (opWf_of hw)
  · exact rval6 o a b c w ha hb hc h (opWf_of hw)
  · exact rval7 o a b c w ha hb hc h (opWf_of hw)
  · exact rval8 o a b c w ha hb hc h (opWf_of hw)
theorem pval_any (P V X n : Nat) (c v : Nat → Nat) (o : OpR) (w : World) (hH : HoldsOk) (hP : WkC w P V X n c v) (hc : cxOk c) (hv : cxOk v) (hn : n ≤ 2048) (hk : isV o.kind) (hw : OpGood n o) :
    Calls Try.prog 166 #[.pointer (some ⟨P, 0, none⟩), .agg #[.int .i64 o.kind, .int .i64 o.w, .int .i64 o.a, .int .i64 o.b, .int .i64 o.c, .int .u32 o.k, .int .i64 o.n]] w fun e w' => e = .returned (.int .u32 (pvalF o c (v o.a.toNat) (v o.b.toNat) (v o.c.toNat))) ∧ Below w.heap.size w w' := by
  have h14 : o.kind ≠ 14 := by unfold isV at hk; omega
  have w2 : o.kind = 2 → 0 ≤ o.w ∧ o.w ≤ 11 := fun e => by have h1 := hw.lo; have h2 := hw.hi; rw [e] at h1 h2; exact ⟨h1, h2⟩
  rcases hk with h | h | h | h | h | h | h | h
  · exact pval1 P V X n c v o w hH hP hc hv hn h (opWf_of hw) w2 (opW_hi hw) hw.a (hw.b h14) hw.c
  · exact pval2 P V X n c v o w hH hP hc hv hn h (opWf_of hw) w2 (opW_hi hw) hw.a (hw.b h14) hw.c
  · exact pval4 P V X n c v o w hH hP hc hv hn h (opWf_of hw) w2 (opW_hi hw) hw.a (hw.b h14) hw.c
  · exact pval5 P V X n c v o w hH hP hc hv hn h (opWf_of hw) w2 (opW_hi hw) hw.a (hw.b h14) hw.c
  · exact pval6 P V X n c v o w hH hP hc hv hn h (opWf_of hw) w2 (opW_hi hw) hw.a (hw.b h14) hw.c
  · exact pval7 P V X n c v o w hH hP hc hv hn h (opWf_of hw) w2 (opW_hi hw) hw.a (hw.b h14) hw.c
  · exact pval8 P V X n c v o w hH hP hc hv hn h (opWf_of hw) w2 (opW_hi hw) hw.a (hw.b h14) hw.c
  · exact pval17 P V X n c v o w hH hP hc hv hn h (opWf_of hw) w2 (opW_hi hw) hw.a (hw.b h14) hw.c
end Go.Proofs.Ytkgbjpdoigdjnaa
