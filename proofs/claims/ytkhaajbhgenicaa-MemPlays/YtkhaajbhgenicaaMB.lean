import Derived.Test.YtkhaajbhgenicaaMA
namespace Go.Proofs.Ytkhaajbhgenicaa
open Go.RowKit

theorem isPage_yes (p : Nat) (w : World) (hp : p < 256) : Calls Try.prog 54 #[.int .i64 p] w (fun e w' => e = .returned (.bool true) ∧ w = w') := by
  have h0 : (0 : Int) ≤ p := by omega
  have h1 : (p : Int) < 256 := by omega
  go_enter Try.func54, Try.ntmps54; go_wp2; go_ret; exact ⟨rfl, rfl⟩
theorem isPage_no (p : Int) (w : World) (hp : p < 0 ∨ 256 ≤ p) : Calls Try.prog 54 #[.int .i64 p] w (fun e w' => e = .returned (.bool false) ∧ w = w') := by
  rcases hp with h | h
  · go_enter Try.func54, Try.ntmps54; go_wp2; go_ret; exact ⟨rfl, rfl⟩
  · have h' : ¬ p < 256 := by omega
    have h0 : ¬ p < 0 := by omega
    go_enter Try.func54, Try.ntmps54; go_wp2; go_ret; exact ⟨rfl, rfl⟩
theorem page_yes (p : Nat) (w : World) (hp : p < 256) : Calls Try.prog 56 #[.int .i64 p] w (fun e w' => e = .returned (.bool true) ∧ w = w') := by
  have h0 : (0 : Int) ≤ p := by omega
  have h1 : (p : Int) < 256 := by omega
  go_enter Try.func56, Try.ntmps56; go_wp2; go_ret; exact ⟨rfl, rfl⟩
theorem page_no (p : Int) (w : World) (hp : p < 0 ∨ 256 ≤ p) : Calls Try.prog 56 #[.int .i64 p] w (fun e w' => e = .returned (.bool false) ∧ w = w') := by
  rcases hp with h | h
  · go_enter Try.func56, Try.ntmps56; go_wp2; go_ret; exact ⟨rfl, rfl⟩
  · have h' : ¬ p < 256 := by omega
    have h0 : ¬ p < 0 := by omega
    go_enter Try.func56, Try.ntmps56; go_wp2; go_ret; exact ⟨rfl, rfl⟩

theorem Chg.set {X o : Nat} {v : Value} {w w' : World} (h : Chg [X] w w') : Chg [X] w (w'.setCell ⟨X, o, none⟩ v) := h.trans (Chg.of_only ((Only.refl X w').setCell o v))
theorem Chg.setIn {S : List Nat} {X o : Nat} {v : Value} {w w' : World} (h : Chg S w w') (hX : X ∈ S) : Chg S w (w'.setCell ⟨X, o, none⟩ v) :=
  h.trans ((Chg.of_only ((Only.refl X w').setCell o v)).mono (by simpa using hX))

theorem tell_any (X p : Nat) (s : MS) (w : World) (hp : p < 256) (h : PM w X s) :
    Calls Try.prog 55 #[.pointer (some ⟨X, 0, none⟩), .int .i64 p] w fun e w' => e = .returned (.tuple #[]) ∧ PM w' X (tellS s p) ∧ Chg [X] w w' := by
  have h0 : (0 : Int) ≤ p := by omega
  have h1 : (p : Int) < 256 := by omega
  have c1 := h.wa p hp
  have c2 := h.to p hp
  have c3 := h.te
  have f1 := h.fr (66048 + p)
  have f2 := h.fr 66304
  have hn := cnt_le s.T 256
  cases hM : s.M p
  · rw [hM] at c1
    have e : tellS s p = s := by simp [tellS, hM]
    rw [e]
    clear hM e
    go_enter Try.func55, Try.ntmps55
    go_wp2
    go_end0
    exact ⟨rfl, h, Chg.refl _ _⟩
  · rw [hM] at c1
    cases hT : s.T p
    · rw [hT] at c2
      have e : tellS s p = { s with T := upd s.T p true } := by simp [tellS, hM]
      rw [e]
      have HU : Hid (cnt (upd s.T p true) 256 = cnt s.T 256 + 1) := cnt_up s.T 256 p hp hT
      clear hM hT e
      go_enter Try.func55, Try.ntmps55
      go_wp2
      go_end0
      exact ⟨rfl, h.setTold p hp true _ (by rw [HU.out]; rfl), ((Chg.refl _ _).set).set⟩
    · rw [hT] at c2
      have e : tellS s p = s := by simp only [tellS, hM, if_true]; rw [upd_self _ _ _ hT]
      rw [e]
      clear hM hT e
      go_enter Try.func55, Try.ntmps55
      go_wp2
      go_end0
      exact ⟨rfl, h, Chg.refl _ _⟩

theorem rchange_any (k : RB) (p : Nat) (s : MS) (w : World) (hp : p < 256) (h : RM w k s) :
    Calls Try.prog 57 #[.pointer (some ⟨k.y, 0, none⟩), .int .i64 p] w fun e w' => e = .returned (.tuple #[]) ∧ RM w' k (tellS s p) ∧ Chg k.all w w' := by
  have h0 : (0 : Int) ≤ p := by omega
  have h1 : (p : Int) < 256 := by omega
  have c1 := h.wa p hp
  have c2 := h.to p hp
  have d2 := h.c2
  have d3 := h.c3
  have f1 := h.ft p
  cases hM : s.M p
  · rw [hM] at c1
    have e : tellS s p = s := by simp [tellS, hM]
    rw [e]
    clear hM e
    go_enter Try.func57, Try.ntmps57
    go_wp2
    go_end0
    exact ⟨rfl, h, Chg.refl _ _⟩
  · rw [hM] at c1
    have e : tellS s p = { s with T := upd s.T p true } := by simp [tellS, hM]
    rw [e]
    clear hM e
    go_enter Try.func57, Try.ntmps57
    go_wp2
    go_end0
    exact ⟨rfl, h.setTold p hp true, (Chg.refl _ _).setIn (by simp [RB.all])⟩

def protS (s : MS) (p : Nat) (r : Int) : MS := if s.R p = r then s else tellS { s with R := upd s.R p r } p

theorem prot_no (X : Nat) (p r : Int) (w : World) (hp : (p < 0 ∨ 256 ≤ p) ∨ r < 0 ∨ 7 < r) :
    Calls Try.prog 29 #[.pointer (some ⟨X, 0, none⟩), .int .i64 p, .int .i64 r] w fun e w' => e = .returned (.int .i64 4) ∧ w = w' := by
  by_cases hq : p < 0 ∨ 256 ≤ p
  · go_enter Try.func29, Try.ntmps29
    go_wp2_with (go_at_call 54; refine (isPage_no _ _ hq).mono ?_; rintro e w' ⟨rfl, rfl⟩)
    go_ret
    exact ⟨rfl, rfl⟩
  · obtain ⟨n, rfl⟩ : ∃ n : Nat, p = n := ⟨p.toNat, by omega⟩
    have hn : n < 256 := by omega
    have hr : r < 0 ∨ 7 < r := by omega
    clear hq hp
    rcases hr with hr | hr
    · go_enter Try.func29, Try.ntmps29
      go_wp2_with (go_at_call 54; refine (isPage_yes _ _ hn).mono ?_; rintro e w' ⟨rfl, rfl⟩)
      go_ret
      exact ⟨rfl, rfl⟩
    · have hr0 : ¬ r < 0 := by omega
      go_enter Try.func29, Try.ntmps29
      go_wp2_with (go_at_call 54; refine (isPage_yes _ _ hn).mono ?_; rintro e w' ⟨rfl, rfl⟩)
      go_ret
      exact ⟨rfl, rfl⟩
theorem rprot_no (k : RB) (p r : Int) (w : World) (hp : (p < 0 ∨ 256 ≤ p) ∨ r < 0 ∨ 7 < r) :
    Calls Try.prog 30 #[.pointer (some ⟨k.y, 0, none⟩), .int .i64 p, .int .i64 r] w fun e w' => e = .returned (.int .i64 4) ∧ w = w' := by
  by_cases hq : p < 0 ∨ 256 ≤ p
  · go_enter Try.func30, Try.ntmps30
    go_wp2_with (go_at_call 56; refine (page_no _ _ hq).mono ?_; rintro e w' ⟨rfl, rfl⟩)
    go_ret
    exact ⟨rfl, rfl⟩
  · obtain ⟨n, rfl⟩ : ∃ n : Nat, p = n := ⟨p.toNat, by omega⟩
    have hn : n < 256 := by omega
    have hr : r < 0 ∨ 7 < r := by omega
    clear hq hp
    rcases hr with hr | hr
    · go_enter Try.func30, Try.ntmps30
      go_wp2_with (go_at_call 56; refine (page_yes _ _ hn).mono ?_; rintro e w' ⟨rfl, rfl⟩)
      go_ret
      exact ⟨rfl, rfl⟩
    · have hr0 : ¬ r < 0 := by omega
      go_enter Try.func30, Try.ntmps30
      go_wp2_with (go_at_call 56; refine (page_yes _ _ hn).mono ?_; rintro e w' ⟨rfl, rfl⟩)
      go_ret
      exact ⟨rfl, rfl⟩

set_option maxRecDepth 100000 in
theorem prot_yes (X p : Nat) (r : Int) (s : MS) (w : World) (hp : p < 256) (r0 : 0 ≤ r) (r7 : r ≤ 7) (h : PM w X s) :
    Calls Try.prog 29 #[.pointer (some ⟨X, 0, none⟩), .int .i64 p, .int .i64 r] w fun e w' => e = .returned (.int .i64 0) ∧ PM w' X (protS s p r) ∧ Chg [X] w w' := by
  have h0 : (0 : Int) ≤ p := by omega
  have h1 : (p : Int) < 256 := by omega
  have c1 := h.ri p hp
  have f1 := h.fr (65536 + p)
  by_cases hR : s.R p = r
  · have e : protS s p r = s := by simp [protS, hR]
    rw [hR] at c1
    rw [e]
    clear hR e
    go_enter Try.func29, Try.ntmps29
    go_wp2_with (go_at_call 54; refine (isPage_yes _ _ hp).mono ?_; rintro e w' ⟨rfl, rfl⟩)
    go_ret
    exact ⟨rfl, h, Chg.refl _ _⟩
  · have e : protS s p r = tellS { s with R := upd s.R p r } p := by simp [protS, hR]
    have hR' : (s.R p == r) = false := by simpa using hR
    rw [e]
    clear e
    go_enter Try.func29, Try.ntmps29
    go_wp2_with first
      | (go_at_call 54; refine (isPage_yes _ _ hp).mono ?_; rintro e w' ⟨rfl, rfl⟩)
      | (go_at_call 55; refine (tell_any X p _ _ hp (h.setRight p hp r)).mono ?_; rintro e w' ⟨rfl, hP, hC⟩)
    go_ret
    exact ⟨rfl, hP, ((Chg.refl _ _).set).trans hC⟩
set_option maxRecDepth 100000 in
theorem rprot_yes (k : RB) (p : Nat) (r : Int) (s : MS) (w : World) (hp : p < 256) (r0 : 0 ≤ r) (r7 : r ≤ 7) (h : RM w k s) :
    Calls Try.prog 30 #[.pointer (some ⟨k.y, 0, none⟩), .int .i64 p, .int .i64 r] w fun e w' => e = .returned (.int .i64 0) ∧ RM w' k (protS s p r) ∧ Chg k.all w w' := by
  have h0 : (0 : Int) ≤ p := by omega
  have h1 : (p : Int) < 256 := by omega
  have c1 := h.ri p hp
  have d1 := h.c1
  have f1 := h.fr p
  by_cases hR : s.R p = r
  · have e : protS s p r = { s with R := upd s.R p r } := by simp [protS, hR]; rw [upd_self _ _ _ hR]
    rw [hR] at c1
    rw [e]
    clear hR e
    go_enter Try.func30, Try.ntmps30
    go_wp2_with (go_at_call 56; refine (page_yes _ _ hp).mono ?_; rintro e w' ⟨rfl, rfl⟩)
    go_ret
    exact ⟨rfl, h.setRight p hp r, (Chg.refl _ _).setIn (by simp [RB.all])⟩
  · have e : protS s p r = { tellS s p with R := upd (tellS s p).R p r } := by
      simp only [protS, hR, if_false, tellS]
      cases s.M p <;> rfl
    have hR' : (s.R p == r) = false := by simpa using hR
    rw [e]
    clear e
    go_enter Try.func30, Try.ntmps30
    go_wp2_with first
      | (go_at_call 56; refine (page_yes _ _ hp).mono ?_; rintro e w' ⟨rfl, rfl⟩)
      | (go_at_call 57; refine (rchange_any k p _ _ hp h).mono ?_; rintro e w' ⟨rfl, hP, hC⟩; have d1' := hP.c1; have f1' := hP.fr p; have c1' := hP.ri p hp)
    go_ret
    exact ⟨rfl, hP.setRight p hp r, hC.setIn (by simp [RB.all])⟩
end Go.Proofs.Ytkhaajbhgenicaa
