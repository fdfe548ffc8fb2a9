import Derived.Test.YtkgbjpdoigdjnacWET
import Derived.Test.YtkgbjpdoigdjnacWJ03
import Derived.BigRegion
namespace Go.Proofs.Ytkgbjpdoigdjnac
open Go.RowKit
set_option maxRecDepth 100000
set_option linter.unusedVariables false
set_option linter.unusedSimpArgs false
theorem PM.setWatch {w : World} {X : Nat} {s : MS} (h : PM w X s) (p : Nat) (hp : p < 256) (v : Bool) : PM (w.setCell ⟨X, 65792 + p, none⟩ (.bool v)) X { s with M := upd s.M p v } := by
  have hc := cell_setCell (.bool v) (h.wa p hp)
  refine ⟨fun j hj => ?_, fun j hj => ?_, fun j hj => ?_, fun j hj => ?_, ?_, fun o => ?_⟩
  · rw [hc, if_neg (by omega)]; exact h.by_ j hj
  · rw [hc, if_neg (by omega)]; exact h.ri j hj
  · rw [hc]; by_cases e : j = p
    · subst e; rw [if_pos rfl]; simp [upd]
    · rw [if_neg (by omega), h.wa j hj]; simp [upd, e]
  · rw [hc, if_neg (by omega)]; exact h.to j hj
  · rw [hc, if_neg (by omega)]; exact h.te
  · rw [World.frozen?_setCell]; exact h.fr o
theorem RM.setWatch {w : World} {k : RB} {s : MS} (h : RM w k s) (p : Nat) (hp : p < 256) (v : Bool) : RM (w.setCell ⟨k.m, p, none⟩ (.bool v)) k { s with M := upd s.M p v } := by
  obtain ⟨n1, n2, n3, n4, n5, n6, n7, n8, n9, n10⟩ := h.ne
  have hc := cell_setCell (.bool v) (h.wa p hp)
  have ho : ∀ Y, Y ≠ k.m → ∀ o', (w.setCell ⟨k.m, p, none⟩ (.bool v)).cell? ⟨Y, o', none⟩ = w.cell? ⟨Y, o', none⟩ := fun Y hY o' => cell_setOther _ hY o'
  refine ⟨?_, ?_, ?_, ?_, fun j hj => ?_, fun j hj => ?_, fun j hj => ?_, fun j hj => ?_, fun o => ?_, fun o => ?_, fun o => ?_, fun o => ?_, h.ne⟩
  · rw [ho _ (by omega)]; exact h.c0
  · rw [ho _ (by omega)]; exact h.c1
  · rw [ho _ (by omega)]; exact h.c2
  · rw [ho _ (by omega)]; exact h.c3
  · rw [ho _ (by omega)]; exact h.by_ j hj
  · rw [ho _ (by omega)]; exact h.ri j hj
  · rw [hc]; by_cases e : j = p
    · subst e; rw [if_pos rfl]; simp [upd]
    · rw [if_neg e, h.wa j hj]; simp [upd, e]
  · rw [ho _ (by omega)]; exact h.to j hj
  · rw [World.frozen?_setCell]; exact h.fb o
  · rw [World.frozen?_setCell]; exact h.fr o
  · rw [World.frozen?_setCell]; exact h.fm o
  · rw [World.frozen?_setCell]; exact h.ft o
def markS (s : MS) (p : Nat) (on : Bool) : MS := if on then { s with M := upd s.M p true } else { s with M := upd s.M p false, T := upd s.T p false }
theorem mark_yes (X p : Nat) (on : Bool) (s : MS) (w : World) (hp : p < 256) (h : PM w X s) :
    Calls Try.prog 16 #[.pointer (some ⟨X, 0, none⟩), .int .i64 p, .bool on] w fun e w' => e = .returned (.int .i64 0) ∧ PM w' X (markS s p on) ∧ Chg [X] w w' := by
  have h0 : (0 : Int) ≤ p := by omega
  have h1 : (p : Int) < 256 := by omega
  have c1 := h.wa p hp
  have c2 := h.to p hp
  have c3 := h.te
  have f0 := h.fr (65792 + p)
  have f1 := h.fr (66048 + p)
  have f2 := h.fr 66304
  have hn := cnt_le s.T 256
  cases on
  · cases hT : s.T p
    · rw [hT] at c2
      have e : markS s p false = { s with M := upd s.M p false } := by simp only [markS]; rw [upd_self _ _ _ hT]; rfl
      rw [e]
      clear hT e
      go_enter Try.func16, Try.ntmps16
      go_wp2_with (go_at_call 25; refine (isPage_yes _ _ hp).mono ?_; rintro e w' ⟨rfl, rfl⟩)
      go_ret
      exact ⟨rfl, h.setWatch p hp false, (Chg.refl _ _).set⟩
    · rw [hT] at c2
      have HU : Hid (cnt (upd s.T p false) 256 + 1 = cnt s.T 256) := cnt_down s.T 256 p hp hT
      have hpos : 0 < cnt s.T 256 := cnt_pos s.T 256 p hp hT
      clear hT
      go_enter Try.func16, Try.ntmps16
      go_wp2_with (go_at_call 25; refine (isPage_yes _ _ hp).mono ?_; rintro e w' ⟨rfl, rfl⟩)
      go_ret
      refine ⟨rfl, (h.setWatch p hp false).setTold p hp false _ ?_, (((Chg.refl _ _).set).set).set⟩
      have := HU.out
      show (cnt s.T 256 : Int) - 1 = (cnt (upd s.T p false) 256 : Int)
      omega
  · go_enter Try.func16, Try.ntmps16
    go_wp2_with (go_at_call 25; refine (isPage_yes _ _ hp).mono ?_; rintro e w' ⟨rfl, rfl⟩)
    go_ret
    exact ⟨rfl, h.setWatch p hp true, (Chg.refl _ _).set⟩
def pageOk (p : Int) : Prop := 0 ≤ p ∧ p < 256
instance (p : Int) : Decidable (pageOk p) := by unfold pageOk; infer_instance
end Go.Proofs.Ytkgbjpdoigdjnac
namespace Go.Proofs.Ytkgbjpdoigdjnac
open Go.RowKit
set_option maxRecDepth 100000
set_option linter.unusedVariables false
set_option linter.unusedSimpArgs false
/-- Two memories, what lies elsewhere stays. -/
structure BS (W wr : World) (X : Nat) (k : RB) (m1 m2 : MS) : Prop where
  pm : PM wr X m1
  rm : RM wr k m2
  ok1 : m1.Ok
  ok2 : m2.Ok
  bel : Below W.heap.size W wr
  far : ∀ x ∈ X :: k.y :: k.all, W.heap.size ≤ x
  ne : X ∉ k.y :: k.all
theorem BS.alloc {W wr : World} {X : Nat} {k : RB} {m1 m2 : MS} (h : BS W wr X k m1 m2) (o : Obj) : BS W (wr.alloc o) X k m1 m2 :=
  ⟨h.pm.alloc o, h.rm.alloc o, h.ok1, h.ok2, h.bel.alloc h.bel.size o, h.far, h.ne⟩
theorem BS.below {W wr w' : World} {X : Nat} {k : RB} {m1 m2 : MS} (h : BS W wr X k m1 m2) (hb : Below wr.heap.size wr w') : BS W w' X k m1 m2 :=
  ⟨h.pm.below hb h.pm.lt, h.rm.below hb (Nat.le_refl _), h.ok1, h.ok2, h.bel.trans (hb.mono h.bel.size), h.far, h.ne⟩
end Go.Proofs.Ytkgbjpdoigdjnac
namespace Go.Proofs.Ytkgbjpdoigdjnac
open Go.RowKit
set_option maxRecDepth 100000
set_option linter.unusedVariables false
set_option linter.unusedSimpArgs false
end Go.Proofs.Ytkgbjpdoigdjnac
