import Derived.Test.YtkgbjpdoigdjnaaJ50
import Derived.Test.YtkgbjpdoigdjnaaJ27
namespace Go.Proofs.Ytkgbjpdoigdjnaa
open Go.RowKit
set_option maxRecDepth 100000
set_option linter.unusedVariables false
set_option linter.unusedSimpArgs false

theorem step_ok : StepOk := by
  intro X m s0 w hpm hm hs0
  obtain ⟨s, hs⟩ : ∃ s, s0.setF (s0.f % 16) = s := ⟨_, rfl⟩
  have hsok : s.Ok := hs ▸ hs0.setF _ (by omega)
  have hpc : s.pc = s0.pc := by rw [← hs]; rfl
  obtain ⟨i, hi⟩ : ∃ i, insOf m s0.pc = i := ⟨_, rfl⟩
  have hins : ∀ w1, PM w1 X m → Calls Try.prog 95 #[.pointer (some ⟨X, 0, none⟩), .int .u32 s.pc] w1 fun e w' => e = .returned (pinsV i) ∧ Below w1.heap.size w1 w' := fun w1 h => by
    rw [hpc, ← hi]; exact pins_any X s0.pc m w1 hs0.p hm h
  have hF : stepF m s0 = stepH m s i := by rw [stepF_eq, hs, hi]
  rw [hF]
  by_cases hk : i.k = 0
  · have hio : InsOk i := by rw [← hi]; exact insOf_ok m s0.pc hm (by rw [hi]; exact hk)
    obtain ⟨nx, hnx⟩ : ∃ nx, w32 ((s.pc : Int) + i.n) = nx := ⟨_, rfl⟩
    have hnxi : ((s.pc : Int) + i.n) % 4294967296 = nx := by rw [← hnx, w32_cast]
    have hdo : ∀ (U : Nat) (W : World), TuW W W U X m (s.setPC nx) → DoOk U X m (s.setPC nx) (stepH m s i) (insA i.op i.D i.S i.O i.imm) W := fun U W h => by
      have := do_any U X m s i W hm hsok hio hk (by rw [hnx]; exact h)
      rw [hnx] at this; exact this
    have hend : Ended m s (stepH m s i) := stepH_end m s i (fun h => absurd hk h)
    obtain ⟨op, d, e, O, im, n, ik, ia⟩ := i
    simp only at hk
    subst hk
    generalize stepH m s ⟨op, d, e, O, im, n, 0, ia⟩ = o at *
    obtain ⟨ot, ok, oa, om⟩ := o
    have n9 : n ≤ 9 := hio.n1
    by_cases h0 : ok = 0
    · subst h0
      exact (pstep_go X m om s0 s ot op d e O im n nx ia oa w hpm hs0 hs hnxi n9 hins (fun U W h => (hdo U W h).mono fun e' w' ⟨he, t1, hT, ht⟩ => ⟨he, t1, hT, ht (.inl rfl)⟩)).mono fun e' w' ⟨he, hf⟩ => ⟨he, hf.pm, hf.chg⟩
    by_cases h1 : ok = 1
    · subst h1
      exact (pstep_sys X m om s0 s ot op d e O im n nx ia oa w hpm hs0 hs hnxi n9 hins (fun U W h => (hdo U W h).mono fun e' w' ⟨he, t1, hT, ht⟩ => ⟨he, t1, hT, ht (.inr rfl)⟩)).mono fun e' w' ⟨he, hf⟩ => ⟨he, hf.pm, hf.chg⟩
    · rcases hend with h | hst
      · rcases h with h | h
        · exact absurd h h0
        · exact absurd h h1
      · have e1 : ot = s := hst.t
        have e2 : om = m := hst.mm
        subst e1 e2
        exact (pstep_stop X om om s0 ot ot op d e O im n nx ia oa ok w hpm hs0 hs hnxi n9 hins (fun U W h => (hdo U W h).mono fun e' w' ⟨he, t1, hT, ht⟩ => ⟨he, t1, hT⟩) h0 h1).mono fun e' w' ⟨he, hf⟩ => ⟨he, hf.pm, hf.chg⟩
  · have e : stepH m s i = ⟨s, i.k, i.a, m⟩ := if_pos hk
    rw [e]
    exact (pstep_bad X m s0 s i w hpm hs0 hs hins hk).mono fun e' w' ⟨he, hf⟩ => ⟨he, hf.pm, hf.chg⟩
end Go.Proofs.Ytkgbjpdoigdjnaa
