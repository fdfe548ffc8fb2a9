import Derived.Test.YtmnifblbacgeoabOL
import Derived.Test.YtmnifblbacgeoabOL1
import Derived.Test.YtmnifblbacgeoabOL2
namespace Go.Proofs.Ytmnifblbacgeoab
open Go.RowKit
open Go.Maps
set_option maxRecDepth 100000
set_option linter.unusedVariables false
set_option linter.unusedSimpArgs false

theorem reckon_any (base X M : Nat) (s : SE) (sv : Value) (o : ON) (w : World) (hS : SW w base X M s s.l sv) (hl : s.l.length < 100000) (hr : RecOk s o) :
    Calls Try.prog 169 #[.pointer (some ⟨X, 0, none⟩), .agg #[.int .i64 o.kd, .int .i64 o.w, .int .i64 o.a, .int .i64 o.b, .int .i64 o.c, .int .u32 o.k, .int .i64 o.n]] w fun e w' => e = .returned (.int .i64 (oI (recS s o).2)) ∧ ∃ sv', SW w' base X M (recS s o).1 (recS s o).1.l sv' ∧ Kz base X M sv w sv' w' := by
  by_cases h6 : o.kd = 6
  · by_cases hc : isC s.l o.a = true
    · have e : recS s o = (s, some (chO s.l o)) := if_pos ⟨h6, hc⟩
      rw [e]
      have ha := hr.tk 0 (by rw [h6]; decide)
      obtain ⟨kd, w0, a, b, c, k, n⟩ := o
      obtain rfl : kd = 6 := h6
      refine (rec_sel base X M s sv w0 a b c k n w hS ha hc).mono ?_
      rintro e w' ⟨rfl, h⟩
      exact ⟨rfl, sv, hS.below h, Kz.of_below h hS.bw⟩
    · have hc' : isC s.l o.a = false := by simpa using hc
      have hC : ofC s.l o = false := by
        unfold ofC
        rw [show tkN o.kd = 3 by rw [h6]; decide, ofCq_no (q := 0) (p := 3) hc' (by omega)]
        rfl
      exact rec_6_n base X M s sv o w hS hl hr h6 hc' hC (if_neg (fun h => hc h.2))
  · cases hC : ofC s.l o with
    | true => exact rec_n_c base X M s sv o w hS hl hr h6 hC (if_neg (fun h => h6 h.1))
    | false => exact rec_n_n base X M s sv o w hS hl hr h6 hC (if_neg (fun h => h6 h.1))
end Go.Proofs.Ytmnifblbacgeoab
