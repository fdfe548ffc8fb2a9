import Derived.Test.YtkgbjpdoigdjnacRows
import Derived.Test.YtkgbjpdoigdjnacEN3
import Derived.ProofKit
import Derived.OpenShut
import Derived.ShutString
import Derived.ChangeOld
import Derived.Below
import Derived.Deep.Slices
import Derived.Deep.Grids
namespace Go.Proofs.Ytkgbjpdoigdjnac
open Go.ChangeShapes Go.WideShapes Go.ChangeAt Go.RowKit Go.Deep
set_option linter.unusedVariables false
set_option maxRecDepth 100000
theorem cown : ownKnob Try.prog.godebug = none := by kernel_rfl
theorem claidOut : laidOutB Try.prog = true := by kernel_rfl
theorem ccellsO : Try.prog.cellsOf 23 = 7 := by kernel_rfl
theorem ccellsI : Try.prog.cellsOf 3 = 1 := by kernel_rfl
theorem ccellsB : Try.prog.cellsOf 4 = 1 := by kernel_rfl
/-- Options that came in. -/
theorem open_opt {H : Type} {enc : TypeId × Value → H} {W : World} {r : Reach} {b0 : Nat} {v : Value} {d : DataW H} {p : List MemPlace}
    (hv : Value.okWide Try.prog W r b0 23 v) (h : DataW.Trod enc Try.prog W 0 (fun _ => true) true 23 v d p) :
    ∃ (words slots most regs hot : Int) (op ch : Bool), v = .agg #[.int .i64 words, .int .i64 slots, .int .i64 most, .int .i64 regs, .int .i64 hot, .bool op, .bool ch] := by
  obtain ⟨cs, rfl, hsz2⟩ := okWide_struct Try.underlying23 hv
  obtain ⟨fuel, hf⟩ := h
  obtain ⟨xs, n, _, hx, hl, hlen, hfs⟩ := DataW.trod_struct Try.underlying23 hf
  rw [ccellsO] at hl
  have hcs : (Value.agg cs).cells.toList = cs.toList := by simp [Value.cells]
  rw [hcs] at hl hfs
  match cs, hl with
  | ⟨[v0, v1, v2, v3, v4, v5, v6]⟩, _ =>
    match xs, hlen with
    | [y0, y1, y2, y3, y4, y5, y6], _ =>
      have f0 := hfs 0 _ rfl
      have f1 := hfs 1 _ rfl
      have f2 := hfs 2 _ rfl
      have f3 := hfs 3 _ rfl
      have f4 := hfs 4 _ rfl
      have f5 := hfs 5 _ rfl
      have f6 := hfs 6 _ rfl
      simp [ccellsI, ccellsB] at f0 f1 f2 f3 f4 f5 f6
      obtain ⟨a0, e0, -, w0⟩ := DataW.trod_int Try.underlying3 f0
      obtain ⟨a1, e1, -, w1⟩ := DataW.trod_int Try.underlying3 f1
      obtain ⟨a2, e2, -, w2⟩ := DataW.trod_int Try.underlying3 f2
      obtain ⟨a3, e3, -, w3⟩ := DataW.trod_int Try.underlying3 f3
      obtain ⟨a4, e4, -, w4⟩ := DataW.trod_int Try.underlying3 f4
      obtain ⟨a5, e5, -⟩ := DataW.trod_bool Try.underlying4 f5
      obtain ⟨a6, e6, -⟩ := DataW.trod_bool Try.underlying4 f6
      simp only [List.cons.injEq, and_true] at e0 e1 e2 e3 e4 e5 e6
      subst e0 e1 e2 e3 e4 e5 e6
      exact ⟨a0, a1, a2, a3, a4, a5, a6, rfl⟩
theorem news_lifted (os : Os) (started : os.Started) (H : Type) (enc : TypeId × Value → H) :
    ReturnsInHanded {} Try.checked os 3 .any (Rows.engineNewsSpec.pre6 enc Try.prog Try.f3 Rows.engineNewsRow.domain false) (Rows.engineNewsSpec.post enc Try.prog Try.f3 false true false false) := by
  refine returnsInHanded_of_change_sized (C := Try.checked) cown started (by kernel_rfl) Try.func3
    (ChangeSpec.witness6 (enc := enc) (C := Try.checked) false ⟨#[], #[.agg #[.int .i64 0, .int .i64 0, .int .i64 0, .int .i64 0, .int .i64 0, .bool false, .bool false], .bool true], []⟩ 8 (by kernel_rfl) (by kernel_rfl) (by kernel_rfl) (by kernel_rfl)) ?_
  intro W base args ds gs before hval0 hW hcnd hsz0 _
  have hval : ∀ (j : Nat) t v, Try.f3.params[j]? = some t → args[j]? = some v → Value.okWide Try.prog W .any base t v := hval0
  have hW' := hW
  obtain ⟨p, q, hA0, hV, rfl, hfz, hnd⟩ := hW
  have hA : DataW.TrodAll enc Try.prog W 0 (fun _ => true) true Try.f3.params.toList args.toList ds p := hA0
  rw [Try.params3] at hA hval
  obtain ⟨v0, v1, d0, d1, p0, p1, rfl, rfl, rfl, h0, h1⟩ := trodAll_two hA
  obtain ⟨rfl, rfl⟩ := trodVars_none hV
  have k0 := h0
  have k1 := h1
  have lt0 : ∀ x ∈ p0, x.block < W.heap.size := by obtain ⟨m, hm⟩ := k0; exact DataW.trod_lt m _ _ _ hm
  have lt1 : ∀ x ∈ p1, x.block < W.heap.size := by obtain ⟨m, hm⟩ := k1; exact DataW.trod_lt m _ _ _ hm
  obtain ⟨words, slots, most, regs, hot, op, ch, rfl⟩ := open_opt (hval 0 23 v0 rfl rfl) h0
  obtain ⟨nothing, rfl⟩ := okWide_bool Try.underlying4 (hval 1 4 v1 rfl rfl)
  clear hA0 hval0
  refine (news_walk words slots most regs hot op ch nothing W).mono fun e W' ⟨he, bel⟩ => ?_
  subst he
  exact ⟨_, rfl, _, _, _, [], _, [], hW', trodAll_mk1 (shut_bool Try.underlying4 _), trodAll_mk2 (Below.trod claidOut (by kernel_rfl) (of_decide_eq_true (by kernel_rfl)) k0 bel lt0) (Below.trod claidOut (by kernel_rfl) (of_decide_eq_true (by kernel_rfl)) k1 bel lt1), rfl, bel.frame _, fun h => by cases h⟩
theorem news_holds : Rows.EngineNewsSaid :=
  OpenClaim.holds_of_wide 3 Try.f3 rfl rfl rfl rfl rfl rfl rfl ⟨rfl, rfl, rfl, rfl, rfl⟩ rfl rfl rfl rfl rfl (by kernel_rfl) Try.func3 (by kernel_rfl)
    (of_decide_eq_true (by kernel_rfl)) (by unfold Func.isWrapper; first | (rw [if_pos (by decide +kernel)]; kernel_rfl) | (rw [if_neg (by decide +kernel)]; exact ⟨rfl, rfl⟩))
    (fun os started H enc _ => news_lifted os started H enc)
#print axioms news_holds
end Go.Proofs.Ytkgbjpdoigdjnac
