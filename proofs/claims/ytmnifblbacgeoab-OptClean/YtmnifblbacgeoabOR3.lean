import Derived.Test.YtmnifblbacgeoabOR1
import Derived.Test.YtmnifblbacgeoabOR2
namespace Go.Proofs.Ytmnifblbacgeoab
open Go.RowKit
open Go.Maps
set_option maxRecDepth 100000
set_option linter.unusedVariables false
set_option linter.unusedSimpArgs false

theorem asks_any (base X Tb n : Nat) (d : ND) (o : ON) (w : World) (hN : NWo w base X Tb n d) (hb : base ≤ w.heap.size) (h1 : 1 ≤ o.kd) (h2 : o.kd ≤ 17) (hi : ∀ q, q < tkN o.kd → arg o q < n) (hw : o.kd = 2 ∨ o.kd = 3 → o.w < 12) :
    Calls Try.prog 119 #[.pointer (some ⟨X, 0, none⟩), .agg #[.int .i64 o.kd, .int .i64 o.w, .int .i64 o.a, .int .i64 o.b, .int .i64 o.c, .int .u32 o.k, .int .i64 o.n]] w fun e w' => e = .returned (.tuple #[]) ∧ NWo w' base X Tb n (askN d o) ∧ KN base X Tb w w' := by
  obtain ⟨kd, w0, a, b, c, kk, nn⟩ := o
  simp only at h1 h2
  rcases (by omega : kd = 1 ∨ kd = 2 ∨ kd = 3 ∨ kd = 4 ∨ kd = 5 ∨ kd = 6 ∨ kd = 7 ∨ kd = 8 ∨ kd = 9 ∨ kd = 10 ∨ kd = 11 ∨ kd = 12 ∨ kd = 13 ∨ kd = 14 ∨ kd = 15 ∨ kd = 16 ∨ kd = 17) with rfl | rfl | rfl | rfl | rfl | rfl | rfl | rfl | rfl | rfl | rfl | rfl | rfl | rfl | rfl | rfl | rfl
  · exact asks_1 base X Tb n d w0 a b c kk nn w hN hb hi
  · exact asks_2 base X Tb n d w0 a b c kk nn w hN hb hi (hw (.inl rfl))
  · exact asks_3 base X Tb n d w0 a b c kk nn w hN hb hi (hw (.inr rfl))
  · exact asks_4 base X Tb n d w0 a b c kk nn w hN hb hi
  · exact asks_5 base X Tb n d w0 a b c kk nn w hN hb hi
  · exact asks_6 base X Tb n d w0 a b c kk nn w hN hb hi
  · exact asks_7 base X Tb n d w0 a b c kk nn w hN hb hi
  · exact asks_8 base X Tb n d w0 a b c kk nn w hN hb hi
  · exact asks_9 base X Tb n d w0 a b c kk nn w hN hb hi
  · exact asks_10 base X Tb n d w0 a b c kk nn w hN hb hi
  · exact asks_11 base X Tb n d w0 a b c kk nn w hN hb hi
  · exact asks_12 base X Tb n d w0 a b c kk nn w hN hb hi
  · exact asks_13 base X Tb n d w0 a b c kk nn w hN hb hi
  · exact asks_14 base X Tb n d w0 a b c kk nn w hN hb hi
  · exact asks_15 base X Tb n d w0 a b c kk nn w hN hb hi
  · exact asks_16 base X Tb n d w0 a b c kk nn w hN hb hi
  · exact asks_17 base X Tb n d w0 a b c kk nn w hN hb hi
end Go.Proofs.Ytmnifblbacgeoab
