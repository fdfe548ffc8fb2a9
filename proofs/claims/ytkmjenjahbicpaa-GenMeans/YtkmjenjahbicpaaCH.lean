import Derived.Test.YtkmjenjahbicpaaC1
set_option linter.unusedVariables false
set_option linter.unusedSimpArgs false
namespace Go.Proofs.Ytkmjenjahbicpaa
open Go.RowKit
set_option maxRecDepth 100000
abbrev Hs(b:ByteArray)(c:Int)(r:Bool):Prop:=∀ (f t:Int) (w:World),Calls Try.prog 20 #[.agg #[.int .i64 f,.int .i64 t,.string b],.int .u8 c] w fun e w'=>e=.returned (.bool r)∧w.alloc (.cells #[.int .i64 f,.int .i64 t,.string b] 63)=w'
theorem zBF{p:Prop}(h:p:=by intro f t w;go_enter Try.func20,Try.ntmps20;go_wp2;refine wp_loop_rounds 1 ?_;(iterate 1 (rw[rounds_succ];go_wp2));go_ret;exact⟨rfl,rfl⟩):p:=h
theorem zBh{p:Prop}(h:p:=by intro f t w;go_enter Try.func20,Try.ntmps20;go_wp2;refine wp_loop_rounds 2 ?_;(iterate 2 (rw[rounds_succ];go_wp2));go_ret;exact⟨rfl,rfl⟩):p:=h
theorem zBr{p:Prop}(h:p:=by intro f t w;go_enter Try.func20,Try.ntmps20;go_wp2;refine wp_loop_rounds 3 ?_;(iterate 3 (rw[rounds_succ];go_wp2));go_ret;exact⟨rfl,rfl⟩):p:=h
theorem zCU{p:Prop}(h:p:=by intro f t w;go_enter Try.func20,Try.ntmps20;go_wp2;refine wp_loop_rounds 4 ?_;(iterate 4 (rw[rounds_succ];go_wp2));go_ret;exact⟨rfl,rfl⟩):p:=h
theorem zOJ{p:Prop}(h:p:=by intro f t w;go_enter Try.func20,Try.ntmps20;go_wp2;refine wp_loop_rounds 5 ?_;(iterate 5 (rw[rounds_succ];go_wp2));go_ret;exact⟨rfl,rfl⟩):p:=h
theorem zPP:Hs { data:=#[] } 107 false:=zBF
theorem zG5:Hs { data:=#[] } 110 false:=zBF
theorem zG2:Hs { data:=#[] } 97 false:=zBF
theorem zG3:Hs { data:=#[] } 98 false:=zBF
theorem zPO:Hs { data:=#[] } 103 false:=zBF
theorem zG4:Hs { data:=#[] } 99 false:=zBF
theorem zNr:Hs { data:=#[107] } 107 true:=zBF
theorem zNs:Hs { data:=#[107] } 110 false:=zBh
theorem zNn:Hs { data:=#[107] } 97 false:=zBh
theorem zNo:Hs { data:=#[107] } 98 false:=zBh
theorem zNq:Hs { data:=#[107] } 103 false:=zBh
theorem zNp:Hs { data:=#[107] } 99 false:=zBh
theorem zNg:Hs { data:=#[97] } 107 false:=zBh
theorem zNh:Hs { data:=#[97] } 110 false:=zBh
theorem zNc:Hs { data:=#[97] } 97 true:=zBF
theorem zNd:Hs { data:=#[97] } 98 false:=zBh
theorem zNf:Hs { data:=#[97] } 103 false:=zBh
theorem zNe:Hs { data:=#[97] } 99 false:=zBh
theorem zLn:Hs { data:=#[97,98] } 107 false:=zBr
theorem zLo:Hs { data:=#[97,98] } 110 false:=zBr
theorem zLj:Hs { data:=#[97,98] } 97 true:=zBF
theorem zLk:Hs { data:=#[97,98] } 98 true:=zBh
theorem zLm:Hs { data:=#[97,98] } 103 false:=zBr
theorem zLl:Hs { data:=#[97,98] } 99 false:=zBr
theorem zI5:Hs { data:=#[97,98,99] } 107 false:=zCU
theorem zI6:Hs { data:=#[97,98,99] } 110 false:=zCU
theorem zI1:Hs { data:=#[97,98,99] } 97 true:=zBF
theorem zI2:Hs { data:=#[97,98,99] } 98 true:=zBh
theorem zI4:Hs { data:=#[97,98,99] } 103 false:=zCU
theorem zI3:Hs { data:=#[97,98,99] } 99 true:=zBr
theorem zJb:Hs { data:=#[97,107,110] } 107 true:=zBh
theorem zJc:Hs { data:=#[97,107,110] } 110 true:=zBr
theorem zI7:Hs { data:=#[97,107,110] } 97 true:=zBF
theorem zI8:Hs { data:=#[97,107,110] } 98 false:=zCU
theorem zJa:Hs { data:=#[97,107,110] } 103 false:=zCU
theorem zI9:Hs { data:=#[97,107,110] } 99 false:=zCU
theorem zHu:Hs { data:=#[97,98,107,110] } 107 true:=zBr
theorem zHv:Hs { data:=#[97,98,107,110] } 110 true:=zCU
theorem zHq:Hs { data:=#[97,98,107,110] } 97 true:=zBF
theorem zHr:Hs { data:=#[97,98,107,110] } 98 true:=zBh
theorem zHt:Hs { data:=#[97,98,107,110] } 103 false:=zOJ
theorem zHs:Hs { data:=#[97,98,107,110] } 99 false:=zOJ
theorem zLE:Hs { data:=#[107,110] } 107 true:=zBF
theorem zLF:Hs { data:=#[107,110] } 110 true:=zBh
theorem zLA:Hs { data:=#[107,110] } 97 false:=zBr
theorem zLB:Hs { data:=#[107,110] } 98 false:=zBr
theorem zLD:Hs { data:=#[107,110] } 103 false:=zBr
theorem zLC:Hs { data:=#[107,110] } 99 false:=zBr
theorem zJp:Hs { data:=#[103,107,110] } 107 true:=zBh
theorem zJq:Hs { data:=#[103,107,110] } 110 true:=zBr
theorem zJl:Hs { data:=#[103,107,110] } 97 false:=zCU
theorem zJm:Hs { data:=#[103,107,110] } 98 false:=zCU
theorem zJo:Hs { data:=#[103,107,110] } 103 true:=zBF
theorem zJn:Hs { data:=#[103,107,110] } 99 false:=zCU
theorem zLr:Hs { data:=#[97,110] } 107 false:=zBr
theorem zEo:Hs { data:=#[97,110] } 110 true:=zBh
theorem zEl:Hs { data:=#[97,110] } 97 true:=zBF
theorem zEm:Hs { data:=#[97,110] } 98 false:=zBr
theorem zLq:Hs { data:=#[97,110] } 103 false:=zBr
theorem zEn:Hs { data:=#[97,110] } 99 false:=zBr
end Go.Proofs.Ytkmjenjahbicpaa
