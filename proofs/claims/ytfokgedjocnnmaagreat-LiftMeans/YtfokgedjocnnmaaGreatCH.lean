import Derived.Test.YtfokgedjocnnmaaGreatJ29
set_option linter.unusedVariables false
set_option linter.unusedSimpArgs false
namespace Go.Proofs.YtfokgedjocnnmaaGreat
open Go.RowKit
set_option maxRecDepth 100000
abbrev Hs(b:ByteArray)(c:Int)(r:Bool):Prop:=∀ (f t:Int) (w:World),Calls Tryz.prog 26 #[.agg #[.int .i64 f,.int .i64 t,.string b],.int .u8 c] w fun e w'=>e=.returned (.bool r)∧w.alloc (.cells #[.int .i64 f,.int .i64 t,.string b] 66)=w'
theorem has__k:Hs { data:=#[] } 107 false:=by intro f t w;go_enter Tryz.func26,Tryz.ntmps26;go_wp2;refine wp_loop_rounds 1 ?_;(iterate 1 (rw[rounds_succ];go_wp2));go_ret;exact⟨rfl,rfl⟩
theorem has__n:Hs { data:=#[] } 110 false:=by intro f t w;go_enter Tryz.func26,Tryz.ntmps26;go_wp2;refine wp_loop_rounds 1 ?_;(iterate 1 (rw[rounds_succ];go_wp2));go_ret;exact⟨rfl,rfl⟩
theorem has__a:Hs { data:=#[] } 97 false:=by intro f t w;go_enter Tryz.func26,Tryz.ntmps26;go_wp2;refine wp_loop_rounds 1 ?_;(iterate 1 (rw[rounds_succ];go_wp2));go_ret;exact⟨rfl,rfl⟩
theorem has__b:Hs { data:=#[] } 98 false:=by intro f t w;go_enter Tryz.func26,Tryz.ntmps26;go_wp2;refine wp_loop_rounds 1 ?_;(iterate 1 (rw[rounds_succ];go_wp2));go_ret;exact⟨rfl,rfl⟩
theorem has__g:Hs { data:=#[] } 103 false:=by intro f t w;go_enter Tryz.func26,Tryz.ntmps26;go_wp2;refine wp_loop_rounds 1 ?_;(iterate 1 (rw[rounds_succ];go_wp2));go_ret;exact⟨rfl,rfl⟩
theorem has__c:Hs { data:=#[] } 99 false:=by intro f t w;go_enter Tryz.func26,Tryz.ntmps26;go_wp2;refine wp_loop_rounds 1 ?_;(iterate 1 (rw[rounds_succ];go_wp2));go_ret;exact⟨rfl,rfl⟩
theorem has_k_k:Hs { data:=#[107] } 107 true:=by intro f t w;go_enter Tryz.func26,Tryz.ntmps26;go_wp2;refine wp_loop_rounds 1 ?_;(iterate 1 (rw[rounds_succ];go_wp2));go_ret;exact⟨rfl,rfl⟩
theorem has_k_n:Hs { data:=#[107] } 110 false:=by intro f t w;go_enter Tryz.func26,Tryz.ntmps26;go_wp2;refine wp_loop_rounds 2 ?_;(iterate 2 (rw[rounds_succ];go_wp2));go_ret;exact⟨rfl,rfl⟩
theorem has_k_a:Hs { data:=#[107] } 97 false:=by intro f t w;go_enter Tryz.func26,Tryz.ntmps26;go_wp2;refine wp_loop_rounds 2 ?_;(iterate 2 (rw[rounds_succ];go_wp2));go_ret;exact⟨rfl,rfl⟩
theorem has_k_b:Hs { data:=#[107] } 98 false:=by intro f t w;go_enter Tryz.func26,Tryz.ntmps26;go_wp2;refine wp_loop_rounds 2 ?_;(iterate 2 (rw[rounds_succ];go_wp2));go_ret;exact⟨rfl,rfl⟩
theorem has_k_g:Hs { data:=#[107] } 103 false:=by intro f t w;go_enter Tryz.func26,Tryz.ntmps26;go_wp2;refine wp_loop_rounds 2 ?_;(iterate 2 (rw[rounds_succ];go_wp2));go_ret;exact⟨rfl,rfl⟩
theorem has_k_c:Hs { data:=#[107] } 99 false:=by intro f t w;go_enter Tryz.func26,Tryz.ntmps26;go_wp2;refine wp_loop_rounds 2 ?_;(iterate 2 (rw[rounds_succ];go_wp2));go_ret;exact⟨rfl,rfl⟩
theorem has_a_k:Hs { data:=#[97] } 107 false:=by intro f t w;go_enter Tryz.func26,Tryz.ntmps26;go_wp2;refine wp_loop_rounds 2 ?_;(iterate 2 (rw[rounds_succ];go_wp2));go_ret;exact⟨rfl,rfl⟩
theorem has_a_n:Hs { data:=#[97] } 110 false:=by intro f t w;go_enter Tryz.func26,Tryz.ntmps26;go_wp2;refine wp_loop_rounds 2 ?_;(iterate 2 (rw[rounds_succ];go_wp2));go_ret;exact⟨rfl,rfl⟩
theorem has_a_a:Hs { data:=#[97] } 97 true:=by intro f t w;go_enter Tryz.func26,Tryz.ntmps26;go_wp2;refine wp_loop_rounds 1 ?_;(iterate 1 (rw[rounds_succ];go_wp2));go_ret;exact⟨rfl,rfl⟩
theorem has_a_b:Hs { data:=#[97] } 98 false:=by intro f t w;go_enter Tryz.func26,Tryz.ntmps26;go_wp2;refine wp_loop_rounds 2 ?_;(iterate 2 (rw[rounds_succ];go_wp2));go_ret;exact⟨rfl,rfl⟩
theorem has_a_g:Hs { data:=#[97] } 103 false:=by intro f t w;go_enter Tryz.func26,Tryz.ntmps26;go_wp2;refine wp_loop_rounds 2 ?_;(iterate 2 (rw[rounds_succ];go_wp2));go_ret;exact⟨rfl,rfl⟩
theorem has_a_c:Hs { data:=#[97] } 99 false:=by intro f t w;go_enter Tryz.func26,Tryz.ntmps26;go_wp2;refine wp_loop_rounds 2 ?_;(iterate 2 (rw[rounds_succ];go_wp2));go_ret;exact⟨rfl,rfl⟩
theorem has_ab_k:Hs { data:=#[97,98] } 107 false:=by intro f t w;go_enter Tryz.func26,Tryz.ntmps26;go_wp2;refine wp_loop_rounds 3 ?_;(iterate 3 (rw[rounds_succ];go_wp2));go_ret;exact⟨rfl,rfl⟩
theorem has_ab_n:Hs { data:=#[97,98] } 110 false:=by intro f t w;go_enter Tryz.func26,Tryz.ntmps26;go_wp2;refine wp_loop_rounds 3 ?_;(iterate 3 (rw[rounds_succ];go_wp2));go_ret;exact⟨rfl,rfl⟩
theorem has_ab_a:Hs { data:=#[97,98] } 97 true:=by intro f t w;go_enter Tryz.func26,Tryz.ntmps26;go_wp2;refine wp_loop_rounds 1 ?_;(iterate 1 (rw[rounds_succ];go_wp2));go_ret;exact⟨rfl,rfl⟩
theorem has_ab_b:Hs { data:=#[97,98] } 98 true:=by intro f t w;go_enter Tryz.func26,Tryz.ntmps26;go_wp2;refine wp_loop_rounds 2 ?_;(iterate 2 (rw[rounds_succ];go_wp2));go_ret;exact⟨rfl,rfl⟩
theorem has_ab_g:Hs { data:=#[97,98] } 103 false:=by intro f t w;go_enter Tryz.func26,Tryz.ntmps26;go_wp2;refine wp_loop_rounds 3 ?_;(iterate 3 (rw[rounds_succ];go_wp2));go_ret;exact⟨rfl,rfl⟩
theorem has_ab_c:Hs { data:=#[97,98] } 99 false:=by intro f t w;go_enter Tryz.func26,Tryz.ntmps26;go_wp2;refine wp_loop_rounds 3 ?_;(iterate 3 (rw[rounds_succ];go_wp2));go_ret;exact⟨rfl,rfl⟩
theorem has_abc_k:Hs { data:=#[97,98,99] } 107 false:=by intro f t w;go_enter Tryz.func26,Tryz.ntmps26;go_wp2;refine wp_loop_rounds 4 ?_;(iterate 4 (rw[rounds_succ];go_wp2));go_ret;exact⟨rfl,rfl⟩
theorem has_abc_n:Hs { data:=#[97,98,99] } 110 false:=by intro f t w;go_enter Tryz.func26,Tryz.ntmps26;go_wp2;refine wp_loop_rounds 4 ?_;(iterate 4 (rw[rounds_succ];go_wp2));go_ret;exact⟨rfl,rfl⟩
theorem has_abc_a:Hs { data:=#[97,98,99] } 97 true:=by intro f t w;go_enter Tryz.func26,Tryz.ntmps26;go_wp2;refine wp_loop_rounds 1 ?_;(iterate 1 (rw[rounds_succ];go_wp2));go_ret;exact⟨rfl,rfl⟩
theorem has_abc_b:Hs { data:=#[97,98,99] } 98 true:=by intro f t w;go_enter Tryz.func26,Tryz.ntmps26;go_wp2;refine wp_loop_rounds 2 ?_;(iterate 2 (rw[rounds_succ];go_wp2));go_ret;exact⟨rfl,rfl⟩
theorem has_abc_g:Hs { data:=#[97,98,99] } 103 false:=by intro f t w;go_enter Tryz.func26,Tryz.ntmps26;go_wp2;refine wp_loop_rounds 4 ?_;(iterate 4 (rw[rounds_succ];go_wp2));go_ret;exact⟨rfl,rfl⟩
theorem has_abc_c:Hs { data:=#[97,98,99] } 99 true:=by intro f t w;go_enter Tryz.func26,Tryz.ntmps26;go_wp2;refine wp_loop_rounds 3 ?_;(iterate 3 (rw[rounds_succ];go_wp2));go_ret;exact⟨rfl,rfl⟩
theorem has_akn_k:Hs { data:=#[97,107,110] } 107 true:=by intro f t w;go_enter Tryz.func26,Tryz.ntmps26;go_wp2;refine wp_loop_rounds 2 ?_;(iterate 2 (rw[rounds_succ];go_wp2));go_ret;exact⟨rfl,rfl⟩
theorem has_akn_n:Hs { data:=#[97,107,110] } 110 true:=by intro f t w;go_enter Tryz.func26,Tryz.ntmps26;go_wp2;refine wp_loop_rounds 3 ?_;(iterate 3 (rw[rounds_succ];go_wp2));go_ret;exact⟨rfl,rfl⟩
theorem has_akn_a:Hs { data:=#[97,107,110] } 97 true:=by intro f t w;go_enter Tryz.func26,Tryz.ntmps26;go_wp2;refine wp_loop_rounds 1 ?_;(iterate 1 (rw[rounds_succ];go_wp2));go_ret;exact⟨rfl,rfl⟩
theorem has_akn_b:Hs { data:=#[97,107,110] } 98 false:=by intro f t w;go_enter Tryz.func26,Tryz.ntmps26;go_wp2;refine wp_loop_rounds 4 ?_;(iterate 4 (rw[rounds_succ];go_wp2));go_ret;exact⟨rfl,rfl⟩
theorem has_akn_g:Hs { data:=#[97,107,110] } 103 false:=by intro f t w;go_enter Tryz.func26,Tryz.ntmps26;go_wp2;refine wp_loop_rounds 4 ?_;(iterate 4 (rw[rounds_succ];go_wp2));go_ret;exact⟨rfl,rfl⟩
theorem has_akn_c:Hs { data:=#[97,107,110] } 99 false:=by intro f t w;go_enter Tryz.func26,Tryz.ntmps26;go_wp2;refine wp_loop_rounds 4 ?_;(iterate 4 (rw[rounds_succ];go_wp2));go_ret;exact⟨rfl,rfl⟩
theorem has_abkn_k:Hs { data:=#[97,98,107,110] } 107 true:=by intro f t w;go_enter Tryz.func26,Tryz.ntmps26;go_wp2;refine wp_loop_rounds 3 ?_;(iterate 3 (rw[rounds_succ];go_wp2));go_ret;exact⟨rfl,rfl⟩
theorem has_abkn_n:Hs { data:=#[97,98,107,110] } 110 true:=by intro f t w;go_enter Tryz.func26,Tryz.ntmps26;go_wp2;refine wp_loop_rounds 4 ?_;(iterate 4 (rw[rounds_succ];go_wp2));go_ret;exact⟨rfl,rfl⟩
theorem has_abkn_a:Hs { data:=#[97,98,107,110] } 97 true:=by intro f t w;go_enter Tryz.func26,Tryz.ntmps26;go_wp2;refine wp_loop_rounds 1 ?_;(iterate 1 (rw[rounds_succ];go_wp2));go_ret;exact⟨rfl,rfl⟩
theorem has_abkn_b:Hs { data:=#[97,98,107,110] } 98 true:=by intro f t w;go_enter Tryz.func26,Tryz.ntmps26;go_wp2;refine wp_loop_rounds 2 ?_;(iterate 2 (rw[rounds_succ];go_wp2));go_ret;exact⟨rfl,rfl⟩
theorem has_abkn_g:Hs { data:=#[97,98,107,110] } 103 false:=by intro f t w;go_enter Tryz.func26,Tryz.ntmps26;go_wp2;refine wp_loop_rounds 5 ?_;(iterate 5 (rw[rounds_succ];go_wp2));go_ret;exact⟨rfl,rfl⟩
theorem has_abkn_c:Hs { data:=#[97,98,107,110] } 99 false:=by intro f t w;go_enter Tryz.func26,Tryz.ntmps26;go_wp2;refine wp_loop_rounds 5 ?_;(iterate 5 (rw[rounds_succ];go_wp2));go_ret;exact⟨rfl,rfl⟩
theorem has_kn_k:Hs { data:=#[107,110] } 107 true:=by intro f t w;go_enter Tryz.func26,Tryz.ntmps26;go_wp2;refine wp_loop_rounds 1 ?_;(iterate 1 (rw[rounds_succ];go_wp2));go_ret;exact⟨rfl,rfl⟩
theorem has_kn_n:Hs { data:=#[107,110] } 110 true:=by intro f t w;go_enter Tryz.func26,Tryz.ntmps26;go_wp2;refine wp_loop_rounds 2 ?_;(iterate 2 (rw[rounds_succ];go_wp2));go_ret;exact⟨rfl,rfl⟩
theorem has_kn_a:Hs { data:=#[107,110] } 97 false:=by intro f t w;go_enter Tryz.func26,Tryz.ntmps26;go_wp2;refine wp_loop_rounds 3 ?_;(iterate 3 (rw[rounds_succ];go_wp2));go_ret;exact⟨rfl,rfl⟩
theorem has_kn_b:Hs { data:=#[107,110] } 98 false:=by intro f t w;go_enter Tryz.func26,Tryz.ntmps26;go_wp2;refine wp_loop_rounds 3 ?_;(iterate 3 (rw[rounds_succ];go_wp2));go_ret;exact⟨rfl,rfl⟩
theorem has_kn_g:Hs { data:=#[107,110] } 103 false:=by intro f t w;go_enter Tryz.func26,Tryz.ntmps26;go_wp2;refine wp_loop_rounds 3 ?_;(iterate 3 (rw[rounds_succ];go_wp2));go_ret;exact⟨rfl,rfl⟩
theorem has_kn_c:Hs { data:=#[107,110] } 99 false:=by intro f t w;go_enter Tryz.func26,Tryz.ntmps26;go_wp2;refine wp_loop_rounds 3 ?_;(iterate 3 (rw[rounds_succ];go_wp2));go_ret;exact⟨rfl,rfl⟩
theorem has_gkn_k:Hs { data:=#[103,107,110] } 107 true:=by intro f t w;go_enter Tryz.func26,Tryz.ntmps26;go_wp2;refine wp_loop_rounds 2 ?_;(iterate 2 (rw[rounds_succ];go_wp2));go_ret;exact⟨rfl,rfl⟩
theorem has_gkn_n:Hs { data:=#[103,107,110] } 110 true:=by intro f t w;go_enter Tryz.func26,Tryz.ntmps26;go_wp2;refine wp_loop_rounds 3 ?_;(iterate 3 (rw[rounds_succ];go_wp2));go_ret;exact⟨rfl,rfl⟩
theorem has_gkn_a:Hs { data:=#[103,107,110] } 97 false:=by intro f t w;go_enter Tryz.func26,Tryz.ntmps26;go_wp2;refine wp_loop_rounds 4 ?_;(iterate 4 (rw[rounds_succ];go_wp2));go_ret;exact⟨rfl,rfl⟩
theorem has_gkn_b:Hs { data:=#[103,107,110] } 98 false:=by intro f t w;go_enter Tryz.func26,Tryz.ntmps26;go_wp2;refine wp_loop_rounds 4 ?_;(iterate 4 (rw[rounds_succ];go_wp2));go_ret;exact⟨rfl,rfl⟩
theorem has_gkn_g:Hs { data:=#[103,107,110] } 103 true:=by intro f t w;go_enter Tryz.func26,Tryz.ntmps26;go_wp2;refine wp_loop_rounds 1 ?_;(iterate 1 (rw[rounds_succ];go_wp2));go_ret;exact⟨rfl,rfl⟩
theorem has_gkn_c:Hs { data:=#[103,107,110] } 99 false:=by intro f t w;go_enter Tryz.func26,Tryz.ntmps26;go_wp2;refine wp_loop_rounds 4 ?_;(iterate 4 (rw[rounds_succ];go_wp2));go_ret;exact⟨rfl,rfl⟩
theorem has_an_k:Hs { data:=#[97,110] } 107 false:=by intro f t w;go_enter Tryz.func26,Tryz.ntmps26;go_wp2;refine wp_loop_rounds 3 ?_;(iterate 3 (rw[rounds_succ];go_wp2));go_ret;exact⟨rfl,rfl⟩
theorem has_an_n:Hs { data:=#[97,110] } 110 true:=by intro f t w;go_enter Tryz.func26,Tryz.ntmps26;go_wp2;refine wp_loop_rounds 2 ?_;(iterate 2 (rw[rounds_succ];go_wp2));go_ret;exact⟨rfl,rfl⟩
theorem has_an_a:Hs { data:=#[97,110] } 97 true:=by intro f t w;go_enter Tryz.func26,Tryz.ntmps26;go_wp2;refine wp_loop_rounds 1 ?_;(iterate 1 (rw[rounds_succ];go_wp2));go_ret;exact⟨rfl,rfl⟩
theorem has_an_b:Hs { data:=#[97,110] } 98 false:=by intro f t w;go_enter Tryz.func26,Tryz.ntmps26;go_wp2;refine wp_loop_rounds 3 ?_;(iterate 3 (rw[rounds_succ];go_wp2));go_ret;exact⟨rfl,rfl⟩
theorem has_an_g:Hs { data:=#[97,110] } 103 false:=by intro f t w;go_enter Tryz.func26,Tryz.ntmps26;go_wp2;refine wp_loop_rounds 3 ?_;(iterate 3 (rw[rounds_succ];go_wp2));go_ret;exact⟨rfl,rfl⟩
theorem has_an_c:Hs { data:=#[97,110] } 99 false:=by intro f t w;go_enter Tryz.func26,Tryz.ntmps26;go_wp2;refine wp_loop_rounds 3 ?_;(iterate 3 (rw[rounds_succ];go_wp2));go_ret;exact⟨rfl,rfl⟩
end Go.Proofs.YtfokgedjocnnmaaGreat
