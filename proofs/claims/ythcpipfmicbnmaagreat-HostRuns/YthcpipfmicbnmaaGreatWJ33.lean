import Derived.Test.YthcpipfmicbnmaaGreatWC1
set_option linter.unusedVariables false
set_option linter.unusedSimpArgs false
set_option maxHeartbeats 1000000
namespace Go.Proofs.YthcpipfmicbnmaaGreat.Va
open Go.RowKit
set_option maxRecDepth 100000
theorem zEB(f:Nat)(n:Bool)(w:World)(hn:(bits .and .u32 (f:Int) 2 !=0)=n)(hs:(bits .and .u32 (f:Int) 8 !=0)=true) :
  Calls Tryz.prog 65 #[.int .i64 0,.int .u32 f] w fun e w'=>e=.returned (.bool (true==true))∧Below w.heap.size w w':=by
 have c0:yW[0]?=some (.int .u32 8):=by kernel_rfl
 have c1:yW[1]?=some (.bool false):=by kernel_rfl
 have c2:yW[2]?=some (.bool false):=by kernel_rfl
 have zW:=(Go.zero_of_info yK).1
 go_enter Tryz.func65,Tryz.ntmps65
 go_wp2_with (first
  | (refine Gu.zL 9 9 _ _ _ ⟨#[.int .i64 0,.int .u32 f,undef,undef,.bool false,undef,undef,undef,undef,.agg #[.int .u32 8,.bool false,.bool false],.agg #[.int .u32 4,.bool false,.bool false],.agg #[.int .u32 1,.bool false,.bool false],.agg #[.int .u32 5,.bool false,.bool false],.agg #[.int .u32 2,.bool false,.bool false],.agg #[.int .u32 0,.bool true,.bool false],.agg #[.int .u32 1,.bool true,.bool false],.agg #[.int .u32 0,.bool false,.bool true],.agg yW,undef,undef,undef,undef,undef,undef,undef,undef,undef,undef,undef,undef,undef,undef,undef,undef,undef,undef,undef,undef,undef,undef,undef,undef,undef,undef,undef,undef,undef,undef,undef,undef,undef,undef,undef,undef,undef,undef,undef],[]⟩ rfl (by kernel_rfl) ?_;simp only[List.drop_succ_cons,List.drop_zero])
  | (refine Gu.zK rfl 148 rfl _ zW w.heap.size rfl ?_)
  | (refine hoS rfl rfl rfl rfl rfl ?_))
 go_ret
 exact⟨by cases n<;>rfl,yI w _ _⟩
theorem zEA(f:Nat)(n:Bool)(w:World)(hn:(bits .and .u32 (f:Int) 2 !=0)=n)(hs:(bits .and .u32 (f:Int) 8 !=0)=false) :
  Calls Tryz.prog 65 #[.int .i64 0,.int .u32 f] w fun e w'=>e=.returned (.bool (false==true))∧Below w.heap.size w w':=by
 have c0:yW[0]?=some (.int .u32 8):=by kernel_rfl
 have c1:yW[1]?=some (.bool false):=by kernel_rfl
 have c2:yW[2]?=some (.bool false):=by kernel_rfl
 have zW:=(Go.zero_of_info yK).1
 go_enter Tryz.func65,Tryz.ntmps65
 go_wp2_with (first
  | (refine Gu.zL 9 9 _ _ _ ⟨#[.int .i64 0,.int .u32 f,undef,undef,.bool false,undef,undef,undef,undef,.agg #[.int .u32 8,.bool false,.bool false],.agg #[.int .u32 4,.bool false,.bool false],.agg #[.int .u32 1,.bool false,.bool false],.agg #[.int .u32 5,.bool false,.bool false],.agg #[.int .u32 2,.bool false,.bool false],.agg #[.int .u32 0,.bool true,.bool false],.agg #[.int .u32 1,.bool true,.bool false],.agg #[.int .u32 0,.bool false,.bool true],.agg yW,undef,undef,undef,undef,undef,undef,undef,undef,undef,undef,undef,undef,undef,undef,undef,undef,undef,undef,undef,undef,undef,undef,undef,undef,undef,undef,undef,undef,undef,undef,undef,undef,undef,undef,undef,undef,undef,undef,undef],[]⟩ rfl (by kernel_rfl) ?_;simp only[List.drop_succ_cons,List.drop_zero])
  | (refine Gu.zK rfl 148 rfl _ zW w.heap.size rfl ?_)
  | (refine hoS rfl rfl rfl rfl rfl ?_))
 go_ret
 exact⟨by cases n<;>rfl,yI w _ _⟩
theorem ph0(f:Nat)(w:World)(hf:f < 4294967296):Calls Tryz.prog 65 #[.int .i64 0,.int .u32 f] w fun e w'=>e=.returned (.bool (Fl.zO 0 f))∧Below w.heap.size w w':=by
 have b2:=zX f 2 hf aO
 have b8:=zX f 8 hf aO
 have bS:=zX f 8 hf aO
 unfold Fl.zO
 generalize ((f:Int)%2==1)=z at *
 generalize ((f:Int) / 2%2==1)=n at *
 generalize ((f:Int) / 4%2==1)=y at *
 generalize ((f:Int) / 8%2==1)=v at *
 cases z<;>cases n<;>cases y<;>cases v
 ·rw[show Fl.zH 0 false false false false=false from by decide];exact zEA f _ w b2 bS
 ·rw[show Fl.zH 0 false false false true=true from by decide];exact zEB f _ w b2 bS
 ·rw[show Fl.zH 0 false false true false=false from by decide];exact zEA f _ w b2 bS
 ·rw[show Fl.zH 0 false false true true=true from by decide];exact zEB f _ w b2 bS
 ·rw[show Fl.zH 0 false true false false=false from by decide];exact zEA f _ w b2 bS
 ·rw[show Fl.zH 0 false true false true=true from by decide];exact zEB f _ w b2 bS
 ·rw[show Fl.zH 0 false true true false=false from by decide];exact zEA f _ w b2 bS
 ·rw[show Fl.zH 0 false true true true=true from by decide];exact zEB f _ w b2 bS
 ·rw[show Fl.zH 0 true false false false=false from by decide];exact zEA f _ w b2 bS
 ·rw[show Fl.zH 0 true false false true=true from by decide];exact zEB f _ w b2 bS
 ·rw[show Fl.zH 0 true false true false=false from by decide];exact zEA f _ w b2 bS
 ·rw[show Fl.zH 0 true false true true=true from by decide];exact zEB f _ w b2 bS
 ·rw[show Fl.zH 0 true true false false=false from by decide];exact zEA f _ w b2 bS
 ·rw[show Fl.zH 0 true true false true=true from by decide];exact zEB f _ w b2 bS
 ·rw[show Fl.zH 0 true true true false=false from by decide];exact zEA f _ w b2 bS
 ·rw[show Fl.zH 0 true true true true=true from by decide];exact zEB f _ w b2 bS
theorem zED(f:Nat)(n:Bool)(w:World)(hn:(bits .and .u32 (f:Int) 2 !=0)=n)(hs:(bits .and .u32 (f:Int) 8 !=0)=true) :
  Calls Tryz.prog 65 #[.int .i64 1,.int .u32 f] w fun e w'=>e=.returned (.bool (true==false))∧Below w.heap.size w w':=by
 have c0:yW[0]?=some (.int .u32 8):=by kernel_rfl
 have c1:yW[1]?=some (.bool false):=by kernel_rfl
 have c2:yW[2]?=some (.bool false):=by kernel_rfl
 have zW:=(Go.zero_of_info yK).1
 go_enter Tryz.func65,Tryz.ntmps65
 go_wp2_with (first
  | (refine Gu.zL 9 9 _ _ _ ⟨#[.int .i64 1,.int .u32 f,undef,undef,.bool false,undef,undef,undef,undef,.agg #[.int .u32 8,.bool false,.bool false],.agg #[.int .u32 4,.bool false,.bool false],.agg #[.int .u32 1,.bool false,.bool false],.agg #[.int .u32 5,.bool false,.bool false],.agg #[.int .u32 2,.bool false,.bool false],.agg #[.int .u32 0,.bool true,.bool false],.agg #[.int .u32 1,.bool true,.bool false],.agg #[.int .u32 0,.bool false,.bool true],.agg yW,undef,undef,undef,undef,undef,undef,undef,undef,undef,undef,undef,undef,undef,undef,undef,undef,undef,undef,undef,undef,undef,undef,undef,undef,undef,undef,undef,undef,undef,undef,undef,undef,undef,undef,undef,undef,undef,undef,undef],[]⟩ rfl (by kernel_rfl) ?_;simp only[List.drop_succ_cons,List.drop_zero])
  | (refine Gu.zK rfl 148 rfl _ zW w.heap.size rfl ?_)
  | (refine hoS rfl rfl rfl rfl rfl ?_))
 go_ret
 exact⟨by cases n<;>rfl,yI w _ _⟩
theorem zEC(f:Nat)(n:Bool)(w:World)(hn:(bits .and .u32 (f:Int) 2 !=0)=n)(hs:(bits .and .u32 (f:Int) 8 !=0)=false) :
  Calls Tryz.prog 65 #[.int .i64 1,.int .u32 f] w fun e w'=>e=.returned (.bool (false==false))∧Below w.heap.size w w':=by
 have c0:yW[0]?=some (.int .u32 8):=by kernel_rfl
 have c1:yW[1]?=some (.bool false):=by kernel_rfl
 have c2:yW[2]?=some (.bool false):=by kernel_rfl
 have zW:=(Go.zero_of_info yK).1
 go_enter Tryz.func65,Tryz.ntmps65
 go_wp2_with (first
  | (refine Gu.zL 9 9 _ _ _ ⟨#[.int .i64 1,.int .u32 f,undef,undef,.bool false,undef,undef,undef,undef,.agg #[.int .u32 8,.bool false,.bool false],.agg #[.int .u32 4,.bool false,.bool false],.agg #[.int .u32 1,.bool false,.bool false],.agg #[.int .u32 5,.bool false,.bool false],.agg #[.int .u32 2,.bool false,.bool false],.agg #[.int .u32 0,.bool true,.bool false],.agg #[.int .u32 1,.bool true,.bool false],.agg #[.int .u32 0,.bool false,.bool true],.agg yW,undef,undef,undef,undef,undef,undef,undef,undef,undef,undef,undef,undef,undef,undef,undef,undef,undef,undef,undef,undef,undef,undef,undef,undef,undef,undef,undef,undef,undef,undef,undef,undef,undef,undef,undef,undef,undef,undef,undef],[]⟩ rfl (by kernel_rfl) ?_;simp only[List.drop_succ_cons,List.drop_zero])
  | (refine Gu.zK rfl 148 rfl _ zW w.heap.size rfl ?_)
  | (refine hoS rfl rfl rfl rfl rfl ?_))
 go_ret
 exact⟨by cases n<;>rfl,yI w _ _⟩
theorem ph1(f:Nat)(w:World)(hf:f < 4294967296):Calls Tryz.prog 65 #[.int .i64 1,.int .u32 f] w fun e w'=>e=.returned (.bool (Fl.zO 1 f))∧Below w.heap.size w w':=by
 have b2:=zX f 2 hf aO
 have b8:=zX f 8 hf aO
 have bS:=zX f 8 hf aO
 unfold Fl.zO
 generalize ((f:Int)%2==1)=z at *
 generalize ((f:Int) / 2%2==1)=n at *
 generalize ((f:Int) / 4%2==1)=y at *
 generalize ((f:Int) / 8%2==1)=v at *
 cases z<;>cases n<;>cases y<;>cases v
 ·rw[show Fl.zH 1 false false false false=true from by decide];exact zEC f _ w b2 bS
 ·rw[show Fl.zH 1 false false false true=false from by decide];exact zED f _ w b2 bS
 ·rw[show Fl.zH 1 false false true false=true from by decide];exact zEC f _ w b2 bS
 ·rw[show Fl.zH 1 false false true true=false from by decide];exact zED f _ w b2 bS
 ·rw[show Fl.zH 1 false true false false=true from by decide];exact zEC f _ w b2 bS
 ·rw[show Fl.zH 1 false true false true=false from by decide];exact zED f _ w b2 bS
 ·rw[show Fl.zH 1 false true true false=true from by decide];exact zEC f _ w b2 bS
 ·rw[show Fl.zH 1 false true true true=false from by decide];exact zED f _ w b2 bS
 ·rw[show Fl.zH 1 true false false false=true from by decide];exact zEC f _ w b2 bS
 ·rw[show Fl.zH 1 true false false true=false from by decide];exact zED f _ w b2 bS
 ·rw[show Fl.zH 1 true false true false=true from by decide];exact zEC f _ w b2 bS
 ·rw[show Fl.zH 1 true false true true=false from by decide];exact zED f _ w b2 bS
 ·rw[show Fl.zH 1 true true false false=true from by decide];exact zEC f _ w b2 bS
 ·rw[show Fl.zH 1 true true false true=false from by decide];exact zED f _ w b2 bS
 ·rw[show Fl.zH 1 true true true false=true from by decide];exact zEC f _ w b2 bS
 ·rw[show Fl.zH 1 true true true true=false from by decide];exact zED f _ w b2 bS
theorem zEF(f:Nat)(n v:Bool)(w:World)(hn:(bits .and .u32 (f:Int) 2 !=0)=n)(hv:(bits .and .u32 (f:Int) 8 !=0)=v)(hs:(bits .and .u32 (f:Int) 4 !=0)=true) :
  Calls Tryz.prog 65 #[.int .i64 2,.int .u32 f] w fun e w'=>e=.returned (.bool (true==true))∧Below w.heap.size w w':=by
 have c0:yW[3]?=some (.int .u32 4):=by kernel_rfl
 have c1:yW[4]?=some (.bool false):=by kernel_rfl
 have c2:yW[5]?=some (.bool false):=by kernel_rfl
 have zW:=(Go.zero_of_info yK).1
 go_enter Tryz.func65,Tryz.ntmps65
 go_wp2_with (first
  | (refine Gu.zL 9 9 _ _ _ ⟨#[.int .i64 2,.int .u32 f,undef,undef,.bool false,undef,undef,undef,undef,.agg #[.int .u32 8,.bool false,.bool false],.agg #[.int .u32 4,.bool false,.bool false],.agg #[.int .u32 1,.bool false,.bool false],.agg #[.int .u32 5,.bool false,.bool false],.agg #[.int .u32 2,.bool false,.bool false],.agg #[.int .u32 0,.bool true,.bool false],.agg #[.int .u32 1,.bool true,.bool false],.agg #[.int .u32 0,.bool false,.bool true],.agg yW,undef,undef,undef,undef,undef,undef,undef,undef,undef,undef,undef,undef,undef,undef,undef,undef,undef,undef,undef,undef,undef,undef,undef,undef,undef,undef,undef,undef,undef,undef,undef,undef,undef,undef,undef,undef,undef,undef,undef],[]⟩ rfl (by kernel_rfl) ?_;simp only[List.drop_succ_cons,List.drop_zero])
  | (refine Gu.zK rfl 148 rfl _ zW w.heap.size rfl ?_)
  | (refine hoS rfl rfl rfl rfl rfl ?_))
 go_ret
 exact⟨by cases n<;>cases v<;>rfl,yI w _ _⟩
theorem zEE(f:Nat)(n v:Bool)(w:World)(hn:(bits .and .u32 (f:Int) 2 !=0)=n)(hv:(bits .and .u32 (f:Int) 8 !=0)=v)(hs:(bits .and .u32 (f:Int) 4 !=0)=false) :
  Calls Tryz.prog 65 #[.int .i64 2,.int .u32 f] w fun e w'=>e=.returned (.bool (false==true))∧Below w.heap.size w w':=by
 have c0:yW[3]?=some (.int .u32 4):=by kernel_rfl
 have c1:yW[4]?=some (.bool false):=by kernel_rfl
 have c2:yW[5]?=some (.bool false):=by kernel_rfl
 have zW:=(Go.zero_of_info yK).1
 go_enter Tryz.func65,Tryz.ntmps65
 go_wp2_with (first
  | (refine Gu.zL 9 9 _ _ _ ⟨#[.int .i64 2,.int .u32 f,undef,undef,.bool false,undef,undef,undef,undef,.agg #[.int .u32 8,.bool false,.bool false],.agg #[.int .u32 4,.bool false,.bool false],.agg #[.int .u32 1,.bool false,.bool false],.agg #[.int .u32 5,.bool false,.bool false],.agg #[.int .u32 2,.bool false,.bool false],.agg #[.int .u32 0,.bool true,.bool false],.agg #[.int .u32 1,.bool true,.bool false],.agg #[.int .u32 0,.bool false,.bool true],.agg yW,undef,undef,undef,undef,undef,undef,undef,undef,undef,undef,undef,undef,undef,undef,undef,undef,undef,undef,undef,undef,undef,undef,undef,undef,undef,undef,undef,undef,undef,undef,undef,undef,undef,undef,undef,undef,undef,undef,undef],[]⟩ rfl (by kernel_rfl) ?_;simp only[List.drop_succ_cons,List.drop_zero])
  | (refine Gu.zK rfl 148 rfl _ zW w.heap.size rfl ?_)
  | (refine hoS rfl rfl rfl rfl rfl ?_))
 go_ret
 exact⟨by cases n<;>cases v<;>rfl,yI w _ _⟩
theorem ph2(f:Nat)(w:World)(hf:f < 4294967296):Calls Tryz.prog 65 #[.int .i64 2,.int .u32 f] w fun e w'=>e=.returned (.bool (Fl.zO 2 f))∧Below w.heap.size w w':=by
 have b2:=zX f 2 hf aO
 have b8:=zX f 8 hf aO
 have bS:=zX f 4 hf aO
 unfold Fl.zO
 generalize ((f:Int)%2==1)=z at *
 generalize ((f:Int) / 2%2==1)=n at *
 generalize ((f:Int) / 4%2==1)=y at *
 generalize ((f:Int) / 8%2==1)=v at *
 cases z<;>cases n<;>cases y<;>cases v
 ·rw[show Fl.zH 2 false false false false=false from by decide];exact zEE f _ _ w b2 b8 bS
 ·rw[show Fl.zH 2 false false false true=false from by decide];exact zEE f _ _ w b2 b8 bS
 ·rw[show Fl.zH 2 false false true false=true from by decide];exact zEF f _ _ w b2 b8 bS
 ·rw[show Fl.zH 2 false false true true=true from by decide];exact zEF f _ _ w b2 b8 bS
 ·rw[show Fl.zH 2 false true false false=false from by decide];exact zEE f _ _ w b2 b8 bS
 ·rw[show Fl.zH 2 false true false true=false from by decide];exact zEE f _ _ w b2 b8 bS
 ·rw[show Fl.zH 2 false true true false=true from by decide];exact zEF f _ _ w b2 b8 bS
 ·rw[show Fl.zH 2 false true true true=true from by decide];exact zEF f _ _ w b2 b8 bS
 ·rw[show Fl.zH 2 true false false false=false from by decide];exact zEE f _ _ w b2 b8 bS
 ·rw[show Fl.zH 2 true false false true=false from by decide];exact zEE f _ _ w b2 b8 bS
 ·rw[show Fl.zH 2 true false true false=true from by decide];exact zEF f _ _ w b2 b8 bS
 ·rw[show Fl.zH 2 true false true true=true from by decide];exact zEF f _ _ w b2 b8 bS
 ·rw[show Fl.zH 2 true true false false=false from by decide];exact zEE f _ _ w b2 b8 bS
 ·rw[show Fl.zH 2 true true false true=false from by decide];exact zEE f _ _ w b2 b8 bS
 ·rw[show Fl.zH 2 true true true false=true from by decide];exact zEF f _ _ w b2 b8 bS
 ·rw[show Fl.zH 2 true true true true=true from by decide];exact zEF f _ _ w b2 b8 bS
theorem zEH(f:Nat)(n v:Bool)(w:World)(hn:(bits .and .u32 (f:Int) 2 !=0)=n)(hv:(bits .and .u32 (f:Int) 8 !=0)=v)(hs:(bits .and .u32 (f:Int) 4 !=0)=true) :
  Calls Tryz.prog 65 #[.int .i64 3,.int .u32 f] w fun e w'=>e=.returned (.bool (true==false))∧Below w.heap.size w w':=by
 have c0:yW[3]?=some (.int .u32 4):=by kernel_rfl
 have c1:yW[4]?=some (.bool false):=by kernel_rfl
 have c2:yW[5]?=some (.bool false):=by kernel_rfl
 have zW:=(Go.zero_of_info yK).1
 go_enter Tryz.func65,Tryz.ntmps65
 go_wp2_with (first
  | (refine Gu.zL 9 9 _ _ _ ⟨#[.int .i64 3,.int .u32 f,undef,undef,.bool false,undef,undef,undef,undef,.agg #[.int .u32 8,.bool false,.bool false],.agg #[.int .u32 4,.bool false,.bool false],.agg #[.int .u32 1,.bool false,.bool false],.agg #[.int .u32 5,.bool false,.bool false],.agg #[.int .u32 2,.bool false,.bool false],.agg #[.int .u32 0,.bool true,.bool false],.agg #[.int .u32 1,.bool true,.bool false],.agg #[.int .u32 0,.bool false,.bool true],.agg yW,undef,undef,undef,undef,undef,undef,undef,undef,undef,undef,undef,undef,undef,undef,undef,undef,undef,undef,undef,undef,undef,undef,undef,undef,undef,undef,undef,undef,undef,undef,undef,undef,undef,undef,undef,undef,undef,undef,undef],[]⟩ rfl (by kernel_rfl) ?_;simp only[List.drop_succ_cons,List.drop_zero])
  | (refine Gu.zK rfl 148 rfl _ zW w.heap.size rfl ?_)
  | (refine hoS rfl rfl rfl rfl rfl ?_))
 go_ret
 exact⟨by cases n<;>cases v<;>rfl,yI w _ _⟩
theorem zEG(f:Nat)(n v:Bool)(w:World)(hn:(bits .and .u32 (f:Int) 2 !=0)=n)(hv:(bits .and .u32 (f:Int) 8 !=0)=v)(hs:(bits .and .u32 (f:Int) 4 !=0)=false) :
  Calls Tryz.prog 65 #[.int .i64 3,.int .u32 f] w fun e w'=>e=.returned (.bool (false==false))∧Below w.heap.size w w':=by
 have c0:yW[3]?=some (.int .u32 4):=by kernel_rfl
 have c1:yW[4]?=some (.bool false):=by kernel_rfl
 have c2:yW[5]?=some (.bool false):=by kernel_rfl
 have zW:=(Go.zero_of_info yK).1
 go_enter Tryz.func65,Tryz.ntmps65
 go_wp2_with (first
  | (refine Gu.zL 9 9 _ _ _ ⟨#[.int .i64 3,.int .u32 f,undef,undef,.bool false,undef,undef,undef,undef,.agg #[.int .u32 8,.bool false,.bool false],.agg #[.int .u32 4,.bool false,.bool false],.agg #[.int .u32 1,.bool false,.bool false],.agg #[.int .u32 5,.bool false,.bool false],.agg #[.int .u32 2,.bool false,.bool false],.agg #[.int .u32 0,.bool true,.bool false],.agg #[.int .u32 1,.bool true,.bool false],.agg #[.int .u32 0,.bool false,.bool true],.agg yW,undef,undef,undef,undef,undef,undef,undef,undef,undef,undef,undef,undef,undef,undef,undef,undef,undef,undef,undef,undef,undef,undef,undef,undef,undef,undef,undef,undef,undef,undef,undef,undef,undef,undef,undef,undef,undef,undef,undef],[]⟩ rfl (by kernel_rfl) ?_;simp only[List.drop_succ_cons,List.drop_zero])
  | (refine Gu.zK rfl 148 rfl _ zW w.heap.size rfl ?_)
  | (refine hoS rfl rfl rfl rfl rfl ?_))
 go_ret
 exact⟨by cases n<;>cases v<;>rfl,yI w _ _⟩
theorem ph3(f:Nat)(w:World)(hf:f < 4294967296):Calls Tryz.prog 65 #[.int .i64 3,.int .u32 f] w fun e w'=>e=.returned (.bool (Fl.zO 3 f))∧Below w.heap.size w w':=by
 have b2:=zX f 2 hf aO
 have b8:=zX f 8 hf aO
 have bS:=zX f 4 hf aO
 unfold Fl.zO
 generalize ((f:Int)%2==1)=z at *
 generalize ((f:Int) / 2%2==1)=n at *
 generalize ((f:Int) / 4%2==1)=y at *
 generalize ((f:Int) / 8%2==1)=v at *
 cases z<;>cases n<;>cases y<;>cases v
 ·rw[show Fl.zH 3 false false false false=true from by decide];exact zEG f _ _ w b2 b8 bS
 ·rw[show Fl.zH 3 false false false true=true from by decide];exact zEG f _ _ w b2 b8 bS
 ·rw[show Fl.zH 3 false false true false=false from by decide];exact zEH f _ _ w b2 b8 bS
 ·rw[show Fl.zH 3 false false true true=false from by decide];exact zEH f _ _ w b2 b8 bS
 ·rw[show Fl.zH 3 false true false false=true from by decide];exact zEG f _ _ w b2 b8 bS
 ·rw[show Fl.zH 3 false true false true=true from by decide];exact zEG f _ _ w b2 b8 bS
 ·rw[show Fl.zH 3 false true true false=false from by decide];exact zEH f _ _ w b2 b8 bS
 ·rw[show Fl.zH 3 false true true true=false from by decide];exact zEH f _ _ w b2 b8 bS
 ·rw[show Fl.zH 3 true false false false=true from by decide];exact zEG f _ _ w b2 b8 bS
 ·rw[show Fl.zH 3 true false false true=true from by decide];exact zEG f _ _ w b2 b8 bS
 ·rw[show Fl.zH 3 true false true false=false from by decide];exact zEH f _ _ w b2 b8 bS
 ·rw[show Fl.zH 3 true false true true=false from by decide];exact zEH f _ _ w b2 b8 bS
 ·rw[show Fl.zH 3 true true false false=true from by decide];exact zEG f _ _ w b2 b8 bS
 ·rw[show Fl.zH 3 true true false true=true from by decide];exact zEG f _ _ w b2 b8 bS
 ·rw[show Fl.zH 3 true true true false=false from by decide];exact zEH f _ _ w b2 b8 bS
 ·rw[show Fl.zH 3 true true true true=false from by decide];exact zEH f _ _ w b2 b8 bS
theorem zEJ(f:Nat)(n v:Bool)(w:World)(hn:(bits .and .u32 (f:Int) 2 !=0)=n)(hv:(bits .and .u32 (f:Int) 8 !=0)=v)(hs:(bits .and .u32 (f:Int) 1 !=0)=true) :
  Calls Tryz.prog 65 #[.int .i64 4,.int .u32 f] w fun e w'=>e=.returned (.bool (true==true))∧Below w.heap.size w w':=by
 have c0:yW[6]?=some (.int .u32 1):=by kernel_rfl
 have c1:yW[7]?=some (.bool false):=by kernel_rfl
 have c2:yW[8]?=some (.bool false):=by kernel_rfl
 have zW:=(Go.zero_of_info yK).1
 go_enter Tryz.func65,Tryz.ntmps65
 go_wp2_with (first
  | (refine Gu.zL 9 9 _ _ _ ⟨#[.int .i64 4,.int .u32 f,undef,undef,.bool false,undef,undef,undef,undef,.agg #[.int .u32 8,.bool false,.bool false],.agg #[.int .u32 4,.bool false,.bool false],.agg #[.int .u32 1,.bool false,.bool false],.agg #[.int .u32 5,.bool false,.bool false],.agg #[.int .u32 2,.bool false,.bool false],.agg #[.int .u32 0,.bool true,.bool false],.agg #[.int .u32 1,.bool true,.bool false],.agg #[.int .u32 0,.bool false,.bool true],.agg yW,undef,undef,undef,undef,undef,undef,undef,undef,undef,undef,undef,undef,undef,undef,undef,undef,undef,undef,undef,undef,undef,undef,undef,undef,undef,undef,undef,undef,undef,undef,undef,undef,undef,undef,undef,undef,undef,undef,undef],[]⟩ rfl (by kernel_rfl) ?_;simp only[List.drop_succ_cons,List.drop_zero])
  | (refine Gu.zK rfl 148 rfl _ zW w.heap.size rfl ?_)
  | (refine hoS rfl rfl rfl rfl rfl ?_))
 go_ret
 exact⟨by cases n<;>cases v<;>rfl,yI w _ _⟩
theorem zEI(f:Nat)(n v:Bool)(w:World)(hn:(bits .and .u32 (f:Int) 2 !=0)=n)(hv:(bits .and .u32 (f:Int) 8 !=0)=v)(hs:(bits .and .u32 (f:Int) 1 !=0)=false) :
  Calls Tryz.prog 65 #[.int .i64 4,.int .u32 f] w fun e w'=>e=.returned (.bool (false==true))∧Below w.heap.size w w':=by
 have c0:yW[6]?=some (.int .u32 1):=by kernel_rfl
 have c1:yW[7]?=some (.bool false):=by kernel_rfl
 have c2:yW[8]?=some (.bool false):=by kernel_rfl
 have zW:=(Go.zero_of_info yK).1
 go_enter Tryz.func65,Tryz.ntmps65
 go_wp2_with (first
  | (refine Gu.zL 9 9 _ _ _ ⟨#[.int .i64 4,.int .u32 f,undef,undef,.bool false,undef,undef,undef,undef,.agg #[.int .u32 8,.bool false,.bool false],.agg #[.int .u32 4,.bool false,.bool false],.agg #[.int .u32 1,.bool false,.bool false],.agg #[.int .u32 5,.bool false,.bool false],.agg #[.int .u32 2,.bool false,.bool false],.agg #[.int .u32 0,.bool true,.bool false],.agg #[.int .u32 1,.bool true,.bool false],.agg #[.int .u32 0,.bool false,.bool true],.agg yW,undef,undef,undef,undef,undef,undef,undef,undef,undef,undef,undef,undef,undef,undef,undef,undef,undef,undef,undef,undef,undef,undef,undef,undef,undef,undef,undef,undef,undef,undef,undef,undef,undef,undef,undef,undef,undef,undef,undef],[]⟩ rfl (by kernel_rfl) ?_;simp only[List.drop_succ_cons,List.drop_zero])
  | (refine Gu.zK rfl 148 rfl _ zW w.heap.size rfl ?_)
  | (refine hoS rfl rfl rfl rfl rfl ?_))
 go_ret
 exact⟨by cases n<;>cases v<;>rfl,yI w _ _⟩
theorem ph4(f:Nat)(w:World)(hf:f < 4294967296):Calls Tryz.prog 65 #[.int .i64 4,.int .u32 f] w fun e w'=>e=.returned (.bool (Fl.zO 4 f))∧Below w.heap.size w w':=by
 have b2:=zX f 2 hf aO
 have b8:=zX f 8 hf aO
 have bS:=zX f 1 hf aO
 unfold Fl.zO
 generalize ((f:Int)%2==1)=z at *
 generalize ((f:Int) / 2%2==1)=n at *
 generalize ((f:Int) / 4%2==1)=y at *
 generalize ((f:Int) / 8%2==1)=v at *
 cases z<;>cases n<;>cases y<;>cases v
 ·rw[show Fl.zH 4 false false false false=false from by decide];exact zEI f _ _ w b2 b8 bS
 ·rw[show Fl.zH 4 false false false true=false from by decide];exact zEI f _ _ w b2 b8 bS
 ·rw[show Fl.zH 4 false false true false=false from by decide];exact zEI f _ _ w b2 b8 bS
 ·rw[show Fl.zH 4 false false true true=false from by decide];exact zEI f _ _ w b2 b8 bS
 ·rw[show Fl.zH 4 false true false false=false from by decide];exact zEI f _ _ w b2 b8 bS
 ·rw[show Fl.zH 4 false true false true=false from by decide];exact zEI f _ _ w b2 b8 bS
 ·rw[show Fl.zH 4 false true true false=false from by decide];exact zEI f _ _ w b2 b8 bS
 ·rw[show Fl.zH 4 false true true true=false from by decide];exact zEI f _ _ w b2 b8 bS
 ·rw[show Fl.zH 4 true false false false=true from by decide];exact zEJ f _ _ w b2 b8 bS
 ·rw[show Fl.zH 4 true false false true=true from by decide];exact zEJ f _ _ w b2 b8 bS
 ·rw[show Fl.zH 4 true false true false=true from by decide];exact zEJ f _ _ w b2 b8 bS
 ·rw[show Fl.zH 4 true false true true=true from by decide];exact zEJ f _ _ w b2 b8 bS
 ·rw[show Fl.zH 4 true true false false=true from by decide];exact zEJ f _ _ w b2 b8 bS
 ·rw[show Fl.zH 4 true true false true=true from by decide];exact zEJ f _ _ w b2 b8 bS
 ·rw[show Fl.zH 4 true true true false=true from by decide];exact zEJ f _ _ w b2 b8 bS
 ·rw[show Fl.zH 4 true true true true=true from by decide];exact zEJ f _ _ w b2 b8 bS
theorem zEL(f:Nat)(n v:Bool)(w:World)(hn:(bits .and .u32 (f:Int) 2 !=0)=n)(hv:(bits .and .u32 (f:Int) 8 !=0)=v)(hs:(bits .and .u32 (f:Int) 1 !=0)=true) :
  Calls Tryz.prog 65 #[.int .i64 5,.int .u32 f] w fun e w'=>e=.returned (.bool (true==false))∧Below w.heap.size w w':=by
 have c0:yW[6]?=some (.int .u32 1):=by kernel_rfl
 have c1:yW[7]?=some (.bool false):=by kernel_rfl
 have c2:yW[8]?=some (.bool false):=by kernel_rfl
 have zW:=(Go.zero_of_info yK).1
 go_enter Tryz.func65,Tryz.ntmps65
 go_wp2_with (first
  | (refine Gu.zL 9 9 _ _ _ ⟨#[.int .i64 5,.int .u32 f,undef,undef,.bool false,undef,undef,undef,undef,.agg #[.int .u32 8,.bool false,.bool false],.agg #[.int .u32 4,.bool false,.bool false],.agg #[.int .u32 1,.bool false,.bool false],.agg #[.int .u32 5,.bool false,.bool false],.agg #[.int .u32 2,.bool false,.bool false],.agg #[.int .u32 0,.bool true,.bool false],.agg #[.int .u32 1,.bool true,.bool false],.agg #[.int .u32 0,.bool false,.bool true],.agg yW,undef,undef,undef,undef,undef,undef,undef,undef,undef,undef,undef,undef,undef,undef,undef,undef,undef,undef,undef,undef,undef,undef,undef,undef,undef,undef,undef,undef,undef,undef,undef,undef,undef,undef,undef,undef,undef,undef,undef],[]⟩ rfl (by kernel_rfl) ?_;simp only[List.drop_succ_cons,List.drop_zero])
  | (refine Gu.zK rfl 148 rfl _ zW w.heap.size rfl ?_)
  | (refine hoS rfl rfl rfl rfl rfl ?_))
 go_ret
 exact⟨by cases n<;>cases v<;>rfl,yI w _ _⟩
theorem zEK(f:Nat)(n v:Bool)(w:World)(hn:(bits .and .u32 (f:Int) 2 !=0)=n)(hv:(bits .and .u32 (f:Int) 8 !=0)=v)(hs:(bits .and .u32 (f:Int) 1 !=0)=false) :
  Calls Tryz.prog 65 #[.int .i64 5,.int .u32 f] w fun e w'=>e=.returned (.bool (false==false))∧Below w.heap.size w w':=by
 have c0:yW[6]?=some (.int .u32 1):=by kernel_rfl
 have c1:yW[7]?=some (.bool false):=by kernel_rfl
 have c2:yW[8]?=some (.bool false):=by kernel_rfl
 have zW:=(Go.zero_of_info yK).1
 go_enter Tryz.func65,Tryz.ntmps65
 go_wp2_with (first
  | (refine Gu.zL 9 9 _ _ _ ⟨#[.int .i64 5,.int .u32 f,undef,undef,.bool false,undef,undef,undef,undef,.agg #[.int .u32 8,.bool false,.bool false],.agg #[.int .u32 4,.bool false,.bool false],.agg #[.int .u32 1,.bool false,.bool false],.agg #[.int .u32 5,.bool false,.bool false],.agg #[.int .u32 2,.bool false,.bool false],.agg #[.int .u32 0,.bool true,.bool false],.agg #[.int .u32 1,.bool true,.bool false],.agg #[.int .u32 0,.bool false,.bool true],.agg yW,undef,undef,undef,undef,undef,undef,undef,undef,undef,undef,undef,undef,undef,undef,undef,undef,undef,undef,undef,undef,undef,undef,undef,undef,undef,undef,undef,undef,undef,undef,undef,undef,undef,undef,undef,undef,undef,undef,undef],[]⟩ rfl (by kernel_rfl) ?_;simp only[List.drop_succ_cons,List.drop_zero])
  | (refine Gu.zK rfl 148 rfl _ zW w.heap.size rfl ?_)
  | (refine hoS rfl rfl rfl rfl rfl ?_))
 go_ret
 exact⟨by cases n<;>cases v<;>rfl,yI w _ _⟩
theorem ph5(f:Nat)(w:World)(hf:f < 4294967296):Calls Tryz.prog 65 #[.int .i64 5,.int .u32 f] w fun e w'=>e=.returned (.bool (Fl.zO 5 f))∧Below w.heap.size w w':=by
 have b2:=zX f 2 hf aO
 have b8:=zX f 8 hf aO
 have bS:=zX f 1 hf aO
 unfold Fl.zO
 generalize ((f:Int)%2==1)=z at *
 generalize ((f:Int) / 2%2==1)=n at *
 generalize ((f:Int) / 4%2==1)=y at *
 generalize ((f:Int) / 8%2==1)=v at *
 cases z<;>cases n<;>cases y<;>cases v
 ·rw[show Fl.zH 5 false false false false=true from by decide];exact zEK f _ _ w b2 b8 bS
 ·rw[show Fl.zH 5 false false false true=true from by decide];exact zEK f _ _ w b2 b8 bS
 ·rw[show Fl.zH 5 false false true false=true from by decide];exact zEK f _ _ w b2 b8 bS
 ·rw[show Fl.zH 5 false false true true=true from by decide];exact zEK f _ _ w b2 b8 bS
 ·rw[show Fl.zH 5 false true false false=true from by decide];exact zEK f _ _ w b2 b8 bS
 ·rw[show Fl.zH 5 false true false true=true from by decide];exact zEK f _ _ w b2 b8 bS
 ·rw[show Fl.zH 5 false true true false=true from by decide];exact zEK f _ _ w b2 b8 bS
 ·rw[show Fl.zH 5 false true true true=true from by decide];exact zEK f _ _ w b2 b8 bS
 ·rw[show Fl.zH 5 true false false false=false from by decide];exact zEL f _ _ w b2 b8 bS
 ·rw[show Fl.zH 5 true false false true=false from by decide];exact zEL f _ _ w b2 b8 bS
 ·rw[show Fl.zH 5 true false true false=false from by decide];exact zEL f _ _ w b2 b8 bS
 ·rw[show Fl.zH 5 true false true true=false from by decide];exact zEL f _ _ w b2 b8 bS
 ·rw[show Fl.zH 5 true true false false=false from by decide];exact zEL f _ _ w b2 b8 bS
 ·rw[show Fl.zH 5 true true false true=false from by decide];exact zEL f _ _ w b2 b8 bS
 ·rw[show Fl.zH 5 true true true false=false from by decide];exact zEL f _ _ w b2 b8 bS
 ·rw[show Fl.zH 5 true true true true=false from by decide];exact zEL f _ _ w b2 b8 bS
theorem zCN(f:Nat)(n v:Bool)(w:World)(hn:(bits .and .u32 (f:Int) 2 !=0)=n)(hv:(bits .and .u32 (f:Int) 8 !=0)=v)(hs:(bits .and .u32 (f:Int) 5 !=0)=true) :
  Calls Tryz.prog 65 #[.int .i64 6,.int .u32 f] w fun e w'=>e=.returned (.bool (true==true))∧Below w.heap.size w w':=by
 have c0:yW[9]?=some (.int .u32 5):=by kernel_rfl
 have c1:yW[10]?=some (.bool false):=by kernel_rfl
 have c2:yW[11]?=some (.bool false):=by kernel_rfl
 have zW:=(Go.zero_of_info yK).1
 go_enter Tryz.func65,Tryz.ntmps65
 go_wp2_with (first
  | (refine Gu.zL 9 9 _ _ _ ⟨#[.int .i64 6,.int .u32 f,undef,undef,.bool false,undef,undef,undef,undef,.agg #[.int .u32 8,.bool false,.bool false],.agg #[.int .u32 4,.bool false,.bool false],.agg #[.int .u32 1,.bool false,.bool false],.agg #[.int .u32 5,.bool false,.bool false],.agg #[.int .u32 2,.bool false,.bool false],.agg #[.int .u32 0,.bool true,.bool false],.agg #[.int .u32 1,.bool true,.bool false],.agg #[.int .u32 0,.bool false,.bool true],.agg yW,undef,undef,undef,undef,undef,undef,undef,undef,undef,undef,undef,undef,undef,undef,undef,undef,undef,undef,undef,undef,undef,undef,undef,undef,undef,undef,undef,undef,undef,undef,undef,undef,undef,undef,undef,undef,undef,undef,undef],[]⟩ rfl (by kernel_rfl) ?_;simp only[List.drop_succ_cons,List.drop_zero])
  | (refine Gu.zK rfl 148 rfl _ zW w.heap.size rfl ?_)
  | (refine hoS rfl rfl rfl rfl rfl ?_))
 go_ret
 exact⟨by cases n<;>cases v<;>rfl,yI w _ _⟩
theorem zKh(f:Nat)(n v:Bool)(w:World)(hn:(bits .and .u32 (f:Int) 2 !=0)=n)(hv:(bits .and .u32 (f:Int) 8 !=0)=v)(hs:(bits .and .u32 (f:Int) 5 !=0)=false) :
  Calls Tryz.prog 65 #[.int .i64 6,.int .u32 f] w fun e w'=>e=.returned (.bool (false==true))∧Below w.heap.size w w':=by
 have c0:yW[9]?=some (.int .u32 5):=by kernel_rfl
 have c1:yW[10]?=some (.bool false):=by kernel_rfl
 have c2:yW[11]?=some (.bool false):=by kernel_rfl
 have zW:=(Go.zero_of_info yK).1
 go_enter Tryz.func65,Tryz.ntmps65
 go_wp2_with (first
  | (refine Gu.zL 9 9 _ _ _ ⟨#[.int .i64 6,.int .u32 f,undef,undef,.bool false,undef,undef,undef,undef,.agg #[.int .u32 8,.bool false,.bool false],.agg #[.int .u32 4,.bool false,.bool false],.agg #[.int .u32 1,.bool false,.bool false],.agg #[.int .u32 5,.bool false,.bool false],.agg #[.int .u32 2,.bool false,.bool false],.agg #[.int .u32 0,.bool true,.bool false],.agg #[.int .u32 1,.bool true,.bool false],.agg #[.int .u32 0,.bool false,.bool true],.agg yW,undef,undef,undef,undef,undef,undef,undef,undef,undef,undef,undef,undef,undef,undef,undef,undef,undef,undef,undef,undef,undef,undef,undef,undef,undef,undef,undef,undef,undef,undef,undef,undef,undef,undef,undef,undef,undef,undef,undef],[]⟩ rfl (by kernel_rfl) ?_;simp only[List.drop_succ_cons,List.drop_zero])
  | (refine Gu.zK rfl 148 rfl _ zW w.heap.size rfl ?_)
  | (refine hoS rfl rfl rfl rfl rfl ?_))
 go_ret
 exact⟨by cases n<;>cases v<;>rfl,yI w _ _⟩
theorem ph6(f:Nat)(w:World)(hf:f < 4294967296):Calls Tryz.prog 65 #[.int .i64 6,.int .u32 f] w fun e w'=>e=.returned (.bool (Fl.zO 6 f))∧Below w.heap.size w w':=by
 have b2:=zX f 2 hf aO
 have b8:=zX f 8 hf aO
 have bS:=zX f 5 hf aO
 unfold Fl.zO
 generalize ((f:Int)%2==1)=z at *
 generalize ((f:Int) / 2%2==1)=n at *
 generalize ((f:Int) / 4%2==1)=y at *
 generalize ((f:Int) / 8%2==1)=v at *
 cases z<;>cases n<;>cases y<;>cases v
 ·rw[show Fl.zH 6 false false false false=false from by decide];exact zKh f _ _ w b2 b8 bS
 ·rw[show Fl.zH 6 false false false true=false from by decide];exact zKh f _ _ w b2 b8 bS
 ·rw[show Fl.zH 6 false false true false=true from by decide];exact zCN f _ _ w b2 b8 bS
 ·rw[show Fl.zH 6 false false true true=true from by decide];exact zCN f _ _ w b2 b8 bS
 ·rw[show Fl.zH 6 false true false false=false from by decide];exact zKh f _ _ w b2 b8 bS
 ·rw[show Fl.zH 6 false true false true=false from by decide];exact zKh f _ _ w b2 b8 bS
 ·rw[show Fl.zH 6 false true true false=true from by decide];exact zCN f _ _ w b2 b8 bS
 ·rw[show Fl.zH 6 false true true true=true from by decide];exact zCN f _ _ w b2 b8 bS
 ·rw[show Fl.zH 6 true false false false=true from by decide];exact zCN f _ _ w b2 b8 bS
 ·rw[show Fl.zH 6 true false false true=true from by decide];exact zCN f _ _ w b2 b8 bS
 ·rw[show Fl.zH 6 true false true false=true from by decide];exact zCN f _ _ w b2 b8 bS
 ·rw[show Fl.zH 6 true false true true=true from by decide];exact zCN f _ _ w b2 b8 bS
 ·rw[show Fl.zH 6 true true false false=true from by decide];exact zCN f _ _ w b2 b8 bS
 ·rw[show Fl.zH 6 true true false true=true from by decide];exact zCN f _ _ w b2 b8 bS
 ·rw[show Fl.zH 6 true true true false=true from by decide];exact zCN f _ _ w b2 b8 bS
 ·rw[show Fl.zH 6 true true true true=true from by decide];exact zCN f _ _ w b2 b8 bS
theorem zCO(f:Nat)(n v:Bool)(w:World)(hn:(bits .and .u32 (f:Int) 2 !=0)=n)(hv:(bits .and .u32 (f:Int) 8 !=0)=v)(hs:(bits .and .u32 (f:Int) 5 !=0)=true) :
  Calls Tryz.prog 65 #[.int .i64 7,.int .u32 f] w fun e w'=>e=.returned (.bool (true==false))∧Below w.heap.size w w':=by
 have c0:yW[9]?=some (.int .u32 5):=by kernel_rfl
 have c1:yW[10]?=some (.bool false):=by kernel_rfl
 have c2:yW[11]?=some (.bool false):=by kernel_rfl
 have zW:=(Go.zero_of_info yK).1
 go_enter Tryz.func65,Tryz.ntmps65
 go_wp2_with (first
  | (refine Gu.zL 9 9 _ _ _ ⟨#[.int .i64 7,.int .u32 f,undef,undef,.bool false,undef,undef,undef,undef,.agg #[.int .u32 8,.bool false,.bool false],.agg #[.int .u32 4,.bool false,.bool false],.agg #[.int .u32 1,.bool false,.bool false],.agg #[.int .u32 5,.bool false,.bool false],.agg #[.int .u32 2,.bool false,.bool false],.agg #[.int .u32 0,.bool true,.bool false],.agg #[.int .u32 1,.bool true,.bool false],.agg #[.int .u32 0,.bool false,.bool true],.agg yW,undef,undef,undef,undef,undef,undef,undef,undef,undef,undef,undef,undef,undef,undef,undef,undef,undef,undef,undef,undef,undef,undef,undef,undef,undef,undef,undef,undef,undef,undef,undef,undef,undef,undef,undef,undef,undef,undef,undef],[]⟩ rfl (by kernel_rfl) ?_;simp only[List.drop_succ_cons,List.drop_zero])
  | (refine Gu.zK rfl 148 rfl _ zW w.heap.size rfl ?_)
  | (refine hoS rfl rfl rfl rfl rfl ?_))
 go_ret
 exact⟨by cases n<;>cases v<;>rfl,yI w _ _⟩
theorem zKi(f:Nat)(n v:Bool)(w:World)(hn:(bits .and .u32 (f:Int) 2 !=0)=n)(hv:(bits .and .u32 (f:Int) 8 !=0)=v)(hs:(bits .and .u32 (f:Int) 5 !=0)=false) :
  Calls Tryz.prog 65 #[.int .i64 7,.int .u32 f] w fun e w'=>e=.returned (.bool (false==false))∧Below w.heap.size w w':=by
 have c0:yW[9]?=some (.int .u32 5):=by kernel_rfl
 have c1:yW[10]?=some (.bool false):=by kernel_rfl
 have c2:yW[11]?=some (.bool false):=by kernel_rfl
 have zW:=(Go.zero_of_info yK).1
 go_enter Tryz.func65,Tryz.ntmps65
 go_wp2_with (first
  | (refine Gu.zL 9 9 _ _ _ ⟨#[.int .i64 7,.int .u32 f,undef,undef,.bool false,undef,undef,undef,undef,.agg #[.int .u32 8,.bool false,.bool false],.agg #[.int .u32 4,.bool false,.bool false],.agg #[.int .u32 1,.bool false,.bool false],.agg #[.int .u32 5,.bool false,.bool false],.agg #[.int .u32 2,.bool false,.bool false],.agg #[.int .u32 0,.bool true,.bool false],.agg #[.int .u32 1,.bool true,.bool false],.agg #[.int .u32 0,.bool false,.bool true],.agg yW,undef,undef,undef,undef,undef,undef,undef,undef,undef,undef,undef,undef,undef,undef,undef,undef,undef,undef,undef,undef,undef,undef,undef,undef,undef,undef,undef,undef,undef,undef,undef,undef,undef,undef,undef,undef,undef,undef,undef],[]⟩ rfl (by kernel_rfl) ?_;simp only[List.drop_succ_cons,List.drop_zero])
  | (refine Gu.zK rfl 148 rfl _ zW w.heap.size rfl ?_)
  | (refine hoS rfl rfl rfl rfl rfl ?_))
 go_ret
 exact⟨by cases n<;>cases v<;>rfl,yI w _ _⟩
theorem ph7(f:Nat)(w:World)(hf:f < 4294967296):Calls Tryz.prog 65 #[.int .i64 7,.int .u32 f] w fun e w'=>e=.returned (.bool (Fl.zO 7 f))∧Below w.heap.size w w':=by
 have b2:=zX f 2 hf aO
 have b8:=zX f 8 hf aO
 have bS:=zX f 5 hf aO
 unfold Fl.zO
 generalize ((f:Int)%2==1)=z at *
 generalize ((f:Int) / 2%2==1)=n at *
 generalize ((f:Int) / 4%2==1)=y at *
 generalize ((f:Int) / 8%2==1)=v at *
 cases z<;>cases n<;>cases y<;>cases v
 ·rw[show Fl.zH 7 false false false false=true from by decide];exact zKi f _ _ w b2 b8 bS
 ·rw[show Fl.zH 7 false false false true=true from by decide];exact zKi f _ _ w b2 b8 bS
 ·rw[show Fl.zH 7 false false true false=false from by decide];exact zCO f _ _ w b2 b8 bS
 ·rw[show Fl.zH 7 false false true true=false from by decide];exact zCO f _ _ w b2 b8 bS
 ·rw[show Fl.zH 7 false true false false=true from by decide];exact zKi f _ _ w b2 b8 bS
 ·rw[show Fl.zH 7 false true false true=true from by decide];exact zKi f _ _ w b2 b8 bS
 ·rw[show Fl.zH 7 false true true false=false from by decide];exact zCO f _ _ w b2 b8 bS
 ·rw[show Fl.zH 7 false true true true=false from by decide];exact zCO f _ _ w b2 b8 bS
 ·rw[show Fl.zH 7 true false false false=false from by decide];exact zCO f _ _ w b2 b8 bS
 ·rw[show Fl.zH 7 true false false true=false from by decide];exact zCO f _ _ w b2 b8 bS
 ·rw[show Fl.zH 7 true false true false=false from by decide];exact zCO f _ _ w b2 b8 bS
 ·rw[show Fl.zH 7 true false true true=false from by decide];exact zCO f _ _ w b2 b8 bS
 ·rw[show Fl.zH 7 true true false false=false from by decide];exact zCO f _ _ w b2 b8 bS
 ·rw[show Fl.zH 7 true true false true=false from by decide];exact zCO f _ _ w b2 b8 bS
 ·rw[show Fl.zH 7 true true true false=false from by decide];exact zCO f _ _ w b2 b8 bS
 ·rw[show Fl.zH 7 true true true true=false from by decide];exact zCO f _ _ w b2 b8 bS
theorem zOv(c:Int)(f:Nat)(w:World)(hc:c < 0):Calls Tryz.prog 65 #[.int .i64 c,.int .u32 f] w fun e w'=>e=.returned (.bool false)∧Below w.heap.size w w':=by
 have hd:decide (c < 0)=true:=decide_eq_true hc
 have zW:=(Go.zero_of_info yK).1
 go_enter Tryz.func65,Tryz.ntmps65
 go_wp2_with (first
  | (refine Gu.zL 9 9 _ _ _ ⟨#[.int .i64 c,.int .u32 f,undef,undef,.bool false,undef,undef,undef,undef,.agg #[.int .u32 8,.bool false,.bool false],.agg #[.int .u32 4,.bool false,.bool false],.agg #[.int .u32 1,.bool false,.bool false],.agg #[.int .u32 5,.bool false,.bool false],.agg #[.int .u32 2,.bool false,.bool false],.agg #[.int .u32 0,.bool true,.bool false],.agg #[.int .u32 1,.bool true,.bool false],.agg #[.int .u32 0,.bool false,.bool true],.agg yW,undef,undef,undef,undef,undef,undef,undef,undef,undef,undef,undef,undef,undef,undef,undef,undef,undef,undef,undef,undef,undef,undef,undef,undef,undef,undef,undef,undef,undef,undef,undef,undef,undef,undef,undef,undef,undef,undef,undef],[]⟩ rfl (by kernel_rfl) ?_;simp only[List.drop_succ_cons,List.drop_zero])
  | (refine Gu.zK rfl 148 rfl _ zW w.heap.size rfl ?_)
  | (refine hoS rfl rfl rfl rfl rfl ?_))
 go_ret
 exact⟨rfl,yF w _⟩
theorem zOu(c:Int)(f:Nat)(w:World)(hc:15 < c∧c≤9223372036854775807):Calls Tryz.prog 65 #[.int .i64 c,.int .u32 f] w fun e w'=>e=.returned (.bool false)∧Below w.heap.size w w':=by
 have hd:decide (c < 0)=false:=aF
 have ht:c.tdiv 2=c / 2:=Int.tdiv_eq_ediv_of_nonneg aO
 obtain⟨q,hq⟩:∃ q:Int,c / 2=q:=⟨_,rfl⟩
 have hq8:8≤q:=aO
 have hql:q≤9223372036854775807:=aO
 rw[hq] at ht
 have hd2:decide (8≤q)=true:=decide_eq_true hq8
 have HQ:Hid _:=hq
 clear hq
 have zW:=(Go.zero_of_info yK).1
 go_enter Tryz.func65,Tryz.ntmps65
 go_wp2_with (first
  | (refine Gu.zL 9 9 _ _ _ ⟨#[.int .i64 c,.int .u32 f,undef,undef,.bool false,undef,undef,undef,undef,.agg #[.int .u32 8,.bool false,.bool false],.agg #[.int .u32 4,.bool false,.bool false],.agg #[.int .u32 1,.bool false,.bool false],.agg #[.int .u32 5,.bool false,.bool false],.agg #[.int .u32 2,.bool false,.bool false],.agg #[.int .u32 0,.bool true,.bool false],.agg #[.int .u32 1,.bool true,.bool false],.agg #[.int .u32 0,.bool false,.bool true],.agg yW,undef,undef,undef,undef,undef,undef,undef,undef,undef,undef,undef,undef,undef,undef,undef,undef,undef,undef,undef,undef,undef,undef,undef,undef,undef,undef,undef,undef,undef,undef,undef,undef,undef,undef,undef,undef,undef,undef,undef],[]⟩ rfl (by kernel_rfl) ?_;simp only[List.drop_succ_cons,List.drop_zero])
  | (refine Gu.zK rfl 148 rfl _ zW w.heap.size rfl ?_)
  | (refine hoS rfl rfl rfl rfl rfl ?_))
 go_ret
 exact⟨rfl,yF w _⟩
end Go.Proofs.YthcpipfmicbnmaaGreat.Va
