import Derived.Test.YthcpipfmicbnmaaGreatWC1
set_option linter.unusedVariables false
set_option linter.unusedSimpArgs false
set_option maxHeartbeats 1000000
namespace Go.Proofs.YthcpipfmicbnmaaGreat.Va
open Go.RowKit
set_option maxRecDepth 100000
theorem zEN(f:Nat)(v:Bool)(w:World)(hv:(bits .and .u32 (f:Int) 8 !=0)=v)(hs:(bits .and .u32 (f:Int) 2 !=0)=true) :
  Calls Tryz.prog 65 #[.int .i64 8,.int .u32 f] w fun e w'=>e=.returned (.bool (true==true))∧Below w.heap.size w w':=by
 have c0:yW[12]?=some (.int .u32 2):=by kernel_rfl
 have c1:yW[13]?=some (.bool false):=by kernel_rfl
 have c2:yW[14]?=some (.bool false):=by kernel_rfl
 have zW:=(Go.zero_of_info yK).1
 go_enter Tryz.func65,Tryz.ntmps65
 go_wp2_with (first
  | (refine Gu.zL 9 9 _ _ _ ⟨#[.int .i64 8,.int .u32 f,undef,undef,.bool false,undef,undef,undef,undef,.agg #[.int .u32 8,.bool false,.bool false],.agg #[.int .u32 4,.bool false,.bool false],.agg #[.int .u32 1,.bool false,.bool false],.agg #[.int .u32 5,.bool false,.bool false],.agg #[.int .u32 2,.bool false,.bool false],.agg #[.int .u32 0,.bool true,.bool false],.agg #[.int .u32 1,.bool true,.bool false],.agg #[.int .u32 0,.bool false,.bool true],.agg yW,undef,undef,undef,undef,undef,undef,undef,undef,undef,undef,undef,undef,undef,undef,undef,undef,undef,undef,undef,undef,undef,undef,undef,undef,undef,undef,undef,undef,undef,undef,undef,undef,undef,undef,undef,undef,undef,undef,undef],[]⟩ rfl (by kernel_rfl) ?_;simp only[List.drop_succ_cons,List.drop_zero])
  | (refine Gu.zK rfl 148 rfl _ zW w.heap.size rfl ?_)
  | (refine hoS rfl rfl rfl rfl rfl ?_))
 go_ret
 exact⟨by cases v<;>rfl,yI w _ _⟩
theorem zEM(f:Nat)(v:Bool)(w:World)(hv:(bits .and .u32 (f:Int) 8 !=0)=v)(hs:(bits .and .u32 (f:Int) 2 !=0)=false) :
  Calls Tryz.prog 65 #[.int .i64 8,.int .u32 f] w fun e w'=>e=.returned (.bool (false==true))∧Below w.heap.size w w':=by
 have c0:yW[12]?=some (.int .u32 2):=by kernel_rfl
 have c1:yW[13]?=some (.bool false):=by kernel_rfl
 have c2:yW[14]?=some (.bool false):=by kernel_rfl
 have zW:=(Go.zero_of_info yK).1
 go_enter Tryz.func65,Tryz.ntmps65
 go_wp2_with (first
  | (refine Gu.zL 9 9 _ _ _ ⟨#[.int .i64 8,.int .u32 f,undef,undef,.bool false,undef,undef,undef,undef,.agg #[.int .u32 8,.bool false,.bool false],.agg #[.int .u32 4,.bool false,.bool false],.agg #[.int .u32 1,.bool false,.bool false],.agg #[.int .u32 5,.bool false,.bool false],.agg #[.int .u32 2,.bool false,.bool false],.agg #[.int .u32 0,.bool true,.bool false],.agg #[.int .u32 1,.bool true,.bool false],.agg #[.int .u32 0,.bool false,.bool true],.agg yW,undef,undef,undef,undef,undef,undef,undef,undef,undef,undef,undef,undef,undef,undef,undef,undef,undef,undef,undef,undef,undef,undef,undef,undef,undef,undef,undef,undef,undef,undef,undef,undef,undef,undef,undef,undef,undef,undef,undef],[]⟩ rfl (by kernel_rfl) ?_;simp only[List.drop_succ_cons,List.drop_zero])
  | (refine Gu.zK rfl 148 rfl _ zW w.heap.size rfl ?_)
  | (refine hoS rfl rfl rfl rfl rfl ?_))
 go_ret
 exact⟨by cases v<;>rfl,yI w _ _⟩
theorem ph8(f:Nat)(w:World)(hf:f < 4294967296):Calls Tryz.prog 65 #[.int .i64 8,.int .u32 f] w fun e w'=>e=.returned (.bool (Fl.zO 8 f))∧Below w.heap.size w w':=by
 have b2:=zX f 2 hf aO
 have b8:=zX f 8 hf aO
 have bS:=zX f 2 hf aO
 unfold Fl.zO
 generalize ((f:Int)%2==1)=z at *
 generalize ((f:Int) / 2%2==1)=n at *
 generalize ((f:Int) / 4%2==1)=y at *
 generalize ((f:Int) / 8%2==1)=v at *
 cases z<;>cases n<;>cases y<;>cases v
 ·rw[show Fl.zH 8 false false false false=false from by decide];exact zEM f _ w b8 bS
 ·rw[show Fl.zH 8 false false false true=false from by decide];exact zEM f _ w b8 bS
 ·rw[show Fl.zH 8 false false true false=false from by decide];exact zEM f _ w b8 bS
 ·rw[show Fl.zH 8 false false true true=false from by decide];exact zEM f _ w b8 bS
 ·rw[show Fl.zH 8 false true false false=true from by decide];exact zEN f _ w b8 bS
 ·rw[show Fl.zH 8 false true false true=true from by decide];exact zEN f _ w b8 bS
 ·rw[show Fl.zH 8 false true true false=true from by decide];exact zEN f _ w b8 bS
 ·rw[show Fl.zH 8 false true true true=true from by decide];exact zEN f _ w b8 bS
 ·rw[show Fl.zH 8 true false false false=false from by decide];exact zEM f _ w b8 bS
 ·rw[show Fl.zH 8 true false false true=false from by decide];exact zEM f _ w b8 bS
 ·rw[show Fl.zH 8 true false true false=false from by decide];exact zEM f _ w b8 bS
 ·rw[show Fl.zH 8 true false true true=false from by decide];exact zEM f _ w b8 bS
 ·rw[show Fl.zH 8 true true false false=true from by decide];exact zEN f _ w b8 bS
 ·rw[show Fl.zH 8 true true false true=true from by decide];exact zEN f _ w b8 bS
 ·rw[show Fl.zH 8 true true true false=true from by decide];exact zEN f _ w b8 bS
 ·rw[show Fl.zH 8 true true true true=true from by decide];exact zEN f _ w b8 bS
theorem zEP(f:Nat)(v:Bool)(w:World)(hv:(bits .and .u32 (f:Int) 8 !=0)=v)(hs:(bits .and .u32 (f:Int) 2 !=0)=true) :
  Calls Tryz.prog 65 #[.int .i64 9,.int .u32 f] w fun e w'=>e=.returned (.bool (true==false))∧Below w.heap.size w w':=by
 have c0:yW[12]?=some (.int .u32 2):=by kernel_rfl
 have c1:yW[13]?=some (.bool false):=by kernel_rfl
 have c2:yW[14]?=some (.bool false):=by kernel_rfl
 have zW:=(Go.zero_of_info yK).1
 go_enter Tryz.func65,Tryz.ntmps65
 go_wp2_with (first
  | (refine Gu.zL 9 9 _ _ _ ⟨#[.int .i64 9,.int .u32 f,undef,undef,.bool false,undef,undef,undef,undef,.agg #[.int .u32 8,.bool false,.bool false],.agg #[.int .u32 4,.bool false,.bool false],.agg #[.int .u32 1,.bool false,.bool false],.agg #[.int .u32 5,.bool false,.bool false],.agg #[.int .u32 2,.bool false,.bool false],.agg #[.int .u32 0,.bool true,.bool false],.agg #[.int .u32 1,.bool true,.bool false],.agg #[.int .u32 0,.bool false,.bool true],.agg yW,undef,undef,undef,undef,undef,undef,undef,undef,undef,undef,undef,undef,undef,undef,undef,undef,undef,undef,undef,undef,undef,undef,undef,undef,undef,undef,undef,undef,undef,undef,undef,undef,undef,undef,undef,undef,undef,undef,undef],[]⟩ rfl (by kernel_rfl) ?_;simp only[List.drop_succ_cons,List.drop_zero])
  | (refine Gu.zK rfl 148 rfl _ zW w.heap.size rfl ?_)
  | (refine hoS rfl rfl rfl rfl rfl ?_))
 go_ret
 exact⟨by cases v<;>rfl,yI w _ _⟩
theorem zEO(f:Nat)(v:Bool)(w:World)(hv:(bits .and .u32 (f:Int) 8 !=0)=v)(hs:(bits .and .u32 (f:Int) 2 !=0)=false) :
  Calls Tryz.prog 65 #[.int .i64 9,.int .u32 f] w fun e w'=>e=.returned (.bool (false==false))∧Below w.heap.size w w':=by
 have c0:yW[12]?=some (.int .u32 2):=by kernel_rfl
 have c1:yW[13]?=some (.bool false):=by kernel_rfl
 have c2:yW[14]?=some (.bool false):=by kernel_rfl
 have zW:=(Go.zero_of_info yK).1
 go_enter Tryz.func65,Tryz.ntmps65
 go_wp2_with (first
  | (refine Gu.zL 9 9 _ _ _ ⟨#[.int .i64 9,.int .u32 f,undef,undef,.bool false,undef,undef,undef,undef,.agg #[.int .u32 8,.bool false,.bool false],.agg #[.int .u32 4,.bool false,.bool false],.agg #[.int .u32 1,.bool false,.bool false],.agg #[.int .u32 5,.bool false,.bool false],.agg #[.int .u32 2,.bool false,.bool false],.agg #[.int .u32 0,.bool true,.bool false],.agg #[.int .u32 1,.bool true,.bool false],.agg #[.int .u32 0,.bool false,.bool true],.agg yW,undef,undef,undef,undef,undef,undef,undef,undef,undef,undef,undef,undef,undef,undef,undef,undef,undef,undef,undef,undef,undef,undef,undef,undef,undef,undef,undef,undef,undef,undef,undef,undef,undef,undef,undef,undef,undef,undef,undef],[]⟩ rfl (by kernel_rfl) ?_;simp only[List.drop_succ_cons,List.drop_zero])
  | (refine Gu.zK rfl 148 rfl _ zW w.heap.size rfl ?_)
  | (refine hoS rfl rfl rfl rfl rfl ?_))
 go_ret
 exact⟨by cases v<;>rfl,yI w _ _⟩
theorem ph9(f:Nat)(w:World)(hf:f < 4294967296):Calls Tryz.prog 65 #[.int .i64 9,.int .u32 f] w fun e w'=>e=.returned (.bool (Fl.zO 9 f))∧Below w.heap.size w w':=by
 have b2:=zX f 2 hf aO
 have b8:=zX f 8 hf aO
 have bS:=zX f 2 hf aO
 unfold Fl.zO
 generalize ((f:Int)%2==1)=z at *
 generalize ((f:Int) / 2%2==1)=n at *
 generalize ((f:Int) / 4%2==1)=y at *
 generalize ((f:Int) / 8%2==1)=v at *
 cases z<;>cases n<;>cases y<;>cases v
 ·rw[show Fl.zH 9 false false false false=true from by decide];exact zEO f _ w b8 bS
 ·rw[show Fl.zH 9 false false false true=true from by decide];exact zEO f _ w b8 bS
 ·rw[show Fl.zH 9 false false true false=true from by decide];exact zEO f _ w b8 bS
 ·rw[show Fl.zH 9 false false true true=true from by decide];exact zEO f _ w b8 bS
 ·rw[show Fl.zH 9 false true false false=false from by decide];exact zEP f _ w b8 bS
 ·rw[show Fl.zH 9 false true false true=false from by decide];exact zEP f _ w b8 bS
 ·rw[show Fl.zH 9 false true true false=false from by decide];exact zEP f _ w b8 bS
 ·rw[show Fl.zH 9 false true true true=false from by decide];exact zEP f _ w b8 bS
 ·rw[show Fl.zH 9 true false false false=true from by decide];exact zEO f _ w b8 bS
 ·rw[show Fl.zH 9 true false false true=true from by decide];exact zEO f _ w b8 bS
 ·rw[show Fl.zH 9 true false true false=true from by decide];exact zEO f _ w b8 bS
 ·rw[show Fl.zH 9 true false true true=true from by decide];exact zEO f _ w b8 bS
 ·rw[show Fl.zH 9 true true false false=false from by decide];exact zEP f _ w b8 bS
 ·rw[show Fl.zH 9 true true false true=false from by decide];exact zEP f _ w b8 bS
 ·rw[show Fl.zH 9 true true true false=false from by decide];exact zEP f _ w b8 bS
 ·rw[show Fl.zH 9 true true true true=false from by decide];exact zEP f _ w b8 bS
theorem zAG(f:Nat)(n v:Bool)(w:World)(hn:(bits .and .u32 (f:Int) 2 !=0)=n)(hv:(bits .and .u32 (f:Int) 8 !=0)=v)(hs:(bits .and .u32 (f:Int) 0 !=0)=false) :
  Calls Tryz.prog 65 #[.int .i64 10,.int .u32 f] w fun e w'=>e=.returned (.bool ((n !=v)==true))∧Below w.heap.size w w':=by
 have c0:yW[15]?=some (.int .u32 0):=by kernel_rfl
 have c1:yW[16]?=some (.bool true):=by kernel_rfl
 have c2:yW[17]?=some (.bool false):=by kernel_rfl
 have zW:=(Go.zero_of_info yK).1
 go_enter Tryz.func65,Tryz.ntmps65
 go_wp2_with (first
  | (refine Gu.zL 9 9 _ _ _ ⟨#[.int .i64 10,.int .u32 f,undef,undef,.bool false,undef,undef,undef,undef,.agg #[.int .u32 8,.bool false,.bool false],.agg #[.int .u32 4,.bool false,.bool false],.agg #[.int .u32 1,.bool false,.bool false],.agg #[.int .u32 5,.bool false,.bool false],.agg #[.int .u32 2,.bool false,.bool false],.agg #[.int .u32 0,.bool true,.bool false],.agg #[.int .u32 1,.bool true,.bool false],.agg #[.int .u32 0,.bool false,.bool true],.agg yW,undef,undef,undef,undef,undef,undef,undef,undef,undef,undef,undef,undef,undef,undef,undef,undef,undef,undef,undef,undef,undef,undef,undef,undef,undef,undef,undef,undef,undef,undef,undef,undef,undef,undef,undef,undef,undef,undef,undef],[]⟩ rfl (by kernel_rfl) ?_;simp only[List.drop_succ_cons,List.drop_zero])
  | (refine Gu.zK rfl 148 rfl _ zW w.heap.size rfl ?_)
  | (refine hoS rfl rfl rfl rfl rfl ?_))
 go_ret
 exact⟨by cases n<;>cases v<;>rfl,yI w _ _⟩
theorem zP9(f:Nat)(w:World)(hf:f < 4294967296):Calls Tryz.prog 65 #[.int .i64 10,.int .u32 f] w fun e w'=>e=.returned (.bool (Fl.zO 10 f))∧Below w.heap.size w w':=by
 have b2:=zX f 2 hf aO
 have b8:=zX f 8 hf aO
 have bS:=zX f 0 hf aO
 unfold Fl.zO
 generalize ((f:Int)%2==1)=z at *
 generalize ((f:Int) / 2%2==1)=n at *
 generalize ((f:Int) / 4%2==1)=y at *
 generalize ((f:Int) / 8%2==1)=v at *
 cases z<;>cases n<;>cases y<;>cases v
 ·rw[show Fl.zH 10 false false false false=false from by decide];exact zAG f _ _ w b2 b8 bS
 ·rw[show Fl.zH 10 false false false true=true from by decide];exact zAG f _ _ w b2 b8 bS
 ·rw[show Fl.zH 10 false false true false=false from by decide];exact zAG f _ _ w b2 b8 bS
 ·rw[show Fl.zH 10 false false true true=true from by decide];exact zAG f _ _ w b2 b8 bS
 ·rw[show Fl.zH 10 false true false false=true from by decide];exact zAG f _ _ w b2 b8 bS
 ·rw[show Fl.zH 10 false true false true=false from by decide];exact zAG f _ _ w b2 b8 bS
 ·rw[show Fl.zH 10 false true true false=true from by decide];exact zAG f _ _ w b2 b8 bS
 ·rw[show Fl.zH 10 false true true true=false from by decide];exact zAG f _ _ w b2 b8 bS
 ·rw[show Fl.zH 10 true false false false=false from by decide];exact zAG f _ _ w b2 b8 bS
 ·rw[show Fl.zH 10 true false false true=true from by decide];exact zAG f _ _ w b2 b8 bS
 ·rw[show Fl.zH 10 true false true false=false from by decide];exact zAG f _ _ w b2 b8 bS
 ·rw[show Fl.zH 10 true false true true=true from by decide];exact zAG f _ _ w b2 b8 bS
 ·rw[show Fl.zH 10 true true false false=true from by decide];exact zAG f _ _ w b2 b8 bS
 ·rw[show Fl.zH 10 true true false true=false from by decide];exact zAG f _ _ w b2 b8 bS
 ·rw[show Fl.zH 10 true true true false=true from by decide];exact zAG f _ _ w b2 b8 bS
 ·rw[show Fl.zH 10 true true true true=false from by decide];exact zAG f _ _ w b2 b8 bS
theorem zAH(f:Nat)(n v:Bool)(w:World)(hn:(bits .and .u32 (f:Int) 2 !=0)=n)(hv:(bits .and .u32 (f:Int) 8 !=0)=v)(hs:(bits .and .u32 (f:Int) 0 !=0)=false) :
  Calls Tryz.prog 65 #[.int .i64 11,.int .u32 f] w fun e w'=>e=.returned (.bool ((n !=v)==false))∧Below w.heap.size w w':=by
 have c0:yW[15]?=some (.int .u32 0):=by kernel_rfl
 have c1:yW[16]?=some (.bool true):=by kernel_rfl
 have c2:yW[17]?=some (.bool false):=by kernel_rfl
 have zW:=(Go.zero_of_info yK).1
 go_enter Tryz.func65,Tryz.ntmps65
 go_wp2_with (first
  | (refine Gu.zL 9 9 _ _ _ ⟨#[.int .i64 11,.int .u32 f,undef,undef,.bool false,undef,undef,undef,undef,.agg #[.int .u32 8,.bool false,.bool false],.agg #[.int .u32 4,.bool false,.bool false],.agg #[.int .u32 1,.bool false,.bool false],.agg #[.int .u32 5,.bool false,.bool false],.agg #[.int .u32 2,.bool false,.bool false],.agg #[.int .u32 0,.bool true,.bool false],.agg #[.int .u32 1,.bool true,.bool false],.agg #[.int .u32 0,.bool false,.bool true],.agg yW,undef,undef,undef,undef,undef,undef,undef,undef,undef,undef,undef,undef,undef,undef,undef,undef,undef,undef,undef,undef,undef,undef,undef,undef,undef,undef,undef,undef,undef,undef,undef,undef,undef,undef,undef,undef,undef,undef,undef],[]⟩ rfl (by kernel_rfl) ?_;simp only[List.drop_succ_cons,List.drop_zero])
  | (refine Gu.zK rfl 148 rfl _ zW w.heap.size rfl ?_)
  | (refine hoS rfl rfl rfl rfl rfl ?_))
 go_ret
 exact⟨by cases n<;>cases v<;>rfl,yI w _ _⟩
theorem zQa(f:Nat)(w:World)(hf:f < 4294967296):Calls Tryz.prog 65 #[.int .i64 11,.int .u32 f] w fun e w'=>e=.returned (.bool (Fl.zO 11 f))∧Below w.heap.size w w':=by
 have b2:=zX f 2 hf aO
 have b8:=zX f 8 hf aO
 have bS:=zX f 0 hf aO
 unfold Fl.zO
 generalize ((f:Int)%2==1)=z at *
 generalize ((f:Int) / 2%2==1)=n at *
 generalize ((f:Int) / 4%2==1)=y at *
 generalize ((f:Int) / 8%2==1)=v at *
 cases z<;>cases n<;>cases y<;>cases v
 ·rw[show Fl.zH 11 false false false false=true from by decide];exact zAH f _ _ w b2 b8 bS
 ·rw[show Fl.zH 11 false false false true=false from by decide];exact zAH f _ _ w b2 b8 bS
 ·rw[show Fl.zH 11 false false true false=true from by decide];exact zAH f _ _ w b2 b8 bS
 ·rw[show Fl.zH 11 false false true true=false from by decide];exact zAH f _ _ w b2 b8 bS
 ·rw[show Fl.zH 11 false true false false=false from by decide];exact zAH f _ _ w b2 b8 bS
 ·rw[show Fl.zH 11 false true false true=true from by decide];exact zAH f _ _ w b2 b8 bS
 ·rw[show Fl.zH 11 false true true false=false from by decide];exact zAH f _ _ w b2 b8 bS
 ·rw[show Fl.zH 11 false true true true=true from by decide];exact zAH f _ _ w b2 b8 bS
 ·rw[show Fl.zH 11 true false false false=true from by decide];exact zAH f _ _ w b2 b8 bS
 ·rw[show Fl.zH 11 true false false true=false from by decide];exact zAH f _ _ w b2 b8 bS
 ·rw[show Fl.zH 11 true false true false=true from by decide];exact zAH f _ _ w b2 b8 bS
 ·rw[show Fl.zH 11 true false true true=false from by decide];exact zAH f _ _ w b2 b8 bS
 ·rw[show Fl.zH 11 true true false false=false from by decide];exact zAH f _ _ w b2 b8 bS
 ·rw[show Fl.zH 11 true true false true=true from by decide];exact zAH f _ _ w b2 b8 bS
 ·rw[show Fl.zH 11 true true true false=false from by decide];exact zAH f _ _ w b2 b8 bS
 ·rw[show Fl.zH 11 true true true true=true from by decide];exact zAH f _ _ w b2 b8 bS
theorem zCB(f:Nat)(n v:Bool)(w:World)(hn:(bits .and .u32 (f:Int) 2 !=0)=n)(hv:(bits .and .u32 (f:Int) 8 !=0)=v)(hs:(bits .and .u32 (f:Int) 1 !=0)=true) :
  Calls Tryz.prog 65 #[.int .i64 12,.int .u32 f] w fun e w'=>e=.returned (.bool (true==true))∧Below w.heap.size w w':=by
 have c0:yW[18]?=some (.int .u32 1):=by kernel_rfl
 have c1:yW[19]?=some (.bool true):=by kernel_rfl
 have c2:yW[20]?=some (.bool false):=by kernel_rfl
 have zW:=(Go.zero_of_info yK).1
 go_enter Tryz.func65,Tryz.ntmps65
 go_wp2_with (first
  | (refine Gu.zL 9 9 _ _ _ ⟨#[.int .i64 12,.int .u32 f,undef,undef,.bool false,undef,undef,undef,undef,.agg #[.int .u32 8,.bool false,.bool false],.agg #[.int .u32 4,.bool false,.bool false],.agg #[.int .u32 1,.bool false,.bool false],.agg #[.int .u32 5,.bool false,.bool false],.agg #[.int .u32 2,.bool false,.bool false],.agg #[.int .u32 0,.bool true,.bool false],.agg #[.int .u32 1,.bool true,.bool false],.agg #[.int .u32 0,.bool false,.bool true],.agg yW,undef,undef,undef,undef,undef,undef,undef,undef,undef,undef,undef,undef,undef,undef,undef,undef,undef,undef,undef,undef,undef,undef,undef,undef,undef,undef,undef,undef,undef,undef,undef,undef,undef,undef,undef,undef,undef,undef,undef],[]⟩ rfl (by kernel_rfl) ?_;simp only[List.drop_succ_cons,List.drop_zero])
  | (refine Gu.zK rfl 148 rfl _ zW w.heap.size rfl ?_)
  | (refine hoS rfl rfl rfl rfl rfl ?_))
 go_ret
 exact⟨by cases n<;>cases v<;>rfl,yI w _ _⟩
theorem zCA(f:Nat)(n v:Bool)(w:World)(hn:(bits .and .u32 (f:Int) 2 !=0)=n)(hv:(bits .and .u32 (f:Int) 8 !=0)=v)(hs:(bits .and .u32 (f:Int) 1 !=0)=false) :
  Calls Tryz.prog 65 #[.int .i64 12,.int .u32 f] w fun e w'=>e=.returned (.bool ((n !=v)==true))∧Below w.heap.size w w':=by
 have c0:yW[18]?=some (.int .u32 1):=by kernel_rfl
 have c1:yW[19]?=some (.bool true):=by kernel_rfl
 have c2:yW[20]?=some (.bool false):=by kernel_rfl
 have zW:=(Go.zero_of_info yK).1
 go_enter Tryz.func65,Tryz.ntmps65
 go_wp2_with (first
  | (refine Gu.zL 9 9 _ _ _ ⟨#[.int .i64 12,.int .u32 f,undef,undef,.bool false,undef,undef,undef,undef,.agg #[.int .u32 8,.bool false,.bool false],.agg #[.int .u32 4,.bool false,.bool false],.agg #[.int .u32 1,.bool false,.bool false],.agg #[.int .u32 5,.bool false,.bool false],.agg #[.int .u32 2,.bool false,.bool false],.agg #[.int .u32 0,.bool true,.bool false],.agg #[.int .u32 1,.bool true,.bool false],.agg #[.int .u32 0,.bool false,.bool true],.agg yW,undef,undef,undef,undef,undef,undef,undef,undef,undef,undef,undef,undef,undef,undef,undef,undef,undef,undef,undef,undef,undef,undef,undef,undef,undef,undef,undef,undef,undef,undef,undef,undef,undef,undef,undef,undef,undef,undef,undef],[]⟩ rfl (by kernel_rfl) ?_;simp only[List.drop_succ_cons,List.drop_zero])
  | (refine Gu.zK rfl 148 rfl _ zW w.heap.size rfl ?_)
  | (refine hoS rfl rfl rfl rfl rfl ?_))
 go_ret
 exact⟨by cases n<;>cases v<;>rfl,yI w _ _⟩
theorem zQb(f:Nat)(w:World)(hf:f < 4294967296):Calls Tryz.prog 65 #[.int .i64 12,.int .u32 f] w fun e w'=>e=.returned (.bool (Fl.zO 12 f))∧Below w.heap.size w w':=by
 have b2:=zX f 2 hf aO
 have b8:=zX f 8 hf aO
 have bS:=zX f 1 hf aO
 unfold Fl.zO
 generalize ((f:Int)%2==1)=z at *
 generalize ((f:Int) / 2%2==1)=n at *
 generalize ((f:Int) / 4%2==1)=y at *
 generalize ((f:Int) / 8%2==1)=v at *
 cases z<;>cases n<;>cases y<;>cases v
 ·rw[show Fl.zH 12 false false false false=false from by decide];exact zCA f _ _ w b2 b8 bS
 ·rw[show Fl.zH 12 false false false true=true from by decide];exact zCA f _ _ w b2 b8 bS
 ·rw[show Fl.zH 12 false false true false=false from by decide];exact zCA f _ _ w b2 b8 bS
 ·rw[show Fl.zH 12 false false true true=true from by decide];exact zCA f _ _ w b2 b8 bS
 ·rw[show Fl.zH 12 false true false false=true from by decide];exact zCA f _ _ w b2 b8 bS
 ·rw[show Fl.zH 12 false true false true=false from by decide];exact zCA f _ _ w b2 b8 bS
 ·rw[show Fl.zH 12 false true true false=true from by decide];exact zCA f _ _ w b2 b8 bS
 ·rw[show Fl.zH 12 false true true true=false from by decide];exact zCA f _ _ w b2 b8 bS
 ·rw[show Fl.zH 12 true false false false=true from by decide];exact zCB f _ _ w b2 b8 bS
 ·rw[show Fl.zH 12 true false false true=true from by decide];exact zCB f _ _ w b2 b8 bS
 ·rw[show Fl.zH 12 true false true false=true from by decide];exact zCB f _ _ w b2 b8 bS
 ·rw[show Fl.zH 12 true false true true=true from by decide];exact zCB f _ _ w b2 b8 bS
 ·rw[show Fl.zH 12 true true false false=true from by decide];exact zCB f _ _ w b2 b8 bS
 ·rw[show Fl.zH 12 true true false true=true from by decide];exact zCB f _ _ w b2 b8 bS
 ·rw[show Fl.zH 12 true true true false=true from by decide];exact zCB f _ _ w b2 b8 bS
 ·rw[show Fl.zH 12 true true true true=true from by decide];exact zCB f _ _ w b2 b8 bS
theorem zCD(f:Nat)(n v:Bool)(w:World)(hn:(bits .and .u32 (f:Int) 2 !=0)=n)(hv:(bits .and .u32 (f:Int) 8 !=0)=v)(hs:(bits .and .u32 (f:Int) 1 !=0)=true) :
  Calls Tryz.prog 65 #[.int .i64 13,.int .u32 f] w fun e w'=>e=.returned (.bool (true==false))∧Below w.heap.size w w':=by
 have c0:yW[18]?=some (.int .u32 1):=by kernel_rfl
 have c1:yW[19]?=some (.bool true):=by kernel_rfl
 have c2:yW[20]?=some (.bool false):=by kernel_rfl
 have zW:=(Go.zero_of_info yK).1
 go_enter Tryz.func65,Tryz.ntmps65
 go_wp2_with (first
  | (refine Gu.zL 9 9 _ _ _ ⟨#[.int .i64 13,.int .u32 f,undef,undef,.bool false,undef,undef,undef,undef,.agg #[.int .u32 8,.bool false,.bool false],.agg #[.int .u32 4,.bool false,.bool false],.agg #[.int .u32 1,.bool false,.bool false],.agg #[.int .u32 5,.bool false,.bool false],.agg #[.int .u32 2,.bool false,.bool false],.agg #[.int .u32 0,.bool true,.bool false],.agg #[.int .u32 1,.bool true,.bool false],.agg #[.int .u32 0,.bool false,.bool true],.agg yW,undef,undef,undef,undef,undef,undef,undef,undef,undef,undef,undef,undef,undef,undef,undef,undef,undef,undef,undef,undef,undef,undef,undef,undef,undef,undef,undef,undef,undef,undef,undef,undef,undef,undef,undef,undef,undef,undef,undef],[]⟩ rfl (by kernel_rfl) ?_;simp only[List.drop_succ_cons,List.drop_zero])
  | (refine Gu.zK rfl 148 rfl _ zW w.heap.size rfl ?_)
  | (refine hoS rfl rfl rfl rfl rfl ?_))
 go_ret
 exact⟨by cases n<;>cases v<;>rfl,yI w _ _⟩
theorem zCC(f:Nat)(n v:Bool)(w:World)(hn:(bits .and .u32 (f:Int) 2 !=0)=n)(hv:(bits .and .u32 (f:Int) 8 !=0)=v)(hs:(bits .and .u32 (f:Int) 1 !=0)=false) :
  Calls Tryz.prog 65 #[.int .i64 13,.int .u32 f] w fun e w'=>e=.returned (.bool ((n !=v)==false))∧Below w.heap.size w w':=by
 have c0:yW[18]?=some (.int .u32 1):=by kernel_rfl
 have c1:yW[19]?=some (.bool true):=by kernel_rfl
 have c2:yW[20]?=some (.bool false):=by kernel_rfl
 have zW:=(Go.zero_of_info yK).1
 go_enter Tryz.func65,Tryz.ntmps65
 go_wp2_with (first
  | (refine Gu.zL 9 9 _ _ _ ⟨#[.int .i64 13,.int .u32 f,undef,undef,.bool false,undef,undef,undef,undef,.agg #[.int .u32 8,.bool false,.bool false],.agg #[.int .u32 4,.bool false,.bool false],.agg #[.int .u32 1,.bool false,.bool false],.agg #[.int .u32 5,.bool false,.bool false],.agg #[.int .u32 2,.bool false,.bool false],.agg #[.int .u32 0,.bool true,.bool false],.agg #[.int .u32 1,.bool true,.bool false],.agg #[.int .u32 0,.bool false,.bool true],.agg yW,undef,undef,undef,undef,undef,undef,undef,undef,undef,undef,undef,undef,undef,undef,undef,undef,undef,undef,undef,undef,undef,undef,undef,undef,undef,undef,undef,undef,undef,undef,undef,undef,undef,undef,undef,undef,undef,undef,undef],[]⟩ rfl (by kernel_rfl) ?_;simp only[List.drop_succ_cons,List.drop_zero])
  | (refine Gu.zK rfl 148 rfl _ zW w.heap.size rfl ?_)
  | (refine hoS rfl rfl rfl rfl rfl ?_))
 go_ret
 exact⟨by cases n<;>cases v<;>rfl,yI w _ _⟩
theorem zQc(f:Nat)(w:World)(hf:f < 4294967296):Calls Tryz.prog 65 #[.int .i64 13,.int .u32 f] w fun e w'=>e=.returned (.bool (Fl.zO 13 f))∧Below w.heap.size w w':=by
 have b2:=zX f 2 hf aO
 have b8:=zX f 8 hf aO
 have bS:=zX f 1 hf aO
 unfold Fl.zO
 generalize ((f:Int)%2==1)=z at *
 generalize ((f:Int) / 2%2==1)=n at *
 generalize ((f:Int) / 4%2==1)=y at *
 generalize ((f:Int) / 8%2==1)=v at *
 cases z<;>cases n<;>cases y<;>cases v
 ·rw[show Fl.zH 13 false false false false=true from by decide];exact zCC f _ _ w b2 b8 bS
 ·rw[show Fl.zH 13 false false false true=false from by decide];exact zCC f _ _ w b2 b8 bS
 ·rw[show Fl.zH 13 false false true false=true from by decide];exact zCC f _ _ w b2 b8 bS
 ·rw[show Fl.zH 13 false false true true=false from by decide];exact zCC f _ _ w b2 b8 bS
 ·rw[show Fl.zH 13 false true false false=false from by decide];exact zCC f _ _ w b2 b8 bS
 ·rw[show Fl.zH 13 false true false true=true from by decide];exact zCC f _ _ w b2 b8 bS
 ·rw[show Fl.zH 13 false true true false=false from by decide];exact zCC f _ _ w b2 b8 bS
 ·rw[show Fl.zH 13 false true true true=true from by decide];exact zCC f _ _ w b2 b8 bS
 ·rw[show Fl.zH 13 true false false false=false from by decide];exact zCD f _ _ w b2 b8 bS
 ·rw[show Fl.zH 13 true false false true=false from by decide];exact zCD f _ _ w b2 b8 bS
 ·rw[show Fl.zH 13 true false true false=false from by decide];exact zCD f _ _ w b2 b8 bS
 ·rw[show Fl.zH 13 true false true true=false from by decide];exact zCD f _ _ w b2 b8 bS
 ·rw[show Fl.zH 13 true true false false=false from by decide];exact zCD f _ _ w b2 b8 bS
 ·rw[show Fl.zH 13 true true false true=false from by decide];exact zCD f _ _ w b2 b8 bS
 ·rw[show Fl.zH 13 true true true false=false from by decide];exact zCD f _ _ w b2 b8 bS
 ·rw[show Fl.zH 13 true true true true=false from by decide];exact zCD f _ _ w b2 b8 bS
theorem zAI(f:Nat)(n v:Bool)(w:World)(hn:(bits .and .u32 (f:Int) 2 !=0)=n)(hv:(bits .and .u32 (f:Int) 8 !=0)=v)(hs:(bits .and .u32 (f:Int) 0 !=0)=false) :
  Calls Tryz.prog 65 #[.int .i64 14,.int .u32 f] w fun e w'=>e=.returned (.bool (true==true))∧Below w.heap.size w w':=by
 have c0:yW[21]?=some (.int .u32 0):=by kernel_rfl
 have c1:yW[22]?=some (.bool false):=by kernel_rfl
 have c2:yW[23]?=some (.bool true):=by kernel_rfl
 have zW:=(Go.zero_of_info yK).1
 go_enter Tryz.func65,Tryz.ntmps65
 go_wp2_with (first
  | (refine Gu.zL 9 9 _ _ _ ⟨#[.int .i64 14,.int .u32 f,undef,undef,.bool false,undef,undef,undef,undef,.agg #[.int .u32 8,.bool false,.bool false],.agg #[.int .u32 4,.bool false,.bool false],.agg #[.int .u32 1,.bool false,.bool false],.agg #[.int .u32 5,.bool false,.bool false],.agg #[.int .u32 2,.bool false,.bool false],.agg #[.int .u32 0,.bool true,.bool false],.agg #[.int .u32 1,.bool true,.bool false],.agg #[.int .u32 0,.bool false,.bool true],.agg yW,undef,undef,undef,undef,undef,undef,undef,undef,undef,undef,undef,undef,undef,undef,undef,undef,undef,undef,undef,undef,undef,undef,undef,undef,undef,undef,undef,undef,undef,undef,undef,undef,undef,undef,undef,undef,undef,undef,undef],[]⟩ rfl (by kernel_rfl) ?_;simp only[List.drop_succ_cons,List.drop_zero])
  | (refine Gu.zK rfl 148 rfl _ zW w.heap.size rfl ?_)
  | (refine hoS rfl rfl rfl rfl rfl ?_))
 go_ret
 exact⟨by cases n<;>cases v<;>rfl,yI w _ _⟩
theorem zQd(f:Nat)(w:World)(hf:f < 4294967296):Calls Tryz.prog 65 #[.int .i64 14,.int .u32 f] w fun e w'=>e=.returned (.bool (Fl.zO 14 f))∧Below w.heap.size w w':=by
 have b2:=zX f 2 hf aO
 have b8:=zX f 8 hf aO
 have bS:=zX f 0 hf aO
 unfold Fl.zO
 generalize ((f:Int)%2==1)=z at *
 generalize ((f:Int) / 2%2==1)=n at *
 generalize ((f:Int) / 4%2==1)=y at *
 generalize ((f:Int) / 8%2==1)=v at *
 cases z<;>cases n<;>cases y<;>cases v
 ·rw[show Fl.zH 14 false false false false=true from by decide];exact zAI f _ _ w b2 b8 bS
 ·rw[show Fl.zH 14 false false false true=true from by decide];exact zAI f _ _ w b2 b8 bS
 ·rw[show Fl.zH 14 false false true false=true from by decide];exact zAI f _ _ w b2 b8 bS
 ·rw[show Fl.zH 14 false false true true=true from by decide];exact zAI f _ _ w b2 b8 bS
 ·rw[show Fl.zH 14 false true false false=true from by decide];exact zAI f _ _ w b2 b8 bS
 ·rw[show Fl.zH 14 false true false true=true from by decide];exact zAI f _ _ w b2 b8 bS
 ·rw[show Fl.zH 14 false true true false=true from by decide];exact zAI f _ _ w b2 b8 bS
 ·rw[show Fl.zH 14 false true true true=true from by decide];exact zAI f _ _ w b2 b8 bS
 ·rw[show Fl.zH 14 true false false false=true from by decide];exact zAI f _ _ w b2 b8 bS
 ·rw[show Fl.zH 14 true false false true=true from by decide];exact zAI f _ _ w b2 b8 bS
 ·rw[show Fl.zH 14 true false true false=true from by decide];exact zAI f _ _ w b2 b8 bS
 ·rw[show Fl.zH 14 true false true true=true from by decide];exact zAI f _ _ w b2 b8 bS
 ·rw[show Fl.zH 14 true true false false=true from by decide];exact zAI f _ _ w b2 b8 bS
 ·rw[show Fl.zH 14 true true false true=true from by decide];exact zAI f _ _ w b2 b8 bS
 ·rw[show Fl.zH 14 true true true false=true from by decide];exact zAI f _ _ w b2 b8 bS
 ·rw[show Fl.zH 14 true true true true=true from by decide];exact zAI f _ _ w b2 b8 bS
theorem zAJ(f:Nat)(n v:Bool)(w:World)(hn:(bits .and .u32 (f:Int) 2 !=0)=n)(hv:(bits .and .u32 (f:Int) 8 !=0)=v)(hs:(bits .and .u32 (f:Int) 0 !=0)=false) :
  Calls Tryz.prog 65 #[.int .i64 15,.int .u32 f] w fun e w'=>e=.returned (.bool (true==false))∧Below w.heap.size w w':=by
 have c0:yW[21]?=some (.int .u32 0):=by kernel_rfl
 have c1:yW[22]?=some (.bool false):=by kernel_rfl
 have c2:yW[23]?=some (.bool true):=by kernel_rfl
 have zW:=(Go.zero_of_info yK).1
 go_enter Tryz.func65,Tryz.ntmps65
 go_wp2_with (first
  | (refine Gu.zL 9 9 _ _ _ ⟨#[.int .i64 15,.int .u32 f,undef,undef,.bool false,undef,undef,undef,undef,.agg #[.int .u32 8,.bool false,.bool false],.agg #[.int .u32 4,.bool false,.bool false],.agg #[.int .u32 1,.bool false,.bool false],.agg #[.int .u32 5,.bool false,.bool false],.agg #[.int .u32 2,.bool false,.bool false],.agg #[.int .u32 0,.bool true,.bool false],.agg #[.int .u32 1,.bool true,.bool false],.agg #[.int .u32 0,.bool false,.bool true],.agg yW,undef,undef,undef,undef,undef,undef,undef,undef,undef,undef,undef,undef,undef,undef,undef,undef,undef,undef,undef,undef,undef,undef,undef,undef,undef,undef,undef,undef,undef,undef,undef,undef,undef,undef,undef,undef,undef,undef,undef],[]⟩ rfl (by kernel_rfl) ?_;simp only[List.drop_succ_cons,List.drop_zero])
  | (refine Gu.zK rfl 148 rfl _ zW w.heap.size rfl ?_)
  | (refine hoS rfl rfl rfl rfl rfl ?_))
 go_ret
 exact⟨by cases n<;>cases v<;>rfl,yI w _ _⟩
theorem zQe(f:Nat)(w:World)(hf:f < 4294967296):Calls Tryz.prog 65 #[.int .i64 15,.int .u32 f] w fun e w'=>e=.returned (.bool (Fl.zO 15 f))∧Below w.heap.size w w':=by
 have b2:=zX f 2 hf aO
 have b8:=zX f 8 hf aO
 have bS:=zX f 0 hf aO
 unfold Fl.zO
 generalize ((f:Int)%2==1)=z at *
 generalize ((f:Int) / 2%2==1)=n at *
 generalize ((f:Int) / 4%2==1)=y at *
 generalize ((f:Int) / 8%2==1)=v at *
 cases z<;>cases n<;>cases y<;>cases v
 ·rw[show Fl.zH 15 false false false false=false from by decide];exact zAJ f _ _ w b2 b8 bS
 ·rw[show Fl.zH 15 false false false true=false from by decide];exact zAJ f _ _ w b2 b8 bS
 ·rw[show Fl.zH 15 false false true false=false from by decide];exact zAJ f _ _ w b2 b8 bS
 ·rw[show Fl.zH 15 false false true true=false from by decide];exact zAJ f _ _ w b2 b8 bS
 ·rw[show Fl.zH 15 false true false false=false from by decide];exact zAJ f _ _ w b2 b8 bS
 ·rw[show Fl.zH 15 false true false true=false from by decide];exact zAJ f _ _ w b2 b8 bS
 ·rw[show Fl.zH 15 false true true false=false from by decide];exact zAJ f _ _ w b2 b8 bS
 ·rw[show Fl.zH 15 false true true true=false from by decide];exact zAJ f _ _ w b2 b8 bS
 ·rw[show Fl.zH 15 true false false false=false from by decide];exact zAJ f _ _ w b2 b8 bS
 ·rw[show Fl.zH 15 true false false true=false from by decide];exact zAJ f _ _ w b2 b8 bS
 ·rw[show Fl.zH 15 true false true false=false from by decide];exact zAJ f _ _ w b2 b8 bS
 ·rw[show Fl.zH 15 true false true true=false from by decide];exact zAJ f _ _ w b2 b8 bS
 ·rw[show Fl.zH 15 true true false false=false from by decide];exact zAJ f _ _ w b2 b8 bS
 ·rw[show Fl.zH 15 true true false true=false from by decide];exact zAJ f _ _ w b2 b8 bS
 ·rw[show Fl.zH 15 true true true false=false from by decide];exact zAJ f _ _ w b2 b8 bS
 ·rw[show Fl.zH 15 true true true true=false from by decide];exact zAJ f _ _ w b2 b8 bS
end Go.Proofs.YthcpipfmicbnmaaGreat.Va
