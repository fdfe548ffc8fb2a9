import Derived.Test.YthcpipfmicbnmaaGreatWJ29
set_option linter.unusedVariables false
set_option linter.unusedSimpArgs false
set_option maxHeartbeats 1000000
namespace Go.Proofs.YthcpipfmicbnmaaGreat.Va
open Go.RowKit
set_option maxRecDepth 100000
theorem zPy(a b old o16:Nat)(w:World)(ha:a < 4294967296)(hb:b < 4294967296)(ho:old < 4294967296)(h16:old%16=o16) :
  Calls Tryz.prog 81 #[.int .i64 0,.int .u32 a,.int .u32 b,.int .u32 old] w fun e w'=>e=.returned (.tuple #[.int .u32 ((a:Int)),.int .u32 ((o16:Int))])∧Below w.heap.size w w':=by
 have h15:bits .and .u32 (old:Int) 15=(o16:Int):=by rw[zAl old ho,h16]
 have ho16:o16 < 16:=aO
 have c0:uP[0]?=some (.int .u8 0):=by kernel_rfl
 have c1:uP[1]?=some (.bool false):=by kernel_rfl
 have c2:uP[2]?=some (.bool false):=by kernel_rfl
 have zW:=(Go.zero_of_info vI).1
 have H16:Hid _:=h16
 clear h16
 go_enter Tryz.func81,Tryz.ntmps81
 go_wp2_with (first
  | (refine Gu.zL 14 14 _ _ _ ⟨#[.int .i64 0,.int .u32 a,.int .u32 b,.int .u32 old,undef,undef,undef,undef,.int .u32 0,.int .u32 0,undef,undef,undef,undef,.agg #[.int .u8 0,.bool false,.bool false],.agg #[.int .u8 1,.bool false,.bool false],.agg #[.int .u8 1,.bool true,.bool false],.agg #[.int .u8 2,.bool false,.bool false],.agg #[.int .u8 2,.bool true,.bool false],.agg #[.int .u8 3,.bool false,.bool false],.agg #[.int .u8 5,.bool false,.bool false],.agg #[.int .u8 6,.bool false,.bool false],.agg #[.int .u8 7,.bool false,.bool false],.agg #[.int .u8 8,.bool false,.bool false],.agg #[.int .u8 4,.bool false,.bool false],.agg #[.int .u8 1,.bool false,.bool true],.agg #[.int .u8 2,.bool false,.bool true],.agg uP,undef,undef,undef,undef,undef,undef,undef,undef,undef,undef,undef,undef,undef,undef,undef,undef,undef,undef,undef,undef,undef,undef,undef,undef,undef,undef,undef,undef,undef,undef,undef,undef,undef,undef,undef,undef,undef,undef,undef,undef,undef,undef,undef,undef,undef,undef,undef,undef,undef,undef,undef,undef,undef,undef,undef,undef,undef,undef,undef,undef,undef,undef,undef,undef,undef,undef,undef,undef,undef,undef,undef,undef,undef,undef],[]⟩ rfl (by kernel_rfl) ?_;simp only[List.drop_succ_cons,List.drop_zero])
  | (refine Gu.zK rfl 166 rfl _ zW w.heap.size rfl ?_)
  | (refine wkS rfl rfl rfl rfl rfl ?_)
  | fail)
 go_ret2
 exact⟨zAC rfl rfl,yI w _ _⟩
theorem zPz(a b old o16:Nat)(w:World)(ha:a < 4294967296)(hb:b < 4294967296)(ho:old < 4294967296)(h16:old%16=o16) :
  Calls Tryz.prog 81 #[.int .i64 1,.int .u32 a,.int .u32 b,.int .u32 old] w fun e w'=>e=.returned (.tuple #[.int .u32 (((a:Int)+b)%4294967296),.int .u32 (Fl.zBa a b 0)])∧Below w.heap.size w w':=by
 have h15:bits .and .u32 (old:Int) 15=(o16:Int):=by rw[zAl old ho,h16]
 have ho16:o16 < 16:=aO
 have c0:uP[3]?=some (.int .u8 1):=by kernel_rfl
 have c1:uP[4]?=some (.bool false):=by kernel_rfl
 have c2:uP[5]?=some (.bool false):=by kernel_rfl
 have zW:=(Go.zero_of_info vI).1
 have H16:Hid _:=h16
 clear h16
 go_enter Tryz.func81,Tryz.ntmps81
 go_wp2_with (first
  | (refine Gu.zL 14 14 _ _ _ ⟨#[.int .i64 1,.int .u32 a,.int .u32 b,.int .u32 old,undef,undef,undef,undef,.int .u32 0,.int .u32 0,undef,undef,undef,undef,.agg #[.int .u8 0,.bool false,.bool false],.agg #[.int .u8 1,.bool false,.bool false],.agg #[.int .u8 1,.bool true,.bool false],.agg #[.int .u8 2,.bool false,.bool false],.agg #[.int .u8 2,.bool true,.bool false],.agg #[.int .u8 3,.bool false,.bool false],.agg #[.int .u8 5,.bool false,.bool false],.agg #[.int .u8 6,.bool false,.bool false],.agg #[.int .u8 7,.bool false,.bool false],.agg #[.int .u8 8,.bool false,.bool false],.agg #[.int .u8 4,.bool false,.bool false],.agg #[.int .u8 1,.bool false,.bool true],.agg #[.int .u8 2,.bool false,.bool true],.agg uP,undef,undef,undef,undef,undef,undef,undef,undef,undef,undef,undef,undef,undef,undef,undef,undef,undef,undef,undef,undef,undef,undef,undef,undef,undef,undef,undef,undef,undef,undef,undef,undef,undef,undef,undef,undef,undef,undef,undef,undef,undef,undef,undef,undef,undef,undef,undef,undef,undef,undef,undef,undef,undef,undef,undef,undef,undef,undef,undef,undef,undef,undef,undef,undef,undef,undef,undef,undef,undef,undef,undef,undef,undef,undef],[]⟩ rfl (by kernel_rfl) ?_;simp only[List.drop_succ_cons,List.drop_zero])
  | (refine Gu.zK rfl 166 rfl _ zW w.heap.size rfl ?_)
  | (refine wkS rfl rfl rfl rfl rfl ?_)
  | (go_at_call 98;refine(zCp a b 0 _ ha hb aO).mono ?_;rintro e w1 ⟨rfl,rfl⟩))
 go_ret2
 exact⟨zAC rfl rfl,yI w _ _⟩
theorem zPA(a b old o16:Nat)(w:World)(ha:a < 4294967296)(hb:b < 4294967296)(ho:old < 4294967296)(h16:old%16=o16) :
  Calls Tryz.prog 81 #[.int .i64 2,.int .u32 a,.int .u32 b,.int .u32 old] w fun e w'=>e=.returned (.tuple #[.int .u32 (((a:Int)+b+Fl.vM old)%4294967296),.int .u32 (Fl.zBa a b (Fl.vM old))])∧Below w.heap.size w w':=by
 have h15:bits .and .u32 (old:Int) 15=(o16:Int):=by rw[zAl old ho,h16]
 have ho16:o16 < 16:=aO
 obtain⟨c,hc⟩:∃ c:Nat,o16 / 4%2=c:=⟨_,rfl⟩
 have hcl:c≤1:=aO
 have hc1:bits .and .u32 ((o16:Int) / 4) 1=(c:Int):=by
  have:=zEy (o16 / 4) aO
  have e:((o16 / 4:Nat):Int)=(o16:Int) / 4:=aO
  rw[e] at this
  rw[this];omega
 have hcf:Fl.vM old=(c:Int):=by unfold Fl.vM;rw[h16,hc]
 have HCF:Hid _:=hcf
 have HC:Hid _:=hc
 clear hcf hc
 have c0:uP[6]?=some (.int .u8 1):=by kernel_rfl
 have c1:uP[7]?=some (.bool true):=by kernel_rfl
 have c2:uP[8]?=some (.bool false):=by kernel_rfl
 have zW:=(Go.zero_of_info vI).1
 have H16:Hid _:=h16
 clear h16
 go_enter Tryz.func81,Tryz.ntmps81
 go_wp2_with (first
  | (refine Gu.zL 14 14 _ _ _ ⟨#[.int .i64 2,.int .u32 a,.int .u32 b,.int .u32 old,undef,undef,undef,undef,.int .u32 0,.int .u32 0,undef,undef,undef,undef,.agg #[.int .u8 0,.bool false,.bool false],.agg #[.int .u8 1,.bool false,.bool false],.agg #[.int .u8 1,.bool true,.bool false],.agg #[.int .u8 2,.bool false,.bool false],.agg #[.int .u8 2,.bool true,.bool false],.agg #[.int .u8 3,.bool false,.bool false],.agg #[.int .u8 5,.bool false,.bool false],.agg #[.int .u8 6,.bool false,.bool false],.agg #[.int .u8 7,.bool false,.bool false],.agg #[.int .u8 8,.bool false,.bool false],.agg #[.int .u8 4,.bool false,.bool false],.agg #[.int .u8 1,.bool false,.bool true],.agg #[.int .u8 2,.bool false,.bool true],.agg uP,undef,undef,undef,undef,undef,undef,undef,undef,undef,undef,undef,undef,undef,undef,undef,undef,undef,undef,undef,undef,undef,undef,undef,undef,undef,undef,undef,undef,undef,undef,undef,undef,undef,undef,undef,undef,undef,undef,undef,undef,undef,undef,undef,undef,undef,undef,undef,undef,undef,undef,undef,undef,undef,undef,undef,undef,undef,undef,undef,undef,undef,undef,undef,undef,undef,undef,undef,undef,undef,undef,undef,undef,undef,undef],[]⟩ rfl (by kernel_rfl) ?_;simp only[List.drop_succ_cons,List.drop_zero])
  | (refine Gu.zK rfl 166 rfl _ zW w.heap.size rfl ?_)
  | (refine wkS rfl rfl rfl rfl rfl ?_)
  | (go_at_call 98;refine(zCp a b c _ ha hb hcl).mono ?_;rintro e w1 ⟨rfl,rfl⟩))
 go_ret2
 exact⟨by rw[HCF.out];exact zAC rfl rfl,yI w _ _⟩
theorem zPB(a b old o16:Nat)(w:World)(ha:a < 4294967296)(hb:b < 4294967296)(ho:old < 4294967296)(h16:old%16=o16) :
  Calls Tryz.prog 81 #[.int .i64 3,.int .u32 a,.int .u32 b,.int .u32 old] w fun e w'=>e=.returned (.tuple #[.int .u32 (((a:Int) - b)%4294967296),.int .u32 (Fl.zBi a b 0)])∧Below w.heap.size w w':=by
 have h15:bits .and .u32 (old:Int) 15=(o16:Int):=by rw[zAl old ho,h16]
 have ho16:o16 < 16:=aO
 have c0:uP[9]?=some (.int .u8 2):=by kernel_rfl
 have c1:uP[10]?=some (.bool false):=by kernel_rfl
 have c2:uP[11]?=some (.bool false):=by kernel_rfl
 have zW:=(Go.zero_of_info vI).1
 have H16:Hid _:=h16
 clear h16
 go_enter Tryz.func81,Tryz.ntmps81
 go_wp2_with (first
  | (refine Gu.zL 14 14 _ _ _ ⟨#[.int .i64 3,.int .u32 a,.int .u32 b,.int .u32 old,undef,undef,undef,undef,.int .u32 0,.int .u32 0,undef,undef,undef,undef,.agg #[.int .u8 0,.bool false,.bool false],.agg #[.int .u8 1,.bool false,.bool false],.agg #[.int .u8 1,.bool true,.bool false],.agg #[.int .u8 2,.bool false,.bool false],.agg #[.int .u8 2,.bool true,.bool false],.agg #[.int .u8 3,.bool false,.bool false],.agg #[.int .u8 5,.bool false,.bool false],.agg #[.int .u8 6,.bool false,.bool false],.agg #[.int .u8 7,.bool false,.bool false],.agg #[.int .u8 8,.bool false,.bool false],.agg #[.int .u8 4,.bool false,.bool false],.agg #[.int .u8 1,.bool false,.bool true],.agg #[.int .u8 2,.bool false,.bool true],.agg uP,undef,undef,undef,undef,undef,undef,undef,undef,undef,undef,undef,undef,undef,undef,undef,undef,undef,undef,undef,undef,undef,undef,undef,undef,undef,undef,undef,undef,undef,undef,undef,undef,undef,undef,undef,undef,undef,undef,undef,undef,undef,undef,undef,undef,undef,undef,undef,undef,undef,undef,undef,undef,undef,undef,undef,undef,undef,undef,undef,undef,undef,undef,undef,undef,undef,undef,undef,undef,undef,undef,undef,undef,undef,undef],[]⟩ rfl (by kernel_rfl) ?_;simp only[List.drop_succ_cons,List.drop_zero])
  | (refine Gu.zK rfl 166 rfl _ zW w.heap.size rfl ?_)
  | (refine wkS rfl rfl rfl rfl rfl ?_)
  | (go_at_call 98;refine(zCq a b 0 _ ha hb aO).mono ?_;rintro e w1 ⟨rfl,rfl⟩))
 go_ret2
 exact⟨zAC rfl rfl,yI w _ _⟩
theorem zPC(a b old o16:Nat)(w:World)(ha:a < 4294967296)(hb:b < 4294967296)(ho:old < 4294967296)(h16:old%16=o16) :
  Calls Tryz.prog 81 #[.int .i64 4,.int .u32 a,.int .u32 b,.int .u32 old] w fun e w'=>e=.returned (.tuple #[.int .u32 (((a:Int) - b - Fl.vM old)%4294967296),.int .u32 (Fl.zBi a b (Fl.vM old))])∧Below w.heap.size w w':=by
 have h15:bits .and .u32 (old:Int) 15=(o16:Int):=by rw[zAl old ho,h16]
 have ho16:o16 < 16:=aO
 obtain⟨c,hc⟩:∃ c:Nat,o16 / 4%2=c:=⟨_,rfl⟩
 have hcl:c≤1:=aO
 have hc1:bits .and .u32 ((o16:Int) / 4) 1=(c:Int):=by
  have:=zEy (o16 / 4) aO
  have e:((o16 / 4:Nat):Int)=(o16:Int) / 4:=aO
  rw[e] at this
  rw[this];omega
 have hcf:Fl.vM old=(c:Int):=by unfold Fl.vM;rw[h16,hc]
 have HCF:Hid _:=hcf
 have HC:Hid _:=hc
 clear hcf hc
 have c0:uP[12]?=some (.int .u8 2):=by kernel_rfl
 have c1:uP[13]?=some (.bool true):=by kernel_rfl
 have c2:uP[14]?=some (.bool false):=by kernel_rfl
 have zW:=(Go.zero_of_info vI).1
 have H16:Hid _:=h16
 clear h16
 go_enter Tryz.func81,Tryz.ntmps81
 go_wp2_with (first
  | (refine Gu.zL 14 14 _ _ _ ⟨#[.int .i64 4,.int .u32 a,.int .u32 b,.int .u32 old,undef,undef,undef,undef,.int .u32 0,.int .u32 0,undef,undef,undef,undef,.agg #[.int .u8 0,.bool false,.bool false],.agg #[.int .u8 1,.bool false,.bool false],.agg #[.int .u8 1,.bool true,.bool false],.agg #[.int .u8 2,.bool false,.bool false],.agg #[.int .u8 2,.bool true,.bool false],.agg #[.int .u8 3,.bool false,.bool false],.agg #[.int .u8 5,.bool false,.bool false],.agg #[.int .u8 6,.bool false,.bool false],.agg #[.int .u8 7,.bool false,.bool false],.agg #[.int .u8 8,.bool false,.bool false],.agg #[.int .u8 4,.bool false,.bool false],.agg #[.int .u8 1,.bool false,.bool true],.agg #[.int .u8 2,.bool false,.bool true],.agg uP,undef,undef,undef,undef,undef,undef,undef,undef,undef,undef,undef,undef,undef,undef,undef,undef,undef,undef,undef,undef,undef,undef,undef,undef,undef,undef,undef,undef,undef,undef,undef,undef,undef,undef,undef,undef,undef,undef,undef,undef,undef,undef,undef,undef,undef,undef,undef,undef,undef,undef,undef,undef,undef,undef,undef,undef,undef,undef,undef,undef,undef,undef,undef,undef,undef,undef,undef,undef,undef,undef,undef,undef,undef,undef],[]⟩ rfl (by kernel_rfl) ?_;simp only[List.drop_succ_cons,List.drop_zero])
  | (refine Gu.zK rfl 166 rfl _ zW w.heap.size rfl ?_)
  | (refine wkS rfl rfl rfl rfl rfl ?_)
  | (go_at_call 98;refine(zCq a b c _ ha hb hcl).mono ?_;rintro e w1 ⟨rfl,rfl⟩))
 go_ret2
 exact⟨by rw[HCF.out];exact zAC rfl rfl,yI w _ _⟩
theorem zPD(a b old o16:Nat)(w:World)(ha:a < 4294967296)(hb:b < 4294967296)(ho:old < 4294967296)(h16:old%16=o16) :
  Calls Tryz.prog 81 #[.int .i64 5,.int .u32 a,.int .u32 b,.int .u32 old] w fun e w'=>e=.returned (.tuple #[.int .u32 ((a:Int)),.int .u32 (Fl.yC a)])∧Below w.heap.size w w':=by
 have h15:bits .and .u32 (old:Int) 15=(o16:Int):=by rw[zAl old ho,h16]
 have ho16:o16 < 16:=aO
 have c0:uP[15]?=some (.int .u8 3):=by kernel_rfl
 have c1:uP[16]?=some (.bool false):=by kernel_rfl
 have c2:uP[17]?=some (.bool false):=by kernel_rfl
 have zW:=(Go.zero_of_info vI).1
 have H16:Hid _:=h16
 clear h16
 go_enter Tryz.func81,Tryz.ntmps81
 go_wp2_with (first
  | (refine Gu.zL 14 14 _ _ _ ⟨#[.int .i64 5,.int .u32 a,.int .u32 b,.int .u32 old,undef,undef,undef,undef,.int .u32 0,.int .u32 0,undef,undef,undef,undef,.agg #[.int .u8 0,.bool false,.bool false],.agg #[.int .u8 1,.bool false,.bool false],.agg #[.int .u8 1,.bool true,.bool false],.agg #[.int .u8 2,.bool false,.bool false],.agg #[.int .u8 2,.bool true,.bool false],.agg #[.int .u8 3,.bool false,.bool false],.agg #[.int .u8 5,.bool false,.bool false],.agg #[.int .u8 6,.bool false,.bool false],.agg #[.int .u8 7,.bool false,.bool false],.agg #[.int .u8 8,.bool false,.bool false],.agg #[.int .u8 4,.bool false,.bool false],.agg #[.int .u8 1,.bool false,.bool true],.agg #[.int .u8 2,.bool false,.bool true],.agg uP,undef,undef,undef,undef,undef,undef,undef,undef,undef,undef,undef,undef,undef,undef,undef,undef,undef,undef,undef,undef,undef,undef,undef,undef,undef,undef,undef,undef,undef,undef,undef,undef,undef,undef,undef,undef,undef,undef,undef,undef,undef,undef,undef,undef,undef,undef,undef,undef,undef,undef,undef,undef,undef,undef,undef,undef,undef,undef,undef,undef,undef,undef,undef,undef,undef,undef,undef,undef,undef,undef,undef,undef,undef,undef],[]⟩ rfl (by kernel_rfl) ?_;simp only[List.drop_succ_cons,List.drop_zero])
  | (refine Gu.zK rfl 166 rfl _ zW w.heap.size rfl ?_)
  | (refine wkS rfl rfl rfl rfl rfl ?_)
  | (go_at_call 98;refine(zHW a b 0 _ ha hb).mono ?_;rintro e w1 ⟨rfl,rfl⟩))
 go_ret2
 exact⟨zAC rfl rfl,yI w _ _⟩
theorem zNK(a b old o16:Nat)(w:World)(ha:a < 4294967296)(hb:b < 4294967296)(ho:old < 4294967296)(h16:old%16=o16) :
  Calls Tryz.prog 81 #[.int .i64 10,.int .u32 a,.int .u32 b,.int .u32 old] w fun e w'=>e=.returned (.tuple #[.int .u32 (((a*b%4294967296:Nat):Int)),.int .u32 (Fl.zBG a b)])∧Below w.heap.size w w':=by
 have h15:bits .and .u32 (old:Int) 15=(o16:Int):=by rw[zAl old ho,h16]
 have ho16:o16 < 16:=aO
 have c0:uP[30]?=some (.int .u8 4):=by kernel_rfl
 have c1:uP[31]?=some (.bool false):=by kernel_rfl
 have c2:uP[32]?=some (.bool false):=by kernel_rfl
 have zW:=(Go.zero_of_info vI).1
 have H16:Hid _:=h16
 clear h16
 go_enter Tryz.func81,Tryz.ntmps81
 go_wp2_with (first
  | (refine Gu.zL 14 14 _ _ _ ⟨#[.int .i64 10,.int .u32 a,.int .u32 b,.int .u32 old,undef,undef,undef,undef,.int .u32 0,.int .u32 0,undef,undef,undef,undef,.agg #[.int .u8 0,.bool false,.bool false],.agg #[.int .u8 1,.bool false,.bool false],.agg #[.int .u8 1,.bool true,.bool false],.agg #[.int .u8 2,.bool false,.bool false],.agg #[.int .u8 2,.bool true,.bool false],.agg #[.int .u8 3,.bool false,.bool false],.agg #[.int .u8 5,.bool false,.bool false],.agg #[.int .u8 6,.bool false,.bool false],.agg #[.int .u8 7,.bool false,.bool false],.agg #[.int .u8 8,.bool false,.bool false],.agg #[.int .u8 4,.bool false,.bool false],.agg #[.int .u8 1,.bool false,.bool true],.agg #[.int .u8 2,.bool false,.bool true],.agg uP,undef,undef,undef,undef,undef,undef,undef,undef,undef,undef,undef,undef,undef,undef,undef,undef,undef,undef,undef,undef,undef,undef,undef,undef,undef,undef,undef,undef,undef,undef,undef,undef,undef,undef,undef,undef,undef,undef,undef,undef,undef,undef,undef,undef,undef,undef,undef,undef,undef,undef,undef,undef,undef,undef,undef,undef,undef,undef,undef,undef,undef,undef,undef,undef,undef,undef,undef,undef,undef,undef,undef,undef,undef,undef],[]⟩ rfl (by kernel_rfl) ?_;simp only[List.drop_succ_cons,List.drop_zero])
  | (refine Gu.zK rfl 166 rfl _ zW w.heap.size rfl ?_)
  | (refine wkS rfl rfl rfl rfl rfl ?_)
  | (go_at_call 98;refine(zHX a b 0 _ ha hb).mono ?_;rintro e w1 ⟨rfl,rfl⟩))
 go_ret2
 exact⟨zAC rfl rfl,yI w _ _⟩
theorem zNL(a b old o16:Nat)(w:World)(ha:a < 4294967296)(hb:b < 4294967296)(ho:old < 4294967296)(h16:old%16=o16) :
  Calls Tryz.prog 81 #[.int .i64 11,.int .u32 a,.int .u32 b,.int .u32 old] w fun e w'=>e=.returned (.tuple #[.int .u32 (((a:Int)+1)%4294967296),.int .u32 (Fl.zDD a old)])∧Below w.heap.size w w':=by
 have h15:bits .and .u32 (old:Int) 15=(o16:Int):=by rw[zAl old ho,h16]
 have ho16:o16 < 16:=aO
 obtain⟨F,hF⟩:∃ F:Nat,(F:Int)=Fl.zBa a 1 (0:Nat):=⟨(Fl.zBa a 1 (0:Nat)).toNat,by
  have:=(zIl (Fl.yC (((a:Int)+(1:Nat)+(0:Nat))%4294967296)) (decide (4294967296≤(a:Int)+(1:Nat)+(0:Nat))) (Fl.uC (Fl.vP a+Fl.vP ((1:Nat):Int)+(0:Nat))) (Fl.yV _)).2.1
  have e:Fl.zBa a 1 (0:Nat)=Fl.yC (((a:Int)+(1:Nat)+(0:Nat))%4294967296)+Fl.uH (decide (4294967296≤(a:Int)+(1:Nat)+(0:Nat))) 4+Fl.uH (Fl.uC (Fl.vP a+Fl.vP ((1:Nat):Int)+(0:Nat))) 8:=rfl
  rw[e];omega⟩
 have he:bits .or .u32 (bits .andNot .u32 (F:Int) 4) (bits .and .u32 (o16:Int) 4)=Fl.zDD a old:=by
  rw[zE1 F o16 _ _ _ (Fl.yV _) hF ho16]
  unfold Fl.zDD Fl.vM
  rw[h16]
  have e1:Fl.vP ((1:Nat):Int)=1:=by decide
  rw[e1]
  have e2:((a:Int)+((1:Nat):Int)+((0:Nat):Int))=(a:Int)+1:=aO
  have e3:(Fl.vP a+1+((0:Nat):Int))=Fl.vP a+1:=aO
  rw[e2,e3]
 have HCl:Hid (∀ w,Calls Tryz.prog 98 #[.int .u8 1,.int .u32 a,.int .u32 1,.int .u32 0] w fun e w'=>e=.returned (.tuple #[.int .u32 (((a:Int)+1)%4294967296),.int .u32 F])∧w=w'):=fun w=>by
  have:=zCp a 1 0 w ha aO aO
  rw[← hF] at this
  have e2:((a:Int)+((1:Nat):Int)+((0:Nat):Int))=(a:Int)+1:=aO
  rw[e2] at this
  exact this
 have HE:Hid _:=he
 have HF:Hid _:=hF
 clear he hF
 have c0:uP[33]?=some (.int .u8 1):=by kernel_rfl
 have c1:uP[34]?=some (.bool false):=by kernel_rfl
 have c2:uP[35]?=some (.bool true):=by kernel_rfl
 have zW:=(Go.zero_of_info vI).1
 have H16:Hid _:=h16
 clear h16
 go_enter Tryz.func81,Tryz.ntmps81
 go_wp2_with (first
  | (refine Gu.zL 14 14 _ _ _ ⟨#[.int .i64 11,.int .u32 a,.int .u32 b,.int .u32 old,undef,undef,undef,undef,.int .u32 0,.int .u32 0,undef,undef,undef,undef,.agg #[.int .u8 0,.bool false,.bool false],.agg #[.int .u8 1,.bool false,.bool false],.agg #[.int .u8 1,.bool true,.bool false],.agg #[.int .u8 2,.bool false,.bool false],.agg #[.int .u8 2,.bool true,.bool false],.agg #[.int .u8 3,.bool false,.bool false],.agg #[.int .u8 5,.bool false,.bool false],.agg #[.int .u8 6,.bool false,.bool false],.agg #[.int .u8 7,.bool false,.bool false],.agg #[.int .u8 8,.bool false,.bool false],.agg #[.int .u8 4,.bool false,.bool false],.agg #[.int .u8 1,.bool false,.bool true],.agg #[.int .u8 2,.bool false,.bool true],.agg uP,undef,undef,undef,undef,undef,undef,undef,undef,undef,undef,undef,undef,undef,undef,undef,undef,undef,undef,undef,undef,undef,undef,undef,undef,undef,undef,undef,undef,undef,undef,undef,undef,undef,undef,undef,undef,undef,undef,undef,undef,undef,undef,undef,undef,undef,undef,undef,undef,undef,undef,undef,undef,undef,undef,undef,undef,undef,undef,undef,undef,undef,undef,undef,undef,undef,undef,undef,undef,undef,undef,undef,undef,undef,undef],[]⟩ rfl (by kernel_rfl) ?_;simp only[List.drop_succ_cons,List.drop_zero])
  | (refine Gu.zK rfl 166 rfl _ zW w.heap.size rfl ?_)
  | (refine wkS rfl rfl rfl rfl rfl ?_)
  | (go_at_call 98;refine(HCl.out _).mono ?_;rintro e w1 ⟨rfl,rfl⟩))
 go_ret2
 exact⟨zAC rfl HE.out,yI w _ _⟩
theorem zNM(a b old o16:Nat)(w:World)(ha:a < 4294967296)(hb:b < 4294967296)(ho:old < 4294967296)(h16:old%16=o16) :
  Calls Tryz.prog 81 #[.int .i64 12,.int .u32 a,.int .u32 b,.int .u32 old] w fun e w'=>e=.returned (.tuple #[.int .u32 (((a:Int) - 1)%4294967296),.int .u32 (Fl.zDC a old)])∧Below w.heap.size w w':=by
 have h15:bits .and .u32 (old:Int) 15=(o16:Int):=by rw[zAl old ho,h16]
 have ho16:o16 < 16:=aO
 obtain⟨F,hF⟩:∃ F:Nat,(F:Int)=Fl.zBi a 1 (0:Nat):=⟨(Fl.zBi a 1 (0:Nat)).toNat,by
  have:=(zIl (Fl.yC (((a:Int) - (1:Nat) - (0:Nat))%4294967296)) (decide ((a:Int) - (1:Nat) - (0:Nat) < 0)) (Fl.uC (Fl.vP a - Fl.vP ((1:Nat):Int) - (0:Nat))) (Fl.yV _)).2.1
  have e:Fl.zBi a 1 (0:Nat)=Fl.yC (((a:Int) - (1:Nat) - (0:Nat))%4294967296)+Fl.uH (decide ((a:Int) - (1:Nat) - (0:Nat) < 0)) 4+Fl.uH (Fl.uC (Fl.vP a - Fl.vP ((1:Nat):Int) - (0:Nat))) 8:=rfl
  rw[e];omega⟩
 have he:bits .or .u32 (bits .andNot .u32 (F:Int) 4) (bits .and .u32 (o16:Int) 4)=Fl.zDC a old:=by
  rw[zE1 F o16 _ _ _ (Fl.yV _) hF ho16]
  unfold Fl.zDC Fl.vM
  rw[h16]
  have e1:Fl.vP ((1:Nat):Int)=1:=by decide
  rw[e1]
  have e2:((a:Int) - ((1:Nat):Int) - ((0:Nat):Int))=(a:Int) - 1:=aO
  have e3:(Fl.vP a - 1 - ((0:Nat):Int))=Fl.vP a - 1:=aO
  rw[e2,e3]
 have HCl:Hid (∀ w,Calls Tryz.prog 98 #[.int .u8 2,.int .u32 a,.int .u32 1,.int .u32 0] w fun e w'=>e=.returned (.tuple #[.int .u32 (((a:Int) - 1)%4294967296),.int .u32 F])∧w=w'):=fun w=>by
  have:=zCq a 1 0 w ha aO aO
  rw[← hF] at this
  have e2:((a:Int) - ((1:Nat):Int) - ((0:Nat):Int))=(a:Int) - 1:=aO
  rw[e2] at this
  exact this
 have HE:Hid _:=he
 have HF:Hid _:=hF
 clear he hF
 have c0:uP[36]?=some (.int .u8 2):=by kernel_rfl
 have c1:uP[37]?=some (.bool false):=by kernel_rfl
 have c2:uP[38]?=some (.bool true):=by kernel_rfl
 have zW:=(Go.zero_of_info vI).1
 have H16:Hid _:=h16
 clear h16
 go_enter Tryz.func81,Tryz.ntmps81
 go_wp2_with (first
  | (refine Gu.zL 14 14 _ _ _ ⟨#[.int .i64 12,.int .u32 a,.int .u32 b,.int .u32 old,undef,undef,undef,undef,.int .u32 0,.int .u32 0,undef,undef,undef,undef,.agg #[.int .u8 0,.bool false,.bool false],.agg #[.int .u8 1,.bool false,.bool false],.agg #[.int .u8 1,.bool true,.bool false],.agg #[.int .u8 2,.bool false,.bool false],.agg #[.int .u8 2,.bool true,.bool false],.agg #[.int .u8 3,.bool false,.bool false],.agg #[.int .u8 5,.bool false,.bool false],.agg #[.int .u8 6,.bool false,.bool false],.agg #[.int .u8 7,.bool false,.bool false],.agg #[.int .u8 8,.bool false,.bool false],.agg #[.int .u8 4,.bool false,.bool false],.agg #[.int .u8 1,.bool false,.bool true],.agg #[.int .u8 2,.bool false,.bool true],.agg uP,undef,undef,undef,undef,undef,undef,undef,undef,undef,undef,undef,undef,undef,undef,undef,undef,undef,undef,undef,undef,undef,undef,undef,undef,undef,undef,undef,undef,undef,undef,undef,undef,undef,undef,undef,undef,undef,undef,undef,undef,undef,undef,undef,undef,undef,undef,undef,undef,undef,undef,undef,undef,undef,undef,undef,undef,undef,undef,undef,undef,undef,undef,undef,undef,undef,undef,undef,undef,undef,undef,undef,undef,undef,undef],[]⟩ rfl (by kernel_rfl) ?_;simp only[List.drop_succ_cons,List.drop_zero])
  | (refine Gu.zK rfl 166 rfl _ zW w.heap.size rfl ?_)
  | (refine wkS rfl rfl rfl rfl rfl ?_)
  | (go_at_call 98;refine(HCl.out _).mono ?_;rintro e w1 ⟨rfl,rfl⟩))
 go_ret2
 exact⟨zAC rfl HE.out,yI w _ _⟩
theorem zLI(k:Int)(a b old o16:Nat)(w:World)(ha:a < 4294967296)(hb:b < 4294967296)(ho:old < 4294967296)(h16:old%16=o16)(hk:k < 0) :
  Calls Tryz.prog 81 #[.int .i64 k,.int .u32 a,.int .u32 b,.int .u32 old] w fun e w'=>e=.returned (.tuple #[.int .u32 ((a:Int)),.int .u32 ((o16:Int))])∧Below w.heap.size w w':=by
 have h15:bits .and .u32 (old:Int) 15=(o16:Int):=by rw[zAl old ho,h16]
 have ho16:o16 < 16:=aO
 have hd:decide (k < 0)=true:=decide_eq_true hk
 have zW:=(Go.zero_of_info vI).1
 have H16:Hid _:=h16
 clear h16
 go_enter Tryz.func81,Tryz.ntmps81
 go_wp2_with (first
  | (refine Gu.zL 14 14 _ _ _ ⟨#[.int .i64 k,.int .u32 a,.int .u32 b,.int .u32 old,undef,undef,undef,undef,.int .u32 0,.int .u32 0,undef,undef,undef,undef,.agg #[.int .u8 0,.bool false,.bool false],.agg #[.int .u8 1,.bool false,.bool false],.agg #[.int .u8 1,.bool true,.bool false],.agg #[.int .u8 2,.bool false,.bool false],.agg #[.int .u8 2,.bool true,.bool false],.agg #[.int .u8 3,.bool false,.bool false],.agg #[.int .u8 5,.bool false,.bool false],.agg #[.int .u8 6,.bool false,.bool false],.agg #[.int .u8 7,.bool false,.bool false],.agg #[.int .u8 8,.bool false,.bool false],.agg #[.int .u8 4,.bool false,.bool false],.agg #[.int .u8 1,.bool false,.bool true],.agg #[.int .u8 2,.bool false,.bool true],.agg uP,undef,undef,undef,undef,undef,undef,undef,undef,undef,undef,undef,undef,undef,undef,undef,undef,undef,undef,undef,undef,undef,undef,undef,undef,undef,undef,undef,undef,undef,undef,undef,undef,undef,undef,undef,undef,undef,undef,undef,undef,undef,undef,undef,undef,undef,undef,undef,undef,undef,undef,undef,undef,undef,undef,undef,undef,undef,undef,undef,undef,undef,undef,undef,undef,undef,undef,undef,undef,undef,undef,undef,undef,undef,undef],[]⟩ rfl (by kernel_rfl) ?_;simp only[List.drop_succ_cons,List.drop_zero])
  | (refine Gu.zK rfl 166 rfl _ zW w.heap.size rfl ?_)
  | (refine wkS rfl rfl rfl rfl rfl ?_)
  | fail)
 go_ret2
 exact⟨rfl,yF w _⟩
theorem zLH(k:Int)(a b old o16:Nat)(w:World)(ha:a < 4294967296)(hb:b < 4294967296)(ho:old < 4294967296)(h16:old%16=o16)(hk:12 < k) :
  Calls Tryz.prog 81 #[.int .i64 k,.int .u32 a,.int .u32 b,.int .u32 old] w fun e w'=>e=.returned (.tuple #[.int .u32 ((a:Int)),.int .u32 ((o16:Int))])∧Below w.heap.size w w':=by
 have h15:bits .and .u32 (old:Int) 15=(o16:Int):=by rw[zAl old ho,h16]
 have ho16:o16 < 16:=aO
 have hd:decide (k < 0)=false:=aF
 have hd2:decide (13≤k)=true:=aT
 have zW:=(Go.zero_of_info vI).1
 have H16:Hid _:=h16
 clear h16
 go_enter Tryz.func81,Tryz.ntmps81
 go_wp2_with (first
  | (refine Gu.zL 14 14 _ _ _ ⟨#[.int .i64 k,.int .u32 a,.int .u32 b,.int .u32 old,undef,undef,undef,undef,.int .u32 0,.int .u32 0,undef,undef,undef,undef,.agg #[.int .u8 0,.bool false,.bool false],.agg #[.int .u8 1,.bool false,.bool false],.agg #[.int .u8 1,.bool true,.bool false],.agg #[.int .u8 2,.bool false,.bool false],.agg #[.int .u8 2,.bool true,.bool false],.agg #[.int .u8 3,.bool false,.bool false],.agg #[.int .u8 5,.bool false,.bool false],.agg #[.int .u8 6,.bool false,.bool false],.agg #[.int .u8 7,.bool false,.bool false],.agg #[.int .u8 8,.bool false,.bool false],.agg #[.int .u8 4,.bool false,.bool false],.agg #[.int .u8 1,.bool false,.bool true],.agg #[.int .u8 2,.bool false,.bool true],.agg uP,undef,undef,undef,undef,undef,undef,undef,undef,undef,undef,undef,undef,undef,undef,undef,undef,undef,undef,undef,undef,undef,undef,undef,undef,undef,undef,undef,undef,undef,undef,undef,undef,undef,undef,undef,undef,undef,undef,undef,undef,undef,undef,undef,undef,undef,undef,undef,undef,undef,undef,undef,undef,undef,undef,undef,undef,undef,undef,undef,undef,undef,undef,undef,undef,undef,undef,undef,undef,undef,undef,undef,undef,undef,undef],[]⟩ rfl (by kernel_rfl) ?_;simp only[List.drop_succ_cons,List.drop_zero])
  | (refine Gu.zK rfl 166 rfl _ zW w.heap.size rfl ?_)
  | (refine wkS rfl rfl rfl rfl rfl ?_)
  | fail)
 go_ret2
 exact⟨rfl,yF w _⟩
end Go.Proofs.YthcpipfmicbnmaaGreat.Va
