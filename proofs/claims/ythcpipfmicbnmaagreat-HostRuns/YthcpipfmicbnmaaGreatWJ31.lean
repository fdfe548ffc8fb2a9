import Derived.Test.YthcpipfmicbnmaaGreatWJ29
set_option linter.unusedVariables false
set_option linter.unusedSimpArgs false
set_option maxHeartbeats 1000000
namespace Go.Proofs.YthcpipfmicbnmaaGreat.Va
open Go.RowKit
set_option maxRecDepth 100000
theorem zNO(a b old o16:Nat)(w:World)(ha:a < 4294967296)(hb:b < 4294967296)(ho:old < 4294967296)(h16:old%16=o16)(hn:b%32=0) :
  Calls Tryz.prog 81 #[.int .i64 6,.int .u32 a,.int .u32 b,.int .u32 old] w fun e w'=>e=.returned (.tuple #[.int .u32 ((a:Int)),.int .u32 ((o16:Int))])∧Below w.heap.size w w':=by
 have h15:bits .and .u32 (old:Int) 15=(o16:Int):=by rw[zAl old ho,h16]
 have ho16:o16 < 16:=aO
 have h31:bits .and .u32 (b:Int) 31=0:=by rw[zBe b hb,hn];rfl
 have HN:Hid _:=hn
 clear hn
 have c0:uP[18]?=some (.int .u8 5):=by kernel_rfl
 have c1:uP[19]?=some (.bool false):=by kernel_rfl
 have c2:uP[20]?=some (.bool false):=by kernel_rfl
 have zW:=(Go.zero_of_info vI).1
 have H16:Hid _:=h16
 clear h16
 go_enter Tryz.func81,Tryz.ntmps81
 go_wp2_with (first
  | (refine Gu.zL 14 14 _ _ _ ⟨#[.int .i64 6,.int .u32 a,.int .u32 b,.int .u32 old,undef,undef,undef,undef,.int .u32 0,.int .u32 0,undef,undef,undef,undef,.agg #[.int .u8 0,.bool false,.bool false],.agg #[.int .u8 1,.bool false,.bool false],.agg #[.int .u8 1,.bool true,.bool false],.agg #[.int .u8 2,.bool false,.bool false],.agg #[.int .u8 2,.bool true,.bool false],.agg #[.int .u8 3,.bool false,.bool false],.agg #[.int .u8 5,.bool false,.bool false],.agg #[.int .u8 6,.bool false,.bool false],.agg #[.int .u8 7,.bool false,.bool false],.agg #[.int .u8 8,.bool false,.bool false],.agg #[.int .u8 4,.bool false,.bool false],.agg #[.int .u8 1,.bool false,.bool true],.agg #[.int .u8 2,.bool false,.bool true],.agg uP,undef,undef,undef,undef,undef,undef,undef,undef,undef,undef,undef,undef,undef,undef,undef,undef,undef,undef,undef,undef,undef,undef,undef,undef,undef,undef,undef,undef,undef,undef,undef,undef,undef,undef,undef,undef,undef,undef,undef,undef,undef,undef,undef,undef,undef,undef,undef,undef,undef,undef,undef,undef,undef,undef,undef,undef,undef,undef,undef,undef,undef,undef,undef,undef,undef,undef,undef,undef,undef,undef,undef,undef,undef,undef],[]⟩ rfl (by kernel_rfl) ?_;simp only[List.drop_succ_cons,List.drop_zero])
  | (refine Gu.zK rfl 166 rfl _ zW w.heap.size rfl ?_)
  | (refine wkS rfl rfl rfl rfl rfl ?_)
  | (go_at_call 97;refine(zBd 5 a o16 _).mono ?_;rintro e w1 ⟨rfl,rfl⟩))
 go_ret2
 exact⟨zAC rfl rfl,yI w _ _⟩
theorem zNN(a b old o16:Nat)(w:World)(ha:a < 4294967296)(hb:b < 4294967296)(ho:old < 4294967296)(h16:old%16=o16)(n:Nat)(hn:b%32=n)(h0:0 < n) :
  Calls Tryz.prog 81 #[.int .i64 6,.int .u32 a,.int .u32 b,.int .u32 old] w fun e w'=>e=.returned (.tuple #[.int .u32 (((a*2 ^ n%4294967296:Nat):Int)),.int .u32 (Fl.zCf a n)])∧Below w.heap.size w w':=by
 have h15:bits .and .u32 (old:Int) 15=(o16:Int):=by rw[zAl old ho,h16]
 have ho16:o16 < 16:=aO
 have h31:bits .and .u32 (b:Int) 31=(n:Int):=by rw[zBe b hb,hn]
 have hnl:n < 32:=aO
 have HN:Hid _:=hn
 clear hn
 obtain⟨t,ht⟩:∃ t:Nat,Fl.vT n a=t:=⟨(Fl.vT n a).toNat,by have:=Fl.uO n a aO aO;omega⟩
 have HT:Hid _:=ht
 clear ht
 have c0:uP[18]?=some (.int .u8 5):=by kernel_rfl
 have c1:uP[19]?=some (.bool false):=by kernel_rfl
 have c2:uP[20]?=some (.bool false):=by kernel_rfl
 have zW:=(Go.zero_of_info vI).1
 have H16:Hid _:=h16
 clear h16
 go_enter Tryz.func81,Tryz.ntmps81
 go_wp2_with (first
  | (refine Gu.zL 14 14 _ _ _ ⟨#[.int .i64 6,.int .u32 a,.int .u32 b,.int .u32 old,undef,undef,undef,undef,.int .u32 0,.int .u32 0,undef,undef,undef,undef,.agg #[.int .u8 0,.bool false,.bool false],.agg #[.int .u8 1,.bool false,.bool false],.agg #[.int .u8 1,.bool true,.bool false],.agg #[.int .u8 2,.bool false,.bool false],.agg #[.int .u8 2,.bool true,.bool false],.agg #[.int .u8 3,.bool false,.bool false],.agg #[.int .u8 5,.bool false,.bool false],.agg #[.int .u8 6,.bool false,.bool false],.agg #[.int .u8 7,.bool false,.bool false],.agg #[.int .u8 8,.bool false,.bool false],.agg #[.int .u8 4,.bool false,.bool false],.agg #[.int .u8 1,.bool false,.bool true],.agg #[.int .u8 2,.bool false,.bool true],.agg uP,undef,undef,undef,undef,undef,undef,undef,undef,undef,undef,undef,undef,undef,undef,undef,undef,undef,undef,undef,undef,undef,undef,undef,undef,undef,undef,undef,undef,undef,undef,undef,undef,undef,undef,undef,undef,undef,undef,undef,undef,undef,undef,undef,undef,undef,undef,undef,undef,undef,undef,undef,undef,undef,undef,undef,undef,undef,undef,undef,undef,undef,undef,undef,undef,undef,undef,undef,undef,undef,undef,undef,undef,undef,undef],[]⟩ rfl (by kernel_rfl) ?_;simp only[List.drop_succ_cons,List.drop_zero])
  | (refine Gu.zK rfl 166 rfl _ zW w.heap.size rfl ?_)
  | (refine wkS rfl rfl rfl rfl rfl ?_)
  | (go_at_call 97;refine(zM0 a n o16 t _ HT.out ha h0 hnl).mono ?_;rintro e w1 ⟨rfl,hB⟩))
 go_ret2
 exact⟨rfl,zB1 hB⟩
theorem zNQ(a b old o16:Nat)(w:World)(ha:a < 4294967296)(hb:b < 4294967296)(ho:old < 4294967296)(h16:old%16=o16)(hn:b%32=0) :
  Calls Tryz.prog 81 #[.int .i64 7,.int .u32 a,.int .u32 b,.int .u32 old] w fun e w'=>e=.returned (.tuple #[.int .u32 ((a:Int)),.int .u32 ((o16:Int))])∧Below w.heap.size w w':=by
 have h15:bits .and .u32 (old:Int) 15=(o16:Int):=by rw[zAl old ho,h16]
 have ho16:o16 < 16:=aO
 have h31:bits .and .u32 (b:Int) 31=0:=by rw[zBe b hb,hn];rfl
 have HN:Hid _:=hn
 clear hn
 have c0:uP[21]?=some (.int .u8 6):=by kernel_rfl
 have c1:uP[22]?=some (.bool false):=by kernel_rfl
 have c2:uP[23]?=some (.bool false):=by kernel_rfl
 have zW:=(Go.zero_of_info vI).1
 have H16:Hid _:=h16
 clear h16
 go_enter Tryz.func81,Tryz.ntmps81
 go_wp2_with (first
  | (refine Gu.zL 14 14 _ _ _ ⟨#[.int .i64 7,.int .u32 a,.int .u32 b,.int .u32 old,undef,undef,undef,undef,.int .u32 0,.int .u32 0,undef,undef,undef,undef,.agg #[.int .u8 0,.bool false,.bool false],.agg #[.int .u8 1,.bool false,.bool false],.agg #[.int .u8 1,.bool true,.bool false],.agg #[.int .u8 2,.bool false,.bool false],.agg #[.int .u8 2,.bool true,.bool false],.agg #[.int .u8 3,.bool false,.bool false],.agg #[.int .u8 5,.bool false,.bool false],.agg #[.int .u8 6,.bool false,.bool false],.agg #[.int .u8 7,.bool false,.bool false],.agg #[.int .u8 8,.bool false,.bool false],.agg #[.int .u8 4,.bool false,.bool false],.agg #[.int .u8 1,.bool false,.bool true],.agg #[.int .u8 2,.bool false,.bool true],.agg uP,undef,undef,undef,undef,undef,undef,undef,undef,undef,undef,undef,undef,undef,undef,undef,undef,undef,undef,undef,undef,undef,undef,undef,undef,undef,undef,undef,undef,undef,undef,undef,undef,undef,undef,undef,undef,undef,undef,undef,undef,undef,undef,undef,undef,undef,undef,undef,undef,undef,undef,undef,undef,undef,undef,undef,undef,undef,undef,undef,undef,undef,undef,undef,undef,undef,undef,undef,undef,undef,undef,undef,undef,undef,undef],[]⟩ rfl (by kernel_rfl) ?_;simp only[List.drop_succ_cons,List.drop_zero])
  | (refine Gu.zK rfl 166 rfl _ zW w.heap.size rfl ?_)
  | (refine wkS rfl rfl rfl rfl rfl ?_)
  | (go_at_call 97;refine(zBd 6 a o16 _).mono ?_;rintro e w1 ⟨rfl,rfl⟩))
 go_ret2
 exact⟨zAC rfl rfl,yI w _ _⟩
theorem zNP(a b old o16:Nat)(w:World)(ha:a < 4294967296)(hb:b < 4294967296)(ho:old < 4294967296)(h16:old%16=o16)(n:Nat)(hn:b%32=n)(h0:0 < n) :
  Calls Tryz.prog 81 #[.int .i64 7,.int .u32 a,.int .u32 b,.int .u32 old] w fun e w'=>e=.returned (.tuple #[.int .u32 ((a:Int) / 2 ^ n),.int .u32 (Fl.zCg a n)])∧Below w.heap.size w w':=by
 have h15:bits .and .u32 (old:Int) 15=(o16:Int):=by rw[zAl old ho,h16]
 have ho16:o16 < 16:=aO
 have h31:bits .and .u32 (b:Int) 31=(n:Int):=by rw[zBe b hb,hn]
 have hnl:n < 32:=aO
 have HN:Hid _:=hn
 clear hn
 obtain⟨t,ht⟩:∃ t:Nat,Fl.vT n a=t:=⟨(Fl.vT n a).toNat,by have:=Fl.uO n a aO aO;omega⟩
 have HT:Hid _:=ht
 clear ht
 have c0:uP[21]?=some (.int .u8 6):=by kernel_rfl
 have c1:uP[22]?=some (.bool false):=by kernel_rfl
 have c2:uP[23]?=some (.bool false):=by kernel_rfl
 have zW:=(Go.zero_of_info vI).1
 have H16:Hid _:=h16
 clear h16
 go_enter Tryz.func81,Tryz.ntmps81
 go_wp2_with (first
  | (refine Gu.zL 14 14 _ _ _ ⟨#[.int .i64 7,.int .u32 a,.int .u32 b,.int .u32 old,undef,undef,undef,undef,.int .u32 0,.int .u32 0,undef,undef,undef,undef,.agg #[.int .u8 0,.bool false,.bool false],.agg #[.int .u8 1,.bool false,.bool false],.agg #[.int .u8 1,.bool true,.bool false],.agg #[.int .u8 2,.bool false,.bool false],.agg #[.int .u8 2,.bool true,.bool false],.agg #[.int .u8 3,.bool false,.bool false],.agg #[.int .u8 5,.bool false,.bool false],.agg #[.int .u8 6,.bool false,.bool false],.agg #[.int .u8 7,.bool false,.bool false],.agg #[.int .u8 8,.bool false,.bool false],.agg #[.int .u8 4,.bool false,.bool false],.agg #[.int .u8 1,.bool false,.bool true],.agg #[.int .u8 2,.bool false,.bool true],.agg uP,undef,undef,undef,undef,undef,undef,undef,undef,undef,undef,undef,undef,undef,undef,undef,undef,undef,undef,undef,undef,undef,undef,undef,undef,undef,undef,undef,undef,undef,undef,undef,undef,undef,undef,undef,undef,undef,undef,undef,undef,undef,undef,undef,undef,undef,undef,undef,undef,undef,undef,undef,undef,undef,undef,undef,undef,undef,undef,undef,undef,undef,undef,undef,undef,undef,undef,undef,undef,undef,undef,undef,undef,undef,undef],[]⟩ rfl (by kernel_rfl) ?_;simp only[List.drop_succ_cons,List.drop_zero])
  | (refine Gu.zK rfl 166 rfl _ zW w.heap.size rfl ?_)
  | (refine wkS rfl rfl rfl rfl rfl ?_)
  | (go_at_call 97;refine(zM1 a n o16 t _ HT.out ha h0 hnl).mono ?_;rintro e w1 ⟨rfl,hB⟩))
 go_ret2
 exact⟨rfl,zB1 hB⟩
theorem zNS(a b old o16:Nat)(w:World)(ha:a < 4294967296)(hb:b < 4294967296)(ho:old < 4294967296)(h16:old%16=o16)(hn:b%32=0) :
  Calls Tryz.prog 81 #[.int .i64 8,.int .u32 a,.int .u32 b,.int .u32 old] w fun e w'=>e=.returned (.tuple #[.int .u32 ((a:Int)),.int .u32 ((o16:Int))])∧Below w.heap.size w w':=by
 have h15:bits .and .u32 (old:Int) 15=(o16:Int):=by rw[zAl old ho,h16]
 have ho16:o16 < 16:=aO
 have h31:bits .and .u32 (b:Int) 31=0:=by rw[zBe b hb,hn];rfl
 have HN:Hid _:=hn
 clear hn
 have c0:uP[24]?=some (.int .u8 7):=by kernel_rfl
 have c1:uP[25]?=some (.bool false):=by kernel_rfl
 have c2:uP[26]?=some (.bool false):=by kernel_rfl
 have zW:=(Go.zero_of_info vI).1
 have H16:Hid _:=h16
 clear h16
 go_enter Tryz.func81,Tryz.ntmps81
 go_wp2_with (first
  | (refine Gu.zL 14 14 _ _ _ ⟨#[.int .i64 8,.int .u32 a,.int .u32 b,.int .u32 old,undef,undef,undef,undef,.int .u32 0,.int .u32 0,undef,undef,undef,undef,.agg #[.int .u8 0,.bool false,.bool false],.agg #[.int .u8 1,.bool false,.bool false],.agg #[.int .u8 1,.bool true,.bool false],.agg #[.int .u8 2,.bool false,.bool false],.agg #[.int .u8 2,.bool true,.bool false],.agg #[.int .u8 3,.bool false,.bool false],.agg #[.int .u8 5,.bool false,.bool false],.agg #[.int .u8 6,.bool false,.bool false],.agg #[.int .u8 7,.bool false,.bool false],.agg #[.int .u8 8,.bool false,.bool false],.agg #[.int .u8 4,.bool false,.bool false],.agg #[.int .u8 1,.bool false,.bool true],.agg #[.int .u8 2,.bool false,.bool true],.agg uP,undef,undef,undef,undef,undef,undef,undef,undef,undef,undef,undef,undef,undef,undef,undef,undef,undef,undef,undef,undef,undef,undef,undef,undef,undef,undef,undef,undef,undef,undef,undef,undef,undef,undef,undef,undef,undef,undef,undef,undef,undef,undef,undef,undef,undef,undef,undef,undef,undef,undef,undef,undef,undef,undef,undef,undef,undef,undef,undef,undef,undef,undef,undef,undef,undef,undef,undef,undef,undef,undef,undef,undef,undef,undef],[]⟩ rfl (by kernel_rfl) ?_;simp only[List.drop_succ_cons,List.drop_zero])
  | (refine Gu.zK rfl 166 rfl _ zW w.heap.size rfl ?_)
  | (refine wkS rfl rfl rfl rfl rfl ?_)
  | (go_at_call 97;refine(zBd 7 a o16 _).mono ?_;rintro e w1 ⟨rfl,rfl⟩))
 go_ret2
 exact⟨zAC rfl rfl,yI w _ _⟩
theorem zNR(a b old o16:Nat)(w:World)(ha:a < 4294967296)(hb:b < 4294967296)(ho:old < 4294967296)(h16:old%16=o16)(n:Nat)(hn:b%32=n)(h0:0 < n) :
  Calls Tryz.prog 81 #[.int .i64 8,.int .u32 a,.int .u32 b,.int .u32 old] w fun e w'=>e=.returned (.tuple #[.int .u32 (Fl.vP a / 2 ^ n%4294967296),.int .u32 (Fl.zCe a n)])∧Below w.heap.size w w':=by
 have h15:bits .and .u32 (old:Int) 15=(o16:Int):=by rw[zAl old ho,h16]
 have ho16:o16 < 16:=aO
 have h31:bits .and .u32 (b:Int) 31=(n:Int):=by rw[zBe b hb,hn]
 have hnl:n < 32:=aO
 have HN:Hid _:=hn
 clear hn
 obtain⟨t,ht⟩:∃ t:Nat,Fl.vT n a=t:=⟨(Fl.vT n a).toNat,by have:=Fl.uO n a aO aO;omega⟩
 have HT:Hid _:=ht
 clear ht
 have c0:uP[24]?=some (.int .u8 7):=by kernel_rfl
 have c1:uP[25]?=some (.bool false):=by kernel_rfl
 have c2:uP[26]?=some (.bool false):=by kernel_rfl
 have zW:=(Go.zero_of_info vI).1
 have H16:Hid _:=h16
 clear h16
 go_enter Tryz.func81,Tryz.ntmps81
 go_wp2_with (first
  | (refine Gu.zL 14 14 _ _ _ ⟨#[.int .i64 8,.int .u32 a,.int .u32 b,.int .u32 old,undef,undef,undef,undef,.int .u32 0,.int .u32 0,undef,undef,undef,undef,.agg #[.int .u8 0,.bool false,.bool false],.agg #[.int .u8 1,.bool false,.bool false],.agg #[.int .u8 1,.bool true,.bool false],.agg #[.int .u8 2,.bool false,.bool false],.agg #[.int .u8 2,.bool true,.bool false],.agg #[.int .u8 3,.bool false,.bool false],.agg #[.int .u8 5,.bool false,.bool false],.agg #[.int .u8 6,.bool false,.bool false],.agg #[.int .u8 7,.bool false,.bool false],.agg #[.int .u8 8,.bool false,.bool false],.agg #[.int .u8 4,.bool false,.bool false],.agg #[.int .u8 1,.bool false,.bool true],.agg #[.int .u8 2,.bool false,.bool true],.agg uP,undef,undef,undef,undef,undef,undef,undef,undef,undef,undef,undef,undef,undef,undef,undef,undef,undef,undef,undef,undef,undef,undef,undef,undef,undef,undef,undef,undef,undef,undef,undef,undef,undef,undef,undef,undef,undef,undef,undef,undef,undef,undef,undef,undef,undef,undef,undef,undef,undef,undef,undef,undef,undef,undef,undef,undef,undef,undef,undef,undef,undef,undef,undef,undef,undef,undef,undef,undef,undef,undef,undef,undef,undef,undef],[]⟩ rfl (by kernel_rfl) ?_;simp only[List.drop_succ_cons,List.drop_zero])
  | (refine Gu.zK rfl 166 rfl _ zW w.heap.size rfl ?_)
  | (refine wkS rfl rfl rfl rfl rfl ?_)
  | (go_at_call 97;refine(zM2 a n o16 t _ HT.out ha h0 hnl).mono ?_;rintro e w1 ⟨rfl,hB⟩))
 go_ret2
 exact⟨rfl,zB1 hB⟩
theorem zNU(a b old o16:Nat)(w:World)(ha:a < 4294967296)(hb:b < 4294967296)(ho:old < 4294967296)(h16:old%16=o16)(hn:b%32=0) :
  Calls Tryz.prog 81 #[.int .i64 9,.int .u32 a,.int .u32 b,.int .u32 old] w fun e w'=>e=.returned (.tuple #[.int .u32 ((a:Int)),.int .u32 ((o16:Int))])∧Below w.heap.size w w':=by
 have h15:bits .and .u32 (old:Int) 15=(o16:Int):=by rw[zAl old ho,h16]
 have ho16:o16 < 16:=aO
 have h31:bits .and .u32 (b:Int) 31=0:=by rw[zBe b hb,hn];rfl
 have HN:Hid _:=hn
 clear hn
 have c0:uP[27]?=some (.int .u8 8):=by kernel_rfl
 have c1:uP[28]?=some (.bool false):=by kernel_rfl
 have c2:uP[29]?=some (.bool false):=by kernel_rfl
 have zW:=(Go.zero_of_info vI).1
 have H16:Hid _:=h16
 clear h16
 go_enter Tryz.func81,Tryz.ntmps81
 go_wp2_with (first
  | (refine Gu.zL 14 14 _ _ _ ⟨#[.int .i64 9,.int .u32 a,.int .u32 b,.int .u32 old,undef,undef,undef,undef,.int .u32 0,.int .u32 0,undef,undef,undef,undef,.agg #[.int .u8 0,.bool false,.bool false],.agg #[.int .u8 1,.bool false,.bool false],.agg #[.int .u8 1,.bool true,.bool false],.agg #[.int .u8 2,.bool false,.bool false],.agg #[.int .u8 2,.bool true,.bool false],.agg #[.int .u8 3,.bool false,.bool false],.agg #[.int .u8 5,.bool false,.bool false],.agg #[.int .u8 6,.bool false,.bool false],.agg #[.int .u8 7,.bool false,.bool false],.agg #[.int .u8 8,.bool false,.bool false],.agg #[.int .u8 4,.bool false,.bool false],.agg #[.int .u8 1,.bool false,.bool true],.agg #[.int .u8 2,.bool false,.bool true],.agg uP,undef,undef,undef,undef,undef,undef,undef,undef,undef,undef,undef,undef,undef,undef,undef,undef,undef,undef,undef,undef,undef,undef,undef,undef,undef,undef,undef,undef,undef,undef,undef,undef,undef,undef,undef,undef,undef,undef,undef,undef,undef,undef,undef,undef,undef,undef,undef,undef,undef,undef,undef,undef,undef,undef,undef,undef,undef,undef,undef,undef,undef,undef,undef,undef,undef,undef,undef,undef,undef,undef,undef,undef,undef,undef],[]⟩ rfl (by kernel_rfl) ?_;simp only[List.drop_succ_cons,List.drop_zero])
  | (refine Gu.zK rfl 166 rfl _ zW w.heap.size rfl ?_)
  | (refine wkS rfl rfl rfl rfl rfl ?_)
  | (go_at_call 97;refine(zBd 8 a o16 _).mono ?_;rintro e w1 ⟨rfl,rfl⟩))
 go_ret2
 exact⟨zAC rfl rfl,yI w _ _⟩
theorem zNT(a b old o16:Nat)(w:World)(ha:a < 4294967296)(hb:b < 4294967296)(ho:old < 4294967296)(h16:old%16=o16)(n:Nat)(hn:b%32=n)(h0:0 < n) :
  Calls Tryz.prog 81 #[.int .i64 9,.int .u32 a,.int .u32 b,.int .u32 old] w fun e w'=>e=.returned (.tuple #[.int .u32 (Fl.vT n a),.int .u32 (Fl.zBH a n o16)])∧Below w.heap.size w w':=by
 have h15:bits .and .u32 (old:Int) 15=(o16:Int):=by rw[zAl old ho,h16]
 have ho16:o16 < 16:=aO
 have h31:bits .and .u32 (b:Int) 31=(n:Int):=by rw[zBe b hb,hn]
 have hnl:n < 32:=aO
 have HN:Hid _:=hn
 clear hn
 obtain⟨t,ht⟩:∃ t:Nat,Fl.vT n a=t:=⟨(Fl.vT n a).toNat,by have:=Fl.uO n a aO aO;omega⟩
 have HT:Hid _:=ht
 clear ht
 have c0:uP[27]?=some (.int .u8 8):=by kernel_rfl
 have c1:uP[28]?=some (.bool false):=by kernel_rfl
 have c2:uP[29]?=some (.bool false):=by kernel_rfl
 have zW:=(Go.zero_of_info vI).1
 have H16:Hid _:=h16
 clear h16
 go_enter Tryz.func81,Tryz.ntmps81
 go_wp2_with (first
  | (refine Gu.zL 14 14 _ _ _ ⟨#[.int .i64 9,.int .u32 a,.int .u32 b,.int .u32 old,undef,undef,undef,undef,.int .u32 0,.int .u32 0,undef,undef,undef,undef,.agg #[.int .u8 0,.bool false,.bool false],.agg #[.int .u8 1,.bool false,.bool false],.agg #[.int .u8 1,.bool true,.bool false],.agg #[.int .u8 2,.bool false,.bool false],.agg #[.int .u8 2,.bool true,.bool false],.agg #[.int .u8 3,.bool false,.bool false],.agg #[.int .u8 5,.bool false,.bool false],.agg #[.int .u8 6,.bool false,.bool false],.agg #[.int .u8 7,.bool false,.bool false],.agg #[.int .u8 8,.bool false,.bool false],.agg #[.int .u8 4,.bool false,.bool false],.agg #[.int .u8 1,.bool false,.bool true],.agg #[.int .u8 2,.bool false,.bool true],.agg uP,undef,undef,undef,undef,undef,undef,undef,undef,undef,undef,undef,undef,undef,undef,undef,undef,undef,undef,undef,undef,undef,undef,undef,undef,undef,undef,undef,undef,undef,undef,undef,undef,undef,undef,undef,undef,undef,undef,undef,undef,undef,undef,undef,undef,undef,undef,undef,undef,undef,undef,undef,undef,undef,undef,undef,undef,undef,undef,undef,undef,undef,undef,undef,undef,undef,undef,undef,undef,undef,undef,undef,undef,undef,undef],[]⟩ rfl (by kernel_rfl) ?_;simp only[List.drop_succ_cons,List.drop_zero])
  | (refine Gu.zK rfl 166 rfl _ zW w.heap.size rfl ?_)
  | (refine wkS rfl rfl rfl rfl rfl ?_)
  | (go_at_call 97;refine(zM3 a n o16 t _ HT.out ha h0 hnl ho16).mono ?_;rintro e w1 ⟨rfl,hB⟩))
 go_ret2
 exact⟨zAC HT.out.symm rfl,zB1 hB⟩
end Go.Proofs.YthcpipfmicbnmaaGreat.Va
