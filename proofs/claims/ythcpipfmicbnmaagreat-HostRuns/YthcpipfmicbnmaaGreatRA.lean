import Derived.Test.YthcpipfmicbnmaaGreatHC
import Derived.Test.YthcpipfmicbnmaaGreatHF
set_option linter.unusedVariables false
set_option linter.unusedSimpArgs false
set_option maxHeartbeats 1000000
namespace Go.Proofs.YthcpipfmicbnmaaGreat.Ho
open Go.RowKit
set_option maxRecDepth 100000
def upd{α:Type}(f:Nat→α)(i:Nat)(v:α):Nat→α:=fun j=>if j=i then v else f j
structure RB(w:World)(R:Nat)(f:Nat→Value):Prop where
 c:∀ o,o < 4148→w.cell? ⟨R,o,none⟩=some (f o)
 fz:∀ o,w.frozen? ⟨R,o,none⟩=false
 lt:R < w.heap.size
theorem RB.set{w:World}{R:Nat}{f:Nat→Value}(h:RB w R f)(o:Nat)(ho:o < 4148)(v:Value):RB (w.setCell ⟨R,o,none⟩ v) R (upd f o v):=by
 refine⟨fun o' ho'=>?_,fun o'=>?_,by simpa using h.lt⟩
 ·by_cases e:o'=o
  ·subst e;rw[World.cell?_setCell_same _ _ _ (h.c o' ho)];simp[upd]
  ·rw[World.cell?_setCell_other _ _ _ _ (by intro h;cases h;exact e rfl),h.c o' ho'];simp[upd,e]
 ·rw[World.frozen?_setCell];exact h.fz o'
theorem RB.drw{w:World}{R:Nat}{f:Nat→Value}(h:RB w R f):RB w.drew R f:=⟨h.c,h.fz,h.lt⟩
theorem RB.drwN{w:World}{R:Nat}{f:Nat→Value}(h:RB w R f)(n:Nat):RB (w.drewN n) R f:=⟨h.c,h.fz,h.lt⟩
theorem RB.chg{S:List Nat}{w w':World}{R:Nat}{f:Nat→Value}(h:RB w R f)(c:zI S w w')(hR:R∉S):RB w' R f:=
 ⟨fun o ho=>(World.cell?_of_block (w:=w) (c.block R h.lt hR)).trans (h.c o ho),fun o=>(World.frozen?_of_block (w:=w) (c.block R h.lt hR)).trans (h.fz o),Nat.lt_of_lt_of_le h.lt c.size⟩
theorem RB.al{w:World}{R:Nat}{f:Nat→Value}(h:RB w R f)(o:Obj):RB (w.alloc o) R f:=h.chg (S:=[]) ((zI.refl _ _).alloc o) aS
structure HP where
 c:Nat→Nat
 left:Int
 next:Int
 done:Int
 count:Int
 ent:Int
 rn:Nat→Nat
 re:Nat→Int
 sn:Nat→Nat
 se:Nat→Int
def hpL(ws tb:Value)(X:Nat)(h:HP)(o:Nat):Value:=
 if o=0 then ws else if o < 13 then .int .u32 (h.c (o - 1)) else if o=13 then .pointer (some ⟨X,0,none⟩) else if o=14 then .int .i64 h.left else if o=15 then tb
 else if o=16 then .int .i64 h.next else if o=17 then .int .i64 h.done else if o=18 then .int .i64 h.count else .int .i32 h.ent
def yB(ws tb:Value)(X:Nat)(h:HP)(o:Nat):Value:=
 if o < 20 then hpL ws tb X h o
 else if o < 52 then(if o%2=0 then .int .u32 (h.rn ((o - 20) / 2)) else .int .i32 (h.re ((o - 20) / 2)))
 else(if o%2=0 then .int .u32 (h.sn ((o - 52) / 2)) else .int .i32 (h.se ((o - 52) / 2)))
def HP.reg(h:HP)(r:Nat)(v:Nat):HP:={ h with rn:=upd h.rn r v,re:=upd h.re r h.ent }
def HP.spill(h:HP)(r:Nat)(v:Nat):HP:={ h with sn:=upd h.sn r v,se:=upd h.se r h.ent }
theorem zMG(ws tb:Value)(X:Nat)(h:HP)(r v:Nat)(hr:r < 16):upd (upd (yB ws tb X h) (20+r*2) (.int .u32 v)) (20+r*2+1) (.int .i32 h.ent)=yB ws tb X (h.reg r v):=by
 funext o
 unfold upd
 by_cases e1:o=20+r*2+1
 ·rw[if_pos e1];subst e1
  unfold yB
  rw[if_neg aO,if_pos aO,if_neg aO,show(20+r*2+1 - 20) / 2=r by omega]
  simp[HP.reg,upd]
 ·rw[if_neg e1]
  by_cases e2:o=20+r*2
  ·rw[if_pos e2];subst e2
   unfold yB
   rw[if_neg aO,if_pos aO,if_pos aO,show(20+r*2 - 20) / 2=r by omega]
   simp[HP.reg,upd]
  ·rw[if_neg e2]
   unfold yB
   by_cases h1:o < 20
   ·rw[if_pos h1,if_pos h1];rfl
   ·rw[if_neg h1,if_neg h1]
    by_cases h2:o < 52
    ·rw[if_pos h2,if_pos h2]
     have hq:¬(o - 20) / 2=r:=aO
     simp only[HP.reg,upd,if_neg hq]
    ·rw[if_neg h2,if_neg h2];rfl
theorem zJn(ws tb:Value)(X:Nat)(h:HP)(r v:Nat):upd (upd (yB ws tb X h) (52+r*2) (.int .u32 v)) (52+r*2+1) (.int .i32 h.ent)=yB ws tb X (h.spill r v):=by
 funext o
 unfold upd
 by_cases e1:o=52+r*2+1
 ·rw[if_pos e1];subst e1
  unfold yB
  rw[if_neg aO,if_neg aO,if_neg aO,show(52+r*2+1 - 52) / 2=r by omega]
  simp[HP.spill,upd]
 ·rw[if_neg e1]
  by_cases e2:o=52+r*2
  ·rw[if_pos e2];subst e2
   unfold yB
   rw[if_neg aO,if_neg aO,if_pos aO,show(52+r*2 - 52) / 2=r by omega]
   simp[HP.spill,upd]
  ·rw[if_neg e2]
   unfold yB
   by_cases h1:o < 20
   ·rw[if_pos h1,if_pos h1];rfl
   ·rw[if_neg h1,if_neg h1]
    by_cases h2:o < 52
    ·rw[if_pos h2,if_pos h2];rfl
    ·rw[if_neg h2,if_neg h2]
     have hq:¬(o - 52) / 2=r:=aO
     simp only[HP.spill,upd,if_neg hq]
theorem zGI(ws tb:Value)(X:Nat)(h:HP)(r:Nat)(hr:r < 16):yB ws tb X h (20+r*2)=.int .u32 (h.rn r)∧yB ws tb X h (20+r*2+1)=.int .i32 (h.re r):=by
 unfold yB
 exact⟨by rw[if_neg aO,if_pos aO,if_pos aO,show(20+r*2 - 20) / 2=r by omega],by rw[if_neg aO,if_pos aO,if_neg aO,show(20+r*2+1 - 20) / 2=r by omega]⟩
theorem zGJ(ws tb:Value)(X:Nat)(h:HP)(r:Nat):yB ws tb X h (52+r*2)=.int .u32 (h.sn r)∧yB ws tb X h (52+r*2+1)=.int .i32 (h.se r):=by
 unfold yB
 exact⟨by rw[if_neg aO,if_neg aO,if_pos aO,show(52+r*2 - 52) / 2=r by omega],by rw[if_neg aO,if_neg aO,if_neg aO,show(52+r*2+1 - 52) / 2=r by omega]⟩
theorem zBV(ws tb:Value)(X:Nat)(h:HP)(i:Nat)(hi:i < 12):yB ws tb X h (1+i)=.int .u32 (h.c i):=by
 unfold yB hpL
 rw[if_pos aO,if_neg aO,if_pos aO,show 1+i - 1=i by omega]
theorem zAP(R r v X:Nat)(ws tb:Value)(h:HP)(w:World)(hR:RB w R (yB ws tb X h))(hr:r < 16) :
  Calls Tryz.prog 49 #[.pointer (some ⟨R,0,none⟩),.pointer (some ⟨R,20+r*2,none⟩),.int .u32 v] w fun e w'=>e=.returned (.tuple #[])∧RB w' R (yB ws tb X (h.reg r v))∧zI [R] w w':=by
 have c19:w.cell? ⟨R,19,none⟩=some (.int .i32 h.ent):=hR.c 19 aO
 have cp:=hR.c (20+r*2) aO
 have cq:=hR.c (20+r*2+1) aO
 have fp:=hR.fz (20+r*2)
 have fq:=hR.fz (20+r*2+1)
 have lR:=hR.lt
 have HR:Hid _:=hR
 clear hR
 go_enter Tryz.func49,Tryz.ntmps49
 go_wp2
 go_end0
 exact⟨rfl,by rw[← zMG ws tb X h r v hr];exact(HR.out.set (20+r*2) aO _).set (20+r*2+1) aO _,((zI.refl [R] w).set aS _ _).set aS _ _⟩
theorem zFQ(R r v X:Nat)(ws tb:Value)(h:HP)(w:World)(hR:RB w R (yB ws tb X h))(hr:r < 2048) :
  Calls Tryz.prog 49 #[.pointer (some ⟨R,0,none⟩),.pointer (some ⟨R,52+r*2,none⟩),.int .u32 v] w fun e w'=>e=.returned (.tuple #[])∧RB w' R (yB ws tb X (h.spill r v))∧zI [R] w w':=by
 have c19:w.cell? ⟨R,19,none⟩=some (.int .i32 h.ent):=hR.c 19 aO
 have cp:=hR.c (52+r*2) aO
 have cq:=hR.c (52+r*2+1) aO
 have fp:=hR.fz (52+r*2)
 have fq:=hR.fz (52+r*2+1)
 have lR:=hR.lt
 have HR:Hid _:=hR
 clear hR
 go_enter Tryz.func49,Tryz.ntmps49
 go_wp2
 go_end0
 exact⟨rfl,by rw[← zJn ws tb X h r v];exact(HR.out.set (52+r*2) aO _).set (52+r*2+1) aO _,((zI.refl [R] w).set aS _ _).set aS _ _⟩
theorem zDN(R r X ST BR:Nat)(ws tb:Value)(h:HP)(w:World)(hR:RB w R (yB ws tb X h))(hr:r < 16)(hS:w.heap[ST]?=some (.cells #[.bool true] 4))(hB:w.heap[BR]?=some (.cells #[.pointer (some ⟨R,0,none⟩)] 85))(hne:ST≠R)(hnb:ST≠BR) :
  Calls Tryz.prog 47 #[.pointer (some ⟨R,20+r*2,none⟩),.pointer (some ⟨ST,0,none⟩),.pointer (some ⟨BR,0,none⟩)] w fun e w'=>e=.returned (.int .u32 (h.rn r))∧w'.heap[ST]?=some (.cells #[.bool true] 4)∧zI [ST] w w':=by
 have c19:w.cell? ⟨R,19,none⟩=some (.int .i32 h.ent):=hR.c 19 aO
 have cp:w.cell? ⟨R,20+r*2,none⟩=some (.int .u32 (h.rn r)):=by rw[hR.c _ aO,(zGI ws tb X h r hr).1]
 have cq:w.cell? ⟨R,20+r*2+1,none⟩=some (.int .i32 (h.re r)):=by rw[hR.c _ aO,(zGI ws tb X h r hr).2]
 have cs:w.cell? ⟨ST,0,none⟩=some (.bool true):=zA hS 0
 have cb:w.cell? ⟨BR,0,none⟩=some (.pointer (some ⟨R,0,none⟩)):=zA hB 0
 have fs:=zD hS 0
 have lS:=zE hS
 have lB:=zE hB
 have lR:=hR.lt
 have n1:¬R=ST:=fun e=>hne e.symm
 have n2:¬BR=ST:=fun e=>hnb e.symm
 have HS:Hid _:=hS
 clear hR hS hB hne hnb
 go_enter Tryz.func47,Tryz.ntmps47
 go_upto_region 1 with fail
 go_region
 all_goals
  go_wp2
  go_ret
  exact⟨rfl,zZ (o:=0) HS.out _,by first|exact((zI.refl [ST] w).set aS _ _)|exact((zI.refl [ST] w).set aS _ _).drew⟩
theorem zDA(R r X ST BR:Nat)(ws tb:Value)(h:HP)(w:World)(hR:RB w R (yB ws tb X h))(hr:r < 16)(hS:w.heap[ST]?=some (.cells #[.bool false] 4))(hB:w.heap[BR]?=some (.cells #[.pointer (some ⟨R,0,none⟩)] 85))(hne:ST≠R)(hnb:ST≠BR) :
  Calls Tryz.prog 47 #[.pointer (some ⟨R,20+r*2,none⟩),.pointer (some ⟨ST,0,none⟩),.pointer (some ⟨BR,0,none⟩)] w fun e w'=>e=.returned (.int .u32 (h.rn r))∧w'.heap[ST]?=some (.cells #[.bool (h.re r !=h.ent)] 4)∧zI [ST] w w':=by
 have c19:w.cell? ⟨R,19,none⟩=some (.int .i32 h.ent):=hR.c 19 aO
 have cp:w.cell? ⟨R,20+r*2,none⟩=some (.int .u32 (h.rn r)):=by rw[hR.c _ aO,(zGI ws tb X h r hr).1]
 have cq:w.cell? ⟨R,20+r*2+1,none⟩=some (.int .i32 (h.re r)):=by rw[hR.c _ aO,(zGI ws tb X h r hr).2]
 have cs:w.cell? ⟨ST,0,none⟩=some (.bool false):=zA hS 0
 have cb:w.cell? ⟨BR,0,none⟩=some (.pointer (some ⟨R,0,none⟩)):=zA hB 0
 have fs:=zD hS 0
 have lS:=zE hS
 have lB:=zE hB
 have lR:=hR.lt
 have n1:¬R=ST:=fun e=>hne e.symm
 have n2:¬BR=ST:=fun e=>hnb e.symm
 have HS:Hid _:=hS
 clear hR hS hB hne hnb
 go_enter Tryz.func47,Tryz.ntmps47
 go_upto_region 1 with fail
 go_region
 all_goals
  go_wp2
  go_ret
  exact⟨rfl,zZ (o:=0) HS.out _,by first|exact((zI.refl [ST] w).set aS _ _)|exact((zI.refl [ST] w).set aS _ _).drew⟩
theorem zCS(R r X ST BR:Nat)(ws tb:Value)(h:HP)(w:World)(hR:RB w R (yB ws tb X h))(hr:r < 2048)(hS:w.heap[ST]?=some (.cells #[.bool true] 4))(hB:w.heap[BR]?=some (.cells #[.pointer (some ⟨R,0,none⟩)] 85))(hne:ST≠R)(hnb:ST≠BR) :
  Calls Tryz.prog 47 #[.pointer (some ⟨R,52+r*2,none⟩),.pointer (some ⟨ST,0,none⟩),.pointer (some ⟨BR,0,none⟩)] w fun e w'=>e=.returned (.int .u32 (h.sn r))∧w'.heap[ST]?=some (.cells #[.bool true] 4)∧zI [ST] w w':=by
 have c19:w.cell? ⟨R,19,none⟩=some (.int .i32 h.ent):=hR.c 19 aO
 have cp:w.cell? ⟨R,52+r*2,none⟩=some (.int .u32 (h.sn r)):=by rw[hR.c _ aO,(zGJ ws tb X h r).1]
 have cq:w.cell? ⟨R,52+r*2+1,none⟩=some (.int .i32 (h.se r)):=by rw[hR.c _ aO,(zGJ ws tb X h r).2]
 have cs:w.cell? ⟨ST,0,none⟩=some (.bool true):=zA hS 0
 have cb:w.cell? ⟨BR,0,none⟩=some (.pointer (some ⟨R,0,none⟩)):=zA hB 0
 have fs:=zD hS 0
 have lS:=zE hS
 have lB:=zE hB
 have lR:=hR.lt
 have n1:¬R=ST:=fun e=>hne e.symm
 have n2:¬BR=ST:=fun e=>hnb e.symm
 have HS:Hid _:=hS
 clear hR hS hB hne hnb
 go_enter Tryz.func47,Tryz.ntmps47
 go_upto_region 1 with fail
 go_region
 all_goals
  go_wp2
  go_ret
  exact⟨rfl,zZ (o:=0) HS.out _,by first|exact((zI.refl [ST] w).set aS _ _)|exact((zI.refl [ST] w).set aS _ _).drew⟩
theorem zCy(R r X ST BR:Nat)(ws tb:Value)(h:HP)(w:World)(hR:RB w R (yB ws tb X h))(hr:r < 2048)(hS:w.heap[ST]?=some (.cells #[.bool false] 4))(hB:w.heap[BR]?=some (.cells #[.pointer (some ⟨R,0,none⟩)] 85))(hne:ST≠R)(hnb:ST≠BR) :
  Calls Tryz.prog 47 #[.pointer (some ⟨R,52+r*2,none⟩),.pointer (some ⟨ST,0,none⟩),.pointer (some ⟨BR,0,none⟩)] w fun e w'=>e=.returned (.int .u32 (h.sn r))∧w'.heap[ST]?=some (.cells #[.bool (h.se r !=h.ent)] 4)∧zI [ST] w w':=by
 have c19:w.cell? ⟨R,19,none⟩=some (.int .i32 h.ent):=hR.c 19 aO
 have cp:w.cell? ⟨R,52+r*2,none⟩=some (.int .u32 (h.sn r)):=by rw[hR.c _ aO,(zGJ ws tb X h r).1]
 have cq:w.cell? ⟨R,52+r*2+1,none⟩=some (.int .i32 (h.se r)):=by rw[hR.c _ aO,(zGJ ws tb X h r).2]
 have cs:w.cell? ⟨ST,0,none⟩=some (.bool false):=zA hS 0
 have cb:w.cell? ⟨BR,0,none⟩=some (.pointer (some ⟨R,0,none⟩)):=zA hB 0
 have fs:=zD hS 0
 have lS:=zE hS
 have lB:=zE hB
 have lR:=hR.lt
 have n1:¬R=ST:=fun e=>hne e.symm
 have n2:¬BR=ST:=fun e=>hnb e.symm
 have HS:Hid _:=hS
 clear hR hS hB hne hnb
 go_enter Tryz.func47,Tryz.ntmps47
 go_upto_region 1 with fail
 go_region
 all_goals
  go_wp2
  go_ret
  exact⟨rfl,zZ (o:=0) HS.out _,by first|exact((zI.refl [ST] w).set aS _ _)|exact((zI.refl [ST] w).set aS _ _).drew⟩
theorem zB5(R r X ST BR:Nat)(st:Bool)(ws tb:Value)(h:HP)(w:World)(hR:RB w R (yB ws tb X h))(hr:r < 16)(hS:w.heap[ST]?=some (.cells #[.bool st] 4))(hB:w.heap[BR]?=some (.cells #[.pointer (some ⟨R,0,none⟩)] 85))(hne:ST≠R)(hnb:ST≠BR) :
  Calls Tryz.prog 47 #[.pointer (some ⟨R,20+r*2,none⟩),.pointer (some ⟨ST,0,none⟩),.pointer (some ⟨BR,0,none⟩)] w fun e w'=>e=.returned (.int .u32 (h.rn r))∧w'.heap[ST]?=some (.cells #[.bool (st || (h.re r !=h.ent))] 4)∧zI [ST] w w':=by
 cases st
 ·simpa using zDA R r X ST BR ws tb h w hR hr hS hB hne hnb
 ·simpa using zDN R r X ST BR ws tb h w hR hr hS hB hne hnb
theorem zGs(R r X ST BR:Nat)(st:Bool)(ws tb:Value)(h:HP)(w:World)(hR:RB w R (yB ws tb X h))(hr:r < 2048)(hS:w.heap[ST]?=some (.cells #[.bool st] 4))(hB:w.heap[BR]?=some (.cells #[.pointer (some ⟨R,0,none⟩)] 85))(hne:ST≠R)(hnb:ST≠BR) :
  Calls Tryz.prog 47 #[.pointer (some ⟨R,52+r*2,none⟩),.pointer (some ⟨ST,0,none⟩),.pointer (some ⟨BR,0,none⟩)] w fun e w'=>e=.returned (.int .u32 (h.sn r))∧w'.heap[ST]?=some (.cells #[.bool (st || (h.se r !=h.ent))] 4)∧zI [ST] w w':=by
 cases st
 ·simpa using zCy R r X ST BR ws tb h w hR hr hS hB hne hnb
 ·simpa using zCS R r X ST BR ws tb h w hR hr hS hB hne hnb
structure DW(w:World)(R X I ST BR BF BD:Nat)(ws tb:Value)(h:HP)(has:Int)(st:Bool):Prop where
 r:RB w R (yB ws tb X h)
 s:w.heap[ST]?=some (.cells #[.bool st] 4)
 br:w.heap[BR]?=some (.cells #[.pointer (some ⟨R,0,none⟩)] 85)
 bf:w.heap[BF]?=some (.cells #[.pointer (some ⟨I,8,none⟩)] 94)
 bd:w.heap[BD]?=some (.cells #[.func (Fn.func 47) #[] #[.pointer (some ⟨ST,0,none⟩),.pointer (some ⟨BR,0,none⟩)]] 110)
 ch:w.cell? ⟨I,11,none⟩=some (.int .u16 has)
 lI:I < w.heap.size
 n1:ST≠R
 n2:ST≠BR
 n3:ST≠BF
 n4:ST≠BD
 n5:ST≠I
theorem DW.step{w w':World}{R X I ST BR BF BD:Nat}{ws tb:Value}{h:HP}{has:Int}{st st':Bool}(d:DW w R X I ST BR BF BD ws tb h has st)(c:zI [ST] w w')(b:w'.heap[ST]?=some (.cells #[.bool st'] 4)):DW w' R X I ST BR BF BD ws tb h has st':=
 ⟨d.r.chg c (by simpa using d.n1.symm),b,c.keep d.br (by simpa using d.n2.symm),c.keep d.bf (by simpa using d.n3.symm),c.keep d.bd (by simpa using d.n4.symm),(World.cell?_of_block (w:=w) (c.block I d.lI (by simpa using d.n5.symm))).trans d.ch,Nat.lt_of_lt_of_le d.lI c.size,d.n1,d.n2,d.n3,d.n4,d.n5⟩
theorem DW.drw{w:World}{R X I ST BR BF BD:Nat}{ws tb:Value}{h:HP}{has:Int}{st:Bool}(d:DW w R X I ST BR BF BD ws tb h has st):DW w.drew R X I ST BR BF BD ws tb h has st:=
 ⟨d.r.drw,d.s,d.br,d.bf,d.bd,d.ch,d.lI,d.n1,d.n2,d.n3,d.n4,d.n5⟩
def uI(c:Bool)(h:HP)(r:Nat):Nat:=if c then h.rn r else 0
def tkS(c:Bool)(h:HP)(r:Nat):Bool:=c && (h.re r !=h.ent)
theorem zNG(R X I ST BR BF BD r:Nat)(ws tb:Value)(h:HP)(has:Int)(st:Bool)(w:World)(d:DW w R X I ST BR BF BD ws tb h has st)(hr:r < 16) :
  Calls Tryz.prog 48 #[.int .u16 1,.int .i64 r,.pointer (some ⟨BF,0,none⟩),.pointer (some ⟨BD,0,none⟩),.pointer (some ⟨BR,0,none⟩)] w fun e w'=>e=.returned (.int .u32 (uI (hb has 1) h r))∧DW w' R X I ST BR BF BD ws tb h has (st || tkS (hb has 1) h r)∧zI [ST] w w':=by
 have c0:w.cell? ⟨BF,0,none⟩=some (.pointer (some ⟨I,8,none⟩)):=zA d.bf 0
 have c1:w.cell? ⟨BD,0,none⟩=some (.func (Fn.func 47) #[] #[.pointer (some ⟨ST,0,none⟩),.pointer (some ⟨BR,0,none⟩)]):=zA d.bd 0
 have c2:w.cell? ⟨BR,0,none⟩=some (.pointer (some ⟨R,0,none⟩)):=zA d.br 0
 have c3:=d.ch
 have l0:=zE d.bf
 have l1:=zE d.bd
 have l2:=zE d.br
 have l3:=d.lI
 have l4:=d.r.lt
 have r0:(0:Int)≤r:=aO
 have r1:(r:Int) < 16:=aO
 have HD:Hid _:=d
 have HR:Hid _:=hr
 clear hr d
 cases hc:hb has 1
 ·have hz:bits .and .u16 has 1=0:=(hb_iff _ _).2 hc
  clear hc
  go_enter Tryz.func48,Tryz.ntmps48
  go_wp2_with (fail)
  go_ret
  exact⟨rfl,by simpa[tkS] using HD.out,zI.refl _ _⟩
 ·have hz:(bits .and .u16 has 1==0)=false:=by simpa[hb] using hc
  clear hc
  go_enter Tryz.func48,Tryz.ntmps48
  go_upto_region 3 with fail
  go_region_held3 (fun W'=>W'.cell? ⟨BD,0,none⟩=some (.func (Fn.func 47) #[] #[.pointer (some ⟨ST,0,none⟩),.pointer (some ⟨BR,0,none⟩)])∧W'.cell? ⟨BR,0,none⟩=some (.pointer (some ⟨R,0,none⟩))) (first|(simp[go_sem,c1,c2];done)|(simp[go_sem,z1,z2];done)) ((go_at_call 47;refine(zB5 R r X ST BR st ws tb h _ ?_ HR.out ?_ ?_ HD.out.n1 HD.out.n2).mono ?_;(focus(first|exact HD.out.r|exact HD.out.drw.r));(focus(exact HD.out.drw.s));(focus(exact HD.out.drw.br));rintro e w1 ⟨rfl,hb1,hc1⟩;have h1:=HD.out.drw.step hc1 hb1;have z1:w1.cell? ⟨BD,0,none⟩=some (.func (Fn.func 47) #[] #[.pointer (some ⟨ST,0,none⟩),.pointer (some ⟨BR,0,none⟩)]):=zA h1.bd 0;have z2:w1.cell? ⟨BR,0,none⟩=some (.pointer (some ⟨R,0,none⟩)):=zA h1.br 0;have H1:Hid _:=h1;have HC1:Hid _:=hc1;clear hc1 hb1 h1))
  go_wp2
  go_ret
  exact⟨rfl,by simpa[tkS] using H1.out,((zI.refl [ST] w).drew).trans HC1.out⟩
theorem zNH(R X I ST BR BF BD r:Nat)(ws tb:Value)(h:HP)(has:Int)(st:Bool)(w:World)(d:DW w R X I ST BR BF BD ws tb h has st)(hr:r < 16) :
  Calls Tryz.prog 48 #[.int .u16 2,.int .i64 r,.pointer (some ⟨BF,0,none⟩),.pointer (some ⟨BD,0,none⟩),.pointer (some ⟨BR,0,none⟩)] w fun e w'=>e=.returned (.int .u32 (uI (hb has 2) h r))∧DW w' R X I ST BR BF BD ws tb h has (st || tkS (hb has 2) h r)∧zI [ST] w w':=by
 have c0:w.cell? ⟨BF,0,none⟩=some (.pointer (some ⟨I,8,none⟩)):=zA d.bf 0
 have c1:w.cell? ⟨BD,0,none⟩=some (.func (Fn.func 47) #[] #[.pointer (some ⟨ST,0,none⟩),.pointer (some ⟨BR,0,none⟩)]):=zA d.bd 0
 have c2:w.cell? ⟨BR,0,none⟩=some (.pointer (some ⟨R,0,none⟩)):=zA d.br 0
 have c3:=d.ch
 have l0:=zE d.bf
 have l1:=zE d.bd
 have l2:=zE d.br
 have l3:=d.lI
 have l4:=d.r.lt
 have r0:(0:Int)≤r:=aO
 have r1:(r:Int) < 16:=aO
 have HD:Hid _:=d
 have HR:Hid _:=hr
 clear hr d
 cases hc:hb has 2
 ·have hz:bits .and .u16 has 2=0:=(hb_iff _ _).2 hc
  clear hc
  go_enter Tryz.func48,Tryz.ntmps48
  go_wp2_with (fail)
  go_ret
  exact⟨rfl,by simpa[tkS] using HD.out,zI.refl _ _⟩
 ·have hz:(bits .and .u16 has 2==0)=false:=by simpa[hb] using hc
  clear hc
  go_enter Tryz.func48,Tryz.ntmps48
  go_upto_region 3 with fail
  go_region_held3 (fun W'=>W'.cell? ⟨BD,0,none⟩=some (.func (Fn.func 47) #[] #[.pointer (some ⟨ST,0,none⟩),.pointer (some ⟨BR,0,none⟩)])∧W'.cell? ⟨BR,0,none⟩=some (.pointer (some ⟨R,0,none⟩))) (first|(simp[go_sem,c1,c2];done)|(simp[go_sem,z1,z2];done)) ((go_at_call 47;refine(zB5 R r X ST BR st ws tb h _ ?_ HR.out ?_ ?_ HD.out.n1 HD.out.n2).mono ?_;(focus(first|exact HD.out.r|exact HD.out.drw.r));(focus(exact HD.out.drw.s));(focus(exact HD.out.drw.br));rintro e w1 ⟨rfl,hb1,hc1⟩;have h1:=HD.out.drw.step hc1 hb1;have z1:w1.cell? ⟨BD,0,none⟩=some (.func (Fn.func 47) #[] #[.pointer (some ⟨ST,0,none⟩),.pointer (some ⟨BR,0,none⟩)]):=zA h1.bd 0;have z2:w1.cell? ⟨BR,0,none⟩=some (.pointer (some ⟨R,0,none⟩)):=zA h1.br 0;have H1:Hid _:=h1;have HC1:Hid _:=hc1;clear hc1 hb1 h1))
  go_wp2
  go_ret
  exact⟨rfl,by simpa[tkS] using H1.out,((zI.refl [ST] w).drew).trans HC1.out⟩
theorem zNI(R X I ST BR BF BD r:Nat)(ws tb:Value)(h:HP)(has:Int)(st:Bool)(w:World)(d:DW w R X I ST BR BF BD ws tb h has st)(hr:r < 16) :
  Calls Tryz.prog 48 #[.int .u16 4,.int .i64 r,.pointer (some ⟨BF,0,none⟩),.pointer (some ⟨BD,0,none⟩),.pointer (some ⟨BR,0,none⟩)] w fun e w'=>e=.returned (.int .u32 (uI (hb has 4) h r))∧DW w' R X I ST BR BF BD ws tb h has (st || tkS (hb has 4) h r)∧zI [ST] w w':=by
 have c0:w.cell? ⟨BF,0,none⟩=some (.pointer (some ⟨I,8,none⟩)):=zA d.bf 0
 have c1:w.cell? ⟨BD,0,none⟩=some (.func (Fn.func 47) #[] #[.pointer (some ⟨ST,0,none⟩),.pointer (some ⟨BR,0,none⟩)]):=zA d.bd 0
 have c2:w.cell? ⟨BR,0,none⟩=some (.pointer (some ⟨R,0,none⟩)):=zA d.br 0
 have c3:=d.ch
 have l0:=zE d.bf
 have l1:=zE d.bd
 have l2:=zE d.br
 have l3:=d.lI
 have l4:=d.r.lt
 have r0:(0:Int)≤r:=aO
 have r1:(r:Int) < 16:=aO
 have HD:Hid _:=d
 have HR:Hid _:=hr
 clear hr d
 cases hc:hb has 4
 ·have hz:bits .and .u16 has 4=0:=(hb_iff _ _).2 hc
  clear hc
  go_enter Tryz.func48,Tryz.ntmps48
  go_wp2_with (fail)
  go_ret
  exact⟨rfl,by simpa[tkS] using HD.out,zI.refl _ _⟩
 ·have hz:(bits .and .u16 has 4==0)=false:=by simpa[hb] using hc
  clear hc
  go_enter Tryz.func48,Tryz.ntmps48
  go_upto_region 3 with fail
  go_region_held3 (fun W'=>W'.cell? ⟨BD,0,none⟩=some (.func (Fn.func 47) #[] #[.pointer (some ⟨ST,0,none⟩),.pointer (some ⟨BR,0,none⟩)])∧W'.cell? ⟨BR,0,none⟩=some (.pointer (some ⟨R,0,none⟩))) (first|(simp[go_sem,c1,c2];done)|(simp[go_sem,z1,z2];done)) ((go_at_call 47;refine(zB5 R r X ST BR st ws tb h _ ?_ HR.out ?_ ?_ HD.out.n1 HD.out.n2).mono ?_;(focus(first|exact HD.out.r|exact HD.out.drw.r));(focus(exact HD.out.drw.s));(focus(exact HD.out.drw.br));rintro e w1 ⟨rfl,hb1,hc1⟩;have h1:=HD.out.drw.step hc1 hb1;have z1:w1.cell? ⟨BD,0,none⟩=some (.func (Fn.func 47) #[] #[.pointer (some ⟨ST,0,none⟩),.pointer (some ⟨BR,0,none⟩)]):=zA h1.bd 0;have z2:w1.cell? ⟨BR,0,none⟩=some (.pointer (some ⟨R,0,none⟩)):=zA h1.br 0;have H1:Hid _:=h1;have HC1:Hid _:=hc1;clear hc1 hb1 h1))
  go_wp2
  go_ret
  exact⟨rfl,by simpa[tkS] using H1.out,((zI.refl [ST] w).drew).trans HC1.out⟩
theorem zJ9(R X I ST BR BF BD r:Nat)(ws tb:Value)(h:HP)(has:Int)(st:Bool)(w:World)(d:DW w R X I ST BR BF BD ws tb h has st)(hr:r < 16) :
  Calls Tryz.prog 48 #[.int .u16 128,.int .i64 r,.pointer (some ⟨BF,0,none⟩),.pointer (some ⟨BD,0,none⟩),.pointer (some ⟨BR,0,none⟩)] w fun e w'=>e=.returned (.int .u32 (uI (hb has 128) h r))∧DW w' R X I ST BR BF BD ws tb h has (st || tkS (hb has 128) h r)∧zI [ST] w w':=by
 have c0:w.cell? ⟨BF,0,none⟩=some (.pointer (some ⟨I,8,none⟩)):=zA d.bf 0
 have c1:w.cell? ⟨BD,0,none⟩=some (.func (Fn.func 47) #[] #[.pointer (some ⟨ST,0,none⟩),.pointer (some ⟨BR,0,none⟩)]):=zA d.bd 0
 have c2:w.cell? ⟨BR,0,none⟩=some (.pointer (some ⟨R,0,none⟩)):=zA d.br 0
 have c3:=d.ch
 have l0:=zE d.bf
 have l1:=zE d.bd
 have l2:=zE d.br
 have l3:=d.lI
 have l4:=d.r.lt
 have r0:(0:Int)≤r:=aO
 have r1:(r:Int) < 16:=aO
 have HD:Hid _:=d
 have HR:Hid _:=hr
 clear hr d
 cases hc:hb has 128
 ·have hz:bits .and .u16 has 128=0:=(hb_iff _ _).2 hc
  clear hc
  go_enter Tryz.func48,Tryz.ntmps48
  go_wp2_with (fail)
  go_ret
  exact⟨rfl,by simpa[tkS] using HD.out,zI.refl _ _⟩
 ·have hz:(bits .and .u16 has 128==0)=false:=by simpa[hb] using hc
  clear hc
  go_enter Tryz.func48,Tryz.ntmps48
  go_upto_region 3 with fail
  go_region_held3 (fun W'=>W'.cell? ⟨BD,0,none⟩=some (.func (Fn.func 47) #[] #[.pointer (some ⟨ST,0,none⟩),.pointer (some ⟨BR,0,none⟩)])∧W'.cell? ⟨BR,0,none⟩=some (.pointer (some ⟨R,0,none⟩))) (first|(simp[go_sem,c1,c2];done)|(simp[go_sem,z1,z2];done)) ((go_at_call 47;refine(zB5 R r X ST BR st ws tb h _ ?_ HR.out ?_ ?_ HD.out.n1 HD.out.n2).mono ?_;(focus(first|exact HD.out.r|exact HD.out.drw.r));(focus(exact HD.out.drw.s));(focus(exact HD.out.drw.br));rintro e w1 ⟨rfl,hb1,hc1⟩;have h1:=HD.out.drw.step hc1 hb1;have z1:w1.cell? ⟨BD,0,none⟩=some (.func (Fn.func 47) #[] #[.pointer (some ⟨ST,0,none⟩),.pointer (some ⟨BR,0,none⟩)]):=zA h1.bd 0;have z2:w1.cell? ⟨BR,0,none⟩=some (.pointer (some ⟨R,0,none⟩)):=zA h1.br 0;have H1:Hid _:=h1;have HC1:Hid _:=hc1;clear hc1 hb1 h1))
  go_wp2
  go_ret
  exact⟨rfl,by simpa[tkS] using H1.out,((zI.refl [ST] w).drew).trans HC1.out⟩
abbrev uW(a b c d:Nat):Array Value:=#[.int .u32 a,.int .u32 b,.int .u32 c,.int .u32 d]
theorem zI.drwN{S:List Nat}{a b:World}(h:zI S a b)(n:Nat):zI S a (b.drewN n):=h.trans ⟨rfl,rfl,rfl,Nat.le_refl _,fun _ _ _=>rfl⟩
def HP.slot(h:HP)(i v:Nat):HP:={ h with c:=upd h.c i v }
theorem zGh(ws tb:Value)(X:Nat)(h:HP)(i v:Nat)(hi:i < 12):upd (yB ws tb X h) (1+i) (.int .u32 v)=yB ws tb X (h.slot i v):=by
 funext o
 unfold upd
 by_cases e1:o=1+i
 ·rw[if_pos e1];subst e1
  rw[zBV ws tb X _ i hi];simp[HP.slot,upd]
 ·rw[if_neg e1]
  unfold yB
  by_cases h1:o < 20
  ·rw[if_pos h1,if_pos h1]
   unfold hpL
   by_cases e0:o=0
   ·simp only[e0,if_true]
   ·by_cases e2:o < 13
    ·have:¬o - 1=i:=aO
     simp only[e0,e2,if_false,if_true,HP.slot,upd,this]
    ·simp only[e0,e2,if_false,HP.slot]
  ·rw[if_neg h1,if_neg h1];rfl
theorem zHJ(R X I d n va vb vc vd:Nat)(ws tb:Value)(h:HP)(w:World)(hR:RB w R (yB ws tb X h))(c0:w.cell? ⟨I,0,none⟩=some (.int .i64 3))(c1:w.cell? ⟨I,1,none⟩=some (.int .i64 d))(c5:w.cell? ⟨I,5,none⟩=some (.int .i64 n))(lI:I < w.heap.size)(hd:d < 16)(hIR:I≠R) :
  Calls Tryz.prog 53 #[.pointer (some ⟨R,0,none⟩),.pointer (some ⟨I,0,none⟩),.agg (uW va vb vc vd)] w fun e w'=>e=.returned (.tuple #[])∧RB w' R (yB ws tb X (h.reg d va))∧zI [R] w w':=by
 have lR:=hR.lt
 have d0:(0:Int)≤d:=aO
 have d1:(d:Int) < 16:=aO
 have n0:(0:Int)≤n:=aO
 have HR:Hid _:=hR
 have HDl:Hid _:=hd
 have nIR:¬I=R:=hIR
 have nRI:¬R=I:=fun e=>hIR e.symm
 have nTR:¬w.heap.size=R:=aO
 have nRT:¬R=w.heap.size:=aO
 clear hIR
 have lI1:I < w.heap.size+1:=aO
 have lR1:R < w.heap.size+1:=aO
 clear hR hd
 go_enter Tryz.func53,Tryz.ntmps53
 go_upto_region 1 with fail
 go_quiet (fail)
 go_wp2_with (go_at_call 49;refine(zAP R d va X ws tb h _ ?_ HDl.out).mono ?_;(focus(first|exact((HR.out.al _).drwN _)|exact((HR.out.al _).drwN _).drw|exact HR.out.al _));rintro e w1 ⟨rfl,hr1,hc1⟩;have HR1:Hid _:=hr1;have HC1:Hid _:=hc1;clear hr1 hc1)
 go_end0
 exact⟨rfl,HR1.out,(((zI.refl [R] w).alloc _).drwN _).trans HC1.out⟩
theorem zHI(R X I d n va vb vc vd:Nat)(ws tb:Value)(h:HP)(w:World)(hR:RB w R (yB ws tb X h))(c0:w.cell? ⟨I,0,none⟩=some (.int .i64 8))(c1:w.cell? ⟨I,1,none⟩=some (.int .i64 d))(c5:w.cell? ⟨I,5,none⟩=some (.int .i64 n))(lI:I < w.heap.size)(hd:d < 16)(hIR:I≠R) :
  Calls Tryz.prog 53 #[.pointer (some ⟨R,0,none⟩),.pointer (some ⟨I,0,none⟩),.agg (uW va vb vc vd)] w fun e w'=>e=.returned (.tuple #[])∧RB w' R (yB ws tb X (h.reg d vd))∧zI [R] w w':=by
 have lR:=hR.lt
 have d0:(0:Int)≤d:=aO
 have d1:(d:Int) < 16:=aO
 have n0:(0:Int)≤n:=aO
 have HR:Hid _:=hR
 have HDl:Hid _:=hd
 have nIR:¬I=R:=hIR
 have nRI:¬R=I:=fun e=>hIR e.symm
 have nTR:¬w.heap.size=R:=aO
 have nRT:¬R=w.heap.size:=aO
 clear hIR
 have lI1:I < w.heap.size+1:=aO
 have lR1:R < w.heap.size+1:=aO
 clear hR hd
 go_enter Tryz.func53,Tryz.ntmps53
 go_upto_region 1 with fail
 go_quiet (fail)
 go_wp2_with (go_at_call 49;refine(zAP R d vd X ws tb h _ ?_ HDl.out).mono ?_;(focus(first|exact((HR.out.al _).drwN _)|exact((HR.out.al _).drwN _).drw|exact HR.out.al _));rintro e w1 ⟨rfl,hr1,hc1⟩;have HR1:Hid _:=hr1;have HC1:Hid _:=hc1;clear hr1 hc1)
 go_end0
 exact⟨rfl,HR1.out,(((zI.refl [R] w).alloc _).drwN _).trans HC1.out⟩
theorem zHH(R X I d n va vb vc vd:Nat)(ws tb:Value)(h:HP)(w:World)(hR:RB w R (yB ws tb X h))(c0:w.cell? ⟨I,0,none⟩=some (.int .i64 6))(c1:w.cell? ⟨I,1,none⟩=some (.int .i64 d))(c5:w.cell? ⟨I,5,none⟩=some (.int .i64 n))(lI:I < w.heap.size)(hd:d < 16)(hIR:I≠R)(hn:n < 12) :
  Calls Tryz.prog 53 #[.pointer (some ⟨R,0,none⟩),.pointer (some ⟨I,0,none⟩),.agg (uW va vb vc vd)] w fun e w'=>e=.returned (.tuple #[])∧RB w' R (yB ws tb X (h.reg d (h.c n)))∧zI [R] w w':=by
 have lR:=hR.lt
 have d0:(0:Int)≤d:=aO
 have d1:(d:Int) < 16:=aO
 have n0:(0:Int)≤n:=aO
 have n1:(n:Int) < 12:=aO
 have HN2:Hid _:=hn
 have HR:Hid _:=hR
 have HDl:Hid _:=hd
 have nIR:¬I=R:=hIR
 have nRI:¬R=I:=fun e=>hIR e.symm
 have nTR:¬w.heap.size=R:=aO
 have nRT:¬R=w.heap.size:=aO
 clear hIR
 have lI1:I < w.heap.size+1:=aO
 have lR1:R < w.heap.size+1:=aO
 clear hR hd
 go_enter Tryz.func53,Tryz.ntmps53
 go_upto_region 1 with fail
 go_quiet (fail)
 go_upto_region 6 with fail
 refine zJ (fun W'=>RB W' R (yB ws tb X h)∧W'.heap[w.heap.size]?=some (.cells (uW va vb vc vd) 113)∧W'.cell? ⟨I,1,none⟩=some (.int .i64 d)∧W'.cell? ⟨I,5,none⟩=some (.int .i64 n)∧I < W'.heap.size∧zI [R] w W') ⟨(HR.out.al _).drwN _,heap_alloc_last w _,(World.cell?_alloc_past _ _ _ lI).trans c1,(World.cell?_alloc_past _ _ _ lI).trans c5,(by show I < (w.alloc _).heap.size;simp;omega),((zI.refl [R] w).alloc _).drwN _⟩ ?_
 rintro W ⟨hR2,hT,k1,k5,lI2,hC2⟩
 have t0:W.cell? ⟨w.heap.size,0,none⟩=some (.int .u32 va):=zA hT 0
 have lT:=zE hT
 have lR2:=hR2.lt
 have HR2:Hid _:=hR2
 have HC2:Hid _:=hC2
 have cs:W.cell? ⟨R,1+n,none⟩=some (.int .u32 (h.c n)):=by rw[hR2.c _ aO,zBV ws tb X h n hn]
 clear hR2 hT hC2
 go_region_held3 (fun W'=>W'.cell? ⟨R,1+n,none⟩=some (.int .u32 (h.c n))∧W'.cell? ⟨I,5,none⟩=some (.int .i64 n)) (first|(simp[go_sem,cs,k5];done)|(simp[go_sem,zS,z5];done)) ((go_at_call 49;refine(zAP R d (h.c n) X ws tb h _ ?_ HDl.out).mono ?_;(focus(first|exact HR2.out.drw|exact HR2.out));rintro e w1 ⟨rfl,hr1,hc1⟩;have z5:w1.cell? ⟨I,5,none⟩=some (.int .i64 n):=(World.cell?_of_block (w:=W) (hc1.block I lI2 (by simpa using nIR))).trans k5;have zT:w1.cell? ⟨w.heap.size,0,none⟩=some (.int .u32 va):=(World.cell?_of_block (w:=W) (hc1.block w.heap.size lT (by simpa using nTR))).trans t0;have zS:w1.cell? ⟨R,1+n,none⟩=some (.int .u32 (h.c n)):=(by rw[hr1.c _ aO,zBV ws tb X _ n HN2.out];rfl);have HR1:Hid _:=hr1;have HC1:Hid _:=hc1;clear hr1 hc1))
 all_goals go_wp2
 go_end0
 exact⟨rfl,HR1.out,HC2.out.trans (((zI.refl [R] W).drew).trans HC1.out)⟩
theorem zHL(R X I d n va vb vc vd:Nat)(ws tb:Value)(h:HP)(w:World)(hR:RB w R (yB ws tb X h))(c0:w.cell? ⟨I,0,none⟩=some (.int .i64 7))(c1:w.cell? ⟨I,1,none⟩=some (.int .i64 d))(c5:w.cell? ⟨I,5,none⟩=some (.int .i64 n))(lI:I < w.heap.size)(hd:d < 16)(hIR:I≠R)(hn:n < 12) :
  Calls Tryz.prog 53 #[.pointer (some ⟨R,0,none⟩),.pointer (some ⟨I,0,none⟩),.agg (uW va vb vc vd)] w fun e w'=>e=.returned (.tuple #[])∧RB w' R (yB ws tb X (h.slot n va))∧zI [R] w w':=by
 have lR:=hR.lt
 have d0:(0:Int)≤d:=aO
 have d1:(d:Int) < 16:=aO
 have n0:(0:Int)≤n:=aO
 have n1:(n:Int) < 12:=aO
 have HN2:Hid _:=hn
 have HR:Hid _:=hR
 have HDl:Hid _:=hd
 have nIR:¬I=R:=hIR
 have nRI:¬R=I:=fun e=>hIR e.symm
 have nTR:¬w.heap.size=R:=aO
 have nRT:¬R=w.heap.size:=aO
 clear hIR
 have lI1:I < w.heap.size+1:=aO
 have lR1:R < w.heap.size+1:=aO
 clear hR hd
 go_enter Tryz.func53,Tryz.ntmps53
 go_upto_region 1 with fail
 go_quiet (fail)
 go_upto_region 8 with fail
 refine zJ (fun W'=>RB W' R (yB ws tb X h)∧W'.heap[w.heap.size]?=some (.cells (uW va vb vc vd) 113)∧W'.cell? ⟨I,1,none⟩=some (.int .i64 d)∧W'.cell? ⟨I,5,none⟩=some (.int .i64 n)∧I < W'.heap.size∧zI [R] w W') ⟨(HR.out.al _).drwN _,heap_alloc_last w _,(World.cell?_alloc_past _ _ _ lI).trans c1,(World.cell?_alloc_past _ _ _ lI).trans c5,(by show I < (w.alloc _).heap.size;simp;omega),((zI.refl [R] w).alloc _).drwN _⟩ ?_
 rintro W ⟨hR2,hT,k1,k5,lI2,hC2⟩
 have t0:W.cell? ⟨w.heap.size,0,none⟩=some (.int .u32 va):=zA hT 0
 have lT:=zE hT
 have lR2:=hR2.lt
 have HR2:Hid _:=hR2
 have HC2:Hid _:=hC2
 have cs:W.cell? ⟨R,1+n,none⟩=some (.int .u32 (h.c n)):=by rw[hR2.c _ aO,zBV ws tb X h n hn]
 have fs:=hR2.fz (1+n)
 have hset:=hR2.set (1+n) aO (.int .u32 va)
 rw[zGh ws tb X h n va hn] at hset
 have HSET:Hid _:=hset
 clear hR2 hT hC2 hset
 go_region_held3 (fun W'=>W'.cell? ⟨I,5,none⟩=some (.int .i64 n)∧W'.cell? ⟨w.heap.size,0,none⟩=some (.int .u32 va)) (first|(simp[go_sem,k5,t0];done)|(simp[go_sem,k5,t0,nRI,nRT,nIR,nTR];done)) (fail)
 go_wp2
 go_end0
 exact⟨rfl,HSET.out.drw,HC2.out.trans (((zI.refl [R] W).set aS _ _).drew)⟩
theorem zHM(R X I d n va vb vc vd:Nat)(ws tb:Value)(h:HP)(w:World)(hR:RB w R (yB ws tb X h))(c0:w.cell? ⟨I,0,none⟩=some (.int .i64 9))(c1:w.cell? ⟨I,1,none⟩=some (.int .i64 d))(c5:w.cell? ⟨I,5,none⟩=some (.int .i64 n))(lI:I < w.heap.size)(hd:d < 16)(hIR:I≠R)(hn:n < 2048) :
  Calls Tryz.prog 53 #[.pointer (some ⟨R,0,none⟩),.pointer (some ⟨I,0,none⟩),.agg (uW va vb vc vd)] w fun e w'=>e=.returned (.tuple #[])∧RB w' R (yB ws tb X (h.spill n va))∧zI [R] w w':=by
 have lR:=hR.lt
 have d0:(0:Int)≤d:=aO
 have d1:(d:Int) < 16:=aO
 have n0:(0:Int)≤n:=aO
 have n1:(n:Int) < 2048:=aO
 have HNl:Hid _:=hn
 have HR:Hid _:=hR
 have HDl:Hid _:=hd
 have nIR:¬I=R:=hIR
 have nRI:¬R=I:=fun e=>hIR e.symm
 have nTR:¬w.heap.size=R:=aO
 have nRT:¬R=w.heap.size:=aO
 clear hIR
 have lI1:I < w.heap.size+1:=aO
 have lR1:R < w.heap.size+1:=aO
 clear hR hd
 go_enter Tryz.func53,Tryz.ntmps53
 go_upto_region 1 with fail
 go_quiet (fail)
 go_upto_region 12 with fail
 refine zJ (fun W'=>RB W' R (yB ws tb X h)∧W'.heap[w.heap.size]?=some (.cells (uW va vb vc vd) 113)∧W'.cell? ⟨I,1,none⟩=some (.int .i64 d)∧W'.cell? ⟨I,5,none⟩=some (.int .i64 n)∧I < W'.heap.size∧zI [R] w W') ⟨(HR.out.al _).drwN _,heap_alloc_last w _,(World.cell?_alloc_past _ _ _ lI).trans c1,(World.cell?_alloc_past _ _ _ lI).trans c5,(by show I < (w.alloc _).heap.size;simp;omega),((zI.refl [R] w).alloc _).drwN _⟩ ?_
 rintro W ⟨hR2,hT,k1,k5,lI2,hC2⟩
 have t0:W.cell? ⟨w.heap.size,0,none⟩=some (.int .u32 va):=zA hT 0
 have lT:=zE hT
 have lR2:=hR2.lt
 have HR2:Hid _:=hR2
 have HC2:Hid _:=hC2
 clear hR2 hT hC2
 go_region_held3 (fun W'=>W'.cell? ⟨I,5,none⟩=some (.int .i64 n)∧W'.cell? ⟨w.heap.size,0,none⟩=some (.int .u32 va)) (first|(simp[go_sem,k5,t0];done)|(simp[go_sem,z5,zT];done)) ((go_at_call 49;refine(zFQ R n va X ws tb h _ ?_ HNl.out).mono ?_;(focus(first|exact HR2.out.drw|exact HR2.out));rintro e w1 ⟨rfl,hr1,hc1⟩;have z5:w1.cell? ⟨I,5,none⟩=some (.int .i64 n):=(World.cell?_of_block (w:=W) (hc1.block I lI2 (by simpa using nIR))).trans k5;have zT:w1.cell? ⟨w.heap.size,0,none⟩=some (.int .u32 va):=(World.cell?_of_block (w:=W) (hc1.block w.heap.size lT (by simpa using nTR))).trans t0;have HR1:Hid _:=hr1;have HC1:Hid _:=hc1;clear hr1 hc1))
 all_goals go_wp2
 go_end0
 exact⟨rfl,HR1.out,HC2.out.trans (((zI.refl [R] W).drew).trans HC1.out)⟩
end Go.Proofs.YthcpipfmicbnmaaGreat.Ho
