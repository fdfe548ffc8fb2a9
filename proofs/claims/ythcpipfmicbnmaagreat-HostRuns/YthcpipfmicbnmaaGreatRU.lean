import Derived.Test.YthcpipfmicbnmaaGreatRP
set_option linter.unusedVariables false
set_option linter.unusedSimpArgs false
set_option maxHeartbeats 2000000
namespace Go.Proofs.YthcpipfmicbnmaaGreat.Ho
open Go.RowKit
set_option maxRecDepth 100000
theorem uM{n:Nat}{a b:World}(h:Below n a b){B:Nat}(hB:n≤B)(o:Nat)(v:Value):Below n a (b.setCell ⟨B,o,none⟩ v):=
 ⟨h.os,h.tape,h.output,by simpa using h.size,fun k hk=>(Below.heap_setCell b ⟨B,o,none⟩ v k (by show k≠B;omega)).trans (h.block k hk)⟩
theorem zFu(R X I k va vb vc vd:Nat)(nn:Int)(ws tb:Value)(x:Cd)(f:Fo)(n:Int)(h:HP)(w:World)(hR:RB w R (yB ws tb X h))(hI:w.heap[I]?=some (.cells (yT x f n) 90))(ek:x.k=k)(en:x.n=nn)(ef:f.first=80)(hIR:I≠R)(hw : -9223372036854775808≤h.done+nn∧h.done+nn≤9223372036854775807)(sk:Int)(sa:Nat)(hz:(sk !=0)=true)(Q:World→Prop)(hQ:∀ u v,Q u→Below w.heap.size u v→Q v)(lX:X < w.heap.size)(hS:∀ W,Below w.heap.size w W→RB W R (yB ws tb X h)→W.heap[I]?=some (.cells (yT x f n) 90)→Calls Tryz.prog 69 #[.pointer (some ⟨R,0,none⟩),.pointer (some ⟨I,0,none⟩),.pointer (some ⟨I,8,none⟩),.agg (uW va vb vc vd)] W fun e w'=>e=.returned (.agg #[.int .i64 sk,.int .u32 sa])∧Q w'∧zI [R,X] W w') :
  Calls Tryz.prog 52 #[.pointer (some ⟨R,0,none⟩),.pointer (some ⟨I,0,none⟩),.pointer (some ⟨I,8,none⟩),.agg (uW va vb vc vd)] w fun e w'=>e=.returned (.agg (yE ⟨3,sk,sa,k,h.done+nn,0⟩))∧Q w'∧zI [R,X] w w':=by
 have lR:=hR.lt
 have lI:=zE hI
 have c17:w.cell? ⟨R,17,none⟩=some (.int .i64 h.done):=hR.c 17 aO
 have k5:w.cell? ⟨I,5,none⟩=some (.int .i64 nn):=by rw[zA hI 5,← en];rfl
 have k6:w.cell? ⟨I,6,none⟩=some (.int .u32 k):=by rw[zA hI 6,← ek];rfl
 have hw2:IntKind.i64.wrap (h.done+nn)=h.done+nn:=IntWalk.i64_in _ hw
 have n0:¬R=w.heap.size:=aO
 have n1:¬I=w.heap.size:=aO
 have l1:R < w.heap.size+1:=aO
 have l2:I < w.heap.size+1:=aO
 have l3:R < w.heap.size+1+1:=aO
 have l4:I < w.heap.size+1+1:=aO
 have HR:Hid _:=hR
 have HI:Hid _:=hI
 have HEF:Hid _:=ef
 have HEK:Hid _:=ek
 have HEN:Hid _:=en
 have HIR:Hid _:=hIR
 have HWW:Hid _:=hw
 have HS:Hid _:=hS
 have HQQ:Hid _:=hQ
 have HLX:Hid _:=lX
 clear hS hQ lX
 clear hR hI ek en ef hIR hw
 go_enter Tryz.func52,Tryz.ntmps52
 go_upto_region 2 with fail
 go_region
 go_upto_region 3 with fail
 refine zJ (fun W'=>GW w W' R I (yB ws tb X h) va vb vc vd ⟨1,0,0,k,h.done+nn,0⟩ (yT x f n)) (yL va vb vc vd ⟨1,0,0,k,h.done+nn,0⟩ HR.out HI.out) ?_
 clear c17 k5 k6
 intro W hG
 have t0:W.cell? ⟨w.heap.size,0,none⟩=some (.int .u32 va):=zA hG.t 0
 have i8:W.cell? ⟨I,8,none⟩=some (.int .u8 80):=by rw[zA hG.i 8,← HEF.out];rfl
 have i5:W.cell? ⟨I,5,none⟩=some (.int .i64 nn):=by rw[zA hG.i 5,← HEN.out];rfl
 have i6:W.cell? ⟨I,6,none⟩=some (.int .u32 k):=by rw[zA hG.i 6,← HEK.out];rfl
 have lt_:=zE hG.t
 have lr:=zE hG.r
 have li:=zE hG.i
 have lR2:=hG.b.lt
 have nr:¬w.heap.size+1=R:=aO
 have HG:Hid _:=hG
 clear hG
 have p0:W.cell? ⟨w.heap.size+1+1,0,none⟩=some (.int .i64 1):=zA HG.out.o 0
 have pz:=zD HG.out.o 0
 have lo:=zE HG.out.o
 have no:¬w.heap.size+1+1=R:=aO
 have noI:¬w.heap.size+1+1=I:=aO
 have noT:¬w.heap.size+1+1=w.heap.size:=aO
 have HBL:Hid (Below w.heap.size w (W.setCell ⟨w.heap.size+1+1,0,none⟩ (.int .i64 3))):=show Below w.heap.size w _ from HG.out.bel.trans (((zI.refl [w.heap.size+1+1] W).set aC 0 _).below HG.out.bel.size zq7)
 have t1:W.cell? ⟨w.heap.size,1,none⟩=some (.int .u32 vb):=zA HG.out.t 1
 have t2:W.cell? ⟨w.heap.size,2,none⟩=some (.int .u32 vc):=zA HG.out.t 2
 have t3:W.cell? ⟨w.heap.size,3,none⟩=some (.int .u32 vd):=zA HG.out.t 3
 go_wp2_with (go_at_call 69;refine(HS.out _ HBL.out (HG.out.b.other no _ _) ((yP (fun e=>noI e.symm) _).trans HG.out.i)).mono ?_;rintro e w9 ⟨rfl,hr9,hc9⟩;have hrr:w9.heap[w.heap.size+1]?=some (.cells (yE ⟨0,0,0,0,0,0⟩) 37):=hc9.keep ((yP aO _).trans HG.out.r) zq55;have hoo:w9.heap[w.heap.size+1+1]?=some (.cells (yE ⟨3,0,0,k,h.done+nn,0⟩) 37):=hc9.keep (zZ (o:=0) HG.out.o _) zq55;have r0:w9.cell? ⟨w.heap.size+1,0,none⟩=some (.int .i64 0):=zA hrr 0;have z0:=zD hrr 0;have r1:w9.cell? ⟨w.heap.size+1,1,none⟩=some (.int .i64 0):=zA hrr 1;have z1:=zD hrr 1;have r2:w9.cell? ⟨w.heap.size+1,2,none⟩=some (.int .u32 0):=zA hrr 2;have z2:=zD hrr 2;have r3:w9.cell? ⟨w.heap.size+1,3,none⟩=some (.int .u32 0):=zA hrr 3;have z3:=zD hrr 3;have r4:w9.cell? ⟨w.heap.size+1,4,none⟩=some (.int .i64 0):=zA hrr 4;have z4:=zD hrr 4;have r5:w9.cell? ⟨w.heap.size+1,5,none⟩=some (.int .i64 0):=zA hrr 5;have z5:=zD hrr 5;have o0:w9.cell? ⟨w.heap.size+1+1,0,none⟩=some (.int .i64 (3)):=zA hoo 0;have oz0:=zD hoo 0;have o1:w9.cell? ⟨w.heap.size+1+1,1,none⟩=some (.int .i64 (0)):=zA hoo 1;have oz1:=zD hoo 1;have o2:w9.cell? ⟨w.heap.size+1+1,2,none⟩=some (.int .u32 (0)):=zA hoo 2;have oz2:=zD hoo 2;have o3:w9.cell? ⟨w.heap.size+1+1,3,none⟩=some (.int .u32 (k)):=zA hoo 3;have oz3:=zD hoo 3;have o4:w9.cell? ⟨w.heap.size+1+1,4,none⟩=some (.int .i64 (h.done+nn)):=zA hoo 4;have oz4:=zD hoo 4;have o5:w9.cell? ⟨w.heap.size+1+1,5,none⟩=some (.int .i64 (0)):=zA hoo 5;have oz5:=zD hoo 5;have lr9:=zE hrr;have lo9:=zE hoo;have HR9:Hid _:=hr9;have HC9:Hid _:=hc9;clear hr9 hc9 hrr hoo)
 refine bodyPost_ret (v:=.agg (yE ⟨3,sk,sa,k,h.done+nn,0⟩)) zq9 rfl ⟨rfl,?_,?_⟩
 ·exact HQQ.out _ _ HR9.out zq34
 ·exact zq27
theorem zFt(R X I k va vb vc vd:Nat)(nn:Int)(ws tb:Value)(x:Cd)(f:Fo)(n:Int)(h:HP)(w:World)(hR:RB w R (yB ws tb X h))(hI:w.heap[I]?=some (.cells (yT x f n) 90))(ek:x.k=k)(en:x.n=nn)(ef:f.first=80)(hIR:I≠R)(hw : -9223372036854775808≤h.done+nn∧h.done+nn≤9223372036854775807)(sk:Int)(sa:Nat)(hz:(sk !=0)=false)(Q:World→Prop)(hQ:∀ u v,Q u→Below w.heap.size u v→Q v)(lX:X < w.heap.size)(hS:∀ W,Below w.heap.size w W→RB W R (yB ws tb X h)→W.heap[I]?=some (.cells (yT x f n) 90)→Calls Tryz.prog 69 #[.pointer (some ⟨R,0,none⟩),.pointer (some ⟨I,0,none⟩),.pointer (some ⟨I,8,none⟩),.agg (uW va vb vc vd)] W fun e w'=>e=.returned (.agg #[.int .i64 sk,.int .u32 sa])∧Q w'∧zI [R,X] W w') :
  Calls Tryz.prog 52 #[.pointer (some ⟨R,0,none⟩),.pointer (some ⟨I,0,none⟩),.pointer (some ⟨I,8,none⟩),.agg (uW va vb vc vd)] w fun e w'=>e=.returned (.agg (yE ⟨0,0,0,0,0,0⟩))∧Q w'∧zI [R,X] w w':=by
 have lR:=hR.lt
 have lI:=zE hI
 have c17:w.cell? ⟨R,17,none⟩=some (.int .i64 h.done):=hR.c 17 aO
 have k5:w.cell? ⟨I,5,none⟩=some (.int .i64 nn):=by rw[zA hI 5,← en];rfl
 have k6:w.cell? ⟨I,6,none⟩=some (.int .u32 k):=by rw[zA hI 6,← ek];rfl
 have hw2:IntKind.i64.wrap (h.done+nn)=h.done+nn:=IntWalk.i64_in _ hw
 have n0:¬R=w.heap.size:=aO
 have n1:¬I=w.heap.size:=aO
 have l1:R < w.heap.size+1:=aO
 have l2:I < w.heap.size+1:=aO
 have l3:R < w.heap.size+1+1:=aO
 have l4:I < w.heap.size+1+1:=aO
 have HR:Hid _:=hR
 have HI:Hid _:=hI
 have HEF:Hid _:=ef
 have HEK:Hid _:=ek
 have HEN:Hid _:=en
 have HIR:Hid _:=hIR
 have HWW:Hid _:=hw
 have HS:Hid _:=hS
 have HQQ:Hid _:=hQ
 have HLX:Hid _:=lX
 clear hS hQ lX
 clear hR hI ek en ef hIR hw
 go_enter Tryz.func52,Tryz.ntmps52
 go_upto_region 2 with fail
 go_region
 go_upto_region 3 with fail
 refine zJ (fun W'=>GW w W' R I (yB ws tb X h) va vb vc vd ⟨1,0,0,k,h.done+nn,0⟩ (yT x f n)) (yL va vb vc vd ⟨1,0,0,k,h.done+nn,0⟩ HR.out HI.out) ?_
 clear c17 k5 k6
 intro W hG
 have t0:W.cell? ⟨w.heap.size,0,none⟩=some (.int .u32 va):=zA hG.t 0
 have i8:W.cell? ⟨I,8,none⟩=some (.int .u8 80):=by rw[zA hG.i 8,← HEF.out];rfl
 have i5:W.cell? ⟨I,5,none⟩=some (.int .i64 nn):=by rw[zA hG.i 5,← HEN.out];rfl
 have i6:W.cell? ⟨I,6,none⟩=some (.int .u32 k):=by rw[zA hG.i 6,← HEK.out];rfl
 have lt_:=zE hG.t
 have lr:=zE hG.r
 have li:=zE hG.i
 have lR2:=hG.b.lt
 have nr:¬w.heap.size+1=R:=aO
 have HG:Hid _:=hG
 clear hG
 have p0:W.cell? ⟨w.heap.size+1+1,0,none⟩=some (.int .i64 1):=zA HG.out.o 0
 have pz:=zD HG.out.o 0
 have lo:=zE HG.out.o
 have no:¬w.heap.size+1+1=R:=aO
 have noI:¬w.heap.size+1+1=I:=aO
 have noT:¬w.heap.size+1+1=w.heap.size:=aO
 have HBL:Hid (Below w.heap.size w (W.setCell ⟨w.heap.size+1+1,0,none⟩ (.int .i64 3))):=show Below w.heap.size w _ from HG.out.bel.trans (((zI.refl [w.heap.size+1+1] W).set aC 0 _).below HG.out.bel.size zq7)
 have t1:W.cell? ⟨w.heap.size,1,none⟩=some (.int .u32 vb):=zA HG.out.t 1
 have t2:W.cell? ⟨w.heap.size,2,none⟩=some (.int .u32 vc):=zA HG.out.t 2
 have t3:W.cell? ⟨w.heap.size,3,none⟩=some (.int .u32 vd):=zA HG.out.t 3
 go_wp2_with (go_at_call 69;refine(HS.out _ HBL.out (HG.out.b.other no _ _) ((yP (fun e=>noI e.symm) _).trans HG.out.i)).mono ?_;rintro e w9 ⟨rfl,hr9,hc9⟩;have hrr:w9.heap[w.heap.size+1]?=some (.cells (yE ⟨0,0,0,0,0,0⟩) 37):=hc9.keep ((yP aO _).trans HG.out.r) zq55;have hoo:w9.heap[w.heap.size+1+1]?=some (.cells (yE ⟨3,0,0,k,h.done+nn,0⟩) 37):=hc9.keep (zZ (o:=0) HG.out.o _) zq55;have r0:w9.cell? ⟨w.heap.size+1,0,none⟩=some (.int .i64 0):=zA hrr 0;have z0:=zD hrr 0;have r1:w9.cell? ⟨w.heap.size+1,1,none⟩=some (.int .i64 0):=zA hrr 1;have z1:=zD hrr 1;have r2:w9.cell? ⟨w.heap.size+1,2,none⟩=some (.int .u32 0):=zA hrr 2;have z2:=zD hrr 2;have r3:w9.cell? ⟨w.heap.size+1,3,none⟩=some (.int .u32 0):=zA hrr 3;have z3:=zD hrr 3;have r4:w9.cell? ⟨w.heap.size+1,4,none⟩=some (.int .i64 0):=zA hrr 4;have z4:=zD hrr 4;have r5:w9.cell? ⟨w.heap.size+1,5,none⟩=some (.int .i64 0):=zA hrr 5;have z5:=zD hrr 5;have o0:w9.cell? ⟨w.heap.size+1+1,0,none⟩=some (.int .i64 (3)):=zA hoo 0;have oz0:=zD hoo 0;have o1:w9.cell? ⟨w.heap.size+1+1,1,none⟩=some (.int .i64 (0)):=zA hoo 1;have oz1:=zD hoo 1;have o2:w9.cell? ⟨w.heap.size+1+1,2,none⟩=some (.int .u32 (0)):=zA hoo 2;have oz2:=zD hoo 2;have o3:w9.cell? ⟨w.heap.size+1+1,3,none⟩=some (.int .u32 (k)):=zA hoo 3;have oz3:=zD hoo 3;have o4:w9.cell? ⟨w.heap.size+1+1,4,none⟩=some (.int .i64 (h.done+nn)):=zA hoo 4;have oz4:=zD hoo 4;have o5:w9.cell? ⟨w.heap.size+1+1,5,none⟩=some (.int .i64 (0)):=zA hoo 5;have oz5:=zD hoo 5;have lr9:=zE hrr;have lo9:=zE hoo;have HR9:Hid _:=hr9;have HC9:Hid _:=hc9;clear hr9 hc9 hrr hoo)
 refine bodyPost_ret (v:=.agg (yE ⟨0,0,0,0,0,0⟩)) zq9 rfl ⟨rfl,?_,?_⟩
 ·exact HQQ.out _ _ HR9.out zq34
 ·exact zq27
theorem zFw(R X I k va vb vc vd:Nat)(nn:Int)(ws tb:Value)(x:Cd)(f:Fo)(n:Int)(h:HP)(w:World)(hR:RB w R (yB ws tb X h))(hI:w.heap[I]?=some (.cells (yT x f n) 90))(ek:x.k=k)(en:x.n=nn)(ef:f.first=88)(hIR:I≠R)(hw : -9223372036854775808≤h.done+nn∧h.done+nn≤9223372036854775807)(sk:Int)(sa:Nat)(hz:(sk !=0)=true)(Q:World→Prop)(hQ:∀ u v,Q u→Below w.heap.size u v→Q v)(lX:X < w.heap.size)(hS:∀ W,Below w.heap.size w W→RB W R (yB ws tb X h)→W.heap[I]?=some (.cells (yT x f n) 90)→Calls Tryz.prog 69 #[.pointer (some ⟨R,0,none⟩),.pointer (some ⟨I,0,none⟩),.pointer (some ⟨I,8,none⟩),.agg (uW va vb vc vd)] W fun e w'=>e=.returned (.agg #[.int .i64 sk,.int .u32 sa])∧Q w'∧zI [R,X] W w') :
  Calls Tryz.prog 52 #[.pointer (some ⟨R,0,none⟩),.pointer (some ⟨I,0,none⟩),.pointer (some ⟨I,8,none⟩),.agg (uW va vb vc vd)] w fun e w'=>e=.returned (.agg (yE ⟨3,sk,sa,k,h.done+nn,0⟩))∧Q w'∧zI [R,X] w w':=by
 have lR:=hR.lt
 have lI:=zE hI
 have c17:w.cell? ⟨R,17,none⟩=some (.int .i64 h.done):=hR.c 17 aO
 have k5:w.cell? ⟨I,5,none⟩=some (.int .i64 nn):=by rw[zA hI 5,← en];rfl
 have k6:w.cell? ⟨I,6,none⟩=some (.int .u32 k):=by rw[zA hI 6,← ek];rfl
 have hw2:IntKind.i64.wrap (h.done+nn)=h.done+nn:=IntWalk.i64_in _ hw
 have n0:¬R=w.heap.size:=aO
 have n1:¬I=w.heap.size:=aO
 have l1:R < w.heap.size+1:=aO
 have l2:I < w.heap.size+1:=aO
 have l3:R < w.heap.size+1+1:=aO
 have l4:I < w.heap.size+1+1:=aO
 have HR:Hid _:=hR
 have HI:Hid _:=hI
 have HEF:Hid _:=ef
 have HEK:Hid _:=ek
 have HEN:Hid _:=en
 have HIR:Hid _:=hIR
 have HWW:Hid _:=hw
 have HS:Hid _:=hS
 have HQQ:Hid _:=hQ
 have HLX:Hid _:=lX
 clear hS hQ lX
 clear hR hI ek en ef hIR hw
 go_enter Tryz.func52,Tryz.ntmps52
 go_upto_region 2 with fail
 go_region
 go_upto_region 3 with fail
 refine zJ (fun W'=>GW w W' R I (yB ws tb X h) va vb vc vd ⟨1,0,0,k,h.done+nn,0⟩ (yT x f n)) (yL va vb vc vd ⟨1,0,0,k,h.done+nn,0⟩ HR.out HI.out) ?_
 clear c17 k5 k6
 intro W hG
 have t0:W.cell? ⟨w.heap.size,0,none⟩=some (.int .u32 va):=zA hG.t 0
 have i8:W.cell? ⟨I,8,none⟩=some (.int .u8 88):=by rw[zA hG.i 8,← HEF.out];rfl
 have i5:W.cell? ⟨I,5,none⟩=some (.int .i64 nn):=by rw[zA hG.i 5,← HEN.out];rfl
 have i6:W.cell? ⟨I,6,none⟩=some (.int .u32 k):=by rw[zA hG.i 6,← HEK.out];rfl
 have lt_:=zE hG.t
 have lr:=zE hG.r
 have li:=zE hG.i
 have lR2:=hG.b.lt
 have nr:¬w.heap.size+1=R:=aO
 have HG:Hid _:=hG
 clear hG
 have p0:W.cell? ⟨w.heap.size+1+1,0,none⟩=some (.int .i64 1):=zA HG.out.o 0
 have pz:=zD HG.out.o 0
 have lo:=zE HG.out.o
 have no:¬w.heap.size+1+1=R:=aO
 have noI:¬w.heap.size+1+1=I:=aO
 have noT:¬w.heap.size+1+1=w.heap.size:=aO
 have HBL:Hid (Below w.heap.size w (W.setCell ⟨w.heap.size+1+1,0,none⟩ (.int .i64 3))):=show Below w.heap.size w _ from HG.out.bel.trans (((zI.refl [w.heap.size+1+1] W).set aC 0 _).below HG.out.bel.size zq7)
 have t1:W.cell? ⟨w.heap.size,1,none⟩=some (.int .u32 vb):=zA HG.out.t 1
 have t2:W.cell? ⟨w.heap.size,2,none⟩=some (.int .u32 vc):=zA HG.out.t 2
 have t3:W.cell? ⟨w.heap.size,3,none⟩=some (.int .u32 vd):=zA HG.out.t 3
 go_wp2_with (go_at_call 69;refine(HS.out _ HBL.out (HG.out.b.other no _ _) ((yP (fun e=>noI e.symm) _).trans HG.out.i)).mono ?_;rintro e w9 ⟨rfl,hr9,hc9⟩;have hrr:w9.heap[w.heap.size+1]?=some (.cells (yE ⟨0,0,0,0,0,0⟩) 37):=hc9.keep ((yP aO _).trans HG.out.r) zq55;have hoo:w9.heap[w.heap.size+1+1]?=some (.cells (yE ⟨3,0,0,k,h.done+nn,0⟩) 37):=hc9.keep (zZ (o:=0) HG.out.o _) zq55;have r0:w9.cell? ⟨w.heap.size+1,0,none⟩=some (.int .i64 0):=zA hrr 0;have z0:=zD hrr 0;have r1:w9.cell? ⟨w.heap.size+1,1,none⟩=some (.int .i64 0):=zA hrr 1;have z1:=zD hrr 1;have r2:w9.cell? ⟨w.heap.size+1,2,none⟩=some (.int .u32 0):=zA hrr 2;have z2:=zD hrr 2;have r3:w9.cell? ⟨w.heap.size+1,3,none⟩=some (.int .u32 0):=zA hrr 3;have z3:=zD hrr 3;have r4:w9.cell? ⟨w.heap.size+1,4,none⟩=some (.int .i64 0):=zA hrr 4;have z4:=zD hrr 4;have r5:w9.cell? ⟨w.heap.size+1,5,none⟩=some (.int .i64 0):=zA hrr 5;have z5:=zD hrr 5;have o0:w9.cell? ⟨w.heap.size+1+1,0,none⟩=some (.int .i64 (3)):=zA hoo 0;have oz0:=zD hoo 0;have o1:w9.cell? ⟨w.heap.size+1+1,1,none⟩=some (.int .i64 (0)):=zA hoo 1;have oz1:=zD hoo 1;have o2:w9.cell? ⟨w.heap.size+1+1,2,none⟩=some (.int .u32 (0)):=zA hoo 2;have oz2:=zD hoo 2;have o3:w9.cell? ⟨w.heap.size+1+1,3,none⟩=some (.int .u32 (k)):=zA hoo 3;have oz3:=zD hoo 3;have o4:w9.cell? ⟨w.heap.size+1+1,4,none⟩=some (.int .i64 (h.done+nn)):=zA hoo 4;have oz4:=zD hoo 4;have o5:w9.cell? ⟨w.heap.size+1+1,5,none⟩=some (.int .i64 (0)):=zA hoo 5;have oz5:=zD hoo 5;have lr9:=zE hrr;have lo9:=zE hoo;have HR9:Hid _:=hr9;have HC9:Hid _:=hc9;clear hr9 hc9 hrr hoo)
 refine bodyPost_ret (v:=.agg (yE ⟨3,sk,sa,k,h.done+nn,0⟩)) zq9 rfl ⟨rfl,?_,?_⟩
 ·exact HQQ.out _ _ HR9.out zq34
 ·exact zq27
theorem zFv(R X I k va vb vc vd:Nat)(nn:Int)(ws tb:Value)(x:Cd)(f:Fo)(n:Int)(h:HP)(w:World)(hR:RB w R (yB ws tb X h))(hI:w.heap[I]?=some (.cells (yT x f n) 90))(ek:x.k=k)(en:x.n=nn)(ef:f.first=88)(hIR:I≠R)(hw : -9223372036854775808≤h.done+nn∧h.done+nn≤9223372036854775807)(sk:Int)(sa:Nat)(hz:(sk !=0)=false)(Q:World→Prop)(hQ:∀ u v,Q u→Below w.heap.size u v→Q v)(lX:X < w.heap.size)(hS:∀ W,Below w.heap.size w W→RB W R (yB ws tb X h)→W.heap[I]?=some (.cells (yT x f n) 90)→Calls Tryz.prog 69 #[.pointer (some ⟨R,0,none⟩),.pointer (some ⟨I,0,none⟩),.pointer (some ⟨I,8,none⟩),.agg (uW va vb vc vd)] W fun e w'=>e=.returned (.agg #[.int .i64 sk,.int .u32 sa])∧Q w'∧zI [R,X] W w') :
  Calls Tryz.prog 52 #[.pointer (some ⟨R,0,none⟩),.pointer (some ⟨I,0,none⟩),.pointer (some ⟨I,8,none⟩),.agg (uW va vb vc vd)] w fun e w'=>e=.returned (.agg (yE ⟨0,0,0,0,0,0⟩))∧Q w'∧zI [R,X] w w':=by
 have lR:=hR.lt
 have lI:=zE hI
 have c17:w.cell? ⟨R,17,none⟩=some (.int .i64 h.done):=hR.c 17 aO
 have k5:w.cell? ⟨I,5,none⟩=some (.int .i64 nn):=by rw[zA hI 5,← en];rfl
 have k6:w.cell? ⟨I,6,none⟩=some (.int .u32 k):=by rw[zA hI 6,← ek];rfl
 have hw2:IntKind.i64.wrap (h.done+nn)=h.done+nn:=IntWalk.i64_in _ hw
 have n0:¬R=w.heap.size:=aO
 have n1:¬I=w.heap.size:=aO
 have l1:R < w.heap.size+1:=aO
 have l2:I < w.heap.size+1:=aO
 have l3:R < w.heap.size+1+1:=aO
 have l4:I < w.heap.size+1+1:=aO
 have HR:Hid _:=hR
 have HI:Hid _:=hI
 have HEF:Hid _:=ef
 have HEK:Hid _:=ek
 have HEN:Hid _:=en
 have HIR:Hid _:=hIR
 have HWW:Hid _:=hw
 have HS:Hid _:=hS
 have HQQ:Hid _:=hQ
 have HLX:Hid _:=lX
 clear hS hQ lX
 clear hR hI ek en ef hIR hw
 go_enter Tryz.func52,Tryz.ntmps52
 go_upto_region 2 with fail
 go_region
 go_upto_region 3 with fail
 refine zJ (fun W'=>GW w W' R I (yB ws tb X h) va vb vc vd ⟨1,0,0,k,h.done+nn,0⟩ (yT x f n)) (yL va vb vc vd ⟨1,0,0,k,h.done+nn,0⟩ HR.out HI.out) ?_
 clear c17 k5 k6
 intro W hG
 have t0:W.cell? ⟨w.heap.size,0,none⟩=some (.int .u32 va):=zA hG.t 0
 have i8:W.cell? ⟨I,8,none⟩=some (.int .u8 88):=by rw[zA hG.i 8,← HEF.out];rfl
 have i5:W.cell? ⟨I,5,none⟩=some (.int .i64 nn):=by rw[zA hG.i 5,← HEN.out];rfl
 have i6:W.cell? ⟨I,6,none⟩=some (.int .u32 k):=by rw[zA hG.i 6,← HEK.out];rfl
 have lt_:=zE hG.t
 have lr:=zE hG.r
 have li:=zE hG.i
 have lR2:=hG.b.lt
 have nr:¬w.heap.size+1=R:=aO
 have HG:Hid _:=hG
 clear hG
 have p0:W.cell? ⟨w.heap.size+1+1,0,none⟩=some (.int .i64 1):=zA HG.out.o 0
 have pz:=zD HG.out.o 0
 have lo:=zE HG.out.o
 have no:¬w.heap.size+1+1=R:=aO
 have noI:¬w.heap.size+1+1=I:=aO
 have noT:¬w.heap.size+1+1=w.heap.size:=aO
 have HBL:Hid (Below w.heap.size w (W.setCell ⟨w.heap.size+1+1,0,none⟩ (.int .i64 3))):=show Below w.heap.size w _ from HG.out.bel.trans (((zI.refl [w.heap.size+1+1] W).set aC 0 _).below HG.out.bel.size zq7)
 have t1:W.cell? ⟨w.heap.size,1,none⟩=some (.int .u32 vb):=zA HG.out.t 1
 have t2:W.cell? ⟨w.heap.size,2,none⟩=some (.int .u32 vc):=zA HG.out.t 2
 have t3:W.cell? ⟨w.heap.size,3,none⟩=some (.int .u32 vd):=zA HG.out.t 3
 go_wp2_with (go_at_call 69;refine(HS.out _ HBL.out (HG.out.b.other no _ _) ((yP (fun e=>noI e.symm) _).trans HG.out.i)).mono ?_;rintro e w9 ⟨rfl,hr9,hc9⟩;have hrr:w9.heap[w.heap.size+1]?=some (.cells (yE ⟨0,0,0,0,0,0⟩) 37):=hc9.keep ((yP aO _).trans HG.out.r) zq55;have hoo:w9.heap[w.heap.size+1+1]?=some (.cells (yE ⟨3,0,0,k,h.done+nn,0⟩) 37):=hc9.keep (zZ (o:=0) HG.out.o _) zq55;have r0:w9.cell? ⟨w.heap.size+1,0,none⟩=some (.int .i64 0):=zA hrr 0;have z0:=zD hrr 0;have r1:w9.cell? ⟨w.heap.size+1,1,none⟩=some (.int .i64 0):=zA hrr 1;have z1:=zD hrr 1;have r2:w9.cell? ⟨w.heap.size+1,2,none⟩=some (.int .u32 0):=zA hrr 2;have z2:=zD hrr 2;have r3:w9.cell? ⟨w.heap.size+1,3,none⟩=some (.int .u32 0):=zA hrr 3;have z3:=zD hrr 3;have r4:w9.cell? ⟨w.heap.size+1,4,none⟩=some (.int .i64 0):=zA hrr 4;have z4:=zD hrr 4;have r5:w9.cell? ⟨w.heap.size+1,5,none⟩=some (.int .i64 0):=zA hrr 5;have z5:=zD hrr 5;have o0:w9.cell? ⟨w.heap.size+1+1,0,none⟩=some (.int .i64 (3)):=zA hoo 0;have oz0:=zD hoo 0;have o1:w9.cell? ⟨w.heap.size+1+1,1,none⟩=some (.int .i64 (0)):=zA hoo 1;have oz1:=zD hoo 1;have o2:w9.cell? ⟨w.heap.size+1+1,2,none⟩=some (.int .u32 (0)):=zA hoo 2;have oz2:=zD hoo 2;have o3:w9.cell? ⟨w.heap.size+1+1,3,none⟩=some (.int .u32 (k)):=zA hoo 3;have oz3:=zD hoo 3;have o4:w9.cell? ⟨w.heap.size+1+1,4,none⟩=some (.int .i64 (h.done+nn)):=zA hoo 4;have oz4:=zD hoo 4;have o5:w9.cell? ⟨w.heap.size+1+1,5,none⟩=some (.int .i64 (0)):=zA hoo 5;have oz5:=zD hoo 5;have lr9:=zE hrr;have lo9:=zE hoo;have HR9:Hid _:=hr9;have HC9:Hid _:=hc9;clear hr9 hc9 hrr hoo)
 refine bodyPost_ret (v:=.agg (yE ⟨0,0,0,0,0,0⟩)) zq9 rfl ⟨rfl,?_,?_⟩
 ·exact HQQ.out _ _ HR9.out zq34
 ·exact zq27
end Go.Proofs.YthcpipfmicbnmaaGreat.Ho
