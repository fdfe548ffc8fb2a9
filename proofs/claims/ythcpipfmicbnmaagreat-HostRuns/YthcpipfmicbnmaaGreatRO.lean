import Derived.Test.YthcpipfmicbnmaaGreatRN
set_option linter.unusedVariables false
set_option linter.unusedSimpArgs false
set_option maxHeartbeats 2000000
namespace Go.Proofs.YthcpipfmicbnmaaGreat.Ho
open Go.RowKit
set_option maxRecDepth 100000
theorem zFs(R X I k va vb vc vd:Nat)(nn:Int)(x:Cd)(f:Fo)(n:Int)(h:HP)(w:World)(a:Option Addr)(len cap:Nat)(tb:Value)(ws:Nat→Nat)(hR:RB w R (yB (.slice a len cap) tb X h))(hI:w.heap[I]?=some (.cells (yT x f n) 90))(ek:x.k=k)(en:x.n=nn)(ef:f.first=15)(hIR:I≠R)(hw : -9223372036854775808≤h.done+nn∧h.done+nn≤9223372036854775807)(hW:Wds w a len cap ws)(hE:isE ws len k=true)(hk:k < 4294967296) :
  Calls Tryz.prog 52 #[.pointer (some ⟨R,0,none⟩),.pointer (some ⟨I,0,none⟩),.pointer (some ⟨I,8,none⟩),.agg (uW va vb vc vd)] w fun e w'=>e=.returned (.agg (yE ⟨0,0,0,0,0,0⟩))∧RB w' R (yB (.slice a len cap) tb X (h.go k nn))∧zI [R] w w':=by
 have lR:=hR.lt
 have lI:=zE hI
 have c17:w.cell? ⟨R,17,none⟩=some (.int .i64 h.done):=hR.c 17 aO
 have k5:w.cell? ⟨I,5,none⟩=some (.int .i64 nn):=by rw[zA hI 5,← en];rfl
 have k6:w.cell? ⟨I,6,none⟩=some (.int .u32 k):=by rw[zA hI 6,← ek];rfl
 have hw2:IntKind.i64.wrap (h.done+nn)=h.done+nn:=IntWalk.i64_in _ hw
 have n0:¬R=w.heap.size:=aO
 have n1:¬I=w.heap.size:=aO
 have l1:R < w.heap.size+1:=aO
 have l2:I < w.heap.size+1:=aO
 have l3:R < w.heap.size+1+1:=aO
 have l4:I < w.heap.size+1+1:=aO
 have HR:Hid _:=hR
 have HI:Hid _:=hI
 have HEF:Hid _:=ef
 have HEK:Hid _:=ek
 have HEN:Hid _:=en
 have HIR:Hid _:=hIR
 have HWW:Hid _:=hw
 have HE:Hid _:=hE
 have HW:Hid _:=hW
 have HKW:Hid (IntKind.i64.wrap (k:Int)=k):=IntWalk.i64_in _ aO
 have nIr:¬w.heap.size+1=I:=aO
 clear hE hW hk
 clear hR hI ek en ef hIR hw
 go_enter Tryz.func52,Tryz.ntmps52
 go_upto_region 2 with fail
 go_region
 go_upto_region 3 with fail
 refine zJ (fun W'=>GW w W' R I (yB (.slice a len cap) tb X h) va vb vc vd ⟨1,0,0,k,h.done+nn,0⟩ (yT x f n)) (yL va vb vc vd ⟨1,0,0,k,h.done+nn,0⟩ HR.out HI.out) ?_
 clear c17 k5 k6
 intro W hG
 have t0:W.cell? ⟨w.heap.size,0,none⟩=some (.int .u32 va):=zA hG.t 0
 have i8:W.cell? ⟨I,8,none⟩=some (.int .u8 15):=by rw[zA hG.i 8,← HEF.out];rfl
 have i5:W.cell? ⟨I,5,none⟩=some (.int .i64 nn):=by rw[zA hG.i 5,← HEN.out];rfl
 have i6:W.cell? ⟨I,6,none⟩=some (.int .u32 k):=by rw[zA hG.i 6,← HEK.out];rfl
 have lt_:=zE hG.t
 have lr:=zE hG.r
 have li:=zE hG.i
 have lR2:=hG.b.lt
 have nr:¬w.heap.size+1=R:=aO
 have HG:Hid _:=hG
 clear hG
 go_upto_region 12 with fail
 go_region_held3 (fun W'=>W'.cell? ⟨I,5,none⟩=some (.int .i64 nn)∧W'.cell? ⟨I,6,none⟩=some (.int .u32 k)) (first|(simp[go_sem,i5,i6];done)|(simp[go_sem,y5,y6];done)|(simp[go_sem,y5,y6,nIr];done)) ((go_at_call 68;(try rw[HKW.out]);refine(zC8 R X a len cap tb h k nn ws W.drew HG.out.b.drw (yD (yD HW.out HG.out.bel) (aB.drew)) HWW.out).mono ?_;rintro e w9 ⟨hyes,hno,hc9⟩;obtain⟨rfl,hr9⟩:=hyes HE.out;have hrr:w9.heap[w.heap.size+1]?=some (.cells (yE ⟨0,0,0,0,0,0⟩) 37):=hc9.keep (show W.drew.heap[w.heap.size+1]?=_ from HG.out.r) zq69;have r0:w9.cell? ⟨w.heap.size+1,0,none⟩=some (.int .i64 0):=zA hrr 0;have z0:=zD hrr 0;have r1:w9.cell? ⟨w.heap.size+1,1,none⟩=some (.int .i64 0):=zA hrr 1;have z1:=zD hrr 1;have r2:w9.cell? ⟨w.heap.size+1,2,none⟩=some (.int .u32 0):=zA hrr 2;have z2:=zD hrr 2;have r3:w9.cell? ⟨w.heap.size+1,3,none⟩=some (.int .u32 0):=zA hrr 3;have z3:=zD hrr 3;have r4:w9.cell? ⟨w.heap.size+1,4,none⟩=some (.int .i64 0):=zA hrr 4;have z4:=zD hrr 4;have r5:w9.cell? ⟨w.heap.size+1,5,none⟩=some (.int .i64 0):=zA hrr 5;have z5:=zD hrr 5;have lr9:=zE hrr;have y5:w9.cell? ⟨I,5,none⟩=some (.int .i64 nn):=(World.cell?_of_block (w:=W) (hc9.block I li (by simpa using HIR.out))).trans i5;have y6:w9.cell? ⟨I,6,none⟩=some (.int .u32 k):=(World.cell?_of_block (w:=W) (hc9.block I li (by simpa using HIR.out))).trans i6;have HR9:Hid _:=hr9;have HC9:Hid _:=hc9;clear hr9 hc9 hrr hyes hno))
 go_wp2
 refine bodyPost_ret (v:=.agg (yE ⟨0,0,0,0,0,0⟩)) zq9 rfl ⟨rfl,?_,?_⟩
 ·exact zq6
 ·exact zq31
theorem zFr(R X I k va vb vc vd:Nat)(nn:Int)(x:Cd)(f:Fo)(n:Int)(h:HP)(w:World)(a:Option Addr)(len cap:Nat)(tb:Value)(ws:Nat→Nat)(hR:RB w R (yB (.slice a len cap) tb X h))(hI:w.heap[I]?=some (.cells (yT x f n) 90))(ek:x.k=k)(en:x.n=nn)(ef:f.first=15)(hIR:I≠R)(hw : -9223372036854775808≤h.done+nn∧h.done+nn≤9223372036854775807)(hW:Wds w a len cap ws)(hE:isE ws len k=false)(hk:k < 4294967296) :
  Calls Tryz.prog 52 #[.pointer (some ⟨R,0,none⟩),.pointer (some ⟨I,0,none⟩),.pointer (some ⟨I,8,none⟩),.agg (uW va vb vc vd)] w fun e w'=>e=.returned (.agg (yE ⟨5,0,0,0,0,0⟩))∧RB w' R (yB (.slice a len cap) tb X h)∧zI [R] w w':=by
 have lR:=hR.lt
 have lI:=zE hI
 have c17:w.cell? ⟨R,17,none⟩=some (.int .i64 h.done):=hR.c 17 aO
 have k5:w.cell? ⟨I,5,none⟩=some (.int .i64 nn):=by rw[zA hI 5,← en];rfl
 have k6:w.cell? ⟨I,6,none⟩=some (.int .u32 k):=by rw[zA hI 6,← ek];rfl
 have hw2:IntKind.i64.wrap (h.done+nn)=h.done+nn:=IntWalk.i64_in _ hw
 have n0:¬R=w.heap.size:=aO
 have n1:¬I=w.heap.size:=aO
 have l1:R < w.heap.size+1:=aO
 have l2:I < w.heap.size+1:=aO
 have l3:R < w.heap.size+1+1:=aO
 have l4:I < w.heap.size+1+1:=aO
 have HR:Hid _:=hR
 have HI:Hid _:=hI
 have HEF:Hid _:=ef
 have HEK:Hid _:=ek
 have HEN:Hid _:=en
 have HIR:Hid _:=hIR
 have HWW:Hid _:=hw
 have HE:Hid _:=hE
 have HW:Hid _:=hW
 have HKW:Hid (IntKind.i64.wrap (k:Int)=k):=IntWalk.i64_in _ aO
 have nIr:¬w.heap.size+1=I:=aO
 clear hE hW hk
 clear hR hI ek en ef hIR hw
 go_enter Tryz.func52,Tryz.ntmps52
 go_upto_region 2 with fail
 go_region
 go_upto_region 3 with fail
 refine zJ (fun W'=>GW w W' R I (yB (.slice a len cap) tb X h) va vb vc vd ⟨1,0,0,k,h.done+nn,0⟩ (yT x f n)) (yL va vb vc vd ⟨1,0,0,k,h.done+nn,0⟩ HR.out HI.out) ?_
 clear c17 k5 k6
 intro W hG
 have t0:W.cell? ⟨w.heap.size,0,none⟩=some (.int .u32 va):=zA hG.t 0
 have i8:W.cell? ⟨I,8,none⟩=some (.int .u8 15):=by rw[zA hG.i 8,← HEF.out];rfl
 have i5:W.cell? ⟨I,5,none⟩=some (.int .i64 nn):=by rw[zA hG.i 5,← HEN.out];rfl
 have i6:W.cell? ⟨I,6,none⟩=some (.int .u32 k):=by rw[zA hG.i 6,← HEK.out];rfl
 have lt_:=zE hG.t
 have lr:=zE hG.r
 have li:=zE hG.i
 have lR2:=hG.b.lt
 have nr:¬w.heap.size+1=R:=aO
 have HG:Hid _:=hG
 clear hG
 go_upto_region 12 with fail
 go_region_held3 (fun W'=>W'.cell? ⟨I,5,none⟩=some (.int .i64 nn)∧W'.cell? ⟨I,6,none⟩=some (.int .u32 k)) (first|(simp[go_sem,i5,i6];done)|(simp[go_sem,y5,y6];done)|(simp[go_sem,y5,y6,nIr];done)) ((go_at_call 68;(try rw[HKW.out]);refine(zC8 R X a len cap tb h k nn ws W.drew HG.out.b.drw (yD (yD HW.out HG.out.bel) (aB.drew)) HWW.out).mono ?_;rintro e w9 ⟨hyes,hno,hc9⟩;obtain⟨rfl,hr9⟩:=hno HE.out;have hrr:w9.heap[w.heap.size+1]?=some (.cells (yE ⟨0,0,0,0,0,0⟩) 37):=hc9.keep (show W.drew.heap[w.heap.size+1]?=_ from HG.out.r) zq69;have r0:w9.cell? ⟨w.heap.size+1,0,none⟩=some (.int .i64 0):=zA hrr 0;have z0:=zD hrr 0;have r1:w9.cell? ⟨w.heap.size+1,1,none⟩=some (.int .i64 0):=zA hrr 1;have z1:=zD hrr 1;have r2:w9.cell? ⟨w.heap.size+1,2,none⟩=some (.int .u32 0):=zA hrr 2;have z2:=zD hrr 2;have r3:w9.cell? ⟨w.heap.size+1,3,none⟩=some (.int .u32 0):=zA hrr 3;have z3:=zD hrr 3;have r4:w9.cell? ⟨w.heap.size+1,4,none⟩=some (.int .i64 0):=zA hrr 4;have z4:=zD hrr 4;have r5:w9.cell? ⟨w.heap.size+1,5,none⟩=some (.int .i64 0):=zA hrr 5;have z5:=zD hrr 5;have lr9:=zE hrr;have y5:w9.cell? ⟨I,5,none⟩=some (.int .i64 nn):=(World.cell?_of_block (w:=W) (hc9.block I li (by simpa using HIR.out))).trans i5;have y6:w9.cell? ⟨I,6,none⟩=some (.int .u32 k):=(World.cell?_of_block (w:=W) (hc9.block I li (by simpa using HIR.out))).trans i6;have HR9:Hid _:=hr9;have HC9:Hid _:=hc9;clear hr9 hc9 hrr hyes hno))
 go_wp2
 refine bodyPost_ret (v:=.agg (yE ⟨5,0,0,0,0,0⟩)) zq9 rfl ⟨rfl,?_,?_⟩
 ·exact zq6
 ·exact zq31
theorem zGb(R X I k va vb vc vd:Nat)(nn:Int)(x:Cd)(f:Fo)(n:Int)(h:HP)(w:World)(a:Option Addr)(len cap:Nat)(tb:Value)(ws:Nat→Nat)(hR:RB w R (yB (.slice a len cap) tb X h))(hI:w.heap[I]?=some (.cells (yT x f n) 90))(ek:x.k=k)(en:x.n=nn)(ef:f.first=96)(hIR:I≠R)(hw : -9223372036854775808≤h.done+nn∧h.done+nn≤9223372036854775807)(hW:Wds w a len cap ws)(hE:isE ws len k=true)(hk:k < 4294967296)(hv:¬va=0) :
  Calls Tryz.prog 52 #[.pointer (some ⟨R,0,none⟩),.pointer (some ⟨I,0,none⟩),.pointer (some ⟨I,8,none⟩),.agg (uW va vb vc vd)] w fun e w'=>e=.returned (.agg (yE ⟨0,0,0,0,0,0⟩))∧RB w' R (yB (.slice a len cap) tb X (h.go k nn))∧zI [R] w w':=by
 have lR:=hR.lt
 have lI:=zE hI
 have c17:w.cell? ⟨R,17,none⟩=some (.int .i64 h.done):=hR.c 17 aO
 have k5:w.cell? ⟨I,5,none⟩=some (.int .i64 nn):=by rw[zA hI 5,← en];rfl
 have k6:w.cell? ⟨I,6,none⟩=some (.int .u32 k):=by rw[zA hI 6,← ek];rfl
 have hw2:IntKind.i64.wrap (h.done+nn)=h.done+nn:=IntWalk.i64_in _ hw
 have n0:¬R=w.heap.size:=aO
 have n1:¬I=w.heap.size:=aO
 have l1:R < w.heap.size+1:=aO
 have l2:I < w.heap.size+1:=aO
 have l3:R < w.heap.size+1+1:=aO
 have l4:I < w.heap.size+1+1:=aO
 have HR:Hid _:=hR
 have HI:Hid _:=hI
 have HEF:Hid _:=ef
 have HEK:Hid _:=ek
 have HEN:Hid _:=en
 have HIR:Hid _:=hIR
 have HWW:Hid _:=hw
 have HE:Hid _:=hE
 have HW:Hid _:=hW
 have HKW:Hid (IntKind.i64.wrap (k:Int)=k):=IntWalk.i64_in _ aO
 have nIr:¬w.heap.size+1=I:=aO
 clear hE hW hk
 have g1:((va:Int) !=0)=true:=by simp;omega
 clear hv
 clear hR hI ek en ef hIR hw
 go_enter Tryz.func52,Tryz.ntmps52
 go_upto_region 2 with fail
 go_region
 go_upto_region 3 with fail
 refine zJ (fun W'=>GW w W' R I (yB (.slice a len cap) tb X h) va vb vc vd ⟨1,0,0,k,h.done+nn,0⟩ (yT x f n)) (yL va vb vc vd ⟨1,0,0,k,h.done+nn,0⟩ HR.out HI.out) ?_
 clear c17 k5 k6
 intro W hG
 have t0:W.cell? ⟨w.heap.size,0,none⟩=some (.int .u32 va):=zA hG.t 0
 have i8:W.cell? ⟨I,8,none⟩=some (.int .u8 96):=by rw[zA hG.i 8,← HEF.out];rfl
 have i5:W.cell? ⟨I,5,none⟩=some (.int .i64 nn):=by rw[zA hG.i 5,← HEN.out];rfl
 have i6:W.cell? ⟨I,6,none⟩=some (.int .u32 k):=by rw[zA hG.i 6,← HEK.out];rfl
 have lt_:=zE hG.t
 have lr:=zE hG.r
 have li:=zE hG.i
 have lR2:=hG.b.lt
 have nr:¬w.heap.size+1=R:=aO
 have HG:Hid _:=hG
 clear hG
 go_upto_region 15 with fail
 go_region_held3 (fun W'=>W'.cell? ⟨I,5,none⟩=some (.int .i64 nn)∧W'.cell? ⟨I,6,none⟩=some (.int .u32 k)) (first|(simp[go_sem,i5,i6];done)|(simp[go_sem,y5,y6];done)|(simp[go_sem,y5,y6,nIr];done)) ((go_at_call 68;(try rw[HKW.out]);refine(zC8 R X a len cap tb h k nn ws W.drew HG.out.b.drw (yD (yD HW.out HG.out.bel) (aB.drew)) HWW.out).mono ?_;rintro e w9 ⟨hyes,hno,hc9⟩;obtain⟨rfl,hr9⟩:=hyes HE.out;have hrr:w9.heap[w.heap.size+1]?=some (.cells (yE ⟨0,0,0,0,0,0⟩) 37):=hc9.keep (show W.drew.heap[w.heap.size+1]?=_ from HG.out.r) zq69;have r0:w9.cell? ⟨w.heap.size+1,0,none⟩=some (.int .i64 0):=zA hrr 0;have z0:=zD hrr 0;have r1:w9.cell? ⟨w.heap.size+1,1,none⟩=some (.int .i64 0):=zA hrr 1;have z1:=zD hrr 1;have r2:w9.cell? ⟨w.heap.size+1,2,none⟩=some (.int .u32 0):=zA hrr 2;have z2:=zD hrr 2;have r3:w9.cell? ⟨w.heap.size+1,3,none⟩=some (.int .u32 0):=zA hrr 3;have z3:=zD hrr 3;have r4:w9.cell? ⟨w.heap.size+1,4,none⟩=some (.int .i64 0):=zA hrr 4;have z4:=zD hrr 4;have r5:w9.cell? ⟨w.heap.size+1,5,none⟩=some (.int .i64 0):=zA hrr 5;have z5:=zD hrr 5;have lr9:=zE hrr;have y5:w9.cell? ⟨I,5,none⟩=some (.int .i64 nn):=(World.cell?_of_block (w:=W) (hc9.block I li (by simpa using HIR.out))).trans i5;have y6:w9.cell? ⟨I,6,none⟩=some (.int .u32 k):=(World.cell?_of_block (w:=W) (hc9.block I li (by simpa using HIR.out))).trans i6;have HR9:Hid _:=hr9;have HC9:Hid _:=hc9;clear hr9 hc9 hrr hyes hno))
 go_wp2
 refine bodyPost_ret (v:=.agg (yE ⟨0,0,0,0,0,0⟩)) zq9 rfl ⟨rfl,?_,?_⟩
 ·exact zq6
 ·exact zq31
theorem zGc(R X I k va vb vc vd:Nat)(nn:Int)(x:Cd)(f:Fo)(n:Int)(h:HP)(w:World)(a:Option Addr)(len cap:Nat)(tb:Value)(ws:Nat→Nat)(hR:RB w R (yB (.slice a len cap) tb X h))(hI:w.heap[I]?=some (.cells (yT x f n) 90))(ek:x.k=k)(en:x.n=nn)(ef:f.first=96)(hIR:I≠R)(hw : -9223372036854775808≤h.done+nn∧h.done+nn≤9223372036854775807)(hW:Wds w a len cap ws)(hE:isE ws len k=false)(hk:k < 4294967296)(hv:¬va=0) :
  Calls Tryz.prog 52 #[.pointer (some ⟨R,0,none⟩),.pointer (some ⟨I,0,none⟩),.pointer (some ⟨I,8,none⟩),.agg (uW va vb vc vd)] w fun e w'=>e=.returned (.agg (yE ⟨5,0,0,0,0,0⟩))∧RB w' R (yB (.slice a len cap) tb X h)∧zI [R] w w':=by
 have lR:=hR.lt
 have lI:=zE hI
 have c17:w.cell? ⟨R,17,none⟩=some (.int .i64 h.done):=hR.c 17 aO
 have k5:w.cell? ⟨I,5,none⟩=some (.int .i64 nn):=by rw[zA hI 5,← en];rfl
 have k6:w.cell? ⟨I,6,none⟩=some (.int .u32 k):=by rw[zA hI 6,← ek];rfl
 have hw2:IntKind.i64.wrap (h.done+nn)=h.done+nn:=IntWalk.i64_in _ hw
 have n0:¬R=w.heap.size:=aO
 have n1:¬I=w.heap.size:=aO
 have l1:R < w.heap.size+1:=aO
 have l2:I < w.heap.size+1:=aO
 have l3:R < w.heap.size+1+1:=aO
 have l4:I < w.heap.size+1+1:=aO
 have HR:Hid _:=hR
 have HI:Hid _:=hI
 have HEF:Hid _:=ef
 have HEK:Hid _:=ek
 have HEN:Hid _:=en
 have HIR:Hid _:=hIR
 have HWW:Hid _:=hw
 have HE:Hid _:=hE
 have HW:Hid _:=hW
 have HKW:Hid (IntKind.i64.wrap (k:Int)=k):=IntWalk.i64_in _ aO
 have nIr:¬w.heap.size+1=I:=aO
 clear hE hW hk
 have g1:((va:Int) !=0)=true:=by simp;omega
 clear hv
 clear hR hI ek en ef hIR hw
 go_enter Tryz.func52,Tryz.ntmps52
 go_upto_region 2 with fail
 go_region
 go_upto_region 3 with fail
 refine zJ (fun W'=>GW w W' R I (yB (.slice a len cap) tb X h) va vb vc vd ⟨1,0,0,k,h.done+nn,0⟩ (yT x f n)) (yL va vb vc vd ⟨1,0,0,k,h.done+nn,0⟩ HR.out HI.out) ?_
 clear c17 k5 k6
 intro W hG
 have t0:W.cell? ⟨w.heap.size,0,none⟩=some (.int .u32 va):=zA hG.t 0
 have i8:W.cell? ⟨I,8,none⟩=some (.int .u8 96):=by rw[zA hG.i 8,← HEF.out];rfl
 have i5:W.cell? ⟨I,5,none⟩=some (.int .i64 nn):=by rw[zA hG.i 5,← HEN.out];rfl
 have i6:W.cell? ⟨I,6,none⟩=some (.int .u32 k):=by rw[zA hG.i 6,← HEK.out];rfl
 have lt_:=zE hG.t
 have lr:=zE hG.r
 have li:=zE hG.i
 have lR2:=hG.b.lt
 have nr:¬w.heap.size+1=R:=aO
 have HG:Hid _:=hG
 clear hG
 go_upto_region 15 with fail
 go_region_held3 (fun W'=>W'.cell? ⟨I,5,none⟩=some (.int .i64 nn)∧W'.cell? ⟨I,6,none⟩=some (.int .u32 k)) (first|(simp[go_sem,i5,i6];done)|(simp[go_sem,y5,y6];done)|(simp[go_sem,y5,y6,nIr];done)) ((go_at_call 68;(try rw[HKW.out]);refine(zC8 R X a len cap tb h k nn ws W.drew HG.out.b.drw (yD (yD HW.out HG.out.bel) (aB.drew)) HWW.out).mono ?_;rintro e w9 ⟨hyes,hno,hc9⟩;obtain⟨rfl,hr9⟩:=hno HE.out;have hrr:w9.heap[w.heap.size+1]?=some (.cells (yE ⟨0,0,0,0,0,0⟩) 37):=hc9.keep (show W.drew.heap[w.heap.size+1]?=_ from HG.out.r) zq69;have r0:w9.cell? ⟨w.heap.size+1,0,none⟩=some (.int .i64 0):=zA hrr 0;have z0:=zD hrr 0;have r1:w9.cell? ⟨w.heap.size+1,1,none⟩=some (.int .i64 0):=zA hrr 1;have z1:=zD hrr 1;have r2:w9.cell? ⟨w.heap.size+1,2,none⟩=some (.int .u32 0):=zA hrr 2;have z2:=zD hrr 2;have r3:w9.cell? ⟨w.heap.size+1,3,none⟩=some (.int .u32 0):=zA hrr 3;have z3:=zD hrr 3;have r4:w9.cell? ⟨w.heap.size+1,4,none⟩=some (.int .i64 0):=zA hrr 4;have z4:=zD hrr 4;have r5:w9.cell? ⟨w.heap.size+1,5,none⟩=some (.int .i64 0):=zA hrr 5;have z5:=zD hrr 5;have lr9:=zE hrr;have y5:w9.cell? ⟨I,5,none⟩=some (.int .i64 nn):=(World.cell?_of_block (w:=W) (hc9.block I li (by simpa using HIR.out))).trans i5;have y6:w9.cell? ⟨I,6,none⟩=some (.int .u32 k):=(World.cell?_of_block (w:=W) (hc9.block I li (by simpa using HIR.out))).trans i6;have HR9:Hid _:=hr9;have HC9:Hid _:=hc9;clear hr9 hc9 hrr hyes hno))
 go_wp2
 refine bodyPost_ret (v:=.agg (yE ⟨5,0,0,0,0,0⟩)) zq9 rfl ⟨rfl,?_,?_⟩
 ·exact zq6
 ·exact zq31
end Go.Proofs.YthcpipfmicbnmaaGreat.Ho
