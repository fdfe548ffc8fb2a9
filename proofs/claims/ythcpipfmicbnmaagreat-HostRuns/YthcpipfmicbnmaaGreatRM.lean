import Derived.Test.YthcpipfmicbnmaaGreatRH
set_option linter.unusedVariables false
set_option linter.unusedSimpArgs false
set_option maxHeartbeats 2000000
namespace Go.Proofs.YthcpipfmicbnmaaGreat.Ho
open Go.RowKit
set_option maxRecDepth 100000
structure GW(w W:World)(R I:Nat)(f:Nat→Value)(va vb vc vd:Nat)(o:LF)(A:Array Value):Prop where
 t:W.heap[w.heap.size]?=some (.cells (uW va vb vc vd) 113)
 r:W.heap[w.heap.size+1]?=some (.cells (yE ⟨0,0,0,0,0,0⟩) 37)
 o:W.heap[w.heap.size+1+1]?=some (.cells (yE o) 37)
 i:W.heap[I]?=some (.cells A 90)
 b:RB W R f
 c:zI [R] w W
 bel:Below w.heap.size w W
theorem yL{w:World}{R I:Nat}{f:Nat→Value}{A:Array Value}(va vb vc vd:Nat)(o:LF)(h:RB w R f)(hI:w.heap[I]?=some (.cells A 90)) :
  GW w (((w.alloc (.cells (uW va vb vc vd) 113)).alloc (.cells (yE ⟨0,0,0,0,0,0⟩) 37)).alloc (.cells (yE o) 37)).drew R I f va vb vc vd o A:=by
 have lI:=zE hI
 have e1:=heap_alloc_last w (.cells (uW va vb vc vd) 113)
 have e2:=heap_alloc_last (w.alloc (.cells (uW va vb vc vd) 113)) (.cells (yE ⟨0,0,0,0,0,0⟩) 37)
 have e3:=heap_alloc_last ((w.alloc (.cells (uW va vb vc vd) 113)).alloc (.cells (yE ⟨0,0,0,0,0,0⟩) 37)) (.cells (yE o) 37)
 simp only[World.size_alloc] at e2 e3
 refine⟨?_,?_,e3,?_,(((h.al _).al _).al _).drw,((((zI.refl [R] w).alloc _).alloc _).alloc _).drew,(((aB.alloc aL _).alloc aS _).alloc zq7 _).drew⟩
 ·show(((w.alloc _).alloc _).alloc _).heap[w.heap.size]?=_
  rw[Below.heap_alloc _ _ _ zq30,Below.heap_alloc _ _ _ aS];exact e1
 ·show(((w.alloc _).alloc _).alloc _).heap[w.heap.size+1]?=_
  rw[Below.heap_alloc _ _ _ aS];exact e2
 ·show(((w.alloc _).alloc _).alloc _).heap[I]?=_
  rw[Below.heap_alloc _ _ _ zq7,Below.heap_alloc _ _ _ zq7,Below.heap_alloc _ _ _ lI];exact hI
theorem zGd(R X I k va vb vc vd:Nat)(nn:Int)(ws tb:Value)(x:Cd)(f:Fo)(n:Int)(h:HP)(w:World)(hR:RB w R (yB ws tb X h))(hI:w.heap[I]?=some (.cells (yT x f n) 90))(ek:x.k=k)(en:x.n=nn)(ef:f.first=14)(hw : -9223372036854775808≤h.done+nn∧h.done+nn≤9223372036854775807)  :
  Calls Tryz.prog 52 #[.pointer (some ⟨R,0,none⟩),.pointer (some ⟨I,0,none⟩),.pointer (some ⟨I,8,none⟩),.agg (uW va vb vc vd)] w fun e w'=>e=.returned (.agg (yE ⟨1,0,0,k,h.done+nn,0⟩))∧RB w' R (yB ws tb X h)∧zI [R] w w':=by
 have lR:=hR.lt
 have lI:=zE hI
 have c17:w.cell? ⟨R,17,none⟩=some (.int .i64 h.done):=hR.c 17 aO
 have k5:w.cell? ⟨I,5,none⟩=some (.int .i64 nn):=by rw[zA hI 5,← en];rfl
 have k6:w.cell? ⟨I,6,none⟩=some (.int .u32 k):=by rw[zA hI 6,← ek];rfl
 have hw2:IntKind.i64.wrap (h.done+nn)=h.done+nn:=IntWalk.i64_in _ hw
 have n0:¬R=w.heap.size:=aO
 have n1:¬I=w.heap.size:=aO
 have l1:R < w.heap.size+1:=aO
 have l2:I < w.heap.size+1:=aO
 have l3:R < w.heap.size+1+1:=aO
 have l4:I < w.heap.size+1+1:=aO
 have HR:Hid _:=hR
 have HI:Hid _:=hI
 have HEF:Hid _:=ef
 clear hR hI ek en ef
 go_enter Tryz.func52,Tryz.ntmps52
 go_upto_region 2 with fail
 go_region
 go_upto_region 3 with fail
 refine zJ (fun W'=>GW w W' R I (yB ws tb X h) va vb vc vd ⟨1,0,0,k,h.done+nn,0⟩ (yT x f n)) (yL va vb vc vd ⟨1,0,0,k,h.done+nn,0⟩ HR.out HI.out) ?_
 clear c17 k5 k6
 intro W hG
 have r0:W.cell? ⟨w.heap.size+1,0,none⟩=some (.int .i64 0):=zA hG.r 0
 have z0:=zD hG.r 0
 have r1:W.cell? ⟨w.heap.size+1,1,none⟩=some (.int .i64 0):=zA hG.r 1
 have z1:=zD hG.r 1
 have r2:W.cell? ⟨w.heap.size+1,2,none⟩=some (.int .u32 0):=zA hG.r 2
 have z2:=zD hG.r 2
 have r3:W.cell? ⟨w.heap.size+1,3,none⟩=some (.int .u32 0):=zA hG.r 3
 have z3:=zD hG.r 3
 have r4:W.cell? ⟨w.heap.size+1,4,none⟩=some (.int .i64 0):=zA hG.r 4
 have z4:=zD hG.r 4
 have r5:W.cell? ⟨w.heap.size+1,5,none⟩=some (.int .i64 0):=zA hG.r 5
 have z5:=zD hG.r 5
 have o0:W.cell? ⟨w.heap.size+1+1,0,none⟩=some (.int .i64 (1)):=zA hG.o 0
 have o1:W.cell? ⟨w.heap.size+1+1,1,none⟩=some (.int .i64 (0)):=zA hG.o 1
 have o2:W.cell? ⟨w.heap.size+1+1,2,none⟩=some (.int .u32 (0)):=zA hG.o 2
 have o3:W.cell? ⟨w.heap.size+1+1,3,none⟩=some (.int .u32 (k)):=zA hG.o 3
 have o4:W.cell? ⟨w.heap.size+1+1,4,none⟩=some (.int .i64 (h.done+nn)):=zA hG.o 4
 have o5:W.cell? ⟨w.heap.size+1+1,5,none⟩=some (.int .i64 (0)):=zA hG.o 5
 have t0:W.cell? ⟨w.heap.size,0,none⟩=some (.int .u32 va):=zA hG.t 0
 have i8:W.cell? ⟨I,8,none⟩=some (.int .u8 14):=by rw[zA hG.i 8,← HEF.out];rfl
 have c13:W.cell? ⟨R,13,none⟩=some (.pointer (some ⟨X,0,none⟩)):=hG.b.c 13 aO
 have lt_:=zE hG.t
 have lr:=zE hG.r
 have lo:=zE hG.o
 have li:=zE hG.i
 have lR2:=hG.b.lt
 have nr:¬w.heap.size+1=R:=aO
 have HG:Hid _:=hG
 clear hG
 go_wp2_with fail
 refine bodyPost_ret (v:=.agg (yE ⟨1,0,0,k,h.done+nn,0⟩)) zq48 rfl ⟨rfl,?_,?_⟩
 ·exact zq20
 ·exact zq21
theorem zI1(R X I k va vb vc vd:Nat)(nn:Int)(ws tb:Value)(x:Cd)(f:Fo)(n:Int)(h:HP)(w:World)(hR:RB w R (yB ws tb X h))(hI:w.heap[I]?=some (.cells (yT x f n) 90))(ek:x.k=k)(en:x.n=nn)(ef:f.first=11)(hw : -9223372036854775808≤h.done+nn∧h.done+nn≤9223372036854775807)(hv:va=0) :
  Calls Tryz.prog 52 #[.pointer (some ⟨R,0,none⟩),.pointer (some ⟨I,0,none⟩),.pointer (some ⟨I,8,none⟩),.agg (uW va vb vc vd)] w fun e w'=>e=.returned (.agg (yE ⟨0,0,0,0,0,0⟩))∧RB w' R (yB ws tb X h)∧zI [R] w w':=by
 have lR:=hR.lt
 have lI:=zE hI
 have c17:w.cell? ⟨R,17,none⟩=some (.int .i64 h.done):=hR.c 17 aO
 have k5:w.cell? ⟨I,5,none⟩=some (.int .i64 nn):=by rw[zA hI 5,← en];rfl
 have k6:w.cell? ⟨I,6,none⟩=some (.int .u32 k):=by rw[zA hI 6,← ek];rfl
 have hw2:IntKind.i64.wrap (h.done+nn)=h.done+nn:=IntWalk.i64_in _ hw
 have n0:¬R=w.heap.size:=aO
 have n1:¬I=w.heap.size:=aO
 have l1:R < w.heap.size+1:=aO
 have l2:I < w.heap.size+1:=aO
 have l3:R < w.heap.size+1+1:=aO
 have l4:I < w.heap.size+1+1:=aO
 have HR:Hid _:=hR
 have HI:Hid _:=hI
 have HEF:Hid _:=ef
 have g1:((va:Int) !=0)=false:=by subst hv;rfl
 clear hv
 clear hR hI ek en ef
 go_enter Tryz.func52,Tryz.ntmps52
 go_upto_region 2 with fail
 go_region
 go_upto_region 3 with fail
 refine zJ (fun W'=>GW w W' R I (yB ws tb X h) va vb vc vd ⟨1,0,0,k,h.done+nn,0⟩ (yT x f n)) (yL va vb vc vd ⟨1,0,0,k,h.done+nn,0⟩ HR.out HI.out) ?_
 clear c17 k5 k6
 intro W hG
 have r0:W.cell? ⟨w.heap.size+1,0,none⟩=some (.int .i64 0):=zA hG.r 0
 have z0:=zD hG.r 0
 have r1:W.cell? ⟨w.heap.size+1,1,none⟩=some (.int .i64 0):=zA hG.r 1
 have z1:=zD hG.r 1
 have r2:W.cell? ⟨w.heap.size+1,2,none⟩=some (.int .u32 0):=zA hG.r 2
 have z2:=zD hG.r 2
 have r3:W.cell? ⟨w.heap.size+1,3,none⟩=some (.int .u32 0):=zA hG.r 3
 have z3:=zD hG.r 3
 have r4:W.cell? ⟨w.heap.size+1,4,none⟩=some (.int .i64 0):=zA hG.r 4
 have z4:=zD hG.r 4
 have r5:W.cell? ⟨w.heap.size+1,5,none⟩=some (.int .i64 0):=zA hG.r 5
 have z5:=zD hG.r 5
 have o0:W.cell? ⟨w.heap.size+1+1,0,none⟩=some (.int .i64 (1)):=zA hG.o 0
 have o1:W.cell? ⟨w.heap.size+1+1,1,none⟩=some (.int .i64 (0)):=zA hG.o 1
 have o2:W.cell? ⟨w.heap.size+1+1,2,none⟩=some (.int .u32 (0)):=zA hG.o 2
 have o3:W.cell? ⟨w.heap.size+1+1,3,none⟩=some (.int .u32 (k)):=zA hG.o 3
 have o4:W.cell? ⟨w.heap.size+1+1,4,none⟩=some (.int .i64 (h.done+nn)):=zA hG.o 4
 have o5:W.cell? ⟨w.heap.size+1+1,5,none⟩=some (.int .i64 (0)):=zA hG.o 5
 have t0:W.cell? ⟨w.heap.size,0,none⟩=some (.int .u32 va):=zA hG.t 0
 have i8:W.cell? ⟨I,8,none⟩=some (.int .u8 11):=by rw[zA hG.i 8,← HEF.out];rfl
 have c13:W.cell? ⟨R,13,none⟩=some (.pointer (some ⟨X,0,none⟩)):=hG.b.c 13 aO
 have lt_:=zE hG.t
 have lr:=zE hG.r
 have lo:=zE hG.o
 have li:=zE hG.i
 have lR2:=hG.b.lt
 have nr:¬w.heap.size+1=R:=aO
 have HG:Hid _:=hG
 clear hG
 go_wp2_with fail
 refine bodyPost_ret (v:=.agg (yE ⟨0,0,0,0,0,0⟩)) zq48 rfl ⟨rfl,?_,?_⟩
 ·exact zq20
 ·exact zq21
theorem zI2(R X I k va vb vc vd:Nat)(nn:Int)(ws tb:Value)(x:Cd)(f:Fo)(n:Int)(h:HP)(w:World)(hR:RB w R (yB ws tb X h))(hI:w.heap[I]?=some (.cells (yT x f n) 90))(ek:x.k=k)(en:x.n=nn)(ef:f.first=11)(hw : -9223372036854775808≤h.done+nn∧h.done+nn≤9223372036854775807)(hv:¬va=0) :
  Calls Tryz.prog 52 #[.pointer (some ⟨R,0,none⟩),.pointer (some ⟨I,0,none⟩),.pointer (some ⟨I,8,none⟩),.agg (uW va vb vc vd)] w fun e w'=>e=.returned (.agg (yE ⟨1,0,0,k,h.done+nn,0⟩))∧RB w' R (yB ws tb X h)∧zI [R] w w':=by
 have lR:=hR.lt
 have lI:=zE hI
 have c17:w.cell? ⟨R,17,none⟩=some (.int .i64 h.done):=hR.c 17 aO
 have k5:w.cell? ⟨I,5,none⟩=some (.int .i64 nn):=by rw[zA hI 5,← en];rfl
 have k6:w.cell? ⟨I,6,none⟩=some (.int .u32 k):=by rw[zA hI 6,← ek];rfl
 have hw2:IntKind.i64.wrap (h.done+nn)=h.done+nn:=IntWalk.i64_in _ hw
 have n0:¬R=w.heap.size:=aO
 have n1:¬I=w.heap.size:=aO
 have l1:R < w.heap.size+1:=aO
 have l2:I < w.heap.size+1:=aO
 have l3:R < w.heap.size+1+1:=aO
 have l4:I < w.heap.size+1+1:=aO
 have HR:Hid _:=hR
 have HI:Hid _:=hI
 have HEF:Hid _:=ef
 have g1:((va:Int) !=0)=true:=by simp;omega
 clear hv
 clear hR hI ek en ef
 go_enter Tryz.func52,Tryz.ntmps52
 go_upto_region 2 with fail
 go_region
 go_upto_region 3 with fail
 refine zJ (fun W'=>GW w W' R I (yB ws tb X h) va vb vc vd ⟨1,0,0,k,h.done+nn,0⟩ (yT x f n)) (yL va vb vc vd ⟨1,0,0,k,h.done+nn,0⟩ HR.out HI.out) ?_
 clear c17 k5 k6
 intro W hG
 have r0:W.cell? ⟨w.heap.size+1,0,none⟩=some (.int .i64 0):=zA hG.r 0
 have z0:=zD hG.r 0
 have r1:W.cell? ⟨w.heap.size+1,1,none⟩=some (.int .i64 0):=zA hG.r 1
 have z1:=zD hG.r 1
 have r2:W.cell? ⟨w.heap.size+1,2,none⟩=some (.int .u32 0):=zA hG.r 2
 have z2:=zD hG.r 2
 have r3:W.cell? ⟨w.heap.size+1,3,none⟩=some (.int .u32 0):=zA hG.r 3
 have z3:=zD hG.r 3
 have r4:W.cell? ⟨w.heap.size+1,4,none⟩=some (.int .i64 0):=zA hG.r 4
 have z4:=zD hG.r 4
 have r5:W.cell? ⟨w.heap.size+1,5,none⟩=some (.int .i64 0):=zA hG.r 5
 have z5:=zD hG.r 5
 have o0:W.cell? ⟨w.heap.size+1+1,0,none⟩=some (.int .i64 (1)):=zA hG.o 0
 have o1:W.cell? ⟨w.heap.size+1+1,1,none⟩=some (.int .i64 (0)):=zA hG.o 1
 have o2:W.cell? ⟨w.heap.size+1+1,2,none⟩=some (.int .u32 (0)):=zA hG.o 2
 have o3:W.cell? ⟨w.heap.size+1+1,3,none⟩=some (.int .u32 (k)):=zA hG.o 3
 have o4:W.cell? ⟨w.heap.size+1+1,4,none⟩=some (.int .i64 (h.done+nn)):=zA hG.o 4
 have o5:W.cell? ⟨w.heap.size+1+1,5,none⟩=some (.int .i64 (0)):=zA hG.o 5
 have t0:W.cell? ⟨w.heap.size,0,none⟩=some (.int .u32 va):=zA hG.t 0
 have i8:W.cell? ⟨I,8,none⟩=some (.int .u8 11):=by rw[zA hG.i 8,← HEF.out];rfl
 have c13:W.cell? ⟨R,13,none⟩=some (.pointer (some ⟨X,0,none⟩)):=hG.b.c 13 aO
 have lt_:=zE hG.t
 have lr:=zE hG.r
 have lo:=zE hG.o
 have li:=zE hG.i
 have lR2:=hG.b.lt
 have nr:¬w.heap.size+1=R:=aO
 have HG:Hid _:=hG
 clear hG
 go_wp2_with fail
 refine bodyPost_ret (v:=.agg (yE ⟨1,0,0,k,h.done+nn,0⟩)) zq48 rfl ⟨rfl,?_,?_⟩
 ·exact zq20
 ·exact zq21
theorem zGa(R X I k va vb vc vd:Nat)(nn:Int)(ws tb:Value)(x:Cd)(f:Fo)(n:Int)(h:HP)(w:World)(hR:RB w R (yB ws tb X h))(hI:w.heap[I]?=some (.cells (yT x f n) 90))(ek:x.k=k)(en:x.n=nn)(ef:f.first=96)(hw : -9223372036854775808≤h.done+nn∧h.done+nn≤9223372036854775807)(hv:va=0) :
  Calls Tryz.prog 52 #[.pointer (some ⟨R,0,none⟩),.pointer (some ⟨I,0,none⟩),.pointer (some ⟨I,8,none⟩),.agg (uW va vb vc vd)] w fun e w'=>e=.returned (.agg (yE ⟨0,0,0,0,0,0⟩))∧RB w' R (yB ws tb X h)∧zI [R] w w':=by
 have lR:=hR.lt
 have lI:=zE hI
 have c17:w.cell? ⟨R,17,none⟩=some (.int .i64 h.done):=hR.c 17 aO
 have k5:w.cell? ⟨I,5,none⟩=some (.int .i64 nn):=by rw[zA hI 5,← en];rfl
 have k6:w.cell? ⟨I,6,none⟩=some (.int .u32 k):=by rw[zA hI 6,← ek];rfl
 have hw2:IntKind.i64.wrap (h.done+nn)=h.done+nn:=IntWalk.i64_in _ hw
 have n0:¬R=w.heap.size:=aO
 have n1:¬I=w.heap.size:=aO
 have l1:R < w.heap.size+1:=aO
 have l2:I < w.heap.size+1:=aO
 have l3:R < w.heap.size+1+1:=aO
 have l4:I < w.heap.size+1+1:=aO
 have HR:Hid _:=hR
 have HI:Hid _:=hI
 have HEF:Hid _:=ef
 have g1:((va:Int) !=0)=false:=by subst hv;rfl
 clear hv
 clear hR hI ek en ef
 go_enter Tryz.func52,Tryz.ntmps52
 go_upto_region 2 with fail
 go_region
 go_upto_region 3 with fail
 refine zJ (fun W'=>GW w W' R I (yB ws tb X h) va vb vc vd ⟨1,0,0,k,h.done+nn,0⟩ (yT x f n)) (yL va vb vc vd ⟨1,0,0,k,h.done+nn,0⟩ HR.out HI.out) ?_
 clear c17 k5 k6
 intro W hG
 have r0:W.cell? ⟨w.heap.size+1,0,none⟩=some (.int .i64 0):=zA hG.r 0
 have z0:=zD hG.r 0
 have r1:W.cell? ⟨w.heap.size+1,1,none⟩=some (.int .i64 0):=zA hG.r 1
 have z1:=zD hG.r 1
 have r2:W.cell? ⟨w.heap.size+1,2,none⟩=some (.int .u32 0):=zA hG.r 2
 have z2:=zD hG.r 2
 have r3:W.cell? ⟨w.heap.size+1,3,none⟩=some (.int .u32 0):=zA hG.r 3
 have z3:=zD hG.r 3
 have r4:W.cell? ⟨w.heap.size+1,4,none⟩=some (.int .i64 0):=zA hG.r 4
 have z4:=zD hG.r 4
 have r5:W.cell? ⟨w.heap.size+1,5,none⟩=some (.int .i64 0):=zA hG.r 5
 have z5:=zD hG.r 5
 have o0:W.cell? ⟨w.heap.size+1+1,0,none⟩=some (.int .i64 (1)):=zA hG.o 0
 have o1:W.cell? ⟨w.heap.size+1+1,1,none⟩=some (.int .i64 (0)):=zA hG.o 1
 have o2:W.cell? ⟨w.heap.size+1+1,2,none⟩=some (.int .u32 (0)):=zA hG.o 2
 have o3:W.cell? ⟨w.heap.size+1+1,3,none⟩=some (.int .u32 (k)):=zA hG.o 3
 have o4:W.cell? ⟨w.heap.size+1+1,4,none⟩=some (.int .i64 (h.done+nn)):=zA hG.o 4
 have o5:W.cell? ⟨w.heap.size+1+1,5,none⟩=some (.int .i64 (0)):=zA hG.o 5
 have t0:W.cell? ⟨w.heap.size,0,none⟩=some (.int .u32 va):=zA hG.t 0
 have i8:W.cell? ⟨I,8,none⟩=some (.int .u8 96):=by rw[zA hG.i 8,← HEF.out];rfl
 have c13:W.cell? ⟨R,13,none⟩=some (.pointer (some ⟨X,0,none⟩)):=hG.b.c 13 aO
 have lt_:=zE hG.t
 have lr:=zE hG.r
 have lo:=zE hG.o
 have li:=zE hG.i
 have lR2:=hG.b.lt
 have nr:¬w.heap.size+1=R:=aO
 have HG:Hid _:=hG
 clear hG
 go_wp2_with fail
 refine bodyPost_ret (v:=.agg (yE ⟨0,0,0,0,0,0⟩)) zq48 rfl ⟨rfl,?_,?_⟩
 ·exact zq20
 ·exact zq21
theorem zFx(R X I k va vb vc vd:Nat)(nn:Int)(ws tb:Value)(x:Cd)(f:Fo)(n:Int)(h:HP)(w:World)(hR:RB w R (yB ws tb X h))(hI:w.heap[I]?=some (.cells (yT x f n) 90))(ek:x.k=k)(en:x.n=nn)(ef:f.first=10)(hw : -9223372036854775808≤h.done+nn∧h.done+nn≤9223372036854775807)(hT:TC w X false)(lX:X < w.heap.size)(hXR:X≠R) :
  Calls Tryz.prog 52 #[.pointer (some ⟨R,0,none⟩),.pointer (some ⟨I,0,none⟩),.pointer (some ⟨I,8,none⟩),.agg (uW va vb vc vd)] w fun e w'=>e=.returned (.agg (yE ⟨0,0,0,0,0,0⟩))∧RB w' R (yB ws tb X h)∧zI [R] w w':=by
 have lR:=hR.lt
 have lI:=zE hI
 have c17:w.cell? ⟨R,17,none⟩=some (.int .i64 h.done):=hR.c 17 aO
 have k5:w.cell? ⟨I,5,none⟩=some (.int .i64 nn):=by rw[zA hI 5,← en];rfl
 have k6:w.cell? ⟨I,6,none⟩=some (.int .u32 k):=by rw[zA hI 6,← ek];rfl
 have hw2:IntKind.i64.wrap (h.done+nn)=h.done+nn:=IntWalk.i64_in _ hw
 have n0:¬R=w.heap.size:=aO
 have n1:¬I=w.heap.size:=aO
 have l1:R < w.heap.size+1:=aO
 have l2:I < w.heap.size+1:=aO
 have l3:R < w.heap.size+1+1:=aO
 have l4:I < w.heap.size+1+1:=aO
 have HR:Hid _:=hR
 have HI:Hid _:=hI
 have HEF:Hid _:=ef
 have HT:Hid _:=hT
 have HLX:Hid _:=lX
 have HXR:Hid _:=hXR
 clear hT lX hXR
 clear hR hI ek en ef
 go_enter Tryz.func52,Tryz.ntmps52
 go_upto_region 2 with fail
 go_region
 go_upto_region 3 with fail
 refine zJ (fun W'=>GW w W' R I (yB ws tb X h) va vb vc vd ⟨1,0,0,k,h.done+nn,0⟩ (yT x f n)) (yL va vb vc vd ⟨1,0,0,k,h.done+nn,0⟩ HR.out HI.out) ?_
 clear c17 k5 k6
 intro W hG
 have r0:W.cell? ⟨w.heap.size+1,0,none⟩=some (.int .i64 0):=zA hG.r 0
 have z0:=zD hG.r 0
 have r1:W.cell? ⟨w.heap.size+1,1,none⟩=some (.int .i64 0):=zA hG.r 1
 have z1:=zD hG.r 1
 have r2:W.cell? ⟨w.heap.size+1,2,none⟩=some (.int .u32 0):=zA hG.r 2
 have z2:=zD hG.r 2
 have r3:W.cell? ⟨w.heap.size+1,3,none⟩=some (.int .u32 0):=zA hG.r 3
 have z3:=zD hG.r 3
 have r4:W.cell? ⟨w.heap.size+1,4,none⟩=some (.int .i64 0):=zA hG.r 4
 have z4:=zD hG.r 4
 have r5:W.cell? ⟨w.heap.size+1,5,none⟩=some (.int .i64 0):=zA hG.r 5
 have z5:=zD hG.r 5
 have o0:W.cell? ⟨w.heap.size+1+1,0,none⟩=some (.int .i64 (1)):=zA hG.o 0
 have o1:W.cell? ⟨w.heap.size+1+1,1,none⟩=some (.int .i64 (0)):=zA hG.o 1
 have o2:W.cell? ⟨w.heap.size+1+1,2,none⟩=some (.int .u32 (0)):=zA hG.o 2
 have o3:W.cell? ⟨w.heap.size+1+1,3,none⟩=some (.int .u32 (k)):=zA hG.o 3
 have o4:W.cell? ⟨w.heap.size+1+1,4,none⟩=some (.int .i64 (h.done+nn)):=zA hG.o 4
 have o5:W.cell? ⟨w.heap.size+1+1,5,none⟩=some (.int .i64 (0)):=zA hG.o 5
 have t0:W.cell? ⟨w.heap.size,0,none⟩=some (.int .u32 va):=zA hG.t 0
 have i8:W.cell? ⟨I,8,none⟩=some (.int .u8 10):=by rw[zA hG.i 8,← HEF.out];rfl
 have c13:W.cell? ⟨R,13,none⟩=some (.pointer (some ⟨X,0,none⟩)):=hG.b.c 13 aO
 have lt_:=zE hG.t
 have lr:=zE hG.r
 have lo:=zE hG.o
 have li:=zE hG.i
 have lR2:=hG.b.lt
 have nr:¬w.heap.size+1=R:=aO
 have HCT:Hid _:=HT.out W (hG.c.block X HLX.out zq68)
 have HG:Hid _:=hG
 clear hG
 go_wp2_with (go_at_call 9;refine Calls.mono HCT.out ?_;rintro e w9 ⟨rfl,rfl⟩)
 refine bodyPost_ret (v:=.agg (yE ⟨0,0,0,0,0,0⟩)) zq48 rfl ⟨rfl,?_,?_⟩
 ·exact zq20
 ·exact zq21
theorem zFy(R X I k va vb vc vd:Nat)(nn:Int)(ws tb:Value)(x:Cd)(f:Fo)(n:Int)(h:HP)(w:World)(hR:RB w R (yB ws tb X h))(hI:w.heap[I]?=some (.cells (yT x f n) 90))(ek:x.k=k)(en:x.n=nn)(ef:f.first=10)(hw : -9223372036854775808≤h.done+nn∧h.done+nn≤9223372036854775807)(hT:TC w X true)(lX:X < w.heap.size)(hXR:X≠R) :
  Calls Tryz.prog 52 #[.pointer (some ⟨R,0,none⟩),.pointer (some ⟨I,0,none⟩),.pointer (some ⟨I,8,none⟩),.agg (uW va vb vc vd)] w fun e w'=>e=.returned (.agg (yE ⟨1,0,0,k,h.done+nn,0⟩))∧RB w' R (yB ws tb X h)∧zI [R] w w':=by
 have lR:=hR.lt
 have lI:=zE hI
 have c17:w.cell? ⟨R,17,none⟩=some (.int .i64 h.done):=hR.c 17 aO
 have k5:w.cell? ⟨I,5,none⟩=some (.int .i64 nn):=by rw[zA hI 5,← en];rfl
 have k6:w.cell? ⟨I,6,none⟩=some (.int .u32 k):=by rw[zA hI 6,← ek];rfl
 have hw2:IntKind.i64.wrap (h.done+nn)=h.done+nn:=IntWalk.i64_in _ hw
 have n0:¬R=w.heap.size:=aO
 have n1:¬I=w.heap.size:=aO
 have l1:R < w.heap.size+1:=aO
 have l2:I < w.heap.size+1:=aO
 have l3:R < w.heap.size+1+1:=aO
 have l4:I < w.heap.size+1+1:=aO
 have HR:Hid _:=hR
 have HI:Hid _:=hI
 have HEF:Hid _:=ef
 have HT:Hid _:=hT
 have HLX:Hid _:=lX
 have HXR:Hid _:=hXR
 clear hT lX hXR
 clear hR hI ek en ef
 go_enter Tryz.func52,Tryz.ntmps52
 go_upto_region 2 with fail
 go_region
 go_upto_region 3 with fail
 refine zJ (fun W'=>GW w W' R I (yB ws tb X h) va vb vc vd ⟨1,0,0,k,h.done+nn,0⟩ (yT x f n)) (yL va vb vc vd ⟨1,0,0,k,h.done+nn,0⟩ HR.out HI.out) ?_
 clear c17 k5 k6
 intro W hG
 have r0:W.cell? ⟨w.heap.size+1,0,none⟩=some (.int .i64 0):=zA hG.r 0
 have z0:=zD hG.r 0
 have r1:W.cell? ⟨w.heap.size+1,1,none⟩=some (.int .i64 0):=zA hG.r 1
 have z1:=zD hG.r 1
 have r2:W.cell? ⟨w.heap.size+1,2,none⟩=some (.int .u32 0):=zA hG.r 2
 have z2:=zD hG.r 2
 have r3:W.cell? ⟨w.heap.size+1,3,none⟩=some (.int .u32 0):=zA hG.r 3
 have z3:=zD hG.r 3
 have r4:W.cell? ⟨w.heap.size+1,4,none⟩=some (.int .i64 0):=zA hG.r 4
 have z4:=zD hG.r 4
 have r5:W.cell? ⟨w.heap.size+1,5,none⟩=some (.int .i64 0):=zA hG.r 5
 have z5:=zD hG.r 5
 have o0:W.cell? ⟨w.heap.size+1+1,0,none⟩=some (.int .i64 (1)):=zA hG.o 0
 have o1:W.cell? ⟨w.heap.size+1+1,1,none⟩=some (.int .i64 (0)):=zA hG.o 1
 have o2:W.cell? ⟨w.heap.size+1+1,2,none⟩=some (.int .u32 (0)):=zA hG.o 2
 have o3:W.cell? ⟨w.heap.size+1+1,3,none⟩=some (.int .u32 (k)):=zA hG.o 3
 have o4:W.cell? ⟨w.heap.size+1+1,4,none⟩=some (.int .i64 (h.done+nn)):=zA hG.o 4
 have o5:W.cell? ⟨w.heap.size+1+1,5,none⟩=some (.int .i64 (0)):=zA hG.o 5
 have t0:W.cell? ⟨w.heap.size,0,none⟩=some (.int .u32 va):=zA hG.t 0
 have i8:W.cell? ⟨I,8,none⟩=some (.int .u8 10):=by rw[zA hG.i 8,← HEF.out];rfl
 have c13:W.cell? ⟨R,13,none⟩=some (.pointer (some ⟨X,0,none⟩)):=hG.b.c 13 aO
 have lt_:=zE hG.t
 have lr:=zE hG.r
 have lo:=zE hG.o
 have li:=zE hG.i
 have lR2:=hG.b.lt
 have nr:¬w.heap.size+1=R:=aO
 have HCT:Hid _:=HT.out W (hG.c.block X HLX.out zq68)
 have HG:Hid _:=hG
 clear hG
 go_wp2_with (go_at_call 9;refine Calls.mono HCT.out ?_;rintro e w9 ⟨rfl,rfl⟩)
 refine bodyPost_ret (v:=.agg (yE ⟨1,0,0,k,h.done+nn,0⟩)) zq48 rfl ⟨rfl,?_,?_⟩
 ·exact zq20
 ·exact zq21
end Go.Proofs.YthcpipfmicbnmaaGreat.Ho
