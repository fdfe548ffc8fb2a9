import Derived.Test.YthcpipfmicbnmaaGreatRO
import Derived.Deep.RegionHeld3
set_option linter.unusedVariables false
set_option linter.unusedSimpArgs false
set_option maxHeartbeats 4000000
namespace Go.Proofs.YthcpipfmicbnmaaGreat.Ho
open Go.RowKit
set_option maxRecDepth 100000
theorem TR.keep{w w':World}{b off n:Nat}{tp:Nat→Nat}{ta:Nat→Int}(h:TR w b off n tp ta)(c:Below w.heap.size w w'):TR w' b off n tp ta:=
 ⟨fun i hi=>(c.cell (p:=⟨b,off+i*2,none⟩) h.lb).trans (h.p i hi),fun i hi=>(c.cell (p:=⟨b,off+i*2+1,none⟩) h.lb).trans (h.a i hi),Nat.lt_of_lt_of_le h.lb c.size⟩
theorem zCx(R X I k va vb vc vd:Nat)(nn:Int)(x:Cd)(f:Fo)(n:Int)(h:HP)(w:World)(a:Option Addr)(len cap:Nat)(ta:Option Addr)(tcap:Nat)(hR:RB w R (yB (.slice a len cap) (.slice ta 0 tcap) X h))(hI:w.heap[I]?=some (.cells (yT x f n) 90))(ek:x.k=k)(en:x.n=nn)(ef:f.first=4)(hIR:I≠R)(hw : -9223372036854775808≤h.done+nn∧h.done+nn≤9223372036854775807)(hP:True) :
  Calls Tryz.prog 52 #[.pointer (some ⟨R,0,none⟩),.pointer (some ⟨I,0,none⟩),.pointer (some ⟨I,8,none⟩),.agg (uW va vb vc vd)] w fun e w'=>e=.returned (.agg (yE ⟨2,0,0,va,h.done+nn,0⟩))∧RB w' R (yB (.slice a len cap) (.slice ta 0 tcap) X h)∧zI [R] w w':=by
 have lR:=hR.lt
 have lI:=zE hI
 have c17:w.cell? ⟨R,17,none⟩=some (.int .i64 h.done):=hR.c 17 aO
 have k5:w.cell? ⟨I,5,none⟩=some (.int .i64 nn):=by rw[zA hI 5,← en];rfl
 have k6:w.cell? ⟨I,6,none⟩=some (.int .u32 k):=by rw[zA hI 6,← ek];rfl
 have hw2:IntKind.i64.wrap (h.done+nn)=h.done+nn:=IntWalk.i64_in _ hw
 have n0:¬R=w.heap.size:=aO
 have n1:¬I=w.heap.size:=aO
 have l1:R < w.heap.size+1:=aO
 have l2:I < w.heap.size+1:=aO
 have l3:R < w.heap.size+1+1:=aO
 have l4:I < w.heap.size+1+1:=aO
 have HR:Hid _:=hR
 have HI:Hid _:=hI
 have HEF:Hid _:=ef
 have HEK:Hid _:=ek
 have HEN:Hid _:=en
 have HIR:Hid _:=hIR
 have HWW:Hid _:=hw
 have HP:Hid _:=hP
 clear hP
 clear hR hI ek en ef hIR hw
 go_enter Tryz.func52,Tryz.ntmps52
 go_upto_region 2 with fail
 go_region
 go_upto_region 3 with fail
 refine zJ (fun W'=>GW w W' R I (yB (.slice a len cap) (.slice ta 0 tcap) X h) va vb vc vd ⟨1,0,0,k,h.done+nn,0⟩ (yT x f n)) (yL va vb vc vd ⟨1,0,0,k,h.done+nn,0⟩ HR.out HI.out) ?_
 clear c17 k5 k6
 intro W hG
 have t0:W.cell? ⟨w.heap.size,0,none⟩=some (.int .u32 va):=zA hG.t 0
 have i8:W.cell? ⟨I,8,none⟩=some (.int .u8 4):=by rw[zA hG.i 8,← HEF.out];rfl
 have i5:W.cell? ⟨I,5,none⟩=some (.int .i64 nn):=by rw[zA hG.i 5,← HEN.out];rfl
 have i6:W.cell? ⟨I,6,none⟩=some (.int .u32 k):=by rw[zA hG.i 6,← HEK.out];rfl
 have lt_:=zE hG.t
 have lr:=zE hG.r
 have li:=zE hG.i
 have lR2:=hG.b.lt
 have nr:¬w.heap.size+1=R:=aO
 have HG:Hid _:=hG
 clear hG
 go_wp2_with (go_at_call 67;refine(zEu R X I va a ta len cap tcap h nn W HG.out.b i5 li HWW.out).mono ?_;rintro e w9 ⟨rfl,hr9,hc9⟩;have hrr:w9.heap[w.heap.size+1]?=some (.cells (yE ⟨0,0,0,0,0,0⟩) 37):=hc9.keep HG.out.r zq69;have r0:w9.cell? ⟨w.heap.size+1,0,none⟩=some (.int .i64 0):=zA hrr 0;have z0:=zD hrr 0;have r1:w9.cell? ⟨w.heap.size+1,1,none⟩=some (.int .i64 0):=zA hrr 1;have z1:=zD hrr 1;have r2:w9.cell? ⟨w.heap.size+1,2,none⟩=some (.int .u32 0):=zA hrr 2;have z2:=zD hrr 2;have r3:w9.cell? ⟨w.heap.size+1,3,none⟩=some (.int .u32 0):=zA hrr 3;have z3:=zD hrr 3;have r4:w9.cell? ⟨w.heap.size+1,4,none⟩=some (.int .i64 0):=zA hrr 4;have z4:=zD hrr 4;have r5:w9.cell? ⟨w.heap.size+1,5,none⟩=some (.int .i64 0):=zA hrr 5;have z5:=zD hrr 5;have lr9:=zE hrr;have HR9:Hid _:=hr9;have HC9:Hid _:=hc9;clear hr9 hc9 hrr)
 refine bodyPost_ret (v:=.agg (yE ⟨2,0,0,va,h.done+nn,0⟩)) zq9 rfl ⟨rfl,?_,?_⟩
 ·exact zq6
 ·exact zq10
theorem zCc(R X I k va vb vc vd:Nat)(nn:Int)(x:Cd)(f:Fo)(n:Int)(h:HP)(w:World)(a:Option Addr)(len cap:Nat)(ix tq toff tl tcap:Nat)(tp:Nat→Nat)(tat:Nat→Int)(ws:Nat→Nat)(hR:RB w R (yB (.slice a len cap) (.slice (some ⟨tq,toff,none⟩) tl tcap) X h))(hI:w.heap[I]?=some (.cells (yT x f n) 90))(ek:x.k=k)(en:x.n=nn)(ef:f.first=4)(hIR:I≠R)(hw : -9223372036854775808≤h.done+nn∧h.done+nn≤9223372036854775807)(hP:TR w tq toff tl tp tat∧0 < tl∧tl≤140737488355328∧va%tl=ix∧va < 4294967296∧Wds w a len cap ws∧¬tp ix=va) :
  Calls Tryz.prog 52 #[.pointer (some ⟨R,0,none⟩),.pointer (some ⟨I,0,none⟩),.pointer (some ⟨I,8,none⟩),.agg (uW va vb vc vd)] w fun e w'=>e=.returned (.agg (yE ⟨2,0,0,va,h.done+nn,0⟩))∧RB w' R (yB (.slice a len cap) (.slice (some ⟨tq,toff,none⟩) tl tcap) X h)∧zI [R] w w':=by
 have lR:=hR.lt
 have lI:=zE hI
 have c17:w.cell? ⟨R,17,none⟩=some (.int .i64 h.done):=hR.c 17 aO
 have k5:w.cell? ⟨I,5,none⟩=some (.int .i64 nn):=by rw[zA hI 5,← en];rfl
 have k6:w.cell? ⟨I,6,none⟩=some (.int .u32 k):=by rw[zA hI 6,← ek];rfl
 have hw2:IntKind.i64.wrap (h.done+nn)=h.done+nn:=IntWalk.i64_in _ hw
 have n0:¬R=w.heap.size:=aO
 have n1:¬I=w.heap.size:=aO
 have l1:R < w.heap.size+1:=aO
 have l2:I < w.heap.size+1:=aO
 have l3:R < w.heap.size+1+1:=aO
 have l4:I < w.heap.size+1+1:=aO
 have HR:Hid _:=hR
 have HI:Hid _:=hI
 have HEF:Hid _:=ef
 have HEK:Hid _:=ek
 have HEN:Hid _:=en
 have HIR:Hid _:=hIR
 have HWW:Hid _:=hw
 have HP:Hid _:=hP
 clear hP
 clear hR hI ek en ef hIR hw
 go_enter Tryz.func52,Tryz.ntmps52
 go_upto_region 2 with fail
 go_region
 go_upto_region 3 with fail
 refine zJ (fun W'=>GW w W' R I (yB (.slice a len cap) (.slice (some ⟨tq,toff,none⟩) tl tcap) X h) va vb vc vd ⟨1,0,0,k,h.done+nn,0⟩ (yT x f n)) (yL va vb vc vd ⟨1,0,0,k,h.done+nn,0⟩ HR.out HI.out) ?_
 clear c17 k5 k6
 intro W hG
 have t0:W.cell? ⟨w.heap.size,0,none⟩=some (.int .u32 va):=zA hG.t 0
 have i8:W.cell? ⟨I,8,none⟩=some (.int .u8 4):=by rw[zA hG.i 8,← HEF.out];rfl
 have i5:W.cell? ⟨I,5,none⟩=some (.int .i64 nn):=by rw[zA hG.i 5,← HEN.out];rfl
 have i6:W.cell? ⟨I,6,none⟩=some (.int .u32 k):=by rw[zA hG.i 6,← HEK.out];rfl
 have lt_:=zE hG.t
 have lr:=zE hG.r
 have li:=zE hG.i
 have lR2:=hG.b.lt
 have nr:¬w.heap.size+1=R:=aO
 have HG:Hid _:=hG
 clear hG
 go_wp2_with (go_at_call 67;refine(zDL R X I va ix tq toff tl tcap a len cap tp tat h nn W HG.out.b (HP.out.1.keep HG.out.bel) HP.out.2.1 HP.out.2.2.1 HP.out.2.2.2.1 HP.out.2.2.2.2.1 i5 li HWW.out ws (yD HP.out.2.2.2.2.2.1 HG.out.bel) HP.out.2.2.2.2.2.2).mono ?_;rintro e w9 ⟨⟨rfl,hr9⟩,hc9⟩;have hrr:w9.heap[w.heap.size+1]?=some (.cells (yE ⟨0,0,0,0,0,0⟩) 37):=hc9.keep HG.out.r zq69;have r0:w9.cell? ⟨w.heap.size+1,0,none⟩=some (.int .i64 0):=zA hrr 0;have z0:=zD hrr 0;have r1:w9.cell? ⟨w.heap.size+1,1,none⟩=some (.int .i64 0):=zA hrr 1;have z1:=zD hrr 1;have r2:w9.cell? ⟨w.heap.size+1,2,none⟩=some (.int .u32 0):=zA hrr 2;have z2:=zD hrr 2;have r3:w9.cell? ⟨w.heap.size+1,3,none⟩=some (.int .u32 0):=zA hrr 3;have z3:=zD hrr 3;have r4:w9.cell? ⟨w.heap.size+1,4,none⟩=some (.int .i64 0):=zA hrr 4;have z4:=zD hrr 4;have r5:w9.cell? ⟨w.heap.size+1,5,none⟩=some (.int .i64 0):=zA hrr 5;have z5:=zD hrr 5;have lr9:=zE hrr;have HR9:Hid _:=hr9;have HC9:Hid _:=hc9;clear hr9 hc9 hrr)
 refine bodyPost_ret (v:=.agg (yE ⟨2,0,0,va,h.done+nn,0⟩)) zq9 rfl ⟨rfl,?_,?_⟩
 ·exact zq6
 ·exact zq10
theorem zCb(R X I k va vb vc vd:Nat)(nn:Int)(x:Cd)(f:Fo)(n:Int)(h:HP)(w:World)(a:Option Addr)(len cap:Nat)(ix tq toff tl tcap:Nat)(tp:Nat→Nat)(tat:Nat→Int)(ws:Nat→Nat)(hR:RB w R (yB (.slice a len cap) (.slice (some ⟨tq,toff,none⟩) tl tcap) X h))(hI:w.heap[I]?=some (.cells (yT x f n) 90))(ek:x.k=k)(en:x.n=nn)(ef:f.first=4)(hIR:I≠R)(hw : -9223372036854775808≤h.done+nn∧h.done+nn≤9223372036854775807)(hP:TR w tq toff tl tp tat∧0 < tl∧tl≤140737488355328∧va%tl=ix∧va < 4294967296∧Wds w a len cap ws∧tp ix=va∧isE ws len (tat ix)=false) :
  Calls Tryz.prog 52 #[.pointer (some ⟨R,0,none⟩),.pointer (some ⟨I,0,none⟩),.pointer (some ⟨I,8,none⟩),.agg (uW va vb vc vd)] w fun e w'=>e=.returned (.agg (yE ⟨2,0,0,va,h.done+nn,0⟩))∧RB w' R (yB (.slice a len cap) (.slice (some ⟨tq,toff,none⟩) tl tcap) X h)∧zI [R] w w':=by
 have lR:=hR.lt
 have lI:=zE hI
 have c17:w.cell? ⟨R,17,none⟩=some (.int .i64 h.done):=hR.c 17 aO
 have k5:w.cell? ⟨I,5,none⟩=some (.int .i64 nn):=by rw[zA hI 5,← en];rfl
 have k6:w.cell? ⟨I,6,none⟩=some (.int .u32 k):=by rw[zA hI 6,← ek];rfl
 have hw2:IntKind.i64.wrap (h.done+nn)=h.done+nn:=IntWalk.i64_in _ hw
 have n0:¬R=w.heap.size:=aO
 have n1:¬I=w.heap.size:=aO
 have l1:R < w.heap.size+1:=aO
 have l2:I < w.heap.size+1:=aO
 have l3:R < w.heap.size+1+1:=aO
 have l4:I < w.heap.size+1+1:=aO
 have HR:Hid _:=hR
 have HI:Hid _:=hI
 have HEF:Hid _:=ef
 have HEK:Hid _:=ek
 have HEN:Hid _:=en
 have HIR:Hid _:=hIR
 have HWW:Hid _:=hw
 have HP:Hid _:=hP
 clear hP
 clear hR hI ek en ef hIR hw
 go_enter Tryz.func52,Tryz.ntmps52
 go_upto_region 2 with fail
 go_region
 go_upto_region 3 with fail
 refine zJ (fun W'=>GW w W' R I (yB (.slice a len cap) (.slice (some ⟨tq,toff,none⟩) tl tcap) X h) va vb vc vd ⟨1,0,0,k,h.done+nn,0⟩ (yT x f n)) (yL va vb vc vd ⟨1,0,0,k,h.done+nn,0⟩ HR.out HI.out) ?_
 clear c17 k5 k6
 intro W hG
 have t0:W.cell? ⟨w.heap.size,0,none⟩=some (.int .u32 va):=zA hG.t 0
 have i8:W.cell? ⟨I,8,none⟩=some (.int .u8 4):=by rw[zA hG.i 8,← HEF.out];rfl
 have i5:W.cell? ⟨I,5,none⟩=some (.int .i64 nn):=by rw[zA hG.i 5,← HEN.out];rfl
 have i6:W.cell? ⟨I,6,none⟩=some (.int .u32 k):=by rw[zA hG.i 6,← HEK.out];rfl
 have lt_:=zE hG.t
 have lr:=zE hG.r
 have li:=zE hG.i
 have lR2:=hG.b.lt
 have nr:¬w.heap.size+1=R:=aO
 have HG:Hid _:=hG
 clear hG
 go_wp2_with (go_at_call 67;refine(zDK R X I va ix tq toff tl tcap a len cap tp tat h nn W HG.out.b (HP.out.1.keep HG.out.bel) HP.out.2.1 HP.out.2.2.1 HP.out.2.2.2.1 HP.out.2.2.2.2.1 i5 li HWW.out ws (yD HP.out.2.2.2.2.2.1 HG.out.bel) HP.out.2.2.2.2.2.2.1 HP.out.2.2.2.2.2.2.2).mono ?_;rintro e w9 ⟨⟨rfl,hr9⟩,hc9⟩;have hrr:w9.heap[w.heap.size+1]?=some (.cells (yE ⟨0,0,0,0,0,0⟩) 37):=hc9.keep HG.out.r zq69;have r0:w9.cell? ⟨w.heap.size+1,0,none⟩=some (.int .i64 0):=zA hrr 0;have z0:=zD hrr 0;have r1:w9.cell? ⟨w.heap.size+1,1,none⟩=some (.int .i64 0):=zA hrr 1;have z1:=zD hrr 1;have r2:w9.cell? ⟨w.heap.size+1,2,none⟩=some (.int .u32 0):=zA hrr 2;have z2:=zD hrr 2;have r3:w9.cell? ⟨w.heap.size+1,3,none⟩=some (.int .u32 0):=zA hrr 3;have z3:=zD hrr 3;have r4:w9.cell? ⟨w.heap.size+1,4,none⟩=some (.int .i64 0):=zA hrr 4;have z4:=zD hrr 4;have r5:w9.cell? ⟨w.heap.size+1,5,none⟩=some (.int .i64 0):=zA hrr 5;have z5:=zD hrr 5;have lr9:=zE hrr;have HR9:Hid _:=hr9;have HC9:Hid _:=hc9;clear hr9 hc9 hrr)
 refine bodyPost_ret (v:=.agg (yE ⟨2,0,0,va,h.done+nn,0⟩)) zq9 rfl ⟨rfl,?_,?_⟩
 ·exact zq6
 ·exact zq10
theorem zCR(R X I k va vb vc vd:Nat)(nn:Int)(x:Cd)(f:Fo)(n:Int)(h:HP)(w:World)(a:Option Addr)(len cap:Nat)(ix tq toff tl tcap:Nat)(tp:Nat→Nat)(tat:Nat→Int)(ws:Nat→Nat)(hR:RB w R (yB (.slice a len cap) (.slice (some ⟨tq,toff,none⟩) tl tcap) X h))(hI:w.heap[I]?=some (.cells (yT x f n) 90))(ek:x.k=k)(en:x.n=nn)(ef:f.first=4)(hIR:I≠R)(hw : -9223372036854775808≤h.done+nn∧h.done+nn≤9223372036854775807)(hP:TR w tq toff tl tp tat∧0 < tl∧tl≤140737488355328∧va%tl=ix∧va < 4294967296∧Wds w a len cap ws∧tp ix=va∧isE ws len (tat ix)=true) :
  Calls Tryz.prog 52 #[.pointer (some ⟨R,0,none⟩),.pointer (some ⟨I,0,none⟩),.pointer (some ⟨I,8,none⟩),.agg (uW va vb vc vd)] w fun e w'=>e=.returned (.agg (yE ⟨0,0,0,0,0,0⟩))∧RB w' R (yB (.slice a len cap) (.slice (some ⟨tq,toff,none⟩) tl tcap) X (h.go (tat ix) nn))∧zI [R] w w':=by
 have lR:=hR.lt
 have lI:=zE hI
 have c17:w.cell? ⟨R,17,none⟩=some (.int .i64 h.done):=hR.c 17 aO
 have k5:w.cell? ⟨I,5,none⟩=some (.int .i64 nn):=by rw[zA hI 5,← en];rfl
 have k6:w.cell? ⟨I,6,none⟩=some (.int .u32 k):=by rw[zA hI 6,← ek];rfl
 have hw2:IntKind.i64.wrap (h.done+nn)=h.done+nn:=IntWalk.i64_in _ hw
 have n0:¬R=w.heap.size:=aO
 have n1:¬I=w.heap.size:=aO
 have l1:R < w.heap.size+1:=aO
 have l2:I < w.heap.size+1:=aO
 have l3:R < w.heap.size+1+1:=aO
 have l4:I < w.heap.size+1+1:=aO
 have HR:Hid _:=hR
 have HI:Hid _:=hI
 have HEF:Hid _:=ef
 have HEK:Hid _:=ek
 have HEN:Hid _:=en
 have HIR:Hid _:=hIR
 have HWW:Hid _:=hw
 have HP:Hid _:=hP
 clear hP
 clear hR hI ek en ef hIR hw
 go_enter Tryz.func52,Tryz.ntmps52
 go_upto_region 2 with fail
 go_region
 go_upto_region 3 with fail
 refine zJ (fun W'=>GW w W' R I (yB (.slice a len cap) (.slice (some ⟨tq,toff,none⟩) tl tcap) X h) va vb vc vd ⟨1,0,0,k,h.done+nn,0⟩ (yT x f n)) (yL va vb vc vd ⟨1,0,0,k,h.done+nn,0⟩ HR.out HI.out) ?_
 clear c17 k5 k6
 intro W hG
 have t0:W.cell? ⟨w.heap.size,0,none⟩=some (.int .u32 va):=zA hG.t 0
 have i8:W.cell? ⟨I,8,none⟩=some (.int .u8 4):=by rw[zA hG.i 8,← HEF.out];rfl
 have i5:W.cell? ⟨I,5,none⟩=some (.int .i64 nn):=by rw[zA hG.i 5,← HEN.out];rfl
 have i6:W.cell? ⟨I,6,none⟩=some (.int .u32 k):=by rw[zA hG.i 6,← HEK.out];rfl
 have lt_:=zE hG.t
 have lr:=zE hG.r
 have li:=zE hG.i
 have lR2:=hG.b.lt
 have nr:¬w.heap.size+1=R:=aO
 have HG:Hid _:=hG
 clear hG
 go_wp2_with (go_at_call 67;refine(zFA R X I va ix tq toff tl tcap a len cap tp tat h nn W HG.out.b (HP.out.1.keep HG.out.bel) HP.out.2.1 HP.out.2.2.1 HP.out.2.2.2.1 HP.out.2.2.2.2.1 i5 li HWW.out ws (yD HP.out.2.2.2.2.2.1 HG.out.bel) HP.out.2.2.2.2.2.2.1 HIR.out HP.out.2.2.2.2.2.2.2).mono ?_;rintro e w9 ⟨⟨rfl,hr9⟩,hc9⟩;have hrr:w9.heap[w.heap.size+1]?=some (.cells (yE ⟨0,0,0,0,0,0⟩) 37):=hc9.keep HG.out.r zq69;have r0:w9.cell? ⟨w.heap.size+1,0,none⟩=some (.int .i64 0):=zA hrr 0;have z0:=zD hrr 0;have r1:w9.cell? ⟨w.heap.size+1,1,none⟩=some (.int .i64 0):=zA hrr 1;have z1:=zD hrr 1;have r2:w9.cell? ⟨w.heap.size+1,2,none⟩=some (.int .u32 0):=zA hrr 2;have z2:=zD hrr 2;have r3:w9.cell? ⟨w.heap.size+1,3,none⟩=some (.int .u32 0):=zA hrr 3;have z3:=zD hrr 3;have r4:w9.cell? ⟨w.heap.size+1,4,none⟩=some (.int .i64 0):=zA hrr 4;have z4:=zD hrr 4;have r5:w9.cell? ⟨w.heap.size+1,5,none⟩=some (.int .i64 0):=zA hrr 5;have z5:=zD hrr 5;have lr9:=zE hrr;have HR9:Hid _:=hr9;have HC9:Hid _:=hc9;clear hr9 hc9 hrr)
 refine bodyPost_ret (v:=.agg (yE ⟨0,0,0,0,0,0⟩)) zq9 rfl ⟨rfl,?_,?_⟩
 ·exact zq6
 ·exact zq10
theorem zH8(R X I d y va vb vc vd:Nat)(ws tb:Value)(x:Cd)(f:Fo)(n:Int)(h:HP)(w:World)(hR:RB w R (yB ws tb X h))(hI:w.heap[I]?=some (.cells (yT x f n) 90))(eo:x.op=12)(ed:x.d=d)(ey:x.x=y)(ef:f.first=12)  :
  Calls Tryz.prog 69 #[.pointer (some ⟨R,0,none⟩),.pointer (some ⟨I,0,none⟩),.pointer (some ⟨I,8,none⟩),.agg (uW va vb vc vd)] w fun e w'=>e=.returned (.agg #[.int .i64 (d),.int .u32 (y)])∧RB w' R (yB ws tb X h)∧zI [R] w w':=by
 have lR:=hR.lt
 have lI:=zE hI
 have i0:w.cell? ⟨I,0,none⟩=some (.int .i64 12):=by rw[zA hI 0,← eo];rfl
 have i1:w.cell? ⟨I,1,none⟩=some (.int .i64 d):=by rw[zA hI 1,← ed];rfl
 have i7:w.cell? ⟨I,7,none⟩=some (.int .u32 y):=by rw[zA hI 7,← ey];rfl
 have i8:w.cell? ⟨I,8,none⟩=some (.int .u8 12):=by rw[zA hI 8,← ef];rfl
 have n0:¬R=w.heap.size:=aO
 have n1:¬I=w.heap.size:=aO
 have l1:R < w.heap.size+1:=aO
 have l2:I < w.heap.size+1:=aO
 have l3:R < w.heap.size+1+1:=aO
 have l4:I < w.heap.size+1+1:=aO
 have nr:¬w.heap.size+1=R:=aO
 have HR:Hid _:=hR
 clear hR hI eo ed ey ef
 go_enter Tryz.func69,Tryz.ntmps69
 go_upto_region 1 with fail
 go_quiet (fail)
 go_upto_region 4 with fail
 go_region
 go_wp2
 refine bodyPost_ret (v:=.agg #[.int .i64 (d),.int .u32 (y)]) (by simp[results,Tryz.results69,go_sem]) rfl ⟨rfl,?_,?_⟩
 ·exact zq38
 ·exact zq36
theorem zJ6(R X I d y va vb vc vd:Nat)(ws tb:Value)(x:Cd)(f:Fo)(n:Int)(h:HP)(w:World)(hR:RB w R (yB ws tb X h))(hI:w.heap[I]?=some (.cells (yT x f n) 90))(eo:x.op=13)(ed:x.d=d)(ey:x.x=y)(ef:f.first=13)(hv:¬va=0) :
  Calls Tryz.prog 69 #[.pointer (some ⟨R,0,none⟩),.pointer (some ⟨I,0,none⟩),.pointer (some ⟨I,8,none⟩),.agg (uW va vb vc vd)] w fun e w'=>e=.returned (.agg #[.int .i64 (d),.int .u32 (0)])∧RB w' R (yB ws tb X h)∧zI [R] w w':=by
 have lR:=hR.lt
 have lI:=zE hI
 have i0:w.cell? ⟨I,0,none⟩=some (.int .i64 13):=by rw[zA hI 0,← eo];rfl
 have i1:w.cell? ⟨I,1,none⟩=some (.int .i64 d):=by rw[zA hI 1,← ed];rfl
 have i7:w.cell? ⟨I,7,none⟩=some (.int .u32 y):=by rw[zA hI 7,← ey];rfl
 have i8:w.cell? ⟨I,8,none⟩=some (.int .u8 13):=by rw[zA hI 8,← ef];rfl
 have n0:¬R=w.heap.size:=aO
 have n1:¬I=w.heap.size:=aO
 have l1:R < w.heap.size+1:=aO
 have l2:I < w.heap.size+1:=aO
 have l3:R < w.heap.size+1+1:=aO
 have l4:I < w.heap.size+1+1:=aO
 have nr:¬w.heap.size+1=R:=aO
 have HR:Hid _:=hR
 have g1:((va:Int) !=0)=true:=by simp;omega
 clear hv
 clear hR hI eo ed ey ef
 go_enter Tryz.func69,Tryz.ntmps69
 go_upto_region 1 with fail
 go_quiet (fail)
 go_wp2
 refine bodyPost_ret (v:=.agg #[.int .i64 (d),.int .u32 (0)]) (by simp[results,Tryz.results69,go_sem]) rfl ⟨rfl,?_,?_⟩
 ·exact zq38
 ·exact zq36
theorem zJ5(R X I d y va vb vc vd:Nat)(ws tb:Value)(x:Cd)(f:Fo)(n:Int)(h:HP)(w:World)(hR:RB w R (yB ws tb X h))(hI:w.heap[I]?=some (.cells (yT x f n) 90))(eo:x.op=13)(ed:x.d=d)(ey:x.x=y)(ef:f.first=13)(hv:va=0) :
  Calls Tryz.prog 69 #[.pointer (some ⟨R,0,none⟩),.pointer (some ⟨I,0,none⟩),.pointer (some ⟨I,8,none⟩),.agg (uW va vb vc vd)] w fun e w'=>e=.returned (.agg #[.int .i64 (0),.int .u32 (0)])∧RB w' R (yB ws tb X h)∧zI [R] w w':=by
 have lR:=hR.lt
 have lI:=zE hI
 have i0:w.cell? ⟨I,0,none⟩=some (.int .i64 13):=by rw[zA hI 0,← eo];rfl
 have i1:w.cell? ⟨I,1,none⟩=some (.int .i64 d):=by rw[zA hI 1,← ed];rfl
 have i7:w.cell? ⟨I,7,none⟩=some (.int .u32 y):=by rw[zA hI 7,← ey];rfl
 have i8:w.cell? ⟨I,8,none⟩=some (.int .u8 13):=by rw[zA hI 8,← ef];rfl
 have n0:¬R=w.heap.size:=aO
 have n1:¬I=w.heap.size:=aO
 have l1:R < w.heap.size+1:=aO
 have l2:I < w.heap.size+1:=aO
 have l3:R < w.heap.size+1+1:=aO
 have l4:I < w.heap.size+1+1:=aO
 have nr:¬w.heap.size+1=R:=aO
 have HR:Hid _:=hR
 have g1:((va:Int) !=0)=false:=by subst hv;rfl
 clear hv
 clear hR hI eo ed ey ef
 go_enter Tryz.func69,Tryz.ntmps69
 go_upto_region 1 with fail
 go_quiet (fail)
 go_wp2
 refine bodyPost_ret (v:=.agg #[.int .i64 (0),.int .u32 (0)]) (by simp[results,Tryz.results69,go_sem]) rfl ⟨rfl,?_,?_⟩
 ·exact zq38
 ·exact zq36
theorem zDz(R X I k va vb vc vd:Nat)(nn:Int)(ws tb:Value)(x:Cd)(f:Fo)(n:Int)(h:HP)(w:World)(hR:RB w R (yB ws tb X h))(hI:w.heap[I]?=some (.cells (yT x f n) 90))(ek:x.k=k)(en:x.n=nn)(ef:f.first=12)(hIR:I≠R)(hw : -9223372036854775808≤h.done+nn∧h.done+nn≤9223372036854775807)(d y:Nat)(hP:x.op=12∧x.d=d∧x.x=y∧0 < d) :
  Calls Tryz.prog 52 #[.pointer (some ⟨R,0,none⟩),.pointer (some ⟨I,0,none⟩),.pointer (some ⟨I,8,none⟩),.agg (uW va vb vc vd)] w fun e w'=>e=.returned (.agg (yE ⟨3,d,y,k,h.done+nn,0⟩))∧RB w' R (yB ws tb X h)∧zI [R] w w':=by
 have lR:=hR.lt
 have lI:=zE hI
 have c17:w.cell? ⟨R,17,none⟩=some (.int .i64 h.done):=hR.c 17 aO
 have k5:w.cell? ⟨I,5,none⟩=some (.int .i64 nn):=by rw[zA hI 5,← en];rfl
 have k6:w.cell? ⟨I,6,none⟩=some (.int .u32 k):=by rw[zA hI 6,← ek];rfl
 have hw2:IntKind.i64.wrap (h.done+nn)=h.done+nn:=IntWalk.i64_in _ hw
 have n0:¬R=w.heap.size:=aO
 have n1:¬I=w.heap.size:=aO
 have l1:R < w.heap.size+1:=aO
 have l2:I < w.heap.size+1:=aO
 have l3:R < w.heap.size+1+1:=aO
 have l4:I < w.heap.size+1+1:=aO
 have HR:Hid _:=hR
 have HI:Hid _:=hI
 have HEF:Hid _:=ef
 have HEK:Hid _:=ek
 have HEN:Hid _:=en
 have HIR:Hid _:=hIR
 have HWW:Hid _:=hw
 have HP:Hid _:=hP
 have hdz:((d:Int) !=0)=true:=by have:=hP.2.2.2;simp;omega
 clear hP
 clear hR hI ek en ef hIR hw
 go_enter Tryz.func52,Tryz.ntmps52
 go_upto_region 2 with fail
 go_region
 go_upto_region 3 with fail
 refine zJ (fun W'=>GW w W' R I (yB ws tb X h) va vb vc vd ⟨1,0,0,k,h.done+nn,0⟩ (yT x f n)) (yL va vb vc vd ⟨1,0,0,k,h.done+nn,0⟩ HR.out HI.out) ?_
 clear c17 k5 k6
 intro W hG
 have t0:W.cell? ⟨w.heap.size,0,none⟩=some (.int .u32 va):=zA hG.t 0
 have i8:W.cell? ⟨I,8,none⟩=some (.int .u8 12):=by rw[zA hG.i 8,← HEF.out];rfl
 have i5:W.cell? ⟨I,5,none⟩=some (.int .i64 nn):=by rw[zA hG.i 5,← HEN.out];rfl
 have i6:W.cell? ⟨I,6,none⟩=some (.int .u32 k):=by rw[zA hG.i 6,← HEK.out];rfl
 have lt_:=zE hG.t
 have lr:=zE hG.r
 have li:=zE hG.i
 have lR2:=hG.b.lt
 have nr:¬w.heap.size+1=R:=aO
 have HG:Hid _:=hG
 clear hG
 have p0:W.cell? ⟨w.heap.size+1+1,0,none⟩=some (.int .i64 1):=zA HG.out.o 0
 have pz:=zD HG.out.o 0
 have lo:=zE HG.out.o
 have no:¬w.heap.size+1+1=R:=aO
 have noI:¬w.heap.size+1+1=I:=aO
 have noT:¬w.heap.size+1+1=w.heap.size:=aO
 have t1:W.cell? ⟨w.heap.size,1,none⟩=some (.int .u32 vb):=zA HG.out.t 1
 have t2:W.cell? ⟨w.heap.size,2,none⟩=some (.int .u32 vc):=zA HG.out.t 2
 have t3:W.cell? ⟨w.heap.size,3,none⟩=some (.int .u32 vd):=zA HG.out.t 3
 go_wp2_with (go_at_call 69;refine(zH8 R X I d y va vb vc vd ws tb x f n h _ (HG.out.b.other no _ _) ((yP (fun e=>noI e.symm) _).trans HG.out.i) HP.out.1 HP.out.2.1 HP.out.2.2.1 HEF.out).mono ?_;rintro e w9 ⟨rfl,hr9,hc9⟩;have hrr:w9.heap[w.heap.size+1]?=some (.cells (yE ⟨0,0,0,0,0,0⟩) 37):=hc9.keep ((yP aO _).trans HG.out.r) zq69;have hoo:w9.heap[w.heap.size+1+1]?=some (.cells (yE ⟨3,0,0,k,h.done+nn,0⟩) 37):=hc9.keep (zZ (o:=0) HG.out.o _) (by simpa using no);have r0:w9.cell? ⟨w.heap.size+1,0,none⟩=some (.int .i64 0):=zA hrr 0;have z0:=zD hrr 0;have r1:w9.cell? ⟨w.heap.size+1,1,none⟩=some (.int .i64 0):=zA hrr 1;have z1:=zD hrr 1;have r2:w9.cell? ⟨w.heap.size+1,2,none⟩=some (.int .u32 0):=zA hrr 2;have z2:=zD hrr 2;have r3:w9.cell? ⟨w.heap.size+1,3,none⟩=some (.int .u32 0):=zA hrr 3;have z3:=zD hrr 3;have r4:w9.cell? ⟨w.heap.size+1,4,none⟩=some (.int .i64 0):=zA hrr 4;have z4:=zD hrr 4;have r5:w9.cell? ⟨w.heap.size+1,5,none⟩=some (.int .i64 0):=zA hrr 5;have z5:=zD hrr 5;have o0:w9.cell? ⟨w.heap.size+1+1,0,none⟩=some (.int .i64 (3)):=zA hoo 0;have oz0:=zD hoo 0;have o1:w9.cell? ⟨w.heap.size+1+1,1,none⟩=some (.int .i64 (0)):=zA hoo 1;have oz1:=zD hoo 1;have o2:w9.cell? ⟨w.heap.size+1+1,2,none⟩=some (.int .u32 (0)):=zA hoo 2;have oz2:=zD hoo 2;have o3:w9.cell? ⟨w.heap.size+1+1,3,none⟩=some (.int .u32 (k)):=zA hoo 3;have oz3:=zD hoo 3;have o4:w9.cell? ⟨w.heap.size+1+1,4,none⟩=some (.int .i64 (h.done+nn)):=zA hoo 4;have oz4:=zD hoo 4;have o5:w9.cell? ⟨w.heap.size+1+1,5,none⟩=some (.int .i64 (0)):=zA hoo 5;have oz5:=zD hoo 5;have lr9:=zE hrr;have lo9:=zE hoo;have HR9:Hid _:=hr9;have HC9:Hid _:=hc9;clear hr9 hc9 hrr hoo)
 refine bodyPost_ret (v:=.agg (yE ⟨3,d,y,k,h.done+nn,0⟩)) zq9 rfl ⟨rfl,?_,?_⟩
 ·exact zq45
 ·exact zq46
theorem zDJ(R X I k va vb vc vd:Nat)(nn:Int)(ws tb:Value)(x:Cd)(f:Fo)(n:Int)(h:HP)(w:World)(hR:RB w R (yB ws tb X h))(hI:w.heap[I]?=some (.cells (yT x f n) 90))(ek:x.k=k)(en:x.n=nn)(ef:f.first=13)(hIR:I≠R)(hw : -9223372036854775808≤h.done+nn∧h.done+nn≤9223372036854775807)(d y:Nat)(hP:x.op=13∧x.d=d∧x.x=y∧0 < d∧¬va=0) :
  Calls Tryz.prog 52 #[.pointer (some ⟨R,0,none⟩),.pointer (some ⟨I,0,none⟩),.pointer (some ⟨I,8,none⟩),.agg (uW va vb vc vd)] w fun e w'=>e=.returned (.agg (yE ⟨3,d,0,k,h.done+nn,0⟩))∧RB w' R (yB ws tb X h)∧zI [R] w w':=by
 have lR:=hR.lt
 have lI:=zE hI
 have c17:w.cell? ⟨R,17,none⟩=some (.int .i64 h.done):=hR.c 17 aO
 have k5:w.cell? ⟨I,5,none⟩=some (.int .i64 nn):=by rw[zA hI 5,← en];rfl
 have k6:w.cell? ⟨I,6,none⟩=some (.int .u32 k):=by rw[zA hI 6,← ek];rfl
 have hw2:IntKind.i64.wrap (h.done+nn)=h.done+nn:=IntWalk.i64_in _ hw
 have n0:¬R=w.heap.size:=aO
 have n1:¬I=w.heap.size:=aO
 have l1:R < w.heap.size+1:=aO
 have l2:I < w.heap.size+1:=aO
 have l3:R < w.heap.size+1+1:=aO
 have l4:I < w.heap.size+1+1:=aO
 have HR:Hid _:=hR
 have HI:Hid _:=hI
 have HEF:Hid _:=ef
 have HEK:Hid _:=ek
 have HEN:Hid _:=en
 have HIR:Hid _:=hIR
 have HWW:Hid _:=hw
 have HP:Hid _:=hP
 have hdz:((d:Int) !=0)=true:=by have:=hP.2.2.2;simp;omega
 clear hP
 clear hR hI ek en ef hIR hw
 go_enter Tryz.func52,Tryz.ntmps52
 go_upto_region 2 with fail
 go_region
 go_upto_region 3 with fail
 refine zJ (fun W'=>GW w W' R I (yB ws tb X h) va vb vc vd ⟨1,0,0,k,h.done+nn,0⟩ (yT x f n)) (yL va vb vc vd ⟨1,0,0,k,h.done+nn,0⟩ HR.out HI.out) ?_
 clear c17 k5 k6
 intro W hG
 have t0:W.cell? ⟨w.heap.size,0,none⟩=some (.int .u32 va):=zA hG.t 0
 have i8:W.cell? ⟨I,8,none⟩=some (.int .u8 13):=by rw[zA hG.i 8,← HEF.out];rfl
 have i5:W.cell? ⟨I,5,none⟩=some (.int .i64 nn):=by rw[zA hG.i 5,← HEN.out];rfl
 have i6:W.cell? ⟨I,6,none⟩=some (.int .u32 k):=by rw[zA hG.i 6,← HEK.out];rfl
 have lt_:=zE hG.t
 have lr:=zE hG.r
 have li:=zE hG.i
 have lR2:=hG.b.lt
 have nr:¬w.heap.size+1=R:=aO
 have HG:Hid _:=hG
 clear hG
 have p0:W.cell? ⟨w.heap.size+1+1,0,none⟩=some (.int .i64 1):=zA HG.out.o 0
 have pz:=zD HG.out.o 0
 have lo:=zE HG.out.o
 have no:¬w.heap.size+1+1=R:=aO
 have noI:¬w.heap.size+1+1=I:=aO
 have noT:¬w.heap.size+1+1=w.heap.size:=aO
 have t1:W.cell? ⟨w.heap.size,1,none⟩=some (.int .u32 vb):=zA HG.out.t 1
 have t2:W.cell? ⟨w.heap.size,2,none⟩=some (.int .u32 vc):=zA HG.out.t 2
 have t3:W.cell? ⟨w.heap.size,3,none⟩=some (.int .u32 vd):=zA HG.out.t 3
 go_wp2_with (go_at_call 69;refine(zJ6 R X I d y va vb vc vd ws tb x f n h _ (HG.out.b.other no _ _) ((yP (fun e=>noI e.symm) _).trans HG.out.i) HP.out.1 HP.out.2.1 HP.out.2.2.1 HEF.out HP.out.2.2.2.2).mono ?_;rintro e w9 ⟨rfl,hr9,hc9⟩;have hrr:w9.heap[w.heap.size+1]?=some (.cells (yE ⟨0,0,0,0,0,0⟩) 37):=hc9.keep ((yP aO _).trans HG.out.r) zq69;have hoo:w9.heap[w.heap.size+1+1]?=some (.cells (yE ⟨3,0,0,k,h.done+nn,0⟩) 37):=hc9.keep (zZ (o:=0) HG.out.o _) (by simpa using no);have r0:w9.cell? ⟨w.heap.size+1,0,none⟩=some (.int .i64 0):=zA hrr 0;have z0:=zD hrr 0;have r1:w9.cell? ⟨w.heap.size+1,1,none⟩=some (.int .i64 0):=zA hrr 1;have z1:=zD hrr 1;have r2:w9.cell? ⟨w.heap.size+1,2,none⟩=some (.int .u32 0):=zA hrr 2;have z2:=zD hrr 2;have r3:w9.cell? ⟨w.heap.size+1,3,none⟩=some (.int .u32 0):=zA hrr 3;have z3:=zD hrr 3;have r4:w9.cell? ⟨w.heap.size+1,4,none⟩=some (.int .i64 0):=zA hrr 4;have z4:=zD hrr 4;have r5:w9.cell? ⟨w.heap.size+1,5,none⟩=some (.int .i64 0):=zA hrr 5;have z5:=zD hrr 5;have o0:w9.cell? ⟨w.heap.size+1+1,0,none⟩=some (.int .i64 (3)):=zA hoo 0;have oz0:=zD hoo 0;have o1:w9.cell? ⟨w.heap.size+1+1,1,none⟩=some (.int .i64 (0)):=zA hoo 1;have oz1:=zD hoo 1;have o2:w9.cell? ⟨w.heap.size+1+1,2,none⟩=some (.int .u32 (0)):=zA hoo 2;have oz2:=zD hoo 2;have o3:w9.cell? ⟨w.heap.size+1+1,3,none⟩=some (.int .u32 (k)):=zA hoo 3;have oz3:=zD hoo 3;have o4:w9.cell? ⟨w.heap.size+1+1,4,none⟩=some (.int .i64 (h.done+nn)):=zA hoo 4;have oz4:=zD hoo 4;have o5:w9.cell? ⟨w.heap.size+1+1,5,none⟩=some (.int .i64 (0)):=zA hoo 5;have oz5:=zD hoo 5;have lr9:=zE hrr;have lo9:=zE hoo;have HR9:Hid _:=hr9;have HC9:Hid _:=hc9;clear hr9 hc9 hrr hoo)
 refine bodyPost_ret (v:=.agg (yE ⟨3,d,0,k,h.done+nn,0⟩)) zq9 rfl ⟨rfl,?_,?_⟩
 ·exact zq45
 ·exact zq46
theorem zDI(R X I k va vb vc vd:Nat)(nn:Int)(ws tb:Value)(x:Cd)(f:Fo)(n:Int)(h:HP)(w:World)(hR:RB w R (yB ws tb X h))(hI:w.heap[I]?=some (.cells (yT x f n) 90))(ek:x.k=k)(en:x.n=nn)(ef:f.first=13)(hIR:I≠R)(hw : -9223372036854775808≤h.done+nn∧h.done+nn≤9223372036854775807)(d y:Nat)(hP:x.op=13∧x.d=d∧x.x=y∧0 < d∧va=0) :
  Calls Tryz.prog 52 #[.pointer (some ⟨R,0,none⟩),.pointer (some ⟨I,0,none⟩),.pointer (some ⟨I,8,none⟩),.agg (uW va vb vc vd)] w fun e w'=>e=.returned (.agg (yE ⟨0,0,0,0,0,0⟩))∧RB w' R (yB ws tb X h)∧zI [R] w w':=by
 have lR:=hR.lt
 have lI:=zE hI
 have c17:w.cell? ⟨R,17,none⟩=some (.int .i64 h.done):=hR.c 17 aO
 have k5:w.cell? ⟨I,5,none⟩=some (.int .i64 nn):=by rw[zA hI 5,← en];rfl
 have k6:w.cell? ⟨I,6,none⟩=some (.int .u32 k):=by rw[zA hI 6,← ek];rfl
 have hw2:IntKind.i64.wrap (h.done+nn)=h.done+nn:=IntWalk.i64_in _ hw
 have n0:¬R=w.heap.size:=aO
 have n1:¬I=w.heap.size:=aO
 have l1:R < w.heap.size+1:=aO
 have l2:I < w.heap.size+1:=aO
 have l3:R < w.heap.size+1+1:=aO
 have l4:I < w.heap.size+1+1:=aO
 have HR:Hid _:=hR
 have HI:Hid _:=hI
 have HEF:Hid _:=ef
 have HEK:Hid _:=ek
 have HEN:Hid _:=en
 have HIR:Hid _:=hIR
 have HWW:Hid _:=hw
 have HP:Hid _:=hP
 have hdz:((d:Int) !=0)=true:=by have:=hP.2.2.2;simp;omega
 clear hP
 clear hR hI ek en ef hIR hw
 go_enter Tryz.func52,Tryz.ntmps52
 go_upto_region 2 with fail
 go_region
 go_upto_region 3 with fail
 refine zJ (fun W'=>GW w W' R I (yB ws tb X h) va vb vc vd ⟨1,0,0,k,h.done+nn,0⟩ (yT x f n)) (yL va vb vc vd ⟨1,0,0,k,h.done+nn,0⟩ HR.out HI.out) ?_
 clear c17 k5 k6
 intro W hG
 have t0:W.cell? ⟨w.heap.size,0,none⟩=some (.int .u32 va):=zA hG.t 0
 have i8:W.cell? ⟨I,8,none⟩=some (.int .u8 13):=by rw[zA hG.i 8,← HEF.out];rfl
 have i5:W.cell? ⟨I,5,none⟩=some (.int .i64 nn):=by rw[zA hG.i 5,← HEN.out];rfl
 have i6:W.cell? ⟨I,6,none⟩=some (.int .u32 k):=by rw[zA hG.i 6,← HEK.out];rfl
 have lt_:=zE hG.t
 have lr:=zE hG.r
 have li:=zE hG.i
 have lR2:=hG.b.lt
 have nr:¬w.heap.size+1=R:=aO
 have HG:Hid _:=hG
 clear hG
 have p0:W.cell? ⟨w.heap.size+1+1,0,none⟩=some (.int .i64 1):=zA HG.out.o 0
 have pz:=zD HG.out.o 0
 have lo:=zE HG.out.o
 have no:¬w.heap.size+1+1=R:=aO
 have noI:¬w.heap.size+1+1=I:=aO
 have noT:¬w.heap.size+1+1=w.heap.size:=aO
 have t1:W.cell? ⟨w.heap.size,1,none⟩=some (.int .u32 vb):=zA HG.out.t 1
 have t2:W.cell? ⟨w.heap.size,2,none⟩=some (.int .u32 vc):=zA HG.out.t 2
 have t3:W.cell? ⟨w.heap.size,3,none⟩=some (.int .u32 vd):=zA HG.out.t 3
 go_wp2_with (go_at_call 69;refine(zJ5 R X I d y va vb vc vd ws tb x f n h _ (HG.out.b.other no _ _) ((yP (fun e=>noI e.symm) _).trans HG.out.i) HP.out.1 HP.out.2.1 HP.out.2.2.1 HEF.out HP.out.2.2.2.2).mono ?_;rintro e w9 ⟨rfl,hr9,hc9⟩;have hrr:w9.heap[w.heap.size+1]?=some (.cells (yE ⟨0,0,0,0,0,0⟩) 37):=hc9.keep ((yP aO _).trans HG.out.r) zq69;have hoo:w9.heap[w.heap.size+1+1]?=some (.cells (yE ⟨3,0,0,k,h.done+nn,0⟩) 37):=hc9.keep (zZ (o:=0) HG.out.o _) (by simpa using no);have r0:w9.cell? ⟨w.heap.size+1,0,none⟩=some (.int .i64 0):=zA hrr 0;have z0:=zD hrr 0;have r1:w9.cell? ⟨w.heap.size+1,1,none⟩=some (.int .i64 0):=zA hrr 1;have z1:=zD hrr 1;have r2:w9.cell? ⟨w.heap.size+1,2,none⟩=some (.int .u32 0):=zA hrr 2;have z2:=zD hrr 2;have r3:w9.cell? ⟨w.heap.size+1,3,none⟩=some (.int .u32 0):=zA hrr 3;have z3:=zD hrr 3;have r4:w9.cell? ⟨w.heap.size+1,4,none⟩=some (.int .i64 0):=zA hrr 4;have z4:=zD hrr 4;have r5:w9.cell? ⟨w.heap.size+1,5,none⟩=some (.int .i64 0):=zA hrr 5;have z5:=zD hrr 5;have o0:w9.cell? ⟨w.heap.size+1+1,0,none⟩=some (.int .i64 (3)):=zA hoo 0;have oz0:=zD hoo 0;have o1:w9.cell? ⟨w.heap.size+1+1,1,none⟩=some (.int .i64 (0)):=zA hoo 1;have oz1:=zD hoo 1;have o2:w9.cell? ⟨w.heap.size+1+1,2,none⟩=some (.int .u32 (0)):=zA hoo 2;have oz2:=zD hoo 2;have o3:w9.cell? ⟨w.heap.size+1+1,3,none⟩=some (.int .u32 (k)):=zA hoo 3;have oz3:=zD hoo 3;have o4:w9.cell? ⟨w.heap.size+1+1,4,none⟩=some (.int .i64 (h.done+nn)):=zA hoo 4;have oz4:=zD hoo 4;have o5:w9.cell? ⟨w.heap.size+1+1,5,none⟩=some (.int .i64 (0)):=zA hoo 5;have oz5:=zD hoo 5;have lr9:=zE hrr;have lo9:=zE hoo;have HR9:Hid _:=hr9;have HC9:Hid _:=hc9;clear hr9 hc9 hrr hoo)
 refine bodyPost_ret (v:=.agg (yE ⟨0,0,0,0,0,0⟩)) zq9 rfl ⟨rfl,?_,?_⟩
 ·exact zq45
 ·exact zq46
structure SW(w W:World)(R I:Nat)(f:Nat→Value)(A:Array Value)(va vb vc vd:Nat):Prop where
 r:RB W R f
 i:W.heap[I]?=some (.cells A 90)
 t:W.heap[w.heap.size]?=some (.cells (uW va vb vc vd) 113)
 o:W.heap[w.heap.size+1]?=some (.cells #[.int .i64 0,.int .u32 0] 35)
 b:Below w.heap.size w W
theorem zB7{w:World}{R I:Nat}{f:Nat→Value}{A:Array Value}(va vb vc vd:Nat)(hR:RB w R f)(hI:w.heap[I]?=some (.cells A 90)):SW w ((w.alloc (.cells (uW va vb vc vd) 113)).alloc (.cells #[.int .i64 0,.int .u32 0] 35)) R I f A va vb vc vd:=by
 have lI:=zE hI
 have a2:=heap_alloc_last (w.alloc (.cells (uW va vb vc vd) 113)) (.cells #[.int .i64 0,.int .u32 0] 35)
 simp only[World.size_alloc] at a2
 refine⟨(hR.al _).al _,?_,?_,a2,(((zI.refl ([]:List Nat) w).alloc _).alloc _).below aL aS⟩
 ·rw[Below.heap_alloc _ _ _ zq30,Below.heap_alloc _ _ _ lI];exact hI
 ·rw[Below.heap_alloc _ _ _ aS];exact heap_alloc_last w _
theorem SW.dN{w W:World}{R I:Nat}{f:Nat→Value}{A:Array Value}{va vb vc vd:Nat}(h:SW w W R I f A va vb vc vd)(n:Nat):SW w (W.drewN n) R I f A va vb vc vd:=⟨h.r.drwN n,h.i,h.t,h.o,⟨h.b.os,h.b.tape,h.b.output,h.b.size,h.b.block⟩⟩
theorem SW.low{w W W1:World}{R I:Nat}{f:Nat→Value}{A:Array Value}{va vb vc vd:Nat}(h:SW w W R I f A va vb vc vd)(b:Below W.heap.size W W1):SW w W1 R I f A va vb vc vd:=
 have c:zI [] W W1:=zI.of_below _ b
 ⟨h.r.chg c aS,c.keep h.i aS,c.keep h.t aS,c.keep h.o aS,h.b.trans (b.mono h.b.size)⟩
structure SW2(w W:World)(R I:Nat)(f:Nat→Value)(A:Array Value)(va vb vc vd B:Nat)(sk sa:Int):Prop where
 s:SW w W R I f A va vb vc vd
 b:W.heap[B]?=some (.cells #[.int .i64 sk,.int .u32 sa] 35)
 n:w.heap.size+1 < B
theorem zQx{w W:World}{R I:Nat}{f:Nat→Value}{A:Array Value}{va vb vc vd:Nat}(sk sa:Int)(h:SW w W R I f A va vb vc vd):SW2 w (W.alloc (.cells #[.int .i64 sk,.int .u32 sa] 35)) R I f A va vb vc vd W.heap.size sk sa:=
 ⟨h.low (aB.alloc aL _),heap_alloc_last _ _,zE h.o⟩
theorem zQy{w W:World}{R I B:Nat}{f:Nat→Value}{A:Array Value}{va vb vc vd:Nat}(sk sa:Int)(h:SW w W R I f A va vb vc vd)(lR:R < w.heap.size)(lI:I < w.heap.size)(hb:W.heap[B]?=some (.cells #[.int .i64 0,.int .u32 0] 35))(hB:w.heap.size+1 < B):SW2 w ((W.setCell ⟨B,0,none⟩ (.int .i64 sk)).setCell ⟨B,1,none⟩ (.int .u32 sa)) R I f A va vb vc vd B sk sa:=
 have a:zI [B] W ((W.setCell ⟨B,0,none⟩ (.int .i64 sk)).setCell ⟨B,1,none⟩ (.int .u32 sa)):=((zI.refl _ _).set aC _ _).set aC _ _
 ⟨⟨h.r.chg a zq7,a.keep h.i zq7,a.keep h.t zq7,a.keep h.o zq7,h.b.trans (a.below (n:=w.heap.size) h.b.size zq7)⟩,by rw[zZ (zZ hb _) _];rfl,hB⟩
theorem zD8(R X I d va vb vc vd:Nat)(op g sk sa:Int)(ws tb:Value)(x:Cd)(f:Fo)(n:Int)(h:HP)(w:World)(hR:RB w R (yB ws tb X h))(hI:w.heap[I]?=some (.cells (yT x f n) 90))(eo:x.op=op)(ed:x.d=d)(hd:d < 16)(hIR:I≠R)(hXR:R≠X)(ef:f.first=80)(hg:IntKind.i64.wrap (op - 80)=g)(v:Nat)(lX:X < w.heap.size)(hL:∀ W,Below w.heap.size w W→Calls Tryz.prog 82 #[.pointer (some ⟨X,0,none⟩),.int .i64 g,.int .u32 va] W fun e w'=>e=.returned (.tuple #[.int .u32 v,.agg #[.int .i64 sk,.int .u32 sa]])∧Below W.heap.size W w') :
  Calls Tryz.prog 69 #[.pointer (some ⟨R,0,none⟩),.pointer (some ⟨I,0,none⟩),.pointer (some ⟨I,8,none⟩),.agg (uW va vb vc vd)] w fun e w'=>e=.returned (.agg #[.int .i64 sk,.int .u32 sa])∧RB w' R (yB ws tb X (h.reg d v))∧zI [R] w w':=by
 have i0:w.cell? ⟨I,0,none⟩=some (.int .i64 op):=by rw[zA hI 0,← eo];rfl
 have i8:w.cell? ⟨I,8,none⟩=some (.int .u8 80):=by rw[zA hI 8,← ef];rfl
 have lI:=zE hI
 have lR:=hR.lt
 have l2:I < w.heap.size+1:=aO
 have l4:I < w.heap.size+1+1:=aO
 have HR:Hid _:=hR
 have HI:Hid _:=hI
 have HL:Hid _:=hL
 have HED:Hid _:=ed
 have HD:Hid _:=hd
 have HIR:Hid _:=hIR
 have HXR:Hid _:=hXR
 have HLX:Hid _:=lX
 clear hR hI hL ed hd hIR hXR eo ef lX
 go_enter Tryz.func69,Tryz.ntmps69
 go_upto_region 1 with fail
 go_quiet (fail)
 go_upto_region 9 with fail
 refine zJ (fun W'=>SW w W' R I (yB ws tb X h) (yT x f n) va vb vc vd) (by first|exact(zB7 va vb vc vd HR.out HI.out).dN _|exact zB7 va vb vc vd HR.out HI.out) ?_
 intro W hW
 have HW:Hid _:=hW
 have c13:W.cell? ⟨R,13,none⟩=some (.pointer (some ⟨X,0,none⟩)):=hW.r.c 13 aO
 have t0:=zA hW.t 0
 have k1:=hW.r.lt
 have k2:=Nat.lt_succ_of_lt k1
 have k3:=zE hW.t
 have k4:=Nat.lt_succ_of_lt k3
 clear hW i0 i8 lI lR l2 l4
 go_region_held3 (fun W'=>W'.cell? ⟨R,13,none⟩=some (.pointer (some ⟨X,0,none⟩))∧W'.cell? ⟨w.heap.size,0,none⟩=some (.int .u32 va)) (first|(simp[go_sem,c13,t0,k1,k2,k3,k4];done)|(simp[go_sem,d13,e0,m1,m2,m3,m4];done)) (first|(go_at_call 82;refine(HL.out _ (by first|exact HW.out.b|exact HW.out.b.drew|exact(HW.out.b.alloc HW.out.b.size _)|exact(HW.out.b.alloc HW.out.b.size _).drew)).mono ?_;rintro e w1 ⟨rfl,hb1⟩;have HB1:Hid (Below W.heap.size W w1):=(by first|exact hb1|exact(aB.drew).trans hb1|exact((aB.alloc aL _)).trans (hb1.mono aS)|exact((aB.alloc aL _).drew).trans (hb1.mono aS));have HW1:Hid (SW w w1 R I (yB ws tb X h) (yT x f n) va vb vc vd):=HW.out.low HB1.out;have d13:w1.cell? ⟨R,13,none⟩=some (.pointer (some ⟨X,0,none⟩)):=HW1.out.r.c 13 aO;have e0:=zA HW1.out.t 0;have m1:=HW1.out.r.lt;have m2:=Nat.lt_succ_of_lt m1;have m3:=zE HW1.out.t;have m4:=Nat.lt_succ_of_lt m3;(try(have ob:w1.heap[W.heap.size]?=some (.cells #[.int .i64 0,.int .u32 0] 35):=(zI.of_below ([]:List Nat) hb1).keep (heap_alloc_last W _) aS;have ob0:=zA ob 0;have ob1:=zA ob 1;have obf:=zD ob;have obl:=zE ob));clear hb1))
 all_goals go_upto_region 10 with fail
 all_goals first
  | (refine zJ (fun W'=>SW2 w W' R I (yB ws tb X h) (yT x f n) va vb vc vd W.heap.size sk sa) (zQy sk sa HW1.out HR.out.lt (zE HI.out) ob (zE HW.out.o)) ?_;intro wy hy;generalize W.heap.size=B at hy ⊢)
  | (refine zJ (fun W'=>SW2 w W' R I (yB ws tb X h) (yT x f n) va vb vc vd w1.heap.size sk sa) (zQx sk sa HW1.out) ?_;intro wy hy;generalize w1.heap.size=B at hy ⊢)
 all_goals(
  have HY:Hid _:=hy
  have j1:wy.cell? ⟨I,1,none⟩=some (.int .i64 d):=by rw[zA hy.s.i 1,← HED.out];rfl
  have n1:=zE hy.s.i
  have d0:(0:Int)≤d:=aO
  have d1:(d:Int) < 16:=by have:=HD.out;omega
  clear hy)
 all_goals go_region_held3 (fun W'=>W'.cell? ⟨I,1,none⟩=some (.int .i64 d)) (first|(simp[go_sem,j1];done)|(simp[go_sem,j2];done)) (first|(go_at_call 49;refine(zAP R d v X ws tb h _ (by first|exact HY.out.s.r|exact HY.out.s.r.drw) HD.out).mono ?_;rintro e w2 ⟨rfl,hr2,hc2⟩;have HR2:Hid _:=hr2;have HC2:Hid (zI [R] wy w2):=(by first|exact hc2|exact(zI.refl _ _).drew.trans hc2);have j2:w2.cell? ⟨I,1,none⟩=some (.int .i64 d):=(World.cell?_of_block (w:=wy) (HC2.out.block I n1 (by simpa using HIR.out))).trans j1;have hb2:=HC2.out.keep HY.out.b (by have:=HR.out.lt;have:=HY.out.n;simp;omega);have ho2:=HC2.out.keep HY.out.s.o (by have:=HR.out.lt;simp;omega);have g0:=zA hb2 0;have g1:=zA hb2 1;have q0:=zA ho2 0;have q1:=zA ho2 1;have qf:=zD ho2;have gl:=zE hb2;have ql:=zE ho2;clear hr2 hc2 hb2 ho2))
 all_goals go_wp2
 all_goals refine bodyPost_ret (v:=.agg #[.int .i64 sk,.int .u32 sa]) (by simp[results,Tryz.results69,go_sem,q0,q1,qf,ql]) rfl ⟨rfl,?_,?_⟩
 ·exact(HR2.out.other (by have:=HR.out.lt;omega) _ _).other (by have:=HR.out.lt;omega) _ _
 ·exact(((zI.of_below [R] HY.out.s.b).trans HC2.out).new aO _ _).new aO _ _
 ·exact(HR2.out.other (by have:=HR.out.lt;omega) _ _).other (by have:=HR.out.lt;omega) _ _
 ·exact(((zI.of_below [R] HY.out.s.b).trans HC2.out).new aO _ _).new aO _ _
theorem zDw(R X I d va vb vc vd:Nat)(op g sk sa:Int)(ws tb:Value)(x:Cd)(f:Fo)(n:Int)(h:HP)(w:World)(hR:RB w R (yB ws tb X h))(hI:w.heap[I]?=some (.cells (yT x f n) 90))(eo:x.op=op)(ed:x.d=d)(hd:d < 16)(hIR:I≠R)(hXR:R≠X)(ef:f.first=88)(hg:IntKind.i64.wrap (op - 88)=g)(Q:World→Prop)(hQ:∀ u v,Q u→Below w.heap.size u v→Q v)(lX:X < w.heap.size)(hL:∀ W,Below w.heap.size w W→Calls Tryz.prog 83 #[.pointer (some ⟨X,0,none⟩),.int .i64 g,.int .u32 va,.int .u32 vd] W fun e w'=>e=.returned (.agg #[.int .i64 sk,.int .u32 sa])∧Q w'∧zI [X] W w') :
  Calls Tryz.prog 69 #[.pointer (some ⟨R,0,none⟩),.pointer (some ⟨I,0,none⟩),.pointer (some ⟨I,8,none⟩),.agg (uW va vb vc vd)] w fun e w'=>e=.returned (.agg #[.int .i64 sk,.int .u32 sa])∧Q w'∧zI [X] w w':=by
 have i0:w.cell? ⟨I,0,none⟩=some (.int .i64 op):=by rw[zA hI 0,← eo];rfl
 have i8:w.cell? ⟨I,8,none⟩=some (.int .u8 88):=by rw[zA hI 8,← ef];rfl
 have lI:=zE hI
 have lR:=hR.lt
 have l2:I < w.heap.size+1:=aO
 have l4:I < w.heap.size+1+1:=aO
 have HR:Hid _:=hR
 have HI:Hid _:=hI
 have HL:Hid _:=hL
 have HED:Hid _:=ed
 have HD:Hid _:=hd
 have HIR:Hid _:=hIR
 have HXR:Hid _:=hXR
 have HLX:Hid _:=lX
 clear hR hI hL ed hd hIR hXR eo ef lX
 go_enter Tryz.func69,Tryz.ntmps69
 go_upto_region 1 with fail
 go_quiet (fail)
 go_upto_region 13 with fail
 refine zJ (fun W'=>SW w W' R I (yB ws tb X h) (yT x f n) va vb vc vd) (by first|exact(zB7 va vb vc vd HR.out HI.out).dN _|exact zB7 va vb vc vd HR.out HI.out) ?_
 intro W hW
 have HW:Hid _:=hW
 have HQQ:Hid _:=hQ
 have c13:W.cell? ⟨R,13,none⟩=some (.pointer (some ⟨X,0,none⟩)):=hW.r.c 13 aO
 have t0:=zA hW.t 0
 have t3:=zA hW.t 3
 have k1:=hW.r.lt
 have k3:=zE hW.t
 clear hW i0 i8 lI lR l2 l4 hQ
 go_region_held3 (fun W'=>W'.cell? ⟨w.heap.size,0,none⟩=some (.int .u32 va)∧W'.cell? ⟨w.heap.size,3,none⟩=some (.int .u32 vd)∧W'.cell? ⟨R,13,none⟩=some (.pointer (some ⟨X,0,none⟩))) (first|(simp[go_sem,t0,t3,c13,k1,k3];done)|(simp[go_sem,e0,e3,d13,m3];done)) (first|(go_at_call 83;refine(HL.out _ (by first|exact HW.out.b|exact HW.out.b.drew)).mono ?_;rintro e w1 ⟨rfl,hq1,hc1⟩;have HQ1:Hid _:=hq1;have HC1:Hid (zI [X] W w1):=(by first|exact hc1|exact(zI.refl _ _).drew.trans hc1);have ht1:=HC1.out.keep HW.out.t zq55;have ho1:=HC1.out.keep HW.out.o zq55;have e0:=zA ht1 0;have e3:=zA ht1 3;have m3:=zE ht1;have d13:w1.cell? ⟨R,13,none⟩=some (.pointer (some ⟨X,0,none⟩)):=(World.cell?_of_block (w:=W) (HC1.out.block R k1 zq68)).trans c13;have q0:=zA ho1 0;have q1:=zA ho1 1;have qf:=zD ho1;have ql:=zE ho1;clear hq1 hc1 ht1 ho1))
 all_goals go_wp2
 all_goals exact bodyPost_ret (v:=.agg #[.int .i64 sk,.int .u32 sa]) (by simp[results,Tryz.results69,go_sem,q0,q1,qf,ql]) rfl ⟨rfl,HQQ.out _ _ HQ1.out ((((zI.refl [w.heap.size+1] w1).set aC 0 _).set aC 1 _).below aO aS),(((zI.of_below [X] HW.out.b).trans HC1.out).new aO _ _).new aO _ _⟩
end Go.Proofs.YthcpipfmicbnmaaGreat.Ho
