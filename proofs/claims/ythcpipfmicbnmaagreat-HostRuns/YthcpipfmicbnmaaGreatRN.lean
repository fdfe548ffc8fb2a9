import Derived.Test.YthcpipfmicbnmaaGreatRM
set_option linter.unusedVariables false
set_option linter.unusedSimpArgs false
set_option maxHeartbeats 2000000
namespace Go.Proofs.YthcpipfmicbnmaaGreat.Ho
open Go.RowKit
set_option maxRecDepth 100000
theorem zCQ(R X I k va vb vc vd:Nat)(nn:Int)(ws tb:Value)(x:Cd)(f:Fo)(n:Int)(h:HP)(w:World)(hR:RB w R (yB ws tb X h))(hI:w.heap[I]?=some (.cells (yT x f n) 90))(ek:x.k=k)(en:x.n=nn)(ef:f.first=1)(hIR:I≠R)(hw : -9223372036854775808≤h.done+nn∧h.done+nn≤9223372036854775807)(hT:TC w X true)(lX:X < w.heap.size)(hXR:X≠R) :
  Calls Tryz.prog 52 #[.pointer (some ⟨R,0,none⟩),.pointer (some ⟨I,0,none⟩),.pointer (some ⟨I,8,none⟩),.agg (uW va vb vc vd)] w fun e w'=>e=.returned (.agg (yE ⟨1,0,0,k,h.done,0⟩))∧RB w' R (yB ws tb X h)∧zI [R] w w':=by
 have lR:=hR.lt
 have lI:=zE hI
 have c17:w.cell? ⟨R,17,none⟩=some (.int .i64 h.done):=hR.c 17 aO
 have k5:w.cell? ⟨I,5,none⟩=some (.int .i64 nn):=by rw[zA hI 5,← en];rfl
 have k6:w.cell? ⟨I,6,none⟩=some (.int .u32 k):=by rw[zA hI 6,← ek];rfl
 have hw2:IntKind.i64.wrap (h.done+nn)=h.done+nn:=IntWalk.i64_in _ hw
 have n0:¬R=w.heap.size:=aO
 have n1:¬I=w.heap.size:=aO
 have l1:R < w.heap.size+1:=aO
 have l2:I < w.heap.size+1:=aO
 have l3:R < w.heap.size+1+1:=aO
 have l4:I < w.heap.size+1+1:=aO
 have HR:Hid _:=hR
 have HI:Hid _:=hI
 have HEF:Hid _:=ef
 have HEK:Hid _:=ek
 have HEN:Hid _:=en
 have HIR:Hid _:=hIR
 have HWW:Hid _:=hw
 have HT:Hid _:=hT
 have HLX:Hid _:=lX
 have HXR:Hid _:=hXR
 clear hT lX hXR
 clear hR hI ek en ef hIR hw
 go_enter Tryz.func52,Tryz.ntmps52
 go_upto_region 2 with fail
 go_region
 go_upto_region 3 with fail
 refine zJ (fun W'=>GW w W' R I (yB ws tb X h) va vb vc vd ⟨1,0,0,k,h.done+nn,0⟩ (yT x f n)) (yL va vb vc vd ⟨1,0,0,k,h.done+nn,0⟩ HR.out HI.out) ?_
 clear c17 k5 k6
 intro W hG
 have t0:W.cell? ⟨w.heap.size,0,none⟩=some (.int .u32 va):=zA hG.t 0
 have i8:W.cell? ⟨I,8,none⟩=some (.int .u8 1):=by rw[zA hG.i 8,← HEF.out];rfl
 have i5:W.cell? ⟨I,5,none⟩=some (.int .i64 nn):=by rw[zA hG.i 5,← HEN.out];rfl
 have i6:W.cell? ⟨I,6,none⟩=some (.int .u32 k):=by rw[zA hG.i 6,← HEK.out];rfl
 have lt_:=zE hG.t
 have lr:=zE hG.r
 have li:=zE hG.i
 have lR2:=hG.b.lt
 have nr:¬w.heap.size+1=R:=aO
 have HG:Hid _:=hG
 clear hG
 go_wp2_with (go_at_call 66;refine(zF8 R X I ws tb h k nn W HG.out.b i5 i6 li (TC.keep HT.out (HG.out.c.block X HLX.out zq68)) (Nat.lt_of_lt_of_le HLX.out HG.out.c.size) HXR.out).mono ?_;rintro e w9 ⟨rfl,hr9,hc9⟩;have hrr:w9.heap[w.heap.size+1]?=some (.cells (yE ⟨0,0,0,0,0,0⟩) 37):=hc9.keep HG.out.r zq69;have r0:w9.cell? ⟨w.heap.size+1,0,none⟩=some (.int .i64 0):=zA hrr 0;have z0:=zD hrr 0;have r1:w9.cell? ⟨w.heap.size+1,1,none⟩=some (.int .i64 0):=zA hrr 1;have z1:=zD hrr 1;have r2:w9.cell? ⟨w.heap.size+1,2,none⟩=some (.int .u32 0):=zA hrr 2;have z2:=zD hrr 2;have r3:w9.cell? ⟨w.heap.size+1,3,none⟩=some (.int .u32 0):=zA hrr 3;have z3:=zD hrr 3;have r4:w9.cell? ⟨w.heap.size+1,4,none⟩=some (.int .i64 0):=zA hrr 4;have z4:=zD hrr 4;have r5:w9.cell? ⟨w.heap.size+1,5,none⟩=some (.int .i64 0):=zA hrr 5;have z5:=zD hrr 5;have lr9:=zE hrr;have HR9:Hid _:=hr9;have HC9:Hid _:=hc9;clear hr9 hc9 hrr)
 refine bodyPost_ret (v:=.agg (yE ⟨1,0,0,k,h.done,0⟩)) zq9 rfl ⟨rfl,?_,?_⟩
 ·exact zq6
 ·exact zq10
theorem zCw(R X I k va vb vc vd:Nat)(nn:Int)(ws tb:Value)(x:Cd)(f:Fo)(n:Int)(h:HP)(w:World)(hR:RB w R (yB ws tb X h))(hI:w.heap[I]?=some (.cells (yT x f n) 90))(ek:x.k=k)(en:x.n=nn)(ef:f.first=1)(hIR:I≠R)(hw : -9223372036854775808≤h.done+nn∧h.done+nn≤9223372036854775807)(hT:TC w X false)(lX:X < w.heap.size)(hXR:X≠R)(hl : -9223372036854775808≤h.left - h.done∧h.left - h.done≤9223372036854775807)(hs:h.left - h.done < nn) :
  Calls Tryz.prog 52 #[.pointer (some ⟨R,0,none⟩),.pointer (some ⟨I,0,none⟩),.pointer (some ⟨I,8,none⟩),.agg (uW va vb vc vd)] w fun e w'=>e=.returned (.agg (yE ⟨4,0,0,k,h.done,0⟩))∧RB w' R (yB ws tb X h)∧zI [R] w w':=by
 have lR:=hR.lt
 have lI:=zE hI
 have c17:w.cell? ⟨R,17,none⟩=some (.int .i64 h.done):=hR.c 17 aO
 have k5:w.cell? ⟨I,5,none⟩=some (.int .i64 nn):=by rw[zA hI 5,← en];rfl
 have k6:w.cell? ⟨I,6,none⟩=some (.int .u32 k):=by rw[zA hI 6,← ek];rfl
 have hw2:IntKind.i64.wrap (h.done+nn)=h.done+nn:=IntWalk.i64_in _ hw
 have n0:¬R=w.heap.size:=aO
 have n1:¬I=w.heap.size:=aO
 have l1:R < w.heap.size+1:=aO
 have l2:I < w.heap.size+1:=aO
 have l3:R < w.heap.size+1+1:=aO
 have l4:I < w.heap.size+1+1:=aO
 have HR:Hid _:=hR
 have HI:Hid _:=hI
 have HEF:Hid _:=ef
 have HEK:Hid _:=ek
 have HEN:Hid _:=en
 have HIR:Hid _:=hIR
 have HWW:Hid _:=hw
 have HT:Hid _:=hT
 have HLX:Hid _:=lX
 have HXR:Hid _:=hXR
 clear hT lX hXR
 clear hR hI ek en ef hIR hw
 go_enter Tryz.func52,Tryz.ntmps52
 go_upto_region 2 with fail
 go_region
 go_upto_region 3 with fail
 refine zJ (fun W'=>GW w W' R I (yB ws tb X h) va vb vc vd ⟨1,0,0,k,h.done+nn,0⟩ (yT x f n)) (yL va vb vc vd ⟨1,0,0,k,h.done+nn,0⟩ HR.out HI.out) ?_
 clear c17 k5 k6
 intro W hG
 have t0:W.cell? ⟨w.heap.size,0,none⟩=some (.int .u32 va):=zA hG.t 0
 have i8:W.cell? ⟨I,8,none⟩=some (.int .u8 1):=by rw[zA hG.i 8,← HEF.out];rfl
 have i5:W.cell? ⟨I,5,none⟩=some (.int .i64 nn):=by rw[zA hG.i 5,← HEN.out];rfl
 have i6:W.cell? ⟨I,6,none⟩=some (.int .u32 k):=by rw[zA hG.i 6,← HEK.out];rfl
 have lt_:=zE hG.t
 have lr:=zE hG.r
 have li:=zE hG.i
 have lR2:=hG.b.lt
 have nr:¬w.heap.size+1=R:=aO
 have HG:Hid _:=hG
 clear hG
 go_wp2_with (go_at_call 66;refine(zFq R X I ws tb h k nn W HG.out.b i5 i6 li (TC.keep HT.out (HG.out.c.block X HLX.out zq68)) (Nat.lt_of_lt_of_le HLX.out HG.out.c.size) HXR.out hl hs).mono ?_;rintro e w9 ⟨rfl,hr9,hc9⟩;have hrr:w9.heap[w.heap.size+1]?=some (.cells (yE ⟨0,0,0,0,0,0⟩) 37):=hc9.keep HG.out.r zq69;have r0:w9.cell? ⟨w.heap.size+1,0,none⟩=some (.int .i64 0):=zA hrr 0;have z0:=zD hrr 0;have r1:w9.cell? ⟨w.heap.size+1,1,none⟩=some (.int .i64 0):=zA hrr 1;have z1:=zD hrr 1;have r2:w9.cell? ⟨w.heap.size+1,2,none⟩=some (.int .u32 0):=zA hrr 2;have z2:=zD hrr 2;have r3:w9.cell? ⟨w.heap.size+1,3,none⟩=some (.int .u32 0):=zA hrr 3;have z3:=zD hrr 3;have r4:w9.cell? ⟨w.heap.size+1,4,none⟩=some (.int .i64 0):=zA hrr 4;have z4:=zD hrr 4;have r5:w9.cell? ⟨w.heap.size+1,5,none⟩=some (.int .i64 0):=zA hrr 5;have z5:=zD hrr 5;have lr9:=zE hrr;have HR9:Hid _:=hr9;have HC9:Hid _:=hc9;clear hr9 hc9 hrr)
 refine bodyPost_ret (v:=.agg (yE ⟨4,0,0,k,h.done,0⟩)) zq9 rfl ⟨rfl,?_,?_⟩
 ·exact zq6
 ·exact zq10
theorem zCP(R X I k va vb vc vd:Nat)(nn:Int)(ws tb:Value)(x:Cd)(f:Fo)(n:Int)(h:HP)(w:World)(hR:RB w R (yB ws tb X h))(hI:w.heap[I]?=some (.cells (yT x f n) 90))(ek:x.k=k)(en:x.n=nn)(ef:f.first=1)(hIR:I≠R)(hw : -9223372036854775808≤h.done+nn∧h.done+nn≤9223372036854775807)(hT:TC w X false)(lX:X < w.heap.size)(hXR:X≠R)(hl : -9223372036854775808≤h.left - h.done∧h.left - h.done≤9223372036854775807)(hs:¬h.left - h.done < nn)(hf:1048576≤h.count) :
  Calls Tryz.prog 52 #[.pointer (some ⟨R,0,none⟩),.pointer (some ⟨I,0,none⟩),.pointer (some ⟨I,8,none⟩),.agg (uW va vb vc vd)] w fun e w'=>e=.returned (.agg (yE ⟨6,0,0,k,h.done,0⟩))∧RB w' R (yB ws tb X h)∧zI [R] w w':=by
 have lR:=hR.lt
 have lI:=zE hI
 have c17:w.cell? ⟨R,17,none⟩=some (.int .i64 h.done):=hR.c 17 aO
 have k5:w.cell? ⟨I,5,none⟩=some (.int .i64 nn):=by rw[zA hI 5,← en];rfl
 have k6:w.cell? ⟨I,6,none⟩=some (.int .u32 k):=by rw[zA hI 6,← ek];rfl
 have hw2:IntKind.i64.wrap (h.done+nn)=h.done+nn:=IntWalk.i64_in _ hw
 have n0:¬R=w.heap.size:=aO
 have n1:¬I=w.heap.size:=aO
 have l1:R < w.heap.size+1:=aO
 have l2:I < w.heap.size+1:=aO
 have l3:R < w.heap.size+1+1:=aO
 have l4:I < w.heap.size+1+1:=aO
 have HR:Hid _:=hR
 have HI:Hid _:=hI
 have HEF:Hid _:=ef
 have HEK:Hid _:=ek
 have HEN:Hid _:=en
 have HIR:Hid _:=hIR
 have HWW:Hid _:=hw
 have HT:Hid _:=hT
 have HLX:Hid _:=lX
 have HXR:Hid _:=hXR
 clear hT lX hXR
 clear hR hI ek en ef hIR hw
 go_enter Tryz.func52,Tryz.ntmps52
 go_upto_region 2 with fail
 go_region
 go_upto_region 3 with fail
 refine zJ (fun W'=>GW w W' R I (yB ws tb X h) va vb vc vd ⟨1,0,0,k,h.done+nn,0⟩ (yT x f n)) (yL va vb vc vd ⟨1,0,0,k,h.done+nn,0⟩ HR.out HI.out) ?_
 clear c17 k5 k6
 intro W hG
 have t0:W.cell? ⟨w.heap.size,0,none⟩=some (.int .u32 va):=zA hG.t 0
 have i8:W.cell? ⟨I,8,none⟩=some (.int .u8 1):=by rw[zA hG.i 8,← HEF.out];rfl
 have i5:W.cell? ⟨I,5,none⟩=some (.int .i64 nn):=by rw[zA hG.i 5,← HEN.out];rfl
 have i6:W.cell? ⟨I,6,none⟩=some (.int .u32 k):=by rw[zA hG.i 6,← HEK.out];rfl
 have lt_:=zE hG.t
 have lr:=zE hG.r
 have li:=zE hG.i
 have lR2:=hG.b.lt
 have nr:¬w.heap.size+1=R:=aO
 have HG:Hid _:=hG
 clear hG
 go_wp2_with (go_at_call 66;refine(zF7 R X I ws tb h k nn W HG.out.b i5 i6 li (TC.keep HT.out (HG.out.c.block X HLX.out zq68)) (Nat.lt_of_lt_of_le HLX.out HG.out.c.size) HXR.out hl hs hf).mono ?_;rintro e w9 ⟨rfl,hr9,hc9⟩;have hrr:w9.heap[w.heap.size+1]?=some (.cells (yE ⟨0,0,0,0,0,0⟩) 37):=hc9.keep HG.out.r zq69;have r0:w9.cell? ⟨w.heap.size+1,0,none⟩=some (.int .i64 0):=zA hrr 0;have z0:=zD hrr 0;have r1:w9.cell? ⟨w.heap.size+1,1,none⟩=some (.int .i64 0):=zA hrr 1;have z1:=zD hrr 1;have r2:w9.cell? ⟨w.heap.size+1,2,none⟩=some (.int .u32 0):=zA hrr 2;have z2:=zD hrr 2;have r3:w9.cell? ⟨w.heap.size+1,3,none⟩=some (.int .u32 0):=zA hrr 3;have z3:=zD hrr 3;have r4:w9.cell? ⟨w.heap.size+1,4,none⟩=some (.int .i64 0):=zA hrr 4;have z4:=zD hrr 4;have r5:w9.cell? ⟨w.heap.size+1,5,none⟩=some (.int .i64 0):=zA hrr 5;have z5:=zD hrr 5;have lr9:=zE hrr;have HR9:Hid _:=hr9;have HC9:Hid _:=hc9;clear hr9 hc9 hrr)
 refine bodyPost_ret (v:=.agg (yE ⟨6,0,0,k,h.done,0⟩)) zq9 rfl ⟨rfl,?_,?_⟩
 ·exact zq6
 ·exact zq10
theorem zDH(R X I k va vb vc vd:Nat)(nn:Int)(ws tb:Value)(x:Cd)(f:Fo)(n:Int)(h:HP)(w:World)(hR:RB w R (yB ws tb X h))(hI:w.heap[I]?=some (.cells (yT x f n) 90))(ek:x.k=k)(en:x.n=nn)(ef:f.first=1)(hIR:I≠R)(hw : -9223372036854775808≤h.done+nn∧h.done+nn≤9223372036854775807)(hT:TC w X false)(lX:X < w.heap.size)(hXR:X≠R)(hl : -9223372036854775808≤h.left - h.done∧h.left - h.done≤9223372036854775807)(hs:¬h.left - h.done < nn)(hf:¬1048576≤h.count)(he:0≤h.ent∧h.ent < 2147483647) :
  Calls Tryz.prog 52 #[.pointer (some ⟨R,0,none⟩),.pointer (some ⟨I,0,none⟩),.pointer (some ⟨I,8,none⟩),.agg (uW va vb vc vd)] w fun e w'=>e=.returned (.agg (yE ⟨0,0,0,0,0,0⟩))∧RB w' R (yB ws tb X h.enter)∧zI [R] w w':=by
 have lR:=hR.lt
 have lI:=zE hI
 have c17:w.cell? ⟨R,17,none⟩=some (.int .i64 h.done):=hR.c 17 aO
 have k5:w.cell? ⟨I,5,none⟩=some (.int .i64 nn):=by rw[zA hI 5,← en];rfl
 have k6:w.cell? ⟨I,6,none⟩=some (.int .u32 k):=by rw[zA hI 6,← ek];rfl
 have hw2:IntKind.i64.wrap (h.done+nn)=h.done+nn:=IntWalk.i64_in _ hw
 have n0:¬R=w.heap.size:=aO
 have n1:¬I=w.heap.size:=aO
 have l1:R < w.heap.size+1:=aO
 have l2:I < w.heap.size+1:=aO
 have l3:R < w.heap.size+1+1:=aO
 have l4:I < w.heap.size+1+1:=aO
 have HR:Hid _:=hR
 have HI:Hid _:=hI
 have HEF:Hid _:=ef
 have HEK:Hid _:=ek
 have HEN:Hid _:=en
 have HIR:Hid _:=hIR
 have HWW:Hid _:=hw
 have HT:Hid _:=hT
 have HLX:Hid _:=lX
 have HXR:Hid _:=hXR
 clear hT lX hXR
 clear hR hI ek en ef hIR hw
 go_enter Tryz.func52,Tryz.ntmps52
 go_upto_region 2 with fail
 go_region
 go_upto_region 3 with fail
 refine zJ (fun W'=>GW w W' R I (yB ws tb X h) va vb vc vd ⟨1,0,0,k,h.done+nn,0⟩ (yT x f n)) (yL va vb vc vd ⟨1,0,0,k,h.done+nn,0⟩ HR.out HI.out) ?_
 clear c17 k5 k6
 intro W hG
 have t0:W.cell? ⟨w.heap.size,0,none⟩=some (.int .u32 va):=zA hG.t 0
 have i8:W.cell? ⟨I,8,none⟩=some (.int .u8 1):=by rw[zA hG.i 8,← HEF.out];rfl
 have i5:W.cell? ⟨I,5,none⟩=some (.int .i64 nn):=by rw[zA hG.i 5,← HEN.out];rfl
 have i6:W.cell? ⟨I,6,none⟩=some (.int .u32 k):=by rw[zA hG.i 6,← HEK.out];rfl
 have lt_:=zE hG.t
 have lr:=zE hG.r
 have li:=zE hG.i
 have lR2:=hG.b.lt
 have nr:¬w.heap.size+1=R:=aO
 have HG:Hid _:=hG
 clear hG
 go_wp2_with (go_at_call 66;refine(zIY R X I ws tb h k nn W HG.out.b i5 i6 li (TC.keep HT.out (HG.out.c.block X HLX.out zq68)) (Nat.lt_of_lt_of_le HLX.out HG.out.c.size) HXR.out hl hs hf he).mono ?_;rintro e w9 ⟨rfl,hr9,hc9⟩;have hrr:w9.heap[w.heap.size+1]?=some (.cells (yE ⟨0,0,0,0,0,0⟩) 37):=hc9.keep HG.out.r zq69;have r0:w9.cell? ⟨w.heap.size+1,0,none⟩=some (.int .i64 0):=zA hrr 0;have z0:=zD hrr 0;have r1:w9.cell? ⟨w.heap.size+1,1,none⟩=some (.int .i64 0):=zA hrr 1;have z1:=zD hrr 1;have r2:w9.cell? ⟨w.heap.size+1,2,none⟩=some (.int .u32 0):=zA hrr 2;have z2:=zD hrr 2;have r3:w9.cell? ⟨w.heap.size+1,3,none⟩=some (.int .u32 0):=zA hrr 3;have z3:=zD hrr 3;have r4:w9.cell? ⟨w.heap.size+1,4,none⟩=some (.int .i64 0):=zA hrr 4;have z4:=zD hrr 4;have r5:w9.cell? ⟨w.heap.size+1,5,none⟩=some (.int .i64 0):=zA hrr 5;have z5:=zD hrr 5;have lr9:=zE hrr;have HR9:Hid _:=hr9;have HC9:Hid _:=hc9;clear hr9 hc9 hrr)
 refine bodyPost_ret (v:=.agg (yE ⟨0,0,0,0,0,0⟩)) zq9 rfl ⟨rfl,?_,?_⟩
 ·exact zq6
 ·exact zq10
end Go.Proofs.YthcpipfmicbnmaaGreat.Ho
