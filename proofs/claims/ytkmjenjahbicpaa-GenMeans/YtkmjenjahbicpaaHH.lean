import Derived.Test.YtkmjenjahbicpaaHD
import Derived.Test.YtkmjenjahbicpaaHG1
import Derived.Test.YtkmjenjahbicpaaHG2
import Derived.Test.YtkmjenjahbicpaaHG3
import Derived.Test.YtkmjenjahbicpaaHN
set_option linter.unusedVariables false
set_option linter.unusedSimpArgs false
set_option maxHeartbeats 4000000
namespace Go.Proofs.Ytkmjenjahbicpaa.Ho
open Go.RowKit
set_option maxRecDepth 100000
theorem zK2(I b off len cap a:Nat)(ws:Nat→Nat)(x0:Cd)(f0:Fo)(n0:Int)(w:World)(hI:w.heap[I]?=some (.cells (fdA x0 f0 n0) 174))(hr:WR w b off len ws)(hbI:b≠I)(hcap:len≤cap)(hl:len≤140737488355328)(ha:a < len)(hk:hit ((ws a%256:Nat):Int)=none) :
  Calls Try.prog 91 #[.pointer (some ⟨I,0,none⟩),.slice (some ⟨b,off,none⟩) len cap,.int .i64 a] w fun e w'=>e=.returned (.int .i64 2)∧zJ [I] w w':=by
 have lI:=zE hI
 have lb:=hr.lb
 have v0:w.cell? ⟨b,off+a,none⟩=some (.int .u32 (ws a)):=hr.cell a aO
 have HV:Hid (ws a < 4294967296):=hr.lt a
 generalize eV:ws a=v at *
 have hm:bits .and .u32 (v:Int) 255=((v%256:Nat):Int):=zD6 v HV.out
 generalize eO:v%256=op at *
 have o0:(0:Int)≤op:=aO
 have o1:(op:Int) < 256:=aO
 have HK:Hid _:=hk
 have HW:Hid (IntKind.i64.wrap (op:Int)=op):=IntWalk.i64_in _ aO
 have nb0:¬b=w.heap.size:=aO
 have a0:(0:Int)≤a:=aO
 have a3:(a:Int)+1≤len:=aO
 have a4:a+1≤cap:=aO
 have hw2:IntKind.i64.wrap ((a:Int)+1)=(a:Int)+1:=IntWalk.i64_in _ aO
 have hw3:IntKind.i64.wrap ((len:Int) - a)=(len:Int) - a:=IntWalk.i64_in _ aO
 have a1:(a:Int) < len:=aO
 have a2:(a:Int)≤len:=aO
 have HI:Hid _:=hI
 have HR:Hid _:=hr
 have HNB:Hid _:=hbI
 clear hk hI hr hbI ha
 go_enter Try.func91,Try.ntmps91
 go_upto_region 5 with fail
 go_region_held3 (fun W'=>W'.cell? ⟨b,off+a,none⟩=some (.int .u32 v)) (first|(simp[go_sem,v0,lb,nb0];done)|(simp[go_sem,z0,lb1,nb1,nb0];done)) (first|(go_at_call 90;refine(zD9 _).mono ?_;rintro e w1 ⟨rfl,rfl⟩)|(go_at_call 70;refine(vD _ w.drew).mono ?_;rintro e w1 ⟨rfl,hb1⟩;(try rw[HW.out]);rw[HK.out];have z0:w1.cell? ⟨b,off+a,none⟩=some (.int .u32 v):=(hb1.cell (p:=⟨b,off+a,none⟩) lb).trans v0;have lb1:b < w1.heap.size:=zq36;have nb1:¬b=w1.heap.size:=aO;have HB2:Hid (Below w.heap.size w w1):=(vE hb1))|(go_at_call 70;refine(vD _ (w.alloc (.cells #[.int .u8 0,.int .u8 0,.int .u8 0,.int .u16 0,.int .u16 0] 146)).drew).mono ?_;rintro e w1 ⟨rfl,hb1⟩;(try rw[HW.out]);rw[HK.out];have b1:w1.heap[w.heap.size]?=some (.cells #[.int .u8 0,.int .u8 0,.int .u8 0,.int .u16 0,.int .u16 0] 146):=(hb1.block w.heap.size aS).trans (heap_alloc_last w _);have y0:w1.cell? ⟨w.heap.size,0,none⟩=some (.int .u8 0):=zA b1 0;have g0:=zD b1 0;have y1:w1.cell? ⟨w.heap.size,1,none⟩=some (.int .u8 0):=zA b1 1;have g1:=zD b1 1;have y2:w1.cell? ⟨w.heap.size,2,none⟩=some (.int .u8 0):=zA b1 2;have g2:=zD b1 2;have y3:w1.cell? ⟨w.heap.size,3,none⟩=some (.int .u16 0):=zA b1 3;have g3:=zD b1 3;have y4:w1.cell? ⟨w.heap.size,4,none⟩=some (.int .u16 0):=zA b1 4;have g4:=zD b1 4;have lw1:=zE b1;have z0:w1.cell? ⟨b,off+a,none⟩=some (.int .u32 v):=(hb1.cell (p:=⟨b,off+a,none⟩) zq19).trans ((World.cell?_alloc_past _ _ _ lb).trans v0);have lb1:b < w1.heap.size:=aO;have nb1:¬b=w1.heap.size:=aO;have HB1:Hid (Below (w.alloc (.cells #[.int .u8 0,.int .u8 0,.int .u8 0,.int .u16 0,.int .u16 0] 146)).heap.size (w.alloc (.cells #[.int .u8 0,.int .u8 0,.int .u8 0,.int .u16 0,.int .u16 0] 146)) w1):=(aB.drew).trans hb1))
 ·go_wp2
  go_ret
  exact⟨rfl,(zA3 ⟨0,0,0,0,0⟩ HI.out HB2.out).ch⟩
 all_goals
  go_wp2
  go_ret
  exact⟨rfl,(uH ⟨0,0,0,0,0⟩ HI.out HB1.out).ch⟩
theorem zHm(I b off len cap a:Nat)(ws:Nat→Nat)(x0:Cd)(f0:Fo)(n0:Int)(k:Nat)(w:World)(hI:w.heap[I]?=some (.cells (fdA x0 f0 n0) 174))(hr:WR w b off len ws)(hbI:b≠I)(hcap:len≤cap)(hl:len≤140737488355328)(ha:a < len∧len < a+2)(hk:hit ((ws a%256:Nat):Int)=some k)(hn:vR (zH k).has=2) :
  Calls Try.prog 91 #[.pointer (some ⟨I,0,none⟩),.slice (some ⟨b,off,none⟩) len cap,.int .i64 a] w fun e w'=>e=.returned (.int .i64 1)∧zJ [I] w w':=by
 have lI:=zE hI
 have lb:=hr.lb
 have v0:w.cell? ⟨b,off+a,none⟩=some (.int .u32 (ws a)):=hr.cell a aO
 have HV:Hid (ws a < 4294967296):=hr.lt a
 generalize eV:ws a=v at *
 have hm:bits .and .u32 (v:Int) 255=((v%256:Nat):Int):=zD6 v HV.out
 generalize eO:v%256=op at *
 have o0:(0:Int)≤op:=aO
 have o1:(op:Int) < 256:=aO
 have HK:Hid _:=hk
 have HW:Hid (IntKind.i64.wrap (op:Int)=op):=IntWalk.i64_in _ aO
 have nb0:¬b=w.heap.size:=aO
 have a0:(0:Int)≤a:=aO
 have a3:(len:Int) - a < 2:=aO
 have hw3:IntKind.i64.wrap ((len:Int) - a)=(len:Int) - a:=IntWalk.i64_in _ aO
 have a1:(a:Int) < len:=aO
 have a2:(a:Int)≤len:=aO
 have HI:Hid _:=hI
 have HN:Hid _:=hn
 have HR:Hid _:=hr
 have HNB:Hid _:=hbI
 clear hk hI hn hr hbI ha
 go_enter Try.func91,Try.ntmps91
 go_upto_region 5 with fail
 go_region_held3 (fun W'=>W'.cell? ⟨b,off+a,none⟩=some (.int .u32 v)) (first|(simp[go_sem,v0,lb,nb0];done)|(simp[go_sem,z0,lb1,nb1,nb0];done)) (first|(go_at_call 90;refine(zD9 _).mono ?_;rintro e w1 ⟨rfl,rfl⟩)|(go_at_call 70;refine(vD _ w.drew).mono ?_;rintro e w1 ⟨rfl,hb1⟩;(try rw[HW.out]);rw[HK.out];have z0:w1.cell? ⟨b,off+a,none⟩=some (.int .u32 v):=(hb1.cell (p:=⟨b,off+a,none⟩) lb).trans v0;have lb1:b < w1.heap.size:=zq36;have nb1:¬b=w1.heap.size:=aO;have HB2:Hid (Below w.heap.size w w1):=(vE hb1))|(go_at_call 70;refine(vD _ (w.alloc (.cells #[.int .u8 0,.int .u8 0,.int .u8 0,.int .u16 0,.int .u16 0] 146)).drew).mono ?_;rintro e w1 ⟨rfl,hb1⟩;(try rw[HW.out]);rw[HK.out];have b1:w1.heap[w.heap.size]?=some (.cells #[.int .u8 0,.int .u8 0,.int .u8 0,.int .u16 0,.int .u16 0] 146):=(hb1.block w.heap.size aS).trans (heap_alloc_last w _);have y0:w1.cell? ⟨w.heap.size,0,none⟩=some (.int .u8 0):=zA b1 0;have g0:=zD b1 0;have y1:w1.cell? ⟨w.heap.size,1,none⟩=some (.int .u8 0):=zA b1 1;have g1:=zD b1 1;have y2:w1.cell? ⟨w.heap.size,2,none⟩=some (.int .u8 0):=zA b1 2;have g2:=zD b1 2;have y3:w1.cell? ⟨w.heap.size,3,none⟩=some (.int .u16 0):=zA b1 3;have g3:=zD b1 3;have y4:w1.cell? ⟨w.heap.size,4,none⟩=some (.int .u16 0):=zA b1 4;have g4:=zD b1 4;have lw1:=zE b1;have z0:w1.cell? ⟨b,off+a,none⟩=some (.int .u32 v):=(hb1.cell (p:=⟨b,off+a,none⟩) zq19).trans ((World.cell?_alloc_past _ _ _ lb).trans v0);have lb1:b < w1.heap.size:=aO;have nb1:¬b=w1.heap.size:=aO;have HB1:Hid (Below (w.alloc (.cells #[.int .u8 0,.int .u8 0,.int .u8 0,.int .u16 0,.int .u16 0] 146)).heap.size (w.alloc (.cells #[.int .u8 0,.int .u8 0,.int .u8 0,.int .u16 0,.int .u16 0] 146)) w1):=(aB.drew).trans hb1))
 ·
  go_upto_region 8 with fail
  refine zI (fun W'=>DE w W' I w1.heap.size (fdA x0 f0 n0) (zH k)) zq32 ?_
  intro W hD
  have p0:W.cell? ⟨w1.heap.size,0,none⟩=some (.int .u8 (zH k).first):=zA hD.bf 0
  have fr0:=zD hD.b 8
  have q0:W.cell? ⟨I,8,none⟩=some (.int .u8 f0.first):=zA hD.b 8
  have p1:W.cell? ⟨w1.heap.size,1,none⟩=some (.int .u8 (zH k).last):=zA hD.bf 1
  have fr1:=zD hD.b 9
  have q1:W.cell? ⟨I,9,none⟩=some (.int .u8 f0.last):=zA hD.b 9
  have p2:W.cell? ⟨w1.heap.size,2,none⟩=some (.int .u8 (zH k).kind):=zA hD.bf 2
  have fr2:=zD hD.b 10
  have q2:W.cell? ⟨I,10,none⟩=some (.int .u8 f0.kind):=zA hD.b 10
  have p3:W.cell? ⟨w1.heap.size,3,none⟩=some (.int .u16 (zH k).has):=zA hD.bf 3
  have fr3:=zD hD.b 11
  have q3:W.cell? ⟨I,11,none⟩=some (.int .u16 f0.has):=zA hD.b 11
  have p4:W.cell? ⟨w1.heap.size,4,none⟩=some (.int .u16 (zH k).most):=zA hD.bf 4
  have fr4:=zD hD.b 12
  have q4:W.cell? ⟨I,12,none⟩=some (.int .u16 f0.most):=zA hD.b 12
  have lF:=zE hD.bf
  have lJ:=zE hD.b
  have nF:¬w1.heap.size=I:=hD.ne
  have H:Hid _:=hD
  clear hD
  have HM:Hid (0≤(zH k).most∧(zH k).most≤65535):=vI k (zAK HK.out)
  generalize eF:zH k=f at *
  go_upto_region 9 with fail
  refine zI (fun W'=>D2 w W' I x0 f n0) zq16 ?_
  clear H p0 p1 p2 p3 p4 q0 q1 q2 q3 q4 fr0 fr1 fr2 fr3 fr4 lF lJ nF
  intro W2 h2
  have lJ:=zE h2.b
  have c11:W2.cell? ⟨I,11,none⟩=some (.int .u16 f.has):=zA h2.b 11
  have c13:W2.cell? ⟨I,13,none⟩=some (.int .i64 n0):=zA h2.b 13
  have f13:=zD h2.b 13
  have H2:Hid _:=h2
  clear h2
  go_upto_region 10 with (go_at_call 88;refine(vJ I 2 f.has _ zq12 c11 lJ).mono ?_;rintro e w9 ⟨rfl,rfl⟩)
  refine zI (fun W'=>D2 w W' I x0 f 2) zq34 ?_
  clear H2 c11 c13 f13 lJ
  intro W3 h3
  have lJ:=zE h3.b
  have c13:W3.cell? ⟨I,13,none⟩=some (.int .i64 2):=zA h3.b 13
  have H3:Hid _:=h3
  clear h3
  go_wp2
  go_ret
  exact⟨rfl,H3.out.ch⟩
 ·
  go_upto_region 8 with fail
  refine zI (fun W'=>DE w W' I w.heap.size (fdA x0 f0 n0) (zH k)) zq18 ?_
  intro W hD
  have p0:W.cell? ⟨w.heap.size,0,none⟩=some (.int .u8 (zH k).first):=zA hD.bf 0
  have fr0:=zD hD.b 8
  have q0:W.cell? ⟨I,8,none⟩=some (.int .u8 f0.first):=zA hD.b 8
  have p1:W.cell? ⟨w.heap.size,1,none⟩=some (.int .u8 (zH k).last):=zA hD.bf 1
  have fr1:=zD hD.b 9
  have q1:W.cell? ⟨I,9,none⟩=some (.int .u8 f0.last):=zA hD.b 9
  have p2:W.cell? ⟨w.heap.size,2,none⟩=some (.int .u8 (zH k).kind):=zA hD.bf 2
  have fr2:=zD hD.b 10
  have q2:W.cell? ⟨I,10,none⟩=some (.int .u8 f0.kind):=zA hD.b 10
  have p3:W.cell? ⟨w.heap.size,3,none⟩=some (.int .u16 (zH k).has):=zA hD.bf 3
  have fr3:=zD hD.b 11
  have q3:W.cell? ⟨I,11,none⟩=some (.int .u16 f0.has):=zA hD.b 11
  have p4:W.cell? ⟨w.heap.size,4,none⟩=some (.int .u16 (zH k).most):=zA hD.bf 4
  have fr4:=zD hD.b 12
  have q4:W.cell? ⟨I,12,none⟩=some (.int .u16 f0.most):=zA hD.b 12
  have lF:=zE hD.bf
  have lJ:=zE hD.b
  have nF:¬w.heap.size=I:=hD.ne
  have H:Hid _:=hD
  clear hD
  have HM:Hid (0≤(zH k).most∧(zH k).most≤65535):=vI k (zAK HK.out)
  generalize eF:zH k=f at *
  go_upto_region 9 with fail
  refine zI (fun W'=>D2 w W' I x0 f n0) zq16 ?_
  clear H p0 p1 p2 p3 p4 q0 q1 q2 q3 q4 fr0 fr1 fr2 fr3 fr4 lF lJ nF
  intro W2 h2
  have lJ:=zE h2.b
  have c11:W2.cell? ⟨I,11,none⟩=some (.int .u16 f.has):=zA h2.b 11
  have c13:W2.cell? ⟨I,13,none⟩=some (.int .i64 n0):=zA h2.b 13
  have f13:=zD h2.b 13
  have H2:Hid _:=h2
  clear h2
  go_upto_region 10 with (go_at_call 88;refine(vJ I 2 f.has _ zq12 c11 lJ).mono ?_;rintro e w9 ⟨rfl,rfl⟩)
  refine zI (fun W'=>D2 w W' I x0 f 2) zq34 ?_
  clear H2 c11 c13 f13 lJ
  intro W3 h3
  have lJ:=zE h3.b
  have c13:W3.cell? ⟨I,13,none⟩=some (.int .i64 2):=zA h3.b 13
  have H3:Hid _:=h3
  clear h3
  go_wp2
  go_ret
  exact⟨rfl,H3.out.ch⟩
 ·
  go_upto_region 8 with fail
  refine zI (fun W'=>DE w W' I w.heap.size (fdA x0 f0 n0) (zH k)) zq18 ?_
  intro W hD
  have p0:W.cell? ⟨w.heap.size,0,none⟩=some (.int .u8 (zH k).first):=zA hD.bf 0
  have fr0:=zD hD.b 8
  have q0:W.cell? ⟨I,8,none⟩=some (.int .u8 f0.first):=zA hD.b 8
  have p1:W.cell? ⟨w.heap.size,1,none⟩=some (.int .u8 (zH k).last):=zA hD.bf 1
  have fr1:=zD hD.b 9
  have q1:W.cell? ⟨I,9,none⟩=some (.int .u8 f0.last):=zA hD.b 9
  have p2:W.cell? ⟨w.heap.size,2,none⟩=some (.int .u8 (zH k).kind):=zA hD.bf 2
  have fr2:=zD hD.b 10
  have q2:W.cell? ⟨I,10,none⟩=some (.int .u8 f0.kind):=zA hD.b 10
  have p3:W.cell? ⟨w.heap.size,3,none⟩=some (.int .u16 (zH k).has):=zA hD.bf 3
  have fr3:=zD hD.b 11
  have q3:W.cell? ⟨I,11,none⟩=some (.int .u16 f0.has):=zA hD.b 11
  have p4:W.cell? ⟨w.heap.size,4,none⟩=some (.int .u16 (zH k).most):=zA hD.bf 4
  have fr4:=zD hD.b 12
  have q4:W.cell? ⟨I,12,none⟩=some (.int .u16 f0.most):=zA hD.b 12
  have lF:=zE hD.bf
  have lJ:=zE hD.b
  have nF:¬w.heap.size=I:=hD.ne
  have H:Hid _:=hD
  clear hD
  have HM:Hid (0≤(zH k).most∧(zH k).most≤65535):=vI k (zAK HK.out)
  generalize eF:zH k=f at *
  go_upto_region 9 with fail
  refine zI (fun W'=>D2 w W' I x0 f n0) zq16 ?_
  clear H p0 p1 p2 p3 p4 q0 q1 q2 q3 q4 fr0 fr1 fr2 fr3 fr4 lF lJ nF
  intro W2 h2
  have lJ:=zE h2.b
  have c11:W2.cell? ⟨I,11,none⟩=some (.int .u16 f.has):=zA h2.b 11
  have c13:W2.cell? ⟨I,13,none⟩=some (.int .i64 n0):=zA h2.b 13
  have f13:=zD h2.b 13
  have H2:Hid _:=h2
  clear h2
  go_upto_region 10 with (go_at_call 88;refine(vJ I 2 f.has _ zq12 c11 lJ).mono ?_;rintro e w9 ⟨rfl,rfl⟩)
  refine zI (fun W'=>D2 w W' I x0 f 2) zq34 ?_
  clear H2 c11 c13 f13 lJ
  intro W3 h3
  have lJ:=zE h3.b
  have c13:W3.cell? ⟨I,13,none⟩=some (.int .i64 2):=zA h3.b 13
  have H3:Hid _:=h3
  clear h3
  go_wp2
  go_ret
  exact⟨rfl,H3.out.ch⟩
theorem zHn(I b off len cap a:Nat)(ws:Nat→Nat)(x0:Cd)(f0:Fo)(n0:Int)(k:Nat)(w:World)(hI:w.heap[I]?=some (.cells (fdA x0 f0 n0) 174))(hr:WR w b off len ws)(hbI:b≠I)(hcap:len≤cap)(hl:len≤140737488355328)(ha:a < len∧len < a+3)(hk:hit ((ws a%256:Nat):Int)=some k)(hn:vR (zH k).has=3) :
  Calls Try.prog 91 #[.pointer (some ⟨I,0,none⟩),.slice (some ⟨b,off,none⟩) len cap,.int .i64 a] w fun e w'=>e=.returned (.int .i64 1)∧zJ [I] w w':=by
 have lI:=zE hI
 have lb:=hr.lb
 have v0:w.cell? ⟨b,off+a,none⟩=some (.int .u32 (ws a)):=hr.cell a aO
 have HV:Hid (ws a < 4294967296):=hr.lt a
 generalize eV:ws a=v at *
 have hm:bits .and .u32 (v:Int) 255=((v%256:Nat):Int):=zD6 v HV.out
 generalize eO:v%256=op at *
 have o0:(0:Int)≤op:=aO
 have o1:(op:Int) < 256:=aO
 have HK:Hid _:=hk
 have HW:Hid (IntKind.i64.wrap (op:Int)=op):=IntWalk.i64_in _ aO
 have nb0:¬b=w.heap.size:=aO
 have a0:(0:Int)≤a:=aO
 have a3:(len:Int) - a < 3:=aO
 have hw3:IntKind.i64.wrap ((len:Int) - a)=(len:Int) - a:=IntWalk.i64_in _ aO
 have a1:(a:Int) < len:=aO
 have a2:(a:Int)≤len:=aO
 have HI:Hid _:=hI
 have HN:Hid _:=hn
 have HR:Hid _:=hr
 have HNB:Hid _:=hbI
 clear hk hI hn hr hbI ha
 go_enter Try.func91,Try.ntmps91
 go_upto_region 5 with fail
 go_region_held3 (fun W'=>W'.cell? ⟨b,off+a,none⟩=some (.int .u32 v)) (first|(simp[go_sem,v0,lb,nb0];done)|(simp[go_sem,z0,lb1,nb1,nb0];done)) (first|(go_at_call 90;refine(zD9 _).mono ?_;rintro e w1 ⟨rfl,rfl⟩)|(go_at_call 70;refine(vD _ w.drew).mono ?_;rintro e w1 ⟨rfl,hb1⟩;(try rw[HW.out]);rw[HK.out];have z0:w1.cell? ⟨b,off+a,none⟩=some (.int .u32 v):=(hb1.cell (p:=⟨b,off+a,none⟩) lb).trans v0;have lb1:b < w1.heap.size:=zq36;have nb1:¬b=w1.heap.size:=aO;have HB2:Hid (Below w.heap.size w w1):=(vE hb1))|(go_at_call 70;refine(vD _ (w.alloc (.cells #[.int .u8 0,.int .u8 0,.int .u8 0,.int .u16 0,.int .u16 0] 146)).drew).mono ?_;rintro e w1 ⟨rfl,hb1⟩;(try rw[HW.out]);rw[HK.out];have b1:w1.heap[w.heap.size]?=some (.cells #[.int .u8 0,.int .u8 0,.int .u8 0,.int .u16 0,.int .u16 0] 146):=(hb1.block w.heap.size aS).trans (heap_alloc_last w _);have y0:w1.cell? ⟨w.heap.size,0,none⟩=some (.int .u8 0):=zA b1 0;have g0:=zD b1 0;have y1:w1.cell? ⟨w.heap.size,1,none⟩=some (.int .u8 0):=zA b1 1;have g1:=zD b1 1;have y2:w1.cell? ⟨w.heap.size,2,none⟩=some (.int .u8 0):=zA b1 2;have g2:=zD b1 2;have y3:w1.cell? ⟨w.heap.size,3,none⟩=some (.int .u16 0):=zA b1 3;have g3:=zD b1 3;have y4:w1.cell? ⟨w.heap.size,4,none⟩=some (.int .u16 0):=zA b1 4;have g4:=zD b1 4;have lw1:=zE b1;have z0:w1.cell? ⟨b,off+a,none⟩=some (.int .u32 v):=(hb1.cell (p:=⟨b,off+a,none⟩) zq19).trans ((World.cell?_alloc_past _ _ _ lb).trans v0);have lb1:b < w1.heap.size:=aO;have nb1:¬b=w1.heap.size:=aO;have HB1:Hid (Below (w.alloc (.cells #[.int .u8 0,.int .u8 0,.int .u8 0,.int .u16 0,.int .u16 0] 146)).heap.size (w.alloc (.cells #[.int .u8 0,.int .u8 0,.int .u8 0,.int .u16 0,.int .u16 0] 146)) w1):=(aB.drew).trans hb1))
 ·
  go_upto_region 8 with fail
  refine zI (fun W'=>DE w W' I w1.heap.size (fdA x0 f0 n0) (zH k)) zq32 ?_
  intro W hD
  have p0:W.cell? ⟨w1.heap.size,0,none⟩=some (.int .u8 (zH k).first):=zA hD.bf 0
  have fr0:=zD hD.b 8
  have q0:W.cell? ⟨I,8,none⟩=some (.int .u8 f0.first):=zA hD.b 8
  have p1:W.cell? ⟨w1.heap.size,1,none⟩=some (.int .u8 (zH k).last):=zA hD.bf 1
  have fr1:=zD hD.b 9
  have q1:W.cell? ⟨I,9,none⟩=some (.int .u8 f0.last):=zA hD.b 9
  have p2:W.cell? ⟨w1.heap.size,2,none⟩=some (.int .u8 (zH k).kind):=zA hD.bf 2
  have fr2:=zD hD.b 10
  have q2:W.cell? ⟨I,10,none⟩=some (.int .u8 f0.kind):=zA hD.b 10
  have p3:W.cell? ⟨w1.heap.size,3,none⟩=some (.int .u16 (zH k).has):=zA hD.bf 3
  have fr3:=zD hD.b 11
  have q3:W.cell? ⟨I,11,none⟩=some (.int .u16 f0.has):=zA hD.b 11
  have p4:W.cell? ⟨w1.heap.size,4,none⟩=some (.int .u16 (zH k).most):=zA hD.bf 4
  have fr4:=zD hD.b 12
  have q4:W.cell? ⟨I,12,none⟩=some (.int .u16 f0.most):=zA hD.b 12
  have lF:=zE hD.bf
  have lJ:=zE hD.b
  have nF:¬w1.heap.size=I:=hD.ne
  have H:Hid _:=hD
  clear hD
  have HM:Hid (0≤(zH k).most∧(zH k).most≤65535):=vI k (zAK HK.out)
  generalize eF:zH k=f at *
  go_upto_region 9 with fail
  refine zI (fun W'=>D2 w W' I x0 f n0) zq16 ?_
  clear H p0 p1 p2 p3 p4 q0 q1 q2 q3 q4 fr0 fr1 fr2 fr3 fr4 lF lJ nF
  intro W2 h2
  have lJ:=zE h2.b
  have c11:W2.cell? ⟨I,11,none⟩=some (.int .u16 f.has):=zA h2.b 11
  have c13:W2.cell? ⟨I,13,none⟩=some (.int .i64 n0):=zA h2.b 13
  have f13:=zD h2.b 13
  have H2:Hid _:=h2
  clear h2
  go_upto_region 10 with (go_at_call 88;refine(vJ I 3 f.has _ zq12 c11 lJ).mono ?_;rintro e w9 ⟨rfl,rfl⟩)
  refine zI (fun W'=>D2 w W' I x0 f 3) zq35 ?_
  clear H2 c11 c13 f13 lJ
  intro W3 h3
  have lJ:=zE h3.b
  have c13:W3.cell? ⟨I,13,none⟩=some (.int .i64 3):=zA h3.b 13
  have H3:Hid _:=h3
  clear h3
  go_wp2
  go_ret
  exact⟨rfl,H3.out.ch⟩
 ·
  go_upto_region 8 with fail
  refine zI (fun W'=>DE w W' I w.heap.size (fdA x0 f0 n0) (zH k)) zq18 ?_
  intro W hD
  have p0:W.cell? ⟨w.heap.size,0,none⟩=some (.int .u8 (zH k).first):=zA hD.bf 0
  have fr0:=zD hD.b 8
  have q0:W.cell? ⟨I,8,none⟩=some (.int .u8 f0.first):=zA hD.b 8
  have p1:W.cell? ⟨w.heap.size,1,none⟩=some (.int .u8 (zH k).last):=zA hD.bf 1
  have fr1:=zD hD.b 9
  have q1:W.cell? ⟨I,9,none⟩=some (.int .u8 f0.last):=zA hD.b 9
  have p2:W.cell? ⟨w.heap.size,2,none⟩=some (.int .u8 (zH k).kind):=zA hD.bf 2
  have fr2:=zD hD.b 10
  have q2:W.cell? ⟨I,10,none⟩=some (.int .u8 f0.kind):=zA hD.b 10
  have p3:W.cell? ⟨w.heap.size,3,none⟩=some (.int .u16 (zH k).has):=zA hD.bf 3
  have fr3:=zD hD.b 11
  have q3:W.cell? ⟨I,11,none⟩=some (.int .u16 f0.has):=zA hD.b 11
  have p4:W.cell? ⟨w.heap.size,4,none⟩=some (.int .u16 (zH k).most):=zA hD.bf 4
  have fr4:=zD hD.b 12
  have q4:W.cell? ⟨I,12,none⟩=some (.int .u16 f0.most):=zA hD.b 12
  have lF:=zE hD.bf
  have lJ:=zE hD.b
  have nF:¬w.heap.size=I:=hD.ne
  have H:Hid _:=hD
  clear hD
  have HM:Hid (0≤(zH k).most∧(zH k).most≤65535):=vI k (zAK HK.out)
  generalize eF:zH k=f at *
  go_upto_region 9 with fail
  refine zI (fun W'=>D2 w W' I x0 f n0) zq16 ?_
  clear H p0 p1 p2 p3 p4 q0 q1 q2 q3 q4 fr0 fr1 fr2 fr3 fr4 lF lJ nF
  intro W2 h2
  have lJ:=zE h2.b
  have c11:W2.cell? ⟨I,11,none⟩=some (.int .u16 f.has):=zA h2.b 11
  have c13:W2.cell? ⟨I,13,none⟩=some (.int .i64 n0):=zA h2.b 13
  have f13:=zD h2.b 13
  have H2:Hid _:=h2
  clear h2
  go_upto_region 10 with (go_at_call 88;refine(vJ I 3 f.has _ zq12 c11 lJ).mono ?_;rintro e w9 ⟨rfl,rfl⟩)
  refine zI (fun W'=>D2 w W' I x0 f 3) zq35 ?_
  clear H2 c11 c13 f13 lJ
  intro W3 h3
  have lJ:=zE h3.b
  have c13:W3.cell? ⟨I,13,none⟩=some (.int .i64 3):=zA h3.b 13
  have H3:Hid _:=h3
  clear h3
  go_wp2
  go_ret
  exact⟨rfl,H3.out.ch⟩
 ·
  go_upto_region 8 with fail
  refine zI (fun W'=>DE w W' I w.heap.size (fdA x0 f0 n0) (zH k)) zq18 ?_
  intro W hD
  have p0:W.cell? ⟨w.heap.size,0,none⟩=some (.int .u8 (zH k).first):=zA hD.bf 0
  have fr0:=zD hD.b 8
  have q0:W.cell? ⟨I,8,none⟩=some (.int .u8 f0.first):=zA hD.b 8
  have p1:W.cell? ⟨w.heap.size,1,none⟩=some (.int .u8 (zH k).last):=zA hD.bf 1
  have fr1:=zD hD.b 9
  have q1:W.cell? ⟨I,9,none⟩=some (.int .u8 f0.last):=zA hD.b 9
  have p2:W.cell? ⟨w.heap.size,2,none⟩=some (.int .u8 (zH k).kind):=zA hD.bf 2
  have fr2:=zD hD.b 10
  have q2:W.cell? ⟨I,10,none⟩=some (.int .u8 f0.kind):=zA hD.b 10
  have p3:W.cell? ⟨w.heap.size,3,none⟩=some (.int .u16 (zH k).has):=zA hD.bf 3
  have fr3:=zD hD.b 11
  have q3:W.cell? ⟨I,11,none⟩=some (.int .u16 f0.has):=zA hD.b 11
  have p4:W.cell? ⟨w.heap.size,4,none⟩=some (.int .u16 (zH k).most):=zA hD.bf 4
  have fr4:=zD hD.b 12
  have q4:W.cell? ⟨I,12,none⟩=some (.int .u16 f0.most):=zA hD.b 12
  have lF:=zE hD.bf
  have lJ:=zE hD.b
  have nF:¬w.heap.size=I:=hD.ne
  have H:Hid _:=hD
  clear hD
  have HM:Hid (0≤(zH k).most∧(zH k).most≤65535):=vI k (zAK HK.out)
  generalize eF:zH k=f at *
  go_upto_region 9 with fail
  refine zI (fun W'=>D2 w W' I x0 f n0) zq16 ?_
  clear H p0 p1 p2 p3 p4 q0 q1 q2 q3 q4 fr0 fr1 fr2 fr3 fr4 lF lJ nF
  intro W2 h2
  have lJ:=zE h2.b
  have c11:W2.cell? ⟨I,11,none⟩=some (.int .u16 f.has):=zA h2.b 11
  have c13:W2.cell? ⟨I,13,none⟩=some (.int .i64 n0):=zA h2.b 13
  have f13:=zD h2.b 13
  have H2:Hid _:=h2
  clear h2
  go_upto_region 10 with (go_at_call 88;refine(vJ I 3 f.has _ zq12 c11 lJ).mono ?_;rintro e w9 ⟨rfl,rfl⟩)
  refine zI (fun W'=>D2 w W' I x0 f 3) zq35 ?_
  clear H2 c11 c13 f13 lJ
  intro W3 h3
  have lJ:=zE h3.b
  have c13:W3.cell? ⟨I,13,none⟩=some (.int .i64 3):=zA h3.b 13
  have H3:Hid _:=h3
  clear h3
  go_wp2
  go_ret
  exact⟨rfl,H3.out.ch⟩
structure Dc where
 e:Int
 x:Cd
 f:Fo
 n:Nat
def zC:Cd:=⟨0,0,0,0,0,0,0,0⟩
def zF:Fo:=⟨0,0,0,0,0⟩
def yB(ws:Nat→Nat)(len:Nat)(at':Int):Dc:=
 if at' < 0∨(len:Int) < at' then⟨4,zC,zF,0⟩ else if at'=len then⟨1,zC,zF,0⟩
 else match hit ((ws at'.toNat%256:Nat):Int) with
  | none=>⟨2,zC,zF,0⟩
  | some k=>
   if(len:Int) < at'+vR (zH k).has then⟨1,zC,zF,0⟩
   else let x:=rdX (zH k).has (ws at'.toNat) (if 1 < vR (zH k).has then ws (at'.toNat+1) else 0) (if 2 < vR (zH k).has then ws (at'.toNat+2) else 0)
    if dcE (zH k) (ws at'.toNat) x=0 then⟨0,x,zH k,vR (zH k).has⟩ else⟨3,zC,zF,0⟩
theorem zAd(h:Int):vR h=1∨vR h=2∨vR h=3:=by unfold vR;split<;>(try split)<;>simp
theorem zDz(f:Fo)(v:Nat)(x:Cd):dcE f v x=0∨dcE f v x=3:=by unfold dcE;split<;>simp
theorem zRi(c:Prop)[Decidable c](x:Cd)(f:Fo)(n:Nat):(if c then(⟨0,x,f,n⟩:Dc) else⟨3,zC,zF,0⟩).e≠0→(if c then(⟨0,x,f,n⟩:Dc) else⟨3,zC,zF,0⟩).x=zC∧(if c then(⟨0,x,f,n⟩:Dc) else⟨3,zC,zF,0⟩).n=0:=by
 split
 ·intro h;exact absurd rfl h
 ·intro _;exact⟨rfl,rfl⟩
theorem zK0(ws:Nat→Nat)(len:Nat)(at':Int):(yB ws len at').e≠0→(yB ws len at').x=zC∧(yB ws len at').n=0:=by
 unfold yB
 split
 ·intro _;exact⟨rfl,rfl⟩
 ·split
  ·intro _;exact⟨rfl,rfl⟩
  ·split
   ·intro _;exact⟨rfl,rfl⟩
   ·split
    ·intro _;exact⟨rfl,rfl⟩
    ·exact zRi _ _ _ _
def Wds(w:World)(a:Option Addr)(len cap:Nat)(ws:Nat→Nat):Prop:=len=0∨∃ b off,a=some ⟨b,off,none⟩∧len≤cap∧len≤140737488355328∧WR w b off len ws
theorem zHo(I:Nat)(a:Option Addr)(len cap:Nat)(at':Int)(ws:Nat→Nat)(x0:Cd)(f0:Fo)(n0:Int)(w:World)(hI:w.heap[I]?=some (.cells (fdA x0 f0 n0) 174))(hw:Wds w a len cap ws)(hne:∀ b off,a=some ⟨b,off,none⟩→b≠I) :
  Calls Try.prog 91 #[.pointer (some ⟨I,0,none⟩),.slice a len cap,.int .i64 at'] w fun e w'=>e=.returned (.int .i64 (yB ws len at').e)∧((yB ws len at').e=0→w'.heap[I]?=some (.cells (fdA (yB ws len at').x (yB ws len at').f (yB ws len at').n) 174))∧zJ [I] w w':=by
 have hl:len≤140737488355328:=by rcases hw with h|⟨b,off,_,_,h,_⟩<;>omega
 by_cases h1:at' < 0∨(len:Int) < at'
 ·refine(zIc _ a len cap at' w aO h1).mono ?_
  rintro e w' ⟨rfl,rfl⟩
  unfold yB;rw[if_pos h1]
  exact⟨rfl,fun h=>absurd h aD,zJ.refl _ _⟩
 ·by_cases h2:at'=len
  ·subst h2
   refine(zId _ a len cap w aO).mono ?_
   rintro e w' ⟨rfl,rfl⟩
   unfold yB;rw[if_neg h1,if_pos rfl]
   exact⟨rfl,fun h=>absurd h aD,zJ.refl _ _⟩
  ·rcases hw with h|⟨b,off,rfl,hcap,_,hr⟩
   ·exfalso;omega
   ·obtain⟨m,rfl⟩:∃ m:Nat,at'=m:=⟨at'.toNat,by omega⟩
    have hm:m < len:=aO
    have hb:=hne b off rfl
    unfold yB
    rw[if_neg h1,if_neg h2]
    simp only[Int.toNat_natCast]
    cases hk:hit ((ws m%256:Nat):Int) with
    | none=>
     dsimp only
     refine(zK2 I b off len cap m ws x0 f0 n0 w hI hr hb hcap hl hm hk).mono ?_
     rintro e w' ⟨rfl,hc⟩
     exact⟨rfl,fun h=>absurd h aD,hc⟩
    | some k=>
     simp only[]
     by_cases h3:(len:Int) < m+vR (zH k).has
     ·rw[if_pos h3]
      rcases zAd (zH k).has with hz|hz|hz
      ·exfalso;omega
      ·refine(zHm I b off len cap m ws x0 f0 n0 k w hI hr hb hcap hl ⟨hm,by omega⟩ hk hz).mono ?_
       rintro e w' ⟨rfl,hc⟩
       exact⟨rfl,fun h=>absurd h aD,hc⟩
      ·refine(zHn I b off len cap m ws x0 f0 n0 k w hI hr hb hcap hl ⟨hm,by omega⟩ hk hz).mono ?_
       rintro e w' ⟨rfl,hc⟩
       exact⟨rfl,fun h=>absurd h aD,hc⟩
     ·rw[if_neg h3]
      rcases zAd (zH k).has with hz|hz|hz
      ·rw[hz]
       refine(zM3 I b off len cap m ws x0 f0 n0 k w hI hr hb hcap hl aO hk hz).mono ?_
       rintro e w' ⟨rfl,hB,hc⟩
       simp only[show ¬(1:Nat) < 1 from by decide,show ¬(2:Nat) < 1 from by decide,if_true,if_false]
       rcases zDz (zH k) (ws m) (rdX (zH k).has (ws m) 0 0) with he|he
       ·rw[if_pos he,he];exact⟨rfl,fun _=>hB,hc⟩
       ·rw[if_neg (by rw[he];decide),he];exact⟨rfl,fun h=>absurd h aD,hc⟩
      ·rw[hz]
       refine(zM4 I b off len cap m ws x0 f0 n0 k w hI hr hb hcap hl aO hk hz).mono ?_
       rintro e w' ⟨rfl,hB,hc⟩
       simp only[show(1:Nat) < 2 from by decide,show ¬(2:Nat) < 2 from by decide,if_true,if_false]
       rcases zDz (zH k) (ws m) (rdX (zH k).has (ws m) (ws (m+1)) 0) with he|he
       ·rw[if_pos he,he];exact⟨rfl,fun _=>hB,hc⟩
       ·rw[if_neg (by rw[he];decide),he];exact⟨rfl,fun h=>absurd h aD,hc⟩
      ·rw[hz]
       refine(zM5 I b off len cap m ws x0 f0 n0 k w hI hr hb hcap hl aO hk hz).mono ?_
       rintro e w' ⟨rfl,hB,hc⟩
       simp only[show(1:Nat) < 3 from by decide,show(2:Nat) < 3 from by decide,if_true,if_false]
       rcases zDz (zH k) (ws m) (rdX (zH k).has (ws m) (ws (m+1)) (ws (m+2))) with he|he
       ·rw[if_pos he,he];exact⟨rfl,fun _=>hB,hc⟩
       ·rw[if_neg (by rw[he];decide),he];exact⟨rfl,fun h=>absurd h aD,hc⟩
theorem zED{w w':World}{a:Option Addr}{len cap:Nat}{ws:Nat→Nat}(h:Wds w a len cap ws)(b:Below w.heap.size w w'):Wds w' a len cap ws:=by
 rcases h with h|⟨B,off,ha,h1,h2,h3⟩
 ·exact .inl h
 ·exact .inr ⟨B,off,ha,h1,h2,fun i hi=>(b.cell (p:=⟨B,off+i,none⟩) h3.lb).trans (h3.cell i hi),h3.lt,Nat.lt_of_lt_of_le h3.lb b.size⟩
theorem Wds.lt{w:World}{a:Option Addr}{len cap:Nat}{ws:Nat→Nat}(h:Wds w a len cap ws):len=0∨∃ b off,a=some ⟨b,off,none⟩∧b < w.heap.size:=by
 rcases h with h|⟨B,off,ha,h1,h2,h3⟩
 ·exact .inl h
 ·exact .inr ⟨B,off,ha,h3.lb⟩
abbrev W2z(w:World):World:=(w.alloc (.cells (cdA ⟨0,0,0,0,0,0,0,0⟩) 80)).alloc (.cells (fdA ⟨0,0,0,0,0,0,0,0⟩ ⟨0,0,0,0,0⟩ 0) 174)
theorem zFZ(w:World):Below w.heap.size w (W2z w):=(aB.alloc aL _).alloc aS _
theorem zTd(w:World):(W2z w).heap[w.heap.size+1]?=some (.cells (fdA ⟨0,0,0,0,0,0,0,0⟩ ⟨0,0,0,0,0⟩ 0) 174):=by
 have e2:=heap_alloc_last (w.alloc (.cells (cdA ⟨0,0,0,0,0,0,0,0⟩) 80)) (.cells (fdA ⟨0,0,0,0,0,0,0,0⟩ ⟨0,0,0,0,0⟩ 0) 174)
 simp only[World.size_alloc] at e2
 exact e2
theorem zO1(w:World):(W2z w).heap[w.heap.size]?=some (.cells (cdA ⟨0,0,0,0,0,0,0,0⟩) 80):=by
 unfold W2z
 rw[Below.heap_alloc _ _ _ aS];exact heap_alloc_last w _
theorem zK1(a:Option Addr)(len cap:Nat)(at':Int)(ws:Nat→Nat)(w:World)(hw:Wds w a len cap ws) :
  Calls Try.prog 91 #[.pointer (some ⟨w.heap.size+1,0,none⟩),.slice a len cap,.int .i64 at'] (W2z w) fun e w'=>e=.returned (.int .i64 (yB ws len at').e)∧((yB ws len at').e=0→w'.heap[w.heap.size+1]?=some (.cells (fdA (yB ws len at').x (yB ws len at').f (yB ws len at').n) 174))∧zJ [w.heap.size+1] (W2z w) w':=by
 by_cases h0:len=0
 ·subst h0
  by_cases h1:at' < 0∨((0:Nat):Int) < at'
  ·refine(zIc _ a 0 cap at' _ aO h1).mono ?_
   rintro e w' ⟨rfl,rfl⟩
   have hd:yB ws 0 at'=⟨4,zC,zF,0⟩:=by unfold yB;rw[if_pos h1]
   rw[hd]
   exact⟨rfl,fun h=>absurd h aD,zJ.refl _ _⟩
  ·have h2:at'=((0:Nat):Int):=aO
   subst h2
   refine(zId _ a 0 cap _ aO).mono ?_
   rintro e w' ⟨rfl,rfl⟩
   have hd:yB ws 0 ((0:Nat):Int)=⟨1,zC,zF,0⟩:=by unfold yB;rw[if_neg h1,if_pos rfl]
   rw[hd]
   exact⟨rfl,fun h=>absurd h aD,zJ.refl _ _⟩
 ·rcases hw with h|⟨B,off,rfl,h1,h2,h3⟩
  ·exact absurd h h0
  ·exact zHo (w.heap.size+1) _ len cap at' ws _ _ _ _ (zTd w) (zED (.inr ⟨B,off,rfl,h1,h2,h3⟩) (zFZ w)) (fun b o e=>by injection e with e;injection e with e1 e2 e3;have:=h3.lb;omega)
theorem zHd(a:Option Addr)(len cap:Nat)(at':Int)(ws:Nat→Nat)(w:World)(hw:Wds w a len cap ws) :
  Calls Try.prog 72 #[.slice a len cap,.int .i64 at'] w fun e w'=>e=.returned (.tuple #[cdV (yB ws len at').x,.int .i64 (yB ws len at').n,.int .i64 (yB ws len at').e])∧Below w.heap.size w w':=by
 have HC:Hid _:=zK1 a len cap at' ws w hw
 have HZ:Hid ((yB ws len at').e≠0→(yB ws len at').x=zC∧(yB ws len at').n=0):=zK0 ws len at'
 generalize eD:yB ws len at'=D at *
 by_cases h0:D.e=0
 ·have hne:(D.e !=0)=false:=by simp[h0]
  go_enter Try.func72,Try.ntmps72
  go_upto_region 5 with (go_at_call 91;refine Calls.mono HC.out ?_;rintro e w1 ⟨rfl,hb1,hc1⟩;have HB1:Hid _:=hb1;have HC1:Hid _:=hc1;clear hb1 hc1)
  have hb:=HB1.out h0
  have hr:=HC1.out.keep (zO1 w) aS
  have HBe:Hid (Below w.heap.size w w1):=(zFZ w).trans (HC1.out.below zq19 aS)
  have k0:w1.cell? ⟨w.heap.size+1,0,none⟩=some (.int .i64 D.x.op):=zA hb 0
  have k1:w1.cell? ⟨w.heap.size+1,1,none⟩=some (.int .i64 D.x.d):=zA hb 1
  have k2:w1.cell? ⟨w.heap.size+1,2,none⟩=some (.int .i64 D.x.a):=zA hb 2
  have k3:w1.cell? ⟨w.heap.size+1,3,none⟩=some (.int .i64 D.x.b):=zA hb 3
  have k4:w1.cell? ⟨w.heap.size+1,4,none⟩=some (.int .i64 D.x.c):=zA hb 4
  have k5:w1.cell? ⟨w.heap.size+1,5,none⟩=some (.int .i64 D.x.n):=zA hb 5
  have k6:w1.cell? ⟨w.heap.size+1,6,none⟩=some (.int .u32 D.x.k):=zA hb 6
  have k7:w1.cell? ⟨w.heap.size+1,7,none⟩=some (.int .u32 D.x.x):=zA hb 7
  have k13:w1.cell? ⟨w.heap.size+1,13,none⟩=some (.int .i64 D.n):=zA hb 13
  have r0:w1.cell? ⟨w.heap.size,0,none⟩=some (.int .i64 0):=zA hr 0
  have z0:=zD hr 0
  have r1:w1.cell? ⟨w.heap.size,1,none⟩=some (.int .i64 0):=zA hr 1
  have z1:=zD hr 1
  have r2:w1.cell? ⟨w.heap.size,2,none⟩=some (.int .i64 0):=zA hr 2
  have z2:=zD hr 2
  have r3:w1.cell? ⟨w.heap.size,3,none⟩=some (.int .i64 0):=zA hr 3
  have z3:=zD hr 3
  have r4:w1.cell? ⟨w.heap.size,4,none⟩=some (.int .i64 0):=zA hr 4
  have z4:=zD hr 4
  have r5:w1.cell? ⟨w.heap.size,5,none⟩=some (.int .i64 0):=zA hr 5
  have z5:=zD hr 5
  have r6:w1.cell? ⟨w.heap.size,6,none⟩=some (.int .u32 0):=zA hr 6
  have z6:=zD hr 6
  have r7:w1.cell? ⟨w.heap.size,7,none⟩=some (.int .u32 0):=zA hr 7
  have z7:=zD hr 7
  have lI:=zE hb
  have lr:=zE hr
  clear hb hr HB1 HC1
  go_region_held3 (fun W'=>W'.cell? ⟨w.heap.size+1,0,none⟩=some (.int .i64 D.x.op)∧W'.cell? ⟨w.heap.size+1,1,none⟩=some (.int .i64 D.x.d)∧W'.cell? ⟨w.heap.size+1,2,none⟩=some (.int .i64 D.x.a)∧W'.cell? ⟨w.heap.size+1,3,none⟩=some (.int .i64 D.x.b)∧W'.cell? ⟨w.heap.size+1,4,none⟩=some (.int .i64 D.x.c)∧W'.cell? ⟨w.heap.size+1,5,none⟩=some (.int .i64 D.x.n)∧W'.cell? ⟨w.heap.size+1,6,none⟩=some (.int .u32 D.x.k)∧W'.cell? ⟨w.heap.size+1,7,none⟩=some (.int .u32 D.x.x)∧W'.cell? ⟨w.heap.size+1,13,none⟩=some (.int .i64 D.n)) ((simp[go_sem,k0,k1,k2,k3,k4,k5,k6,k7,k13];done)) (fail)
  go_wp2
  refine bodyPost_ret (v:=.tuple #[cdV D.x,.int .i64 D.n,.int .i64 0]) (by simp[results,Try.results72,go_sem,r0,r1,r2,r3,r4,r5,r6,r7,lr]) rfl ⟨by rw[h0],?_⟩
  exact zq48
 ·have hne:(D.e !=0)=true:=by simp[h0]
  obtain⟨hx,hn⟩:=HZ.out h0
  go_enter Try.func72,Try.ntmps72
  go_upto_region 4 with (go_at_call 91;refine Calls.mono HC.out ?_;rintro e w1 ⟨rfl,hb1,hc1⟩;have HC1:Hid _:=hc1;clear hb1 hc1)
  have hr:=HC1.out.keep (zO1 w) aS
  have HBe:Hid (Below w.heap.size w w1):=(zFZ w).trans (HC1.out.below zq19 aS)
  have r0:w1.cell? ⟨w.heap.size,0,none⟩=some (.int .i64 0):=zA hr 0
  have z0:=zD hr 0
  have r1:w1.cell? ⟨w.heap.size,1,none⟩=some (.int .i64 0):=zA hr 1
  have z1:=zD hr 1
  have r2:w1.cell? ⟨w.heap.size,2,none⟩=some (.int .i64 0):=zA hr 2
  have z2:=zD hr 2
  have r3:w1.cell? ⟨w.heap.size,3,none⟩=some (.int .i64 0):=zA hr 3
  have z3:=zD hr 3
  have r4:w1.cell? ⟨w.heap.size,4,none⟩=some (.int .i64 0):=zA hr 4
  have z4:=zD hr 4
  have r5:w1.cell? ⟨w.heap.size,5,none⟩=some (.int .i64 0):=zA hr 5
  have z5:=zD hr 5
  have r6:w1.cell? ⟨w.heap.size,6,none⟩=some (.int .u32 0):=zA hr 6
  have z6:=zD hr 6
  have r7:w1.cell? ⟨w.heap.size,7,none⟩=some (.int .u32 0):=zA hr 7
  have z7:=zD hr 7
  have lr:=zE hr
  clear hr HC1
  go_wp2
  refine bodyPost_ret (v:=.tuple #[cdV zC,.int .i64 0,.int .i64 D.e]) (by simp[results,Try.results72,go_sem,zC,r0,r1,r2,r3,r4,r5,r6,r7,lr]) rfl ⟨by rw[hx,hn];rfl,?_⟩
  exact zq48
def wsE(n w0 k y:Nat):List Nat:=([w0,k,y]:List Nat).take n
def uP(l:List Nat):Nat→Nat:=fun i=>l.getD i 0
theorem zBU{h:Int}{w0 k y:Nat}:(wsE (vR h) w0 k y).length=vR h:=by
 rcases zAd h with e|e|e<;>rw[e]<;>rfl
theorem zIA(h:Int):vR h≤3:=by rcases zAd h with e|e|e<;>rw[e]<;>decide
theorem uS(a b:Cd)(h1:a.op=b.op)(h2:a.d=b.d)(h3:a.a=b.a)(h4:a.b=b.b)(h5:a.c=b.c)(h6:a.n=b.n)(h7:(a.k:Int)=b.k)(h8:(a.x:Int)=b.x):a=b:=by
 cases a;cases b;simp only at h1 h2 h3 h4 h5 h6 h7 h8
 have h7':=Int.ofNat.inj h7
 have h8':=Int.ofNat.inj h8
 subst h1 h2 h3 h4 h5 h6 h7' h8';rfl
def vZ(x:Cd):Int × List Nat:=
 match hit x.op with
 | none=>(2,[])
 | some k=>if(yB (uP (wsE (vR (zH k).has) (ly5 (zH k).has x) x.k x.x)) (vR (zH k).has) 0).e=0∧(yB (uP (wsE (vR (zH k).has) (ly5 (zH k).has x) x.k x.x)) (vR (zH k).has) 0).x=x then(0,wsE (vR (zH k).has) (ly5 (zH k).has x) x.k x.x) else(3,[])
theorem zDj{x:Cd}{k:Nat}(hk:hit x.op=some k)(h0:(yB (uP (wsE (vR (zH k).has) (ly5 (zH k).has x) x.k x.x)) (vR (zH k).has) 0).e=0)(hx:(yB (uP (wsE (vR (zH k).has) (ly5 (zH k).has x) x.k x.x)) (vR (zH k).has) 0).x=x):vZ x=(0,wsE (vR (zH k).has) (ly5 (zH k).has x) x.k x.x):=by
 unfold vZ;rw[hk];exact if_pos ⟨h0,hx⟩
theorem zFP{x:Cd}{k:Nat}(hk:hit x.op=some k)(h:¬((yB (uP (wsE (vR (zH k).has) (ly5 (zH k).has x) x.k x.x)) (vR (zH k).has) 0).e=0∧(yB (uP (wsE (vR (zH k).has) (ly5 (zH k).has x) x.k x.x)) (vR (zH k).has) 0).x=x)):vZ x=(3,[]):=by
 unfold vZ;rw[hk];exact if_neg h
def zQ9(w0 w:World)(sv:Value)(l:List Nat):Prop:=
 (l=[]∧sv=.slice none 0 0)∨∃ b cap,sv=.slice (some ⟨b,0,none⟩) l.length cap∧w0.heap.size≤b∧l.length≤cap∧l.length≤3∧WR w b 0 l.length (uP l)
theorem zQ4(h:Int):vR h≤140737488355328:=by rcases zAd h with e|e|e<;>rw[e]<;>decide
theorem zNQ(f:Fo)(x:Cd)(w:World)(hk:x.k < 4294967296)(hy:x.x < 4294967296) :
  Calls Try.prog 71 #[.agg (foA f),cdV x] w fun e w'=>∃ b,e=.returned (.slice (some ⟨b,0,none⟩) (vR f.has) (vR f.has))∧w.heap.size≤b∧WR w' b 0 (vR f.has) (uP (wsE (vR f.has) (ly5 f.has x) x.k x.x))∧Below w.heap.size w w':=by
 rcases zAd f.has with h|h|h
 ·refine(zLO f x w h).mono ?_
  rintro e w' ⟨rfl,hb,hbel⟩
  rw[h]
  refine⟨_,rfl,by omega,⟨fun i hi=>?_,fun i=>?_,zE hb⟩,hbel⟩
  ·rw[zA hb,Nat.zero_add]
   rcases(by omega:i=0) with rfl<;>rfl
  ·have h5:=zFG f.has x
   rcases i with _|_|_|i<;>simp[uP,wsE]<;>omega
 ·refine(zLP f x w h).mono ?_
  rintro e w' ⟨rfl,hb,hbel⟩
  rw[h]
  refine⟨_,rfl,by omega,⟨fun i hi=>?_,fun i=>?_,zE hb⟩,hbel⟩
  ·rw[zA hb,Nat.zero_add]
   rcases(by omega:i=0∨i=1) with rfl|rfl<;>rfl
  ·have h5:=zFG f.has x
   rcases i with _|_|_|i<;>simp[uP,wsE]<;>omega
 ·refine(zLQ f x w h).mono ?_
  rintro e w' ⟨rfl,hb,hbel⟩
  rw[h]
  refine⟨_,rfl,by omega,⟨fun i hi=>?_,fun i=>?_,zE hb⟩,hbel⟩
  ·rw[zA hb,Nat.zero_add]
   rcases(by omega:i=0∨i=1∨i=2) with rfl|rfl|rfl<;>rfl
  ·have h5:=zFG f.has x
   rcases i with _|_|_|i<;>simp[uP,wsE]<;>omega
structure EN1(w W:World)(x:Cd)(f:Fo)(BF:Nat):Prop where
 bx:W.heap[w.heap.size]?=some (.cells (cdA x) 80)
 bf:W.heap[BF]?=some (.cells (foA f) 146)
 bel:Below w.heap.size w W
theorem zIU{w w1:World}{x:Cd}(f:Fo)(h:Below (w.alloc (.cells (cdA x) 80)).heap.size (w.alloc (.cells (cdA x) 80)) w1):EN1 w (w1.alloc (.cells (foA f) 146)) x f w1.heap.size:=by
 have hs:=h.size
 simp at hs
 refine⟨?_,heap_alloc_last _ _,(((Below.refl w.heap.size w).alloc aL (.cells (cdA x) 80)).trans (h.mono aS)).alloc aO _⟩
 rw[Below.heap_alloc _ _ _ aO,h.block _ aS];exact heap_alloc_last _ _
structure EN2(w W:World)(x y:Cd)(BY b n:Nat)(ws:Nat→Nat):Prop where
 bx:W.heap[w.heap.size]?=some (.cells (cdA x) 80)
 by_:W.heap[BY]?=some (.cells (cdA y) 80)
 wr:WR W b 0 n ws
 gb:w.heap.size≤b
 bel:Below w.heap.size w W
theorem zIV{w W w2 w3:World}{x:Cd}{f:Fo}{BF b n:Nat}{ws:Nat→Nat}(y:Cd)(h:EN1 w W x f BF)(hb:W.heap.size≤b)(hr:WR w2 b 0 n ws)(h2:Below W.heap.size W w2)(h3:Below w2.heap.size w2 w3):EN2 w (w3.alloc (.cells (cdA y) 80)) x y w3.heap.size b n ws:=by
 have l1:=zE h.bx
 have s2:=h2.size
 have s3:=h3.size
 have s1:=h.bel.size
 refine⟨?_,heap_alloc_last _ _,⟨fun i hi=>?_,hr.lt,?_⟩,by omega,((h.bel.trans (h2.mono s1)).trans (h3.mono aO)).alloc aO _⟩
 ·rw[Below.heap_alloc _ _ _ aO,h3.block _ aO,h2.block _ l1];exact h.bx
 ·rw[World.cell?_alloc_past _ _ _ (by have:=hr.lb;show b < _;omega),h3.cell (p:=⟨b,0+i,none⟩) hr.lb];exact hr.cell i hi
 ·have:=hr.lb;simp;omega
theorem zK7(x:Cd)(w:World)(hk:hit x.op=none) :
  Calls Try.prog 49 #[cdV x] w fun e w'=>e=.returned (.tuple #[.slice none 0 0,.int .i64 2])∧Below w.heap.size w w':=by
 have HK:Hid _:=hk
 clear hk
 go_enter Try.func49,Try.ntmps49
 go_wp2_with (go_at_call 70;refine(vD _ _).mono ?_;rintro e w1 ⟨rfl,hb1⟩;rw[HK.out];have HB1:Hid _:=hb1;clear hb1)
 go_ret2
 exact⟨rfl,(((Below.refl w.heap.size w).alloc aL (.cells (cdA x) 80)).trans (HB1.out.mono aS)).alloc (by have:=HB1.out.size;simp at this;omega) _⟩
theorem zK8(x:Cd)(k:Nat)(w:World)(hk:hit x.op=some k)(h1:x.k < 4294967296)(h2:x.x < 4294967296)(D:Dc)(hD:yB (uP (wsE (vR (zH k).has) (ly5 (zH k).has x) x.k x.x)) (vR (zH k).has) 0=D) :
  Calls Try.prog 49 #[cdV x] w fun e w'=>∃ sv,e=.returned (.tuple #[sv,.int .i64 (vZ x).1])∧zQ9 w w' sv (vZ x).2∧Below w.heap.size w w':=by
 have HK:Hid _:=hk
 have HD:Hid _:=hD
 clear hk hD
 go_enter Try.func49,Try.ntmps49
 go_upto_region 4 with (go_at_call 70;refine(vD _ _).mono ?_;rintro e w1 ⟨rfl,hb1⟩;rw[HK.out];have HB1:Hid _:=hb1;clear hb1)
 refine zI (fun W'=>EN1 w W' x (zH k) w1.heap.size) (zIU (zH k) HB1.out) ?_
 intro W hE
 have k0:W.cell? ⟨w.heap.size,0,none⟩=some (.int .i64 x.op):=zA hE.bx 0
 have k1:W.cell? ⟨w.heap.size,1,none⟩=some (.int .i64 x.d):=zA hE.bx 1
 have k2:W.cell? ⟨w.heap.size,2,none⟩=some (.int .i64 x.a):=zA hE.bx 2
 have k3:W.cell? ⟨w.heap.size,3,none⟩=some (.int .i64 x.b):=zA hE.bx 3
 have k4:W.cell? ⟨w.heap.size,4,none⟩=some (.int .i64 x.c):=zA hE.bx 4
 have k5:W.cell? ⟨w.heap.size,5,none⟩=some (.int .i64 x.n):=zA hE.bx 5
 have k6:W.cell? ⟨w.heap.size,6,none⟩=some (.int .u32 x.k):=zA hE.bx 6
 have k7:W.cell? ⟨w.heap.size,7,none⟩=some (.int .u32 x.x):=zA hE.bx 7
 have p0:W.cell? ⟨w1.heap.size,0,none⟩=some (.int .u8 (zH k).first):=zA hE.bf 0
 have p1:W.cell? ⟨w1.heap.size,1,none⟩=some (.int .u8 (zH k).last):=zA hE.bf 1
 have p2:W.cell? ⟨w1.heap.size,2,none⟩=some (.int .u8 (zH k).kind):=zA hE.bf 2
 have p3:W.cell? ⟨w1.heap.size,3,none⟩=some (.int .u16 (zH k).has):=zA hE.bf 3
 have p4:W.cell? ⟨w1.heap.size,4,none⟩=some (.int .u16 (zH k).most):=zA hE.bf 4
 have lx:=zE hE.bx
 have lf:=zE hE.bf
 have HE:Hid _:=hE
 clear hE
 go_upto_region 6 with (first|(go_at_call 71;refine(zNQ (zH k) x W h1 h2).mono ?_;rintro e w2 ⟨b,rfl,hb2,hr2,hl2⟩;have HB2:Hid _:=hb2;have HR2:Hid _:=hr2;have HL2:Hid _:=hl2;clear hb2 hr2 hl2)|(go_at_call 72;refine(zHd (some ⟨b,0,none⟩) (vR (zH k).has) (vR (zH k).has) 0 (uP (wsE (vR (zH k).has) (ly5 (zH k).has x) x.k x.x)) w2 (.inr ⟨b,0,rfl,Nat.le_refl _,zQ4 _,HR2.out⟩)).mono ?_;rintro e w3 ⟨rfl,hb3⟩;rw[HD.out];have HB3:Hid _:=hb3;clear hb3))
 refine zI (fun W'=>EN2 w W' x D.x w3.heap.size b (vR (zH k).has) (uP (wsE (vR (zH k).has) (ly5 (zH k).has x) x.k x.x))) (zIV D.x HE.out HB2.out HR2.out HL2.out HB3.out) ?_
 clear HE k0 k1 k2 k3 k4 k5 k6 k7 p0 p1 p2 p3 p4 lx lf HB1 HB2 HR2 HL2 HB3
 intro V hV
 have k0:V.cell? ⟨w.heap.size,0,none⟩=some (.int .i64 x.op):=zA hV.bx 0
 have y0:V.cell? ⟨w3.heap.size,0,none⟩=some (.int .i64 D.x.op):=zA hV.by_ 0
 have k1:V.cell? ⟨w.heap.size,1,none⟩=some (.int .i64 x.d):=zA hV.bx 1
 have y1:V.cell? ⟨w3.heap.size,1,none⟩=some (.int .i64 D.x.d):=zA hV.by_ 1
 have k2:V.cell? ⟨w.heap.size,2,none⟩=some (.int .i64 x.a):=zA hV.bx 2
 have y2:V.cell? ⟨w3.heap.size,2,none⟩=some (.int .i64 D.x.a):=zA hV.by_ 2
 have k3:V.cell? ⟨w.heap.size,3,none⟩=some (.int .i64 x.b):=zA hV.bx 3
 have y3:V.cell? ⟨w3.heap.size,3,none⟩=some (.int .i64 D.x.b):=zA hV.by_ 3
 have k4:V.cell? ⟨w.heap.size,4,none⟩=some (.int .i64 x.c):=zA hV.bx 4
 have y4:V.cell? ⟨w3.heap.size,4,none⟩=some (.int .i64 D.x.c):=zA hV.by_ 4
 have k5:V.cell? ⟨w.heap.size,5,none⟩=some (.int .i64 x.n):=zA hV.bx 5
 have y5:V.cell? ⟨w3.heap.size,5,none⟩=some (.int .i64 D.x.n):=zA hV.by_ 5
 have k6:V.cell? ⟨w.heap.size,6,none⟩=some (.int .u32 x.k):=zA hV.bx 6
 have y6:V.cell? ⟨w3.heap.size,6,none⟩=some (.int .u32 D.x.k):=zA hV.by_ 6
 have k7:V.cell? ⟨w.heap.size,7,none⟩=some (.int .u32 x.x):=zA hV.bx 7
 have y7:V.cell? ⟨w3.heap.size,7,none⟩=some (.int .u32 D.x.x):=zA hV.by_ 7
 have lx:=zE hV.bx
 have ly:=zE hV.by_
 have HV:Hid _:=hV
 clear hV
 by_cases e0:D.e=0
 ·have g0:(D.e !=0)=false:=by simp[e0]
  go_wp2
  ·have hx:D.x=x:=uS _ _ (by assumption) (by assumption) (by assumption) (by assumption) (by assumption) (by assumption) (by assumption) (by assumption)
   go_ret2
   have hl:=zDj HK.out (by rw[HD.out];exact e0) (by rw[HD.out];exact hx)
   exact⟨_,by rw[hl];rfl,by rw[hl];exact .inr ⟨b,vR (zH k).has,by rw[zBU];rfl,HV.out.gb,by rw[zBU];exact Nat.le_refl _,by rw[zBU];exact zIA _,by rw[zBU];exact HV.out.wr⟩,HV.out.bel⟩
  all_goals
   have hx:¬D.x=x:=by
    intro e;first|exact absurd (congrArg Cd.op e) (by assumption)|exact absurd (congrArg Cd.d e) (by assumption)|exact absurd (congrArg Cd.a e) (by assumption)|exact absurd (congrArg Cd.b e) (by assumption)|exact absurd (congrArg Cd.c e) (by assumption)|exact absurd (congrArg Cd.n e) (by assumption)|exact absurd (congrArg (fun z=>((Cd.k z:Nat):Int)) e) (by assumption)|exact absurd (congrArg (fun z=>((Cd.x z:Nat):Int)) e) (by assumption)
   go_ret2
   have hl:=zFP HK.out (by rw[HD.out];exact fun h=>hx h.2)
   exact⟨_,by rw[hl];rfl,by rw[hl];exact .inl ⟨rfl,rfl⟩,HV.out.bel⟩
 ·have g0:(D.e !=0)=true:=by simp[e0]
  go_wp2
  go_ret2
  have hl:=zFP HK.out (by rw[HD.out];exact fun h=>e0 h.1)
  exact⟨_,by rw[hl];rfl,by rw[hl];exact .inl ⟨rfl,rfl⟩,HV.out.bel⟩
theorem zHe(x:Cd)(w:World)(h1:x.k < 4294967296)(h2:x.x < 4294967296) :
  Calls Try.prog 49 #[cdV x] w fun e w'=>∃ sv,e=.returned (.tuple #[sv,.int .i64 (vZ x).1])∧zQ9 w w' sv (vZ x).2∧Below w.heap.size w w':=by
 cases hk:hit x.op with
 | none=>
  refine(zK7 x w hk).mono ?_
  rintro e w' ⟨rfl,hb⟩
  have hl:vZ x=(2,[]):=by unfold vZ;rw[hk]
  rw[hl]
  exact⟨_,rfl,.inl ⟨rfl,rfl⟩,hb⟩
 | some k=>exact zK8 x k w hk h1 h2 _ rfl
end Go.Proofs.Ytkmjenjahbicpaa.Ho
