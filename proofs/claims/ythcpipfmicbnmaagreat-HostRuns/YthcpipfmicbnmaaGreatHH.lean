import Derived.Test.YthcpipfmicbnmaaGreatHD
set_option linter.unusedVariables false
set_option linter.unusedSimpArgs false
set_option maxHeartbeats 4000000
namespace Go.Proofs.YthcpipfmicbnmaaGreat.Ho
open Go.RowKit
set_option maxRecDepth 100000
theorem zIN(I b off len cap a:Nat)(ws:Nat→Nat)(x0:Cd)(f0:Fo)(n0:Int)(w:World)(hI:w.heap[I]?=some (.cells (yT x0 f0 n0) 90))(hr:WR w b off len ws)(hbI:b≠I)(hcap:len≤cap)(hl:len≤140737488355328)(ha:a < len)(hk:hit ((ws a%256:Nat):Int)=none) :
  Calls Tryz.prog 33 #[.pointer (some ⟨I,0,none⟩),.slice (some ⟨b,off,none⟩) len cap,.int .i64 a] w fun e w'=>e=.returned (.int .i64 2)∧zI [I] w w':=by
 have lI:=zE hI
 have lb:=hr.lb
 have v0:w.cell? ⟨b,off+a,none⟩=some (.int .u32 (ws a)):=hr.cell a aO
 have HV:Hid (ws a < 4294967296):=hr.lt a
 generalize eV:ws a=v at *
 have hm:bits .and .u32 (v:Int) 255=((v%256:Nat):Int):=zC1 v HV.out
 generalize eO:v%256=op at *
 have o0:(0:Int)≤op:=aO
 have o1:(op:Int) < 256:=aO
 have HK:Hid _:=hk
 have HW:Hid (IntKind.i64.wrap (op:Int)=op):=IntWalk.i64_in _ aO
 have nb0:¬b=w.heap.size:=aO
 have a0:(0:Int)≤a:=aO
 have a3:(a:Int)+1≤len:=aO
 have a4:a+1≤cap:=aO
 have hw2:IntKind.i64.wrap ((a:Int)+1)=(a:Int)+1:=IntWalk.i64_in _ aO
 have hw3:IntKind.i64.wrap ((len:Int) - a)=(len:Int) - a:=IntWalk.i64_in _ aO
 have a1:(a:Int) < len:=aO
 have a2:(a:Int)≤len:=aO
 have HI:Hid _:=hI
 have HR:Hid _:=hr
 have HNB:Hid _:=hbI
 clear hk hI hr hbI ha
 go_enter Tryz.func33,Tryz.ntmps33
 go_upto_region 5 with fail
 go_region_held3 (fun W'=>W'.cell? ⟨b,off+a,none⟩=some (.int .u32 v)) (first|(simp[go_sem,v0,lb,nb0];done)|(simp[go_sem,z0,lb1,nb1,nb0];done)) (first|(go_at_call 43;refine(zC6 _).mono ?_;rintro e w1 ⟨rfl,rfl⟩)|(go_at_call 42;refine(vK _ w.drew).mono ?_;rintro e w1 ⟨rfl,hb1⟩;(try rw[HW.out]);rw[HK.out];have z0:w1.cell? ⟨b,off+a,none⟩=some (.int .u32 v):=(hb1.cell (p:=⟨b,off+a,none⟩) lb).trans v0;have lb1:b < w1.heap.size:=zq54;have nb1:¬b=w1.heap.size:=aO;have HB2:Hid (Below w.heap.size w w1):=(zAg hb1))|(go_at_call 42;refine(vK _ (w.alloc (.cells #[.int .u8 0,.int .u8 0,.int .u8 0,.int .u16 0,.int .u16 0] 88)).drew).mono ?_;rintro e w1 ⟨rfl,hb1⟩;(try rw[HW.out]);rw[HK.out];have b1:w1.heap[w.heap.size]?=some (.cells #[.int .u8 0,.int .u8 0,.int .u8 0,.int .u16 0,.int .u16 0] 88):=(hb1.block w.heap.size aS).trans (heap_alloc_last w _);have y0:w1.cell? ⟨w.heap.size,0,none⟩=some (.int .u8 0):=zA b1 0;have g0:=zD b1 0;have y1:w1.cell? ⟨w.heap.size,1,none⟩=some (.int .u8 0):=zA b1 1;have g1:=zD b1 1;have y2:w1.cell? ⟨w.heap.size,2,none⟩=some (.int .u8 0):=zA b1 2;have g2:=zD b1 2;have y3:w1.cell? ⟨w.heap.size,3,none⟩=some (.int .u16 0):=zA b1 3;have g3:=zD b1 3;have y4:w1.cell? ⟨w.heap.size,4,none⟩=some (.int .u16 0):=zA b1 4;have g4:=zD b1 4;have lw1:=zE b1;have z0:w1.cell? ⟨b,off+a,none⟩=some (.int .u32 v):=(hb1.cell (p:=⟨b,off+a,none⟩) zq7).trans ((World.cell?_alloc_past _ _ _ lb).trans v0);have lb1:b < w1.heap.size:=aO;have nb1:¬b=w1.heap.size:=aO;have HB1:Hid (Below (w.alloc (.cells #[.int .u8 0,.int .u8 0,.int .u8 0,.int .u16 0,.int .u16 0] 88)).heap.size (w.alloc (.cells #[.int .u8 0,.int .u8 0,.int .u8 0,.int .u16 0,.int .u16 0] 88)) w1):=(aB.drew).trans hb1))
 ·go_wp2
  go_ret
  exact⟨rfl,(zAn ⟨0,0,0,0,0⟩ HI.out HB2.out).ch⟩
 all_goals
  go_wp2
  go_ret
  exact⟨rfl,(uA ⟨0,0,0,0,0⟩ HI.out HB1.out).ch⟩
theorem zF3(I b off len cap a:Nat)(ws:Nat→Nat)(x0:Cd)(f0:Fo)(n0:Int)(k:Nat)(w:World)(hI:w.heap[I]?=some (.cells (yT x0 f0 n0) 90))(hr:WR w b off len ws)(hbI:b≠I)(hcap:len≤cap)(hl:len≤140737488355328)(ha:a < len∧len < a+2)(hk:hit ((ws a%256:Nat):Int)=some k)(hn:szN (zG k).has=2) :
  Calls Tryz.prog 33 #[.pointer (some ⟨I,0,none⟩),.slice (some ⟨b,off,none⟩) len cap,.int .i64 a] w fun e w'=>e=.returned (.int .i64 1)∧zI [I] w w':=by
 have lI:=zE hI
 have lb:=hr.lb
 have v0:w.cell? ⟨b,off+a,none⟩=some (.int .u32 (ws a)):=hr.cell a aO
 have HV:Hid (ws a < 4294967296):=hr.lt a
 generalize eV:ws a=v at *
 have hm:bits .and .u32 (v:Int) 255=((v%256:Nat):Int):=zC1 v HV.out
 generalize eO:v%256=op at *
 have o0:(0:Int)≤op:=aO
 have o1:(op:Int) < 256:=aO
 have HK:Hid _:=hk
 have HW:Hid (IntKind.i64.wrap (op:Int)=op):=IntWalk.i64_in _ aO
 have nb0:¬b=w.heap.size:=aO
 have a0:(0:Int)≤a:=aO
 have a3:(len:Int) - a < 2:=aO
 have hw3:IntKind.i64.wrap ((len:Int) - a)=(len:Int) - a:=IntWalk.i64_in _ aO
 have a1:(a:Int) < len:=aO
 have a2:(a:Int)≤len:=aO
 have HI:Hid _:=hI
 have HN:Hid _:=hn
 have HR:Hid _:=hr
 have HNB:Hid _:=hbI
 clear hk hI hn hr hbI ha
 go_enter Tryz.func33,Tryz.ntmps33
 go_upto_region 5 with fail
 go_region_held3 (fun W'=>W'.cell? ⟨b,off+a,none⟩=some (.int .u32 v)) (first|(simp[go_sem,v0,lb,nb0];done)|(simp[go_sem,z0,lb1,nb1,nb0];done)) (first|(go_at_call 43;refine(zC6 _).mono ?_;rintro e w1 ⟨rfl,rfl⟩)|(go_at_call 42;refine(vK _ w.drew).mono ?_;rintro e w1 ⟨rfl,hb1⟩;(try rw[HW.out]);rw[HK.out];have z0:w1.cell? ⟨b,off+a,none⟩=some (.int .u32 v):=(hb1.cell (p:=⟨b,off+a,none⟩) lb).trans v0;have lb1:b < w1.heap.size:=zq54;have nb1:¬b=w1.heap.size:=aO;have HB2:Hid (Below w.heap.size w w1):=(zAg hb1))|(go_at_call 42;refine(vK _ (w.alloc (.cells #[.int .u8 0,.int .u8 0,.int .u8 0,.int .u16 0,.int .u16 0] 88)).drew).mono ?_;rintro e w1 ⟨rfl,hb1⟩;(try rw[HW.out]);rw[HK.out];have b1:w1.heap[w.heap.size]?=some (.cells #[.int .u8 0,.int .u8 0,.int .u8 0,.int .u16 0,.int .u16 0] 88):=(hb1.block w.heap.size aS).trans (heap_alloc_last w _);have y0:w1.cell? ⟨w.heap.size,0,none⟩=some (.int .u8 0):=zA b1 0;have g0:=zD b1 0;have y1:w1.cell? ⟨w.heap.size,1,none⟩=some (.int .u8 0):=zA b1 1;have g1:=zD b1 1;have y2:w1.cell? ⟨w.heap.size,2,none⟩=some (.int .u8 0):=zA b1 2;have g2:=zD b1 2;have y3:w1.cell? ⟨w.heap.size,3,none⟩=some (.int .u16 0):=zA b1 3;have g3:=zD b1 3;have y4:w1.cell? ⟨w.heap.size,4,none⟩=some (.int .u16 0):=zA b1 4;have g4:=zD b1 4;have lw1:=zE b1;have z0:w1.cell? ⟨b,off+a,none⟩=some (.int .u32 v):=(hb1.cell (p:=⟨b,off+a,none⟩) zq7).trans ((World.cell?_alloc_past _ _ _ lb).trans v0);have lb1:b < w1.heap.size:=aO;have nb1:¬b=w1.heap.size:=aO;have HB1:Hid (Below (w.alloc (.cells #[.int .u8 0,.int .u8 0,.int .u8 0,.int .u16 0,.int .u16 0] 88)).heap.size (w.alloc (.cells #[.int .u8 0,.int .u8 0,.int .u8 0,.int .u16 0,.int .u16 0] 88)) w1):=(aB.drew).trans hb1))
 ·
  go_upto_region 8 with fail
  refine zJ (fun W'=>DE w W' I w1.heap.size (yT x0 f0 n0) (zG k)) zq50 ?_
  intro W hD
  have p0:W.cell? ⟨w1.heap.size,0,none⟩=some (.int .u8 (zG k).first):=zA hD.bf 0
  have fr0:=zD hD.b 8
  have q0:W.cell? ⟨I,8,none⟩=some (.int .u8 f0.first):=zA hD.b 8
  have p1:W.cell? ⟨w1.heap.size,1,none⟩=some (.int .u8 (zG k).last):=zA hD.bf 1
  have fr1:=zD hD.b 9
  have q1:W.cell? ⟨I,9,none⟩=some (.int .u8 f0.last):=zA hD.b 9
  have p2:W.cell? ⟨w1.heap.size,2,none⟩=some (.int .u8 (zG k).kind):=zA hD.bf 2
  have fr2:=zD hD.b 10
  have q2:W.cell? ⟨I,10,none⟩=some (.int .u8 f0.kind):=zA hD.b 10
  have p3:W.cell? ⟨w1.heap.size,3,none⟩=some (.int .u16 (zG k).has):=zA hD.bf 3
  have fr3:=zD hD.b 11
  have q3:W.cell? ⟨I,11,none⟩=some (.int .u16 f0.has):=zA hD.b 11
  have p4:W.cell? ⟨w1.heap.size,4,none⟩=some (.int .u16 (zG k).most):=zA hD.bf 4
  have fr4:=zD hD.b 12
  have q4:W.cell? ⟨I,12,none⟩=some (.int .u16 f0.most):=zA hD.b 12
  have lF:=zE hD.bf
  have lJ:=zE hD.b
  have nF:¬w1.heap.size=I:=hD.ne
  have H:Hid _:=hD
  clear hD
  have HM:Hid (0≤(zG k).most∧(zG k).most≤65535):=vB k (zAb HK.out)
  generalize eF:zG k=f at *
  go_upto_region 9 with fail
  refine zJ (fun W'=>D2 w W' I x0 f n0) zq15 ?_
  clear H p0 p1 p2 p3 p4 q0 q1 q2 q3 q4 fr0 fr1 fr2 fr3 fr4 lF lJ nF
  intro W2 h2
  have lJ:=zE h2.b
  have c11:W2.cell? ⟨I,11,none⟩=some (.int .u16 f.has):=zA h2.b 11
  have c13:W2.cell? ⟨I,13,none⟩=some (.int .i64 n0):=zA h2.b 13
  have f13:=zD h2.b 13
  have H2:Hid _:=h2
  clear h2
  go_upto_region 10 with (go_at_call 44;refine(vC I 2 f.has _ zq17 c11 lJ).mono ?_;rintro e w9 ⟨rfl,rfl⟩)
  refine zJ (fun W'=>D2 w W' I x0 f 2) zq52 ?_
  clear H2 c11 c13 f13 lJ
  intro W3 h3
  have lJ:=zE h3.b
  have c13:W3.cell? ⟨I,13,none⟩=some (.int .i64 2):=zA h3.b 13
  have H3:Hid _:=h3
  clear h3
  go_wp2
  go_ret
  exact⟨rfl,H3.out.ch⟩
 ·
  go_upto_region 8 with fail
  refine zJ (fun W'=>DE w W' I w.heap.size (yT x0 f0 n0) (zG k)) zq19 ?_
  intro W hD
  have p0:W.cell? ⟨w.heap.size,0,none⟩=some (.int .u8 (zG k).first):=zA hD.bf 0
  have fr0:=zD hD.b 8
  have q0:W.cell? ⟨I,8,none⟩=some (.int .u8 f0.first):=zA hD.b 8
  have p1:W.cell? ⟨w.heap.size,1,none⟩=some (.int .u8 (zG k).last):=zA hD.bf 1
  have fr1:=zD hD.b 9
  have q1:W.cell? ⟨I,9,none⟩=some (.int .u8 f0.last):=zA hD.b 9
  have p2:W.cell? ⟨w.heap.size,2,none⟩=some (.int .u8 (zG k).kind):=zA hD.bf 2
  have fr2:=zD hD.b 10
  have q2:W.cell? ⟨I,10,none⟩=some (.int .u8 f0.kind):=zA hD.b 10
  have p3:W.cell? ⟨w.heap.size,3,none⟩=some (.int .u16 (zG k).has):=zA hD.bf 3
  have fr3:=zD hD.b 11
  have q3:W.cell? ⟨I,11,none⟩=some (.int .u16 f0.has):=zA hD.b 11
  have p4:W.cell? ⟨w.heap.size,4,none⟩=some (.int .u16 (zG k).most):=zA hD.bf 4
  have fr4:=zD hD.b 12
  have q4:W.cell? ⟨I,12,none⟩=some (.int .u16 f0.most):=zA hD.b 12
  have lF:=zE hD.bf
  have lJ:=zE hD.b
  have nF:¬w.heap.size=I:=hD.ne
  have H:Hid _:=hD
  clear hD
  have HM:Hid (0≤(zG k).most∧(zG k).most≤65535):=vB k (zAb HK.out)
  generalize eF:zG k=f at *
  go_upto_region 9 with fail
  refine zJ (fun W'=>D2 w W' I x0 f n0) zq15 ?_
  clear H p0 p1 p2 p3 p4 q0 q1 q2 q3 q4 fr0 fr1 fr2 fr3 fr4 lF lJ nF
  intro W2 h2
  have lJ:=zE h2.b
  have c11:W2.cell? ⟨I,11,none⟩=some (.int .u16 f.has):=zA h2.b 11
  have c13:W2.cell? ⟨I,13,none⟩=some (.int .i64 n0):=zA h2.b 13
  have f13:=zD h2.b 13
  have H2:Hid _:=h2
  clear h2
  go_upto_region 10 with (go_at_call 44;refine(vC I 2 f.has _ zq17 c11 lJ).mono ?_;rintro e w9 ⟨rfl,rfl⟩)
  refine zJ (fun W'=>D2 w W' I x0 f 2) zq52 ?_
  clear H2 c11 c13 f13 lJ
  intro W3 h3
  have lJ:=zE h3.b
  have c13:W3.cell? ⟨I,13,none⟩=some (.int .i64 2):=zA h3.b 13
  have H3:Hid _:=h3
  clear h3
  go_wp2
  go_ret
  exact⟨rfl,H3.out.ch⟩
 ·
  go_upto_region 8 with fail
  refine zJ (fun W'=>DE w W' I w.heap.size (yT x0 f0 n0) (zG k)) zq19 ?_
  intro W hD
  have p0:W.cell? ⟨w.heap.size,0,none⟩=some (.int .u8 (zG k).first):=zA hD.bf 0
  have fr0:=zD hD.b 8
  have q0:W.cell? ⟨I,8,none⟩=some (.int .u8 f0.first):=zA hD.b 8
  have p1:W.cell? ⟨w.heap.size,1,none⟩=some (.int .u8 (zG k).last):=zA hD.bf 1
  have fr1:=zD hD.b 9
  have q1:W.cell? ⟨I,9,none⟩=some (.int .u8 f0.last):=zA hD.b 9
  have p2:W.cell? ⟨w.heap.size,2,none⟩=some (.int .u8 (zG k).kind):=zA hD.bf 2
  have fr2:=zD hD.b 10
  have q2:W.cell? ⟨I,10,none⟩=some (.int .u8 f0.kind):=zA hD.b 10
  have p3:W.cell? ⟨w.heap.size,3,none⟩=some (.int .u16 (zG k).has):=zA hD.bf 3
  have fr3:=zD hD.b 11
  have q3:W.cell? ⟨I,11,none⟩=some (.int .u16 f0.has):=zA hD.b 11
  have p4:W.cell? ⟨w.heap.size,4,none⟩=some (.int .u16 (zG k).most):=zA hD.bf 4
  have fr4:=zD hD.b 12
  have q4:W.cell? ⟨I,12,none⟩=some (.int .u16 f0.most):=zA hD.b 12
  have lF:=zE hD.bf
  have lJ:=zE hD.b
  have nF:¬w.heap.size=I:=hD.ne
  have H:Hid _:=hD
  clear hD
  have HM:Hid (0≤(zG k).most∧(zG k).most≤65535):=vB k (zAb HK.out)
  generalize eF:zG k=f at *
  go_upto_region 9 with fail
  refine zJ (fun W'=>D2 w W' I x0 f n0) zq15 ?_
  clear H p0 p1 p2 p3 p4 q0 q1 q2 q3 q4 fr0 fr1 fr2 fr3 fr4 lF lJ nF
  intro W2 h2
  have lJ:=zE h2.b
  have c11:W2.cell? ⟨I,11,none⟩=some (.int .u16 f.has):=zA h2.b 11
  have c13:W2.cell? ⟨I,13,none⟩=some (.int .i64 n0):=zA h2.b 13
  have f13:=zD h2.b 13
  have H2:Hid _:=h2
  clear h2
  go_upto_region 10 with (go_at_call 44;refine(vC I 2 f.has _ zq17 c11 lJ).mono ?_;rintro e w9 ⟨rfl,rfl⟩)
  refine zJ (fun W'=>D2 w W' I x0 f 2) zq52 ?_
  clear H2 c11 c13 f13 lJ
  intro W3 h3
  have lJ:=zE h3.b
  have c13:W3.cell? ⟨I,13,none⟩=some (.int .i64 2):=zA h3.b 13
  have H3:Hid _:=h3
  clear h3
  go_wp2
  go_ret
  exact⟨rfl,H3.out.ch⟩
theorem zF4(I b off len cap a:Nat)(ws:Nat→Nat)(x0:Cd)(f0:Fo)(n0:Int)(k:Nat)(w:World)(hI:w.heap[I]?=some (.cells (yT x0 f0 n0) 90))(hr:WR w b off len ws)(hbI:b≠I)(hcap:len≤cap)(hl:len≤140737488355328)(ha:a < len∧len < a+3)(hk:hit ((ws a%256:Nat):Int)=some k)(hn:szN (zG k).has=3) :
  Calls Tryz.prog 33 #[.pointer (some ⟨I,0,none⟩),.slice (some ⟨b,off,none⟩) len cap,.int .i64 a] w fun e w'=>e=.returned (.int .i64 1)∧zI [I] w w':=by
 have lI:=zE hI
 have lb:=hr.lb
 have v0:w.cell? ⟨b,off+a,none⟩=some (.int .u32 (ws a)):=hr.cell a aO
 have HV:Hid (ws a < 4294967296):=hr.lt a
 generalize eV:ws a=v at *
 have hm:bits .and .u32 (v:Int) 255=((v%256:Nat):Int):=zC1 v HV.out
 generalize eO:v%256=op at *
 have o0:(0:Int)≤op:=aO
 have o1:(op:Int) < 256:=aO
 have HK:Hid _:=hk
 have HW:Hid (IntKind.i64.wrap (op:Int)=op):=IntWalk.i64_in _ aO
 have nb0:¬b=w.heap.size:=aO
 have a0:(0:Int)≤a:=aO
 have a3:(len:Int) - a < 3:=aO
 have hw3:IntKind.i64.wrap ((len:Int) - a)=(len:Int) - a:=IntWalk.i64_in _ aO
 have a1:(a:Int) < len:=aO
 have a2:(a:Int)≤len:=aO
 have HI:Hid _:=hI
 have HN:Hid _:=hn
 have HR:Hid _:=hr
 have HNB:Hid _:=hbI
 clear hk hI hn hr hbI ha
 go_enter Tryz.func33,Tryz.ntmps33
 go_upto_region 5 with fail
 go_region_held3 (fun W'=>W'.cell? ⟨b,off+a,none⟩=some (.int .u32 v)) (first|(simp[go_sem,v0,lb,nb0];done)|(simp[go_sem,z0,lb1,nb1,nb0];done)) (first|(go_at_call 43;refine(zC6 _).mono ?_;rintro e w1 ⟨rfl,rfl⟩)|(go_at_call 42;refine(vK _ w.drew).mono ?_;rintro e w1 ⟨rfl,hb1⟩;(try rw[HW.out]);rw[HK.out];have z0:w1.cell? ⟨b,off+a,none⟩=some (.int .u32 v):=(hb1.cell (p:=⟨b,off+a,none⟩) lb).trans v0;have lb1:b < w1.heap.size:=zq54;have nb1:¬b=w1.heap.size:=aO;have HB2:Hid (Below w.heap.size w w1):=(zAg hb1))|(go_at_call 42;refine(vK _ (w.alloc (.cells #[.int .u8 0,.int .u8 0,.int .u8 0,.int .u16 0,.int .u16 0] 88)).drew).mono ?_;rintro e w1 ⟨rfl,hb1⟩;(try rw[HW.out]);rw[HK.out];have b1:w1.heap[w.heap.size]?=some (.cells #[.int .u8 0,.int .u8 0,.int .u8 0,.int .u16 0,.int .u16 0] 88):=(hb1.block w.heap.size aS).trans (heap_alloc_last w _);have y0:w1.cell? ⟨w.heap.size,0,none⟩=some (.int .u8 0):=zA b1 0;have g0:=zD b1 0;have y1:w1.cell? ⟨w.heap.size,1,none⟩=some (.int .u8 0):=zA b1 1;have g1:=zD b1 1;have y2:w1.cell? ⟨w.heap.size,2,none⟩=some (.int .u8 0):=zA b1 2;have g2:=zD b1 2;have y3:w1.cell? ⟨w.heap.size,3,none⟩=some (.int .u16 0):=zA b1 3;have g3:=zD b1 3;have y4:w1.cell? ⟨w.heap.size,4,none⟩=some (.int .u16 0):=zA b1 4;have g4:=zD b1 4;have lw1:=zE b1;have z0:w1.cell? ⟨b,off+a,none⟩=some (.int .u32 v):=(hb1.cell (p:=⟨b,off+a,none⟩) zq7).trans ((World.cell?_alloc_past _ _ _ lb).trans v0);have lb1:b < w1.heap.size:=aO;have nb1:¬b=w1.heap.size:=aO;have HB1:Hid (Below (w.alloc (.cells #[.int .u8 0,.int .u8 0,.int .u8 0,.int .u16 0,.int .u16 0] 88)).heap.size (w.alloc (.cells #[.int .u8 0,.int .u8 0,.int .u8 0,.int .u16 0,.int .u16 0] 88)) w1):=(aB.drew).trans hb1))
 ·
  go_upto_region 8 with fail
  refine zJ (fun W'=>DE w W' I w1.heap.size (yT x0 f0 n0) (zG k)) zq50 ?_
  intro W hD
  have p0:W.cell? ⟨w1.heap.size,0,none⟩=some (.int .u8 (zG k).first):=zA hD.bf 0
  have fr0:=zD hD.b 8
  have q0:W.cell? ⟨I,8,none⟩=some (.int .u8 f0.first):=zA hD.b 8
  have p1:W.cell? ⟨w1.heap.size,1,none⟩=some (.int .u8 (zG k).last):=zA hD.bf 1
  have fr1:=zD hD.b 9
  have q1:W.cell? ⟨I,9,none⟩=some (.int .u8 f0.last):=zA hD.b 9
  have p2:W.cell? ⟨w1.heap.size,2,none⟩=some (.int .u8 (zG k).kind):=zA hD.bf 2
  have fr2:=zD hD.b 10
  have q2:W.cell? ⟨I,10,none⟩=some (.int .u8 f0.kind):=zA hD.b 10
  have p3:W.cell? ⟨w1.heap.size,3,none⟩=some (.int .u16 (zG k).has):=zA hD.bf 3
  have fr3:=zD hD.b 11
  have q3:W.cell? ⟨I,11,none⟩=some (.int .u16 f0.has):=zA hD.b 11
  have p4:W.cell? ⟨w1.heap.size,4,none⟩=some (.int .u16 (zG k).most):=zA hD.bf 4
  have fr4:=zD hD.b 12
  have q4:W.cell? ⟨I,12,none⟩=some (.int .u16 f0.most):=zA hD.b 12
  have lF:=zE hD.bf
  have lJ:=zE hD.b
  have nF:¬w1.heap.size=I:=hD.ne
  have H:Hid _:=hD
  clear hD
  have HM:Hid (0≤(zG k).most∧(zG k).most≤65535):=vB k (zAb HK.out)
  generalize eF:zG k=f at *
  go_upto_region 9 with fail
  refine zJ (fun W'=>D2 w W' I x0 f n0) zq15 ?_
  clear H p0 p1 p2 p3 p4 q0 q1 q2 q3 q4 fr0 fr1 fr2 fr3 fr4 lF lJ nF
  intro W2 h2
  have lJ:=zE h2.b
  have c11:W2.cell? ⟨I,11,none⟩=some (.int .u16 f.has):=zA h2.b 11
  have c13:W2.cell? ⟨I,13,none⟩=some (.int .i64 n0):=zA h2.b 13
  have f13:=zD h2.b 13
  have H2:Hid _:=h2
  clear h2
  go_upto_region 10 with (go_at_call 44;refine(vC I 3 f.has _ zq17 c11 lJ).mono ?_;rintro e w9 ⟨rfl,rfl⟩)
  refine zJ (fun W'=>D2 w W' I x0 f 3) zq51 ?_
  clear H2 c11 c13 f13 lJ
  intro W3 h3
  have lJ:=zE h3.b
  have c13:W3.cell? ⟨I,13,none⟩=some (.int .i64 3):=zA h3.b 13
  have H3:Hid _:=h3
  clear h3
  go_wp2
  go_ret
  exact⟨rfl,H3.out.ch⟩
 ·
  go_upto_region 8 with fail
  refine zJ (fun W'=>DE w W' I w.heap.size (yT x0 f0 n0) (zG k)) zq19 ?_
  intro W hD
  have p0:W.cell? ⟨w.heap.size,0,none⟩=some (.int .u8 (zG k).first):=zA hD.bf 0
  have fr0:=zD hD.b 8
  have q0:W.cell? ⟨I,8,none⟩=some (.int .u8 f0.first):=zA hD.b 8
  have p1:W.cell? ⟨w.heap.size,1,none⟩=some (.int .u8 (zG k).last):=zA hD.bf 1
  have fr1:=zD hD.b 9
  have q1:W.cell? ⟨I,9,none⟩=some (.int .u8 f0.last):=zA hD.b 9
  have p2:W.cell? ⟨w.heap.size,2,none⟩=some (.int .u8 (zG k).kind):=zA hD.bf 2
  have fr2:=zD hD.b 10
  have q2:W.cell? ⟨I,10,none⟩=some (.int .u8 f0.kind):=zA hD.b 10
  have p3:W.cell? ⟨w.heap.size,3,none⟩=some (.int .u16 (zG k).has):=zA hD.bf 3
  have fr3:=zD hD.b 11
  have q3:W.cell? ⟨I,11,none⟩=some (.int .u16 f0.has):=zA hD.b 11
  have p4:W.cell? ⟨w.heap.size,4,none⟩=some (.int .u16 (zG k).most):=zA hD.bf 4
  have fr4:=zD hD.b 12
  have q4:W.cell? ⟨I,12,none⟩=some (.int .u16 f0.most):=zA hD.b 12
  have lF:=zE hD.bf
  have lJ:=zE hD.b
  have nF:¬w.heap.size=I:=hD.ne
  have H:Hid _:=hD
  clear hD
  have HM:Hid (0≤(zG k).most∧(zG k).most≤65535):=vB k (zAb HK.out)
  generalize eF:zG k=f at *
  go_upto_region 9 with fail
  refine zJ (fun W'=>D2 w W' I x0 f n0) zq15 ?_
  clear H p0 p1 p2 p3 p4 q0 q1 q2 q3 q4 fr0 fr1 fr2 fr3 fr4 lF lJ nF
  intro W2 h2
  have lJ:=zE h2.b
  have c11:W2.cell? ⟨I,11,none⟩=some (.int .u16 f.has):=zA h2.b 11
  have c13:W2.cell? ⟨I,13,none⟩=some (.int .i64 n0):=zA h2.b 13
  have f13:=zD h2.b 13
  have H2:Hid _:=h2
  clear h2
  go_upto_region 10 with (go_at_call 44;refine(vC I 3 f.has _ zq17 c11 lJ).mono ?_;rintro e w9 ⟨rfl,rfl⟩)
  refine zJ (fun W'=>D2 w W' I x0 f 3) zq51 ?_
  clear H2 c11 c13 f13 lJ
  intro W3 h3
  have lJ:=zE h3.b
  have c13:W3.cell? ⟨I,13,none⟩=some (.int .i64 3):=zA h3.b 13
  have H3:Hid _:=h3
  clear h3
  go_wp2
  go_ret
  exact⟨rfl,H3.out.ch⟩
 ·
  go_upto_region 8 with fail
  refine zJ (fun W'=>DE w W' I w.heap.size (yT x0 f0 n0) (zG k)) zq19 ?_
  intro W hD
  have p0:W.cell? ⟨w.heap.size,0,none⟩=some (.int .u8 (zG k).first):=zA hD.bf 0
  have fr0:=zD hD.b 8
  have q0:W.cell? ⟨I,8,none⟩=some (.int .u8 f0.first):=zA hD.b 8
  have p1:W.cell? ⟨w.heap.size,1,none⟩=some (.int .u8 (zG k).last):=zA hD.bf 1
  have fr1:=zD hD.b 9
  have q1:W.cell? ⟨I,9,none⟩=some (.int .u8 f0.last):=zA hD.b 9
  have p2:W.cell? ⟨w.heap.size,2,none⟩=some (.int .u8 (zG k).kind):=zA hD.bf 2
  have fr2:=zD hD.b 10
  have q2:W.cell? ⟨I,10,none⟩=some (.int .u8 f0.kind):=zA hD.b 10
  have p3:W.cell? ⟨w.heap.size,3,none⟩=some (.int .u16 (zG k).has):=zA hD.bf 3
  have fr3:=zD hD.b 11
  have q3:W.cell? ⟨I,11,none⟩=some (.int .u16 f0.has):=zA hD.b 11
  have p4:W.cell? ⟨w.heap.size,4,none⟩=some (.int .u16 (zG k).most):=zA hD.bf 4
  have fr4:=zD hD.b 12
  have q4:W.cell? ⟨I,12,none⟩=some (.int .u16 f0.most):=zA hD.b 12
  have lF:=zE hD.bf
  have lJ:=zE hD.b
  have nF:¬w.heap.size=I:=hD.ne
  have H:Hid _:=hD
  clear hD
  have HM:Hid (0≤(zG k).most∧(zG k).most≤65535):=vB k (zAb HK.out)
  generalize eF:zG k=f at *
  go_upto_region 9 with fail
  refine zJ (fun W'=>D2 w W' I x0 f n0) zq15 ?_
  clear H p0 p1 p2 p3 p4 q0 q1 q2 q3 q4 fr0 fr1 fr2 fr3 fr4 lF lJ nF
  intro W2 h2
  have lJ:=zE h2.b
  have c11:W2.cell? ⟨I,11,none⟩=some (.int .u16 f.has):=zA h2.b 11
  have c13:W2.cell? ⟨I,13,none⟩=some (.int .i64 n0):=zA h2.b 13
  have f13:=zD h2.b 13
  have H2:Hid _:=h2
  clear h2
  go_upto_region 10 with (go_at_call 44;refine(vC I 3 f.has _ zq17 c11 lJ).mono ?_;rintro e w9 ⟨rfl,rfl⟩)
  refine zJ (fun W'=>D2 w W' I x0 f 3) zq51 ?_
  clear H2 c11 c13 f13 lJ
  intro W3 h3
  have lJ:=zE h3.b
  have c13:W3.cell? ⟨I,13,none⟩=some (.int .i64 3):=zA h3.b 13
  have H3:Hid _:=h3
  clear h3
  go_wp2
  go_ret
  exact⟨rfl,H3.out.ch⟩
end Go.Proofs.YthcpipfmicbnmaaGreat.Ho
