import Derived.Test.YthcpipfmicbnmaaGreatXB
set_option linter.unusedVariables false
set_option linter.unusedSimpArgs false
set_option maxHeartbeats 4000000
namespace Go.Proofs.YthcpipfmicbnmaaGreat.Ho
open Go.RowKit
set_option maxRecDepth 100000
theorem zFH(k:QB)(ca:Option Addr)(len cap:Nat)(tb mp:Value)(q:HQ)(d n b c:Int)(a kk xx:Nat)(w:World)(hq:QW w k (.slice ca len cap) tb mp q)(hn0:0≤q.done+n)(hn1:q.done+n≤9223372036854775807)(wf:Nat→Nat)(hw:∀ W,zI k.own w W→Wds W ca len cap wf)(hkk:kk < 4294967296)(hE:isE wf len (kk:Int)=true) :
  Calls Tryz.prog 24 #[.pointer (some ⟨k.h,0,none⟩),.agg (yJ 15 d a b c n kk xx)] w fun e w'=>e=.returned (.agg (uX 0 0 0 0 0 0))∧QW w' k (.slice ca len cap) tb mp { q with stuck:=q.stuck,done:=q.done+n,at_:=(kk:Int) }∧zI k.own w w':=by
 have lh:=hq.h.lt
 have c16:w.cell? ⟨k.h,16,none⟩=some (.int .i64 q.done):=hq.h.c 16 aO
 have HQ':Hid _:=hq
 have HLH:Hid _:=hq.h.lt
 have l1:k.h < w.heap.size+1:=aO
 have l2:k.h < w.heap.size+1+1:=aO
 have l3:k.h < w.heap.size+1+1+1:=aO
 have N1:Hid (w.heap.size+1∉k.own):=show w.heap.size+1∉k.own from fun e=>by have:=yN hq _ e;omega
 have N2:Hid (w.heap.size+1+1∉k.own):=show w.heap.size+1+1∉k.own from fun e=>by have:=yN hq _ e;omega
 have HWD:Hid _:=hw
 have HE:Hid _:=hE
 have kw:IntKind.i64.wrap (kk:Int)=kk:=IntWalk.i64_in _ aO
 clear hq hw hE
 go_enter Tryz.func24,Tryz.ntmps24
 go_upto_region 1 with fail
 go_region
 all_goals go_upto_region 45 with fail
 all_goals refine zJ (fun W'=>SB w W' k (.slice ca len cap) tb mp q (yJ 15 d a b c n kk xx) kk (q.done+n)) (zAW zq3 (zI.refl _ _) HLH.out) ?_
 all_goals(
  intro wx hB
  have HB:Hid _:=hB
  obtain⟨z0,z1,z2,z3,z4,z5,zf,zl⟩:=uU hB.b1
  obtain⟨x0,x1,x2,x3,x4,x5,xf,xl⟩:=uU hB.b2
  obtain⟨y0,y1,y2,y3,y4,y5,y6,y7,yf,yl⟩:=rw8 hB.b0
  have kl:=hB.q.h.lt
  clear hB lh c16 l1 l2 l3)
 all_goals go_upto_region 47 with (go_at_call 22;refine Calls.mono (uS k ca len cap tb mp q kk wf _ HB.out.q (HWD.out _ HB.out.ch)) ?_;rintro e w2 ⟨rfl,hb2⟩;rw[HE.out];have HB2:Hid _:=HB.out.bel hb2;clear hb2)
 all_goals refine zJ (fun W'=>SB w W' k (.slice ca len cap) tb mp q (yJ 15 d a b c n kk xx) kk (q.done+n)) HB2.out ?_
 all_goals clear z0 z1 z2 z3 z4 z5 zf zl x0 x1 x2 x3 x4 x5 xf xl y0 y1 y2 y3 y4 y5 y6 y7 yf yl
 all_goals(
  intro wy hB
  have HC:Hid _:=hB
  obtain⟨z0,z1,z2,z3,z4,z5,zf,zl⟩:=uU hB.b1
  obtain⟨x0,x1,x2,x3,x4,x5,xf,xl⟩:=uU hB.b2
  obtain⟨y0,y1,y2,y3,y4,y5,y6,y7,yf,yl⟩:=rw8 hB.b0
  have kl2:=hB.q.h.lt
  have c16:wy.cell? ⟨k.h,16,none⟩=some (.int .i64 q.done):=hB.q.h.c 16 aO
  have f16:=hB.q.h.fz 16
  have c1:wy.cell? ⟨k.h,1,none⟩=some (.int .i64 q.at_):=hB.q.h.c 1 aO
  have f1:=hB.q.h.fz 1
  have u1:¬k.h=w.heap.size:=by have:=HLH.out;omega
  have u2:¬w.heap.size=k.h:=by have:=HLH.out;omega
  have u3:¬k.h=w.heap.size+1:=by have:=HLH.out;omega
  have u4:¬w.heap.size+1=k.h:=by have:=HLH.out;omega
  clear hB)
 all_goals go_region
 all_goals go_wp2
 all_goals exact bodyPost_ret (v:=.agg (uX 0 0 0 0 0 0)) zq47 rfl ⟨rfl,by(focus(repeat first|with_reducible exact(HC.out.q.setDone _).setAt _|with_reducible refine QW.oth ?_ N1.out _ _|with_reducible refine QW.dr ?_)),by(focus(repeat first|with_reducible exact HC.out.ch|with_reducible refine zI.setNew ?_ aO _ _|with_reducible refine zI.set ?_ (zAQ k) _ _|with_reducible refine zI.drew ?_))⟩
theorem zFG(k:QB)(ca:Option Addr)(len cap:Nat)(tb mp:Value)(q:HQ)(d n b c:Int)(a kk xx:Nat)(w:World)(hq:QW w k (.slice ca len cap) tb mp q)(hn0:0≤q.done+n)(hn1:q.done+n≤9223372036854775807)(wf:Nat→Nat)(hw:∀ W,zI k.own w W→Wds W ca len cap wf)(hkk:kk < 4294967296)(hE:isE wf len (kk:Int)=false) :
  Calls Tryz.prog 24 #[.pointer (some ⟨k.h,0,none⟩),.agg (yJ 15 d a b c n kk xx)] w fun e w'=>e=.returned (.agg (uX 0 0 0 0 0 0))∧QW w' k (.slice ca len cap) tb mp { q with stuck:=true,done:=q.done+n,at_:=(kk:Int) }∧zI k.own w w':=by
 have lh:=hq.h.lt
 have c16:w.cell? ⟨k.h,16,none⟩=some (.int .i64 q.done):=hq.h.c 16 aO
 have HQ':Hid _:=hq
 have HLH:Hid _:=hq.h.lt
 have l1:k.h < w.heap.size+1:=aO
 have l2:k.h < w.heap.size+1+1:=aO
 have l3:k.h < w.heap.size+1+1+1:=aO
 have N1:Hid (w.heap.size+1∉k.own):=show w.heap.size+1∉k.own from fun e=>by have:=yN hq _ e;omega
 have N2:Hid (w.heap.size+1+1∉k.own):=show w.heap.size+1+1∉k.own from fun e=>by have:=yN hq _ e;omega
 have HWD:Hid _:=hw
 have HE:Hid _:=hE
 have kw:IntKind.i64.wrap (kk:Int)=kk:=IntWalk.i64_in _ aO
 clear hq hw hE
 go_enter Tryz.func24,Tryz.ntmps24
 go_upto_region 1 with fail
 go_region
 all_goals go_upto_region 45 with fail
 all_goals refine zJ (fun W'=>SB w W' k (.slice ca len cap) tb mp q (yJ 15 d a b c n kk xx) kk (q.done+n)) (zAW zq3 (zI.refl _ _) HLH.out) ?_
 all_goals(
  intro wx hB
  have HB:Hid _:=hB
  obtain⟨z0,z1,z2,z3,z4,z5,zf,zl⟩:=uU hB.b1
  obtain⟨x0,x1,x2,x3,x4,x5,xf,xl⟩:=uU hB.b2
  obtain⟨y0,y1,y2,y3,y4,y5,y6,y7,yf,yl⟩:=rw8 hB.b0
  have kl:=hB.q.h.lt
  clear hB lh c16 l1 l2 l3)
 all_goals go_upto_region 46 with (go_at_call 22;refine Calls.mono (uS k ca len cap tb mp q kk wf _ HB.out.q (HWD.out _ HB.out.ch)) ?_;rintro e w2 ⟨rfl,hb2⟩;rw[HE.out];have HB2:Hid _:=HB.out.bel hb2;clear hb2)
 all_goals(
  have s23:w2.cell? ⟨k.h,23,none⟩=some (.bool (q).stuck):=HB2.out.q.h.c 23 aO
  have t23:=HB2.out.q.h.fz 23
  have r23:=HB2.out.q.h.lt)
 all_goals go_upto_region 47 with fail
 all_goals refine zJ (fun W'=>SB w W' k (.slice ca len cap) tb mp { q with stuck:=true } (yJ 15 d a b c n kk xx) kk (q.done+n)) (HB2.out.stick HLH.out true) ?_
 all_goals clear z0 z1 z2 z3 z4 z5 zf zl x0 x1 x2 x3 x4 x5 xf xl y0 y1 y2 y3 y4 y5 y6 y7 yf yl
 all_goals(
  intro wy hB
  have HC:Hid _:=hB
  obtain⟨z0,z1,z2,z3,z4,z5,zf,zl⟩:=uU hB.b1
  obtain⟨x0,x1,x2,x3,x4,x5,xf,xl⟩:=uU hB.b2
  obtain⟨y0,y1,y2,y3,y4,y5,y6,y7,yf,yl⟩:=rw8 hB.b0
  have kl2:=hB.q.h.lt
  have c16:wy.cell? ⟨k.h,16,none⟩=some (.int .i64 q.done):=hB.q.h.c 16 aO
  have f16:=hB.q.h.fz 16
  have c1:wy.cell? ⟨k.h,1,none⟩=some (.int .i64 q.at_):=hB.q.h.c 1 aO
  have f1:=hB.q.h.fz 1
  have u1:¬k.h=w.heap.size:=by have:=HLH.out;omega
  have u2:¬w.heap.size=k.h:=by have:=HLH.out;omega
  have u3:¬k.h=w.heap.size+1:=by have:=HLH.out;omega
  have u4:¬w.heap.size+1=k.h:=by have:=HLH.out;omega
  clear hB)
 all_goals go_region
 all_goals go_wp2
 all_goals exact bodyPost_ret (v:=.agg (uX 0 0 0 0 0 0)) zq47 rfl ⟨rfl,by(focus(repeat first|with_reducible exact(HC.out.q.setDone _).setAt _|with_reducible refine QW.oth ?_ N1.out _ _|with_reducible refine QW.dr ?_)),by(focus(repeat first|with_reducible exact HC.out.ch|with_reducible refine zI.setNew ?_ aO _ _|with_reducible refine zI.set ?_ (zAQ k) _ _|with_reducible refine zI.drew ?_))⟩
theorem zDu(k:QB)(ca:Option Addr)(len cap:Nat)(tb mp:Value)(q:HQ)(d n b c:Int)(a kk xx:Nat)(w:World)(hq:QW w k (.slice ca len cap) tb mp q)(hn0:0≤q.done+n)(hn1:q.done+n≤9223372036854775807)(ha:a < 16)(hv:(q.reg a==0)=false)(wf:Nat→Nat)(hw:∀ W,zI k.own w W→Wds W ca len cap wf)(hkk:kk < 4294967296)(hE:isE wf len (kk:Int)=true) :
  Calls Tryz.prog 24 #[.pointer (some ⟨k.h,0,none⟩),.agg (yJ 96 d a b c n kk xx)] w fun e w'=>e=.returned (.agg (uX 0 0 0 0 0 0))∧QW w' k (.slice ca len cap) tb mp { q with stuck:=q.stuck || !(q.has a),done:=q.done+n,at_:=(kk:Int) }∧zI k.own w w':=by
 have lh:=hq.h.lt
 have c16:w.cell? ⟨k.h,16,none⟩=some (.int .i64 q.done):=hq.h.c 16 aO
 have HQ':Hid _:=hq
 have HLH:Hid _:=hq.h.lt
 have l1:k.h < w.heap.size+1:=aO
 have l2:k.h < w.heap.size+1+1:=aO
 have l3:k.h < w.heap.size+1+1+1:=aO
 have N1:Hid (w.heap.size+1∉k.own):=show w.heap.size+1∉k.own from fun e=>by have:=yN hq _ e;omega
 have N2:Hid (w.heap.size+1+1∉k.own):=show w.heap.size+1+1∉k.own from fun e=>by have:=yN hq _ e;omega
 have HA:Hid _:=ha
 have hv2:(((q.reg a:Nat):Int)==0)=false:=by
   have:q.reg a≠0:=by simpa using hv
   simpa using this
 have HWD:Hid _:=hw
 have HE:Hid _:=hE
 have kw:IntKind.i64.wrap (kk:Int)=kk:=IntWalk.i64_in _ aO
 clear hq ha hw hE
 go_enter Tryz.func24,Tryz.ntmps24
 go_upto_region 1 with fail
 go_region
 all_goals go_upto_region 45 with (go_at_call 38;refine Calls.mono (vH k (.slice ca len cap) tb mp q a _ ?_ HA.out) ?_;(exact zq3);rintro e w1 ⟨rfl,hq1,hc1⟩;have HB1:Hid (SB w w1 k (.slice ca len cap) tb mp { q with stuck:=q.stuck || !(q.has a) } (yJ 96 d a b c n kk xx) kk (q.done+n)):=zAW hq1 hc1 HLH.out;obtain⟨z0,z1,z2,z3,z4,z5,zf,zl⟩:=uU HB1.out.b1;obtain⟨x0,x1,x2,x3,x4,x5,xf,xl⟩:=uU HB1.out.b2;obtain⟨y0,y1,y2,y3,y4,y5,y6,y7,yf,yl⟩:=rw8 HB1.out.b0;clear hq1 hc1)
 all_goals refine zJ (fun W'=>SB w W' k (.slice ca len cap) tb mp { q with stuck:=q.stuck || !(q.has a) } (yJ 96 d a b c n kk xx) kk (q.done+n)) HB1.out ?_
 all_goals clear HB1 z0 z1 z2 z3 z4 z5 zf zl x0 x1 x2 x3 x4 x5 xf xl y0 y1 y2 y3 y4 y5 y6 y7 yf yl
 all_goals(
  intro wx hB
  have HB:Hid _:=hB
  obtain⟨z0,z1,z2,z3,z4,z5,zf,zl⟩:=uU hB.b1
  obtain⟨x0,x1,x2,x3,x4,x5,xf,xl⟩:=uU hB.b2
  obtain⟨y0,y1,y2,y3,y4,y5,y6,y7,yf,yl⟩:=rw8 hB.b0
  have kl:=hB.q.h.lt
  clear hB lh c16 l1 l2 l3)
 all_goals go_upto_region 47 with (go_at_call 22;refine Calls.mono (uS k ca len cap tb mp { q with stuck:=q.stuck || !(q.has a) } kk wf _ HB.out.q (HWD.out _ HB.out.ch)) ?_;rintro e w2 ⟨rfl,hb2⟩;rw[HE.out];have HB2:Hid _:=HB.out.bel hb2;clear hb2)
 all_goals refine zJ (fun W'=>SB w W' k (.slice ca len cap) tb mp { q with stuck:=q.stuck || !(q.has a) } (yJ 96 d a b c n kk xx) kk (q.done+n)) HB2.out ?_
 all_goals clear z0 z1 z2 z3 z4 z5 zf zl x0 x1 x2 x3 x4 x5 xf xl y0 y1 y2 y3 y4 y5 y6 y7 yf yl
 all_goals(
  intro wy hB
  have HC:Hid _:=hB
  obtain⟨z0,z1,z2,z3,z4,z5,zf,zl⟩:=uU hB.b1
  obtain⟨x0,x1,x2,x3,x4,x5,xf,xl⟩:=uU hB.b2
  obtain⟨y0,y1,y2,y3,y4,y5,y6,y7,yf,yl⟩:=rw8 hB.b0
  have kl2:=hB.q.h.lt
  have c16:wy.cell? ⟨k.h,16,none⟩=some (.int .i64 q.done):=hB.q.h.c 16 aO
  have f16:=hB.q.h.fz 16
  have c1:wy.cell? ⟨k.h,1,none⟩=some (.int .i64 q.at_):=hB.q.h.c 1 aO
  have f1:=hB.q.h.fz 1
  have u1:¬k.h=w.heap.size:=by have:=HLH.out;omega
  have u2:¬w.heap.size=k.h:=by have:=HLH.out;omega
  have u3:¬k.h=w.heap.size+1:=by have:=HLH.out;omega
  have u4:¬w.heap.size+1=k.h:=by have:=HLH.out;omega
  clear hB)
 all_goals go_region
 all_goals go_wp2
 all_goals exact bodyPost_ret (v:=.agg (uX 0 0 0 0 0 0)) zq47 rfl ⟨rfl,by(focus(repeat first|with_reducible exact(HC.out.q.setDone _).setAt _|with_reducible refine QW.oth ?_ N1.out _ _|with_reducible refine QW.dr ?_)),by(focus(repeat first|with_reducible exact HC.out.ch|with_reducible refine zI.setNew ?_ aO _ _|with_reducible refine zI.set ?_ (zAQ k) _ _|with_reducible refine zI.drew ?_))⟩
theorem zDv(k:QB)(ca:Option Addr)(len cap:Nat)(tb mp:Value)(q:HQ)(d n b c:Int)(a kk xx:Nat)(w:World)(hq:QW w k (.slice ca len cap) tb mp q)(hn0:0≤q.done+n)(hn1:q.done+n≤9223372036854775807)(ha:a < 16)(hv:(q.reg a==0)=false)(wf:Nat→Nat)(hw:∀ W,zI k.own w W→Wds W ca len cap wf)(hkk:kk < 4294967296)(hE:isE wf len (kk:Int)=false) :
  Calls Tryz.prog 24 #[.pointer (some ⟨k.h,0,none⟩),.agg (yJ 96 d a b c n kk xx)] w fun e w'=>e=.returned (.agg (uX 0 0 0 0 0 0))∧QW w' k (.slice ca len cap) tb mp { q with stuck:=true,done:=q.done+n,at_:=(kk:Int) }∧zI k.own w w':=by
 have lh:=hq.h.lt
 have c16:w.cell? ⟨k.h,16,none⟩=some (.int .i64 q.done):=hq.h.c 16 aO
 have HQ':Hid _:=hq
 have HLH:Hid _:=hq.h.lt
 have l1:k.h < w.heap.size+1:=aO
 have l2:k.h < w.heap.size+1+1:=aO
 have l3:k.h < w.heap.size+1+1+1:=aO
 have N1:Hid (w.heap.size+1∉k.own):=show w.heap.size+1∉k.own from fun e=>by have:=yN hq _ e;omega
 have N2:Hid (w.heap.size+1+1∉k.own):=show w.heap.size+1+1∉k.own from fun e=>by have:=yN hq _ e;omega
 have HA:Hid _:=ha
 have hv2:(((q.reg a:Nat):Int)==0)=false:=by
   have:q.reg a≠0:=by simpa using hv
   simpa using this
 have HWD:Hid _:=hw
 have HE:Hid _:=hE
 have kw:IntKind.i64.wrap (kk:Int)=kk:=IntWalk.i64_in _ aO
 clear hq ha hw hE
 go_enter Tryz.func24,Tryz.ntmps24
 go_upto_region 1 with fail
 go_region
 all_goals go_upto_region 45 with (go_at_call 38;refine Calls.mono (vH k (.slice ca len cap) tb mp q a _ ?_ HA.out) ?_;(exact zq3);rintro e w1 ⟨rfl,hq1,hc1⟩;have HB1:Hid (SB w w1 k (.slice ca len cap) tb mp { q with stuck:=q.stuck || !(q.has a) } (yJ 96 d a b c n kk xx) kk (q.done+n)):=zAW hq1 hc1 HLH.out;obtain⟨z0,z1,z2,z3,z4,z5,zf,zl⟩:=uU HB1.out.b1;obtain⟨x0,x1,x2,x3,x4,x5,xf,xl⟩:=uU HB1.out.b2;obtain⟨y0,y1,y2,y3,y4,y5,y6,y7,yf,yl⟩:=rw8 HB1.out.b0;clear hq1 hc1)
 all_goals refine zJ (fun W'=>SB w W' k (.slice ca len cap) tb mp { q with stuck:=q.stuck || !(q.has a) } (yJ 96 d a b c n kk xx) kk (q.done+n)) HB1.out ?_
 all_goals clear HB1 z0 z1 z2 z3 z4 z5 zf zl x0 x1 x2 x3 x4 x5 xf xl y0 y1 y2 y3 y4 y5 y6 y7 yf yl
 all_goals(
  intro wx hB
  have HB:Hid _:=hB
  obtain⟨z0,z1,z2,z3,z4,z5,zf,zl⟩:=uU hB.b1
  obtain⟨x0,x1,x2,x3,x4,x5,xf,xl⟩:=uU hB.b2
  obtain⟨y0,y1,y2,y3,y4,y5,y6,y7,yf,yl⟩:=rw8 hB.b0
  have kl:=hB.q.h.lt
  clear hB lh c16 l1 l2 l3)
 all_goals go_upto_region 46 with (go_at_call 22;refine Calls.mono (uS k ca len cap tb mp { q with stuck:=q.stuck || !(q.has a) } kk wf _ HB.out.q (HWD.out _ HB.out.ch)) ?_;rintro e w2 ⟨rfl,hb2⟩;rw[HE.out];have HB2:Hid _:=HB.out.bel hb2;clear hb2)
 all_goals(
  have s23:w2.cell? ⟨k.h,23,none⟩=some (.bool ({ q with stuck:=q.stuck || !(q.has a) }).stuck):=HB2.out.q.h.c 23 aO
  have t23:=HB2.out.q.h.fz 23
  have r23:=HB2.out.q.h.lt)
 all_goals go_upto_region 47 with fail
 all_goals refine zJ (fun W'=>SB w W' k (.slice ca len cap) tb mp { q with stuck:=true } (yJ 96 d a b c n kk xx) kk (q.done+n)) (HB2.out.stick HLH.out true) ?_
 all_goals clear z0 z1 z2 z3 z4 z5 zf zl x0 x1 x2 x3 x4 x5 xf xl y0 y1 y2 y3 y4 y5 y6 y7 yf yl
 all_goals(
  intro wy hB
  have HC:Hid _:=hB
  obtain⟨z0,z1,z2,z3,z4,z5,zf,zl⟩:=uU hB.b1
  obtain⟨x0,x1,x2,x3,x4,x5,xf,xl⟩:=uU hB.b2
  obtain⟨y0,y1,y2,y3,y4,y5,y6,y7,yf,yl⟩:=rw8 hB.b0
  have kl2:=hB.q.h.lt
  have c16:wy.cell? ⟨k.h,16,none⟩=some (.int .i64 q.done):=hB.q.h.c 16 aO
  have f16:=hB.q.h.fz 16
  have c1:wy.cell? ⟨k.h,1,none⟩=some (.int .i64 q.at_):=hB.q.h.c 1 aO
  have f1:=hB.q.h.fz 1
  have u1:¬k.h=w.heap.size:=by have:=HLH.out;omega
  have u2:¬w.heap.size=k.h:=by have:=HLH.out;omega
  have u3:¬k.h=w.heap.size+1:=by have:=HLH.out;omega
  have u4:¬w.heap.size+1=k.h:=by have:=HLH.out;omega
  clear hB)
 all_goals go_region
 all_goals go_wp2
 all_goals exact bodyPost_ret (v:=.agg (uX 0 0 0 0 0 0)) zq47 rfl ⟨rfl,by(focus(repeat first|with_reducible exact(HC.out.q.setDone _).setAt _|with_reducible refine QW.oth ?_ N1.out _ _|with_reducible refine QW.dr ?_)),by(focus(repeat first|with_reducible exact HC.out.ch|with_reducible refine zI.setNew ?_ aO _ _|with_reducible refine zI.set ?_ (zAQ k) _ _|with_reducible refine zI.drew ?_))⟩
end Go.Proofs.YthcpipfmicbnmaaGreat.Ho
