import Derived.Test.YthcpipfmicbnmaaGreatXA
set_option linter.unusedVariables false
set_option linter.unusedSimpArgs false
set_option maxHeartbeats 4000000
namespace Go.Proofs.YthcpipfmicbnmaaGreat.Ho
open Go.RowKit
set_option maxRecDepth 100000
abbrev ovC(kd wv:Int):Array Value:=#[.int .i64 kd,.int .i64 wv,.int .i64 0,.int .i64 0,.int .i64 0,.int .u32 0,.int .i64 0]
theorem zAR(k:QB)(ws tb mp:Value)(q:HQ)(st:Bool)(r:Nat)(w:World)(hq:QW w k ws tb mp { q with stuck:=st })(hr:r < 16) :
  Calls Tryz.prog 38 #[.pointer (some ⟨k.h,0,none⟩),.int .i64 r] w fun e w'=>e=.returned (.int .u32 (q.reg r))∧QW w' k ws tb mp { q with stuck:=st || !(q.has r) }∧zI [k.h] w w':=vH k ws tb mp { q with stuck:=st } r w hq hr
structure IX(w W:World)(k:QB)(ws tb mp:Value)(q:HQ)(C:Array Value)(B:Nat)(kd wv:Int):Prop where
 q:QW W k ws tb mp q
 b0:W.heap[w.heap.size]?=some (.cells C 69)
 b1:W.heap[B]?=some (.cells (ovC kd wv) 115)
 ch:zI k.own w W
 lB:w.heap.size < B
theorem zES{w W:World}{k:QB}{ws tb mp:Value}{q:HQ}{C:Array Value}(h:JX w W k ws tb mp q C)(kd wv:Int):IX w (W.alloc (.cells (ovC kd wv) 115)) k ws tb mp q C W.heap.size kd wv:=
 have b:Below W.heap.size W (W.alloc (.cells (ovC kd wv) 115)):=aB.alloc aL _
 ⟨h.q.al _,(b.block _ (lty h.b0)).trans h.b0,heap_alloc_last _ _,h.ch.alloc _,lty h.b0⟩
theorem IX.nx{w W w1:World}{k:QB}{ws tb mp:Value}{q:HQ}{C:Array Value}{B:Nat}{kd wv:Int}(h:IX w W k ws tb mp q C B kd wv)(b:Below W.heap.size W w1):IX w w1 k ws tb mp q C B kd wv:=
 ⟨h.q.chg (S:=[]) (zI.of_below _ b) (fun _ _=>by simp),(b.block _ (lty h.b0)).trans h.b0,(b.block _ (lty h.b1)).trans h.b1,h.ch.trans (zI.of_below _ b),h.lB⟩
theorem IX.st{w W w1:World}{k:QB}{ws tb mp:Value}{q q1:HQ}{C:Array Value}{B:Nat}{kd wv:Int}(h:IX w W k ws tb mp q C B kd wv)(hr:k.r < w.heap.size)(hg:k.g < w.heap.size)(hq:QW w1 k ws tb mp q1)(c:zI [k.r,k.g] W w1):IX w w1 k ws tb mp q1 C B kd wv:=
 have:=h.lB
 ⟨hq,(c.block _ (lty h.b0) zq7).trans h.b0,(c.block _ (lty h.b1) zq7).trans h.b1,h.ch.trans (c.mono zq56),h.lB⟩
theorem JX.al{w:World}{k:QB}{ws tb mp:Value}{q:HQ}(C:Array Value)(h:QW w k ws tb mp q):JX w (w.alloc (.cells C 69)) k ws tb mp q C:=⟨h.al _,heap_alloc_last w _,(zI.refl _ _).alloc _⟩
theorem zCh{W w1:World}(h:Below W.drew.heap.size W.drew w1):Below W.heap.size W w1:=⟨h.os,h.tape,h.output,h.size,h.block⟩
theorem zMQ(k:QB)(ws tb mp:Value)(q:HQ)(d a b c:Nat)(n:Int)(kk xx v:Nat)(w:World)(hq:QW w k ws tb mp q)(hd:d < 16)(ha:a < 16)(hb:b < 16)(hc:c < 16)
  (hv:∀ W,Calls Tryz.prog 58 #[.agg (ovC 6 0),.int .u32 (q.reg a),.int .u32 (q.reg b),.int .u32 (q.reg c)] W fun e w'=>e=.returned (.int .u32 v)∧Below W.heap.size W w') :
  Calls Tryz.prog 40 #[.pointer (some ⟨k.h,0,none⟩),.agg (yJ 5 d a b c n kk xx)] w fun e w'=>e=.returned (.tuple #[])∧QW w' k ws tb mp { q with stuck:=(((q.stuck || !(q.has a)) || !(q.has b)) || !(q.has c)),reg:=upd q.reg d v,has:=upd q.has d true }∧zI k.own w w':=by
 have HF:∀ w,Hid (Calls Tryz.prog 35 #[.int .i64 5] w fun e w'=>e=.returned (.tuple #[.string ⟨#[100,97,98,99]⟩,.int .i64 0,.int .i64 1])∧w=w'):=fun w=>yH 5 w
 have lh:=hq.h.lt
 have HJ0:Hid (JX w (w.alloc (.cells (yJ 5 d a b c n kk xx) 69)) k ws tb mp q (yJ 5 d a b c n kk xx)):=JX.al _ hq
 have HD:Hid _:=hd
 have HV:Hid _:=hv
 have Ha:Hid _:=ha
 clear ha
 have Hb:Hid _:=hb
 clear hb
 have Hc:Hid _:=hc
 clear hc
 have HLH:Hid _:=hq.h.lt
 have HLR:Hid _:=hq.r.lt
 have HLG:Hid _:=hq.g.lt
 clear hq hd hv
 go_enter Tryz.func40,Tryz.ntmps40
 go_upto_region 6 with first
  | (go_at_call 35;refine Calls.mono (HF _).out ?_;rintro e w1 ⟨rfl,rfl⟩)
  | (go_at_call 38;refine Calls.mono (zAR k ws tb mp q q.stuck a _ HJ0.out.q Ha.out) ?_;rintro e w1 ⟨rfl,hq1,hc1⟩;have HK:Hid (JX w w1 k ws tb mp { q with stuck:=(q.stuck || !(q.has a)) } (yJ 5 d a b c n kk xx)):=HJ0.out.gt HLH.out hq1 hc1;clear hq1 hc1)
 refine zJ (fun W'=>JX w W' k ws tb mp { q with stuck:=(q.stuck || !(q.has a)) } (yJ 5 d a b c n kk xx)) HK.out ?_
 clear HK
 intro wy hJ
 have HJ:Hid _:=hJ
 have y1:=zA hJ.b0 1
 have y3:=zA hJ.b0 3
 have y4:=zA hJ.b0 4
 have yl:=zE hJ.b0
 clear hJ
 clear lh HJ0
 go_upto_region 8 with first
  | (go_at_call 36;refine Calls.mono (zBM _) ?_;rintro e w1 ⟨rfl,rfl⟩)
  | (go_at_call 38;refine Calls.mono (zAR k ws tb mp q (q.stuck || !(q.has a)) b _ HJ.out.q Hb.out) ?_;rintro e w1 ⟨rfl,hq1,hc1⟩;have HK:Hid (JX w w1 k ws tb mp { q with stuck:=((q.stuck || !(q.has a)) || !(q.has b)) } (yJ 5 d a b c n kk xx)):=HJ.out.gt HLH.out hq1 hc1;clear hq1 hc1)
 clear HJ y1 y3 y4 yl
 refine zJ (fun W'=>JX w W' k ws tb mp { q with stuck:=((q.stuck || !(q.has a)) || !(q.has b)) } (yJ 5 d a b c n kk xx)) HK.out ?_
 clear HK
 intro wy hJ
 have HJ:Hid _:=hJ
 have y1:=zA hJ.b0 1
 have y3:=zA hJ.b0 3
 have y4:=zA hJ.b0 4
 have yl:=zE hJ.b0
 clear hJ
 go_upto_region 10 with first
  | (go_at_call 36;refine Calls.mono (zBN _) ?_;rintro e w1 ⟨rfl,rfl⟩)
  | (go_at_call 38;refine Calls.mono (zAR k ws tb mp q ((q.stuck || !(q.has a)) || !(q.has b)) c _ HJ.out.q Hc.out) ?_;rintro e w1 ⟨rfl,hq1,hc1⟩;have HK:Hid (JX w w1 k ws tb mp { q with stuck:=(((q.stuck || !(q.has a)) || !(q.has b)) || !(q.has c)) } (yJ 5 d a b c n kk xx)):=HJ.out.gt HLH.out hq1 hc1;clear hq1 hc1)
 clear HJ y1 y3 y4 yl
 refine zJ (fun W'=>JX w W' k ws tb mp { q with stuck:=(((q.stuck || !(q.has a)) || !(q.has b)) || !(q.has c)) } (yJ 5 d a b c n kk xx)) HK.out ?_
 clear HK
 intro wy hJ
 have HJ:Hid _:=hJ
 have y1:=zA hJ.b0 1
 have y3:=zA hJ.b0 3
 have y4:=zA hJ.b0 4
 have yl:=zE hJ.b0
 clear hJ
 go_upto_region 19 with fail
 refine zJ (fun W'=>IX w W' k ws tb mp { q with stuck:=(((q.stuck || !(q.has a)) || !(q.has b)) || !(q.has c)) } (yJ 5 d a b c n kk xx) wy.heap.size 6 0) (zES HJ.out 6 0) ?_
 clear HJ y1 y3 y4 yl
 intro wx hW
 generalize wy.heap.size=B at *
 have HW:Hid _:=hW
 have od:wx.cell? ⟨w.heap.size,1,none⟩=some (.int .i64 d):=zA hW.b0 1
 have o0:wx.cell? ⟨B,0,none⟩=some (.int .i64 6):=zA hW.b1 0
 have o1:wx.cell? ⟨B,1,none⟩=some (.int .i64 0):=zA hW.b1 1
 have o2:wx.cell? ⟨B,2,none⟩=some (.int .i64 0):=zA hW.b1 2
 have o3:wx.cell? ⟨B,3,none⟩=some (.int .i64 0):=zA hW.b1 3
 have o4:wx.cell? ⟨B,4,none⟩=some (.int .i64 0):=zA hW.b1 4
 have o5:wx.cell? ⟨B,5,none⟩=some (.int .u32 0):=zA hW.b1 5
 have o6:wx.cell? ⟨B,6,none⟩=some (.int .i64 0):=zA hW.b1 6
 have ol:=lty hW.b0
 have om:=lty hW.b1
 clear hW
 go_region_held3 (fun W'=>W'.cell? ⟨w.heap.size,1,none⟩=some (.int .i64 d)∧W'.cell? ⟨B,0,none⟩=some (.int .i64 6)∧W'.cell? ⟨B,1,none⟩=some (.int .i64 0)∧W'.cell? ⟨B,2,none⟩=some (.int .i64 0)∧W'.cell? ⟨B,3,none⟩=some (.int .i64 0)∧W'.cell? ⟨B,4,none⟩=some (.int .i64 0)∧W'.cell? ⟨B,5,none⟩=some (.int .u32 0)∧W'.cell? ⟨B,6,none⟩=some (.int .i64 0)) (first|(simp[go_sem,rd,r0,r1,r2,r3,r4,r5,r6,rl,rm];done)|(simp[go_sem,pd,p0,p1,p2,p3,p4,p5,p6,pl,pm];done)|(simp[go_sem,od,o0,o1,o2,o3,o4,o5,o6,ol,om];done))
  (first
  | (go_at_call 58;refine Calls.mono (HV.out _) ?_;rintro e w1 ⟨rfl,hb1⟩;have HW1:Hid (IX w w1 k ws tb mp { q with stuck:=(((q.stuck || !(q.has a)) || !(q.has b)) || !(q.has c)) } (yJ 5 d a b c n kk xx) B 6 0):=HW.out.nx (zCh hb1);have pd:w1.cell? ⟨w.heap.size,1,none⟩=some (.int .i64 d):=zA HW1.out.b0 1;have p0:w1.cell? ⟨B,0,none⟩=some (.int .i64 6):=zA HW1.out.b1 0;have p1:w1.cell? ⟨B,1,none⟩=some (.int .i64 0):=zA HW1.out.b1 1;have p2:w1.cell? ⟨B,2,none⟩=some (.int .i64 0):=zA HW1.out.b1 2;have p3:w1.cell? ⟨B,3,none⟩=some (.int .i64 0):=zA HW1.out.b1 3;have p4:w1.cell? ⟨B,4,none⟩=some (.int .i64 0):=zA HW1.out.b1 4;have p5:w1.cell? ⟨B,5,none⟩=some (.int .u32 0):=zA HW1.out.b1 5;have p6:w1.cell? ⟨B,6,none⟩=some (.int .i64 0):=zA HW1.out.b1 6;have pl:=lty HW1.out.b0;have pm:=lty HW1.out.b1;clear hb1)
  | (go_at_call 55;have HXX:=HW1;refine Calls.mono (uG k ws tb mp { q with stuck:=(((q.stuck || !(q.has a)) || !(q.has b)) || !(q.has c)) } d v _ ?_ HD.out) ?_;(exact zq13);rintro e w2 ⟨rfl,hq2,hc2⟩;have HW2:Hid (IX w w2 k ws tb mp { q with stuck:=(((q.stuck || !(q.has a)) || !(q.has b)) || !(q.has c)),reg:=upd q.reg d v,has:=upd q.has d true } (yJ 5 d a b c n kk xx) B 6 0):=HW1.out.st HLR.out HLG.out hq2 hc2;have rd:w2.cell? ⟨w.heap.size,1,none⟩=some (.int .i64 d):=zA HW2.out.b0 1;have r0:w2.cell? ⟨B,0,none⟩=some (.int .i64 6):=zA HW2.out.b1 0;have r1:w2.cell? ⟨B,1,none⟩=some (.int .i64 0):=zA HW2.out.b1 1;have r2:w2.cell? ⟨B,2,none⟩=some (.int .i64 0):=zA HW2.out.b1 2;have r3:w2.cell? ⟨B,3,none⟩=some (.int .i64 0):=zA HW2.out.b1 3;have r4:w2.cell? ⟨B,4,none⟩=some (.int .i64 0):=zA HW2.out.b1 4;have r5:w2.cell? ⟨B,5,none⟩=some (.int .u32 0):=zA HW2.out.b1 5;have r6:w2.cell? ⟨B,6,none⟩=some (.int .i64 0):=zA HW2.out.b1 6;have rl:=lty HW2.out.b0;have rm:=lty HW2.out.b1;clear hq2 hc2))
 all_goals(try go_wp2)
 all_goals go_end0
 all_goals exact⟨rfl,HW2.out.q,HW2.out.ch⟩
theorem zMM(k:QB)(ws tb mp:Value)(q:HQ)(op wv:Int)(ho1:16≤op)(ho2:op≤31)(hwv:op - 16=wv)(d a b c:Nat)(n:Int)(kk xx v:Nat)(w:World)(hq:QW w k ws tb mp q)(hd:d < 16)(ha:a < 16)(hb:b < 16)
  (hv:∀ W,Calls Tryz.prog 58 #[.agg (ovC 4 wv),.int .u32 (q.reg a),.int .u32 (q.reg b),.int .u32 0] W fun e w'=>e=.returned (.int .u32 v)∧Below W.heap.size W w') :
  Calls Tryz.prog 40 #[.pointer (some ⟨k.h,0,none⟩),.agg (yJ op d a b c n kk xx)] w fun e w'=>e=.returned (.tuple #[])∧QW w' k ws tb mp { q with stuck:=((q.stuck || !(q.has a)) || !(q.has b)),reg:=upd q.reg d v,has:=upd q.has d true }∧zI k.own w w':=by
 have HF:∀ w,Hid (Calls Tryz.prog 35 #[.int .i64 op] w fun e w'=>e=.returned (.tuple #[.string ⟨#[100,97,98]⟩,.int .i64 0,.int .i64 1])∧w=w'):=fun w=>by have h:=yH op w;rw[show yQ op=⟨#[100,97,98],0,1⟩ from by unfold yQ;repeat(first|rw[if_pos aO]|rw[if_neg aO])] at h;exact h
 have lh:=hq.h.lt
 have e2:(op==2)=false:=by simp;omega
 have e3:(op==3)=false:=by simp;omega
 have e6:(op==6)=false:=by simp;omega
 have e7:(op==7)=false:=by simp;omega
 have e8:(op==8)=false:=by simp;omega
 have e9:(op==9)=false:=by simp;omega
 have e97:(op==97)=false:=by simp;omega
 have g64:¬64≤op:=aO
 have g48:¬48≤op:=aO
 have g32:¬32≤op:=aO
 have HJ0:Hid (JX w (w.alloc (.cells (yJ op d a b c n kk xx) 69)) k ws tb mp q (yJ op d a b c n kk xx)):=JX.al _ hq
 have HD:Hid _:=hd
 have HV:Hid _:=hv
 have Ha:Hid _:=ha
 clear ha
 have Hb:Hid _:=hb
 clear hb
 have HLH:Hid _:=hq.h.lt
 have HLR:Hid _:=hq.r.lt
 have HLG:Hid _:=hq.g.lt
 clear hq hd hv
 go_enter Tryz.func40,Tryz.ntmps40
 go_upto_region 6 with first
  | (go_at_call 35;refine Calls.mono (HF _).out ?_;rintro e w1 ⟨rfl,rfl⟩)
  | (go_at_call 38;refine Calls.mono (zAR k ws tb mp q q.stuck a _ HJ0.out.q Ha.out) ?_;rintro e w1 ⟨rfl,hq1,hc1⟩;have HK:Hid (JX w w1 k ws tb mp { q with stuck:=(q.stuck || !(q.has a)) } (yJ op d a b c n kk xx)):=HJ0.out.gt HLH.out hq1 hc1;clear hq1 hc1)
 refine zJ (fun W'=>JX w W' k ws tb mp { q with stuck:=(q.stuck || !(q.has a)) } (yJ op d a b c n kk xx)) HK.out ?_
 clear HK
 intro wy hJ
 have HJ:Hid _:=hJ
 have y1:=zA hJ.b0 1
 have y3:=zA hJ.b0 3
 have y4:=zA hJ.b0 4
 have yl:=zE hJ.b0
 clear hJ
 clear lh HJ0
 go_upto_region 8 with first
  | (go_at_call 36;refine Calls.mono (zDX _) ?_;rintro e w1 ⟨rfl,rfl⟩)
  | (go_at_call 38;refine Calls.mono (zAR k ws tb mp q (q.stuck || !(q.has a)) b _ HJ.out.q Hb.out) ?_;rintro e w1 ⟨rfl,hq1,hc1⟩;have HK:Hid (JX w w1 k ws tb mp { q with stuck:=((q.stuck || !(q.has a)) || !(q.has b)) } (yJ op d a b c n kk xx)):=HJ.out.gt HLH.out hq1 hc1;clear hq1 hc1)
 clear HJ y1 y3 y4 yl
 refine zJ (fun W'=>JX w W' k ws tb mp { q with stuck:=((q.stuck || !(q.has a)) || !(q.has b)) } (yJ op d a b c n kk xx)) HK.out ?_
 clear HK
 intro wy hJ
 have HJ:Hid _:=hJ
 have y1:=zA hJ.b0 1
 have y3:=zA hJ.b0 3
 have y4:=zA hJ.b0 4
 have yl:=zE hJ.b0
 clear hJ
 go_upto_region 10 with first
  | (go_at_call 36;refine Calls.mono (zDY _) ?_;rintro e w1 ⟨rfl,rfl⟩)
 go_upto_region 19 with fail
 refine zJ (fun W'=>IX w W' k ws tb mp { q with stuck:=((q.stuck || !(q.has a)) || !(q.has b)) } (yJ op d a b c n kk xx) wy.heap.size 4 wv) (zES HJ.out 4 wv) ?_
 clear HJ y1 y3 y4 yl
 intro wx hW
 generalize wy.heap.size=B at *
 have HW:Hid _:=hW
 have od:wx.cell? ⟨w.heap.size,1,none⟩=some (.int .i64 d):=zA hW.b0 1
 have o0:wx.cell? ⟨B,0,none⟩=some (.int .i64 4):=zA hW.b1 0
 have o1:wx.cell? ⟨B,1,none⟩=some (.int .i64 wv):=zA hW.b1 1
 have o2:wx.cell? ⟨B,2,none⟩=some (.int .i64 0):=zA hW.b1 2
 have o3:wx.cell? ⟨B,3,none⟩=some (.int .i64 0):=zA hW.b1 3
 have o4:wx.cell? ⟨B,4,none⟩=some (.int .i64 0):=zA hW.b1 4
 have o5:wx.cell? ⟨B,5,none⟩=some (.int .u32 0):=zA hW.b1 5
 have o6:wx.cell? ⟨B,6,none⟩=some (.int .i64 0):=zA hW.b1 6
 have ol:=lty hW.b0
 have om:=lty hW.b1
 clear hW
 go_region_held3 (fun W'=>W'.cell? ⟨w.heap.size,1,none⟩=some (.int .i64 d)∧W'.cell? ⟨B,0,none⟩=some (.int .i64 4)∧W'.cell? ⟨B,1,none⟩=some (.int .i64 wv)∧W'.cell? ⟨B,2,none⟩=some (.int .i64 0)∧W'.cell? ⟨B,3,none⟩=some (.int .i64 0)∧W'.cell? ⟨B,4,none⟩=some (.int .i64 0)∧W'.cell? ⟨B,5,none⟩=some (.int .u32 0)∧W'.cell? ⟨B,6,none⟩=some (.int .i64 0)) (first|(simp[go_sem,rd,r0,r1,r2,r3,r4,r5,r6,rl,rm];done)|(simp[go_sem,pd,p0,p1,p2,p3,p4,p5,p6,pl,pm];done)|(simp[go_sem,od,o0,o1,o2,o3,o4,o5,o6,ol,om];done))
  (first
  | (go_at_call 58;refine Calls.mono (HV.out _) ?_;rintro e w1 ⟨rfl,hb1⟩;have HW1:Hid (IX w w1 k ws tb mp { q with stuck:=((q.stuck || !(q.has a)) || !(q.has b)) } (yJ op d a b c n kk xx) B 4 wv):=HW.out.nx (zCh hb1);have pd:w1.cell? ⟨w.heap.size,1,none⟩=some (.int .i64 d):=zA HW1.out.b0 1;have p0:w1.cell? ⟨B,0,none⟩=some (.int .i64 4):=zA HW1.out.b1 0;have p1:w1.cell? ⟨B,1,none⟩=some (.int .i64 wv):=zA HW1.out.b1 1;have p2:w1.cell? ⟨B,2,none⟩=some (.int .i64 0):=zA HW1.out.b1 2;have p3:w1.cell? ⟨B,3,none⟩=some (.int .i64 0):=zA HW1.out.b1 3;have p4:w1.cell? ⟨B,4,none⟩=some (.int .i64 0):=zA HW1.out.b1 4;have p5:w1.cell? ⟨B,5,none⟩=some (.int .u32 0):=zA HW1.out.b1 5;have p6:w1.cell? ⟨B,6,none⟩=some (.int .i64 0):=zA HW1.out.b1 6;have pl:=lty HW1.out.b0;have pm:=lty HW1.out.b1;clear hb1)
  | (go_at_call 55;have HXX:=HW1;refine Calls.mono (uG k ws tb mp { q with stuck:=((q.stuck || !(q.has a)) || !(q.has b)) } d v _ ?_ HD.out) ?_;(exact zq13);rintro e w2 ⟨rfl,hq2,hc2⟩;have HW2:Hid (IX w w2 k ws tb mp { q with stuck:=((q.stuck || !(q.has a)) || !(q.has b)),reg:=upd q.reg d v,has:=upd q.has d true } (yJ op d a b c n kk xx) B 4 wv):=HW1.out.st HLR.out HLG.out hq2 hc2;have rd:w2.cell? ⟨w.heap.size,1,none⟩=some (.int .i64 d):=zA HW2.out.b0 1;have r0:w2.cell? ⟨B,0,none⟩=some (.int .i64 4):=zA HW2.out.b1 0;have r1:w2.cell? ⟨B,1,none⟩=some (.int .i64 wv):=zA HW2.out.b1 1;have r2:w2.cell? ⟨B,2,none⟩=some (.int .i64 0):=zA HW2.out.b1 2;have r3:w2.cell? ⟨B,3,none⟩=some (.int .i64 0):=zA HW2.out.b1 3;have r4:w2.cell? ⟨B,4,none⟩=some (.int .i64 0):=zA HW2.out.b1 4;have r5:w2.cell? ⟨B,5,none⟩=some (.int .u32 0):=zA HW2.out.b1 5;have r6:w2.cell? ⟨B,6,none⟩=some (.int .i64 0):=zA HW2.out.b1 6;have rl:=lty HW2.out.b0;have rm:=lty HW2.out.b1;clear hq2 hc2))
 all_goals(try go_wp2)
 all_goals go_end0
 all_goals exact⟨rfl,HW2.out.q,HW2.out.ch⟩
theorem zOD(k:QB)(ws tb mp:Value)(q:HQ)(op wv:Int)(ho1:32≤op)(ho2:op≤38)(hwv:op - 32=wv)(d a b c:Nat)(n:Int)(kk xx v:Nat)(w:World)(hq:QW w k ws tb mp q)(hd:d < 16)(ha:a < 16)
  (hv:∀ W,Calls Tryz.prog 58 #[.agg (ovC 5 wv),.int .u32 (q.reg a),.int .u32 0,.int .u32 0] W fun e w'=>e=.returned (.int .u32 v)∧Below W.heap.size W w') :
  Calls Tryz.prog 40 #[.pointer (some ⟨k.h,0,none⟩),.agg (yJ op d a b c n kk xx)] w fun e w'=>e=.returned (.tuple #[])∧QW w' k ws tb mp { q with stuck:=(q.stuck || !(q.has a)),reg:=upd q.reg d v,has:=upd q.has d true }∧zI k.own w w':=by
 have HF:∀ w,Hid (Calls Tryz.prog 35 #[.int .i64 op] w fun e w'=>e=.returned (.tuple #[.string ⟨#[100,97]⟩,.int .i64 0,.int .i64 1])∧w=w'):=fun w=>by have h:=yH op w;rw[show yQ op=⟨#[100,97],0,1⟩ from by unfold yQ;repeat(first|rw[if_pos aO]|rw[if_neg aO])] at h;exact h
 have lh:=hq.h.lt
 have e2:(op==2)=false:=by simp;omega
 have e3:(op==3)=false:=by simp;omega
 have e6:(op==6)=false:=by simp;omega
 have e7:(op==7)=false:=by simp;omega
 have e8:(op==8)=false:=by simp;omega
 have e9:(op==9)=false:=by simp;omega
 have e97:(op==97)=false:=by simp;omega
 have g64:¬64≤op:=aO
 have g48:¬48≤op:=aO
 have HJ0:Hid (JX w (w.alloc (.cells (yJ op d a b c n kk xx) 69)) k ws tb mp q (yJ op d a b c n kk xx)):=JX.al _ hq
 have HD:Hid _:=hd
 have HV:Hid _:=hv
 have Ha:Hid _:=ha
 clear ha
 have HLH:Hid _:=hq.h.lt
 have HLR:Hid _:=hq.r.lt
 have HLG:Hid _:=hq.g.lt
 clear hq hd hv
 go_enter Tryz.func40,Tryz.ntmps40
 go_upto_region 6 with first
  | (go_at_call 35;refine Calls.mono (HF _).out ?_;rintro e w1 ⟨rfl,rfl⟩)
  | (go_at_call 38;refine Calls.mono (zAR k ws tb mp q q.stuck a _ HJ0.out.q Ha.out) ?_;rintro e w1 ⟨rfl,hq1,hc1⟩;have HK:Hid (JX w w1 k ws tb mp { q with stuck:=(q.stuck || !(q.has a)) } (yJ op d a b c n kk xx)):=HJ0.out.gt HLH.out hq1 hc1;clear hq1 hc1)
 refine zJ (fun W'=>JX w W' k ws tb mp { q with stuck:=(q.stuck || !(q.has a)) } (yJ op d a b c n kk xx)) HK.out ?_
 clear HK
 intro wy hJ
 have HJ:Hid _:=hJ
 have y1:=zA hJ.b0 1
 have y3:=zA hJ.b0 3
 have y4:=zA hJ.b0 4
 have yl:=zE hJ.b0
 clear hJ
 clear lh HJ0
 go_upto_region 8 with first
  | (go_at_call 36;refine Calls.mono (zDd _) ?_;rintro e w1 ⟨rfl,rfl⟩)
 go_upto_region 10 with first
  | (go_at_call 36;refine Calls.mono (zDe _) ?_;rintro e w1 ⟨rfl,rfl⟩)
 go_upto_region 19 with fail
 refine zJ (fun W'=>IX w W' k ws tb mp { q with stuck:=(q.stuck || !(q.has a)) } (yJ op d a b c n kk xx) wy.heap.size 5 wv) (zES HJ.out 5 wv) ?_
 clear HJ y1 y3 y4 yl
 intro wx hW
 generalize wy.heap.size=B at *
 have HW:Hid _:=hW
 have od:wx.cell? ⟨w.heap.size,1,none⟩=some (.int .i64 d):=zA hW.b0 1
 have o0:wx.cell? ⟨B,0,none⟩=some (.int .i64 5):=zA hW.b1 0
 have o1:wx.cell? ⟨B,1,none⟩=some (.int .i64 wv):=zA hW.b1 1
 have o2:wx.cell? ⟨B,2,none⟩=some (.int .i64 0):=zA hW.b1 2
 have o3:wx.cell? ⟨B,3,none⟩=some (.int .i64 0):=zA hW.b1 3
 have o4:wx.cell? ⟨B,4,none⟩=some (.int .i64 0):=zA hW.b1 4
 have o5:wx.cell? ⟨B,5,none⟩=some (.int .u32 0):=zA hW.b1 5
 have o6:wx.cell? ⟨B,6,none⟩=some (.int .i64 0):=zA hW.b1 6
 have ol:=lty hW.b0
 have om:=lty hW.b1
 clear hW
 go_region_held3 (fun W'=>W'.cell? ⟨w.heap.size,1,none⟩=some (.int .i64 d)∧W'.cell? ⟨B,0,none⟩=some (.int .i64 5)∧W'.cell? ⟨B,1,none⟩=some (.int .i64 wv)∧W'.cell? ⟨B,2,none⟩=some (.int .i64 0)∧W'.cell? ⟨B,3,none⟩=some (.int .i64 0)∧W'.cell? ⟨B,4,none⟩=some (.int .i64 0)∧W'.cell? ⟨B,5,none⟩=some (.int .u32 0)∧W'.cell? ⟨B,6,none⟩=some (.int .i64 0)) (first|(simp[go_sem,rd,r0,r1,r2,r3,r4,r5,r6,rl,rm];done)|(simp[go_sem,pd,p0,p1,p2,p3,p4,p5,p6,pl,pm];done)|(simp[go_sem,od,o0,o1,o2,o3,o4,o5,o6,ol,om];done))
  (first
  | (go_at_call 58;refine Calls.mono (HV.out _) ?_;rintro e w1 ⟨rfl,hb1⟩;have HW1:Hid (IX w w1 k ws tb mp { q with stuck:=(q.stuck || !(q.has a)) } (yJ op d a b c n kk xx) B 5 wv):=HW.out.nx (zCh hb1);have pd:w1.cell? ⟨w.heap.size,1,none⟩=some (.int .i64 d):=zA HW1.out.b0 1;have p0:w1.cell? ⟨B,0,none⟩=some (.int .i64 5):=zA HW1.out.b1 0;have p1:w1.cell? ⟨B,1,none⟩=some (.int .i64 wv):=zA HW1.out.b1 1;have p2:w1.cell? ⟨B,2,none⟩=some (.int .i64 0):=zA HW1.out.b1 2;have p3:w1.cell? ⟨B,3,none⟩=some (.int .i64 0):=zA HW1.out.b1 3;have p4:w1.cell? ⟨B,4,none⟩=some (.int .i64 0):=zA HW1.out.b1 4;have p5:w1.cell? ⟨B,5,none⟩=some (.int .u32 0):=zA HW1.out.b1 5;have p6:w1.cell? ⟨B,6,none⟩=some (.int .i64 0):=zA HW1.out.b1 6;have pl:=lty HW1.out.b0;have pm:=lty HW1.out.b1;clear hb1)
  | (go_at_call 55;have HXX:=HW1;refine Calls.mono (uG k ws tb mp { q with stuck:=(q.stuck || !(q.has a)) } d v _ ?_ HD.out) ?_;(exact zq13);rintro e w2 ⟨rfl,hq2,hc2⟩;have HW2:Hid (IX w w2 k ws tb mp { q with stuck:=(q.stuck || !(q.has a)),reg:=upd q.reg d v,has:=upd q.has d true } (yJ op d a b c n kk xx) B 5 wv):=HW1.out.st HLR.out HLG.out hq2 hc2;have rd:w2.cell? ⟨w.heap.size,1,none⟩=some (.int .i64 d):=zA HW2.out.b0 1;have r0:w2.cell? ⟨B,0,none⟩=some (.int .i64 5):=zA HW2.out.b1 0;have r1:w2.cell? ⟨B,1,none⟩=some (.int .i64 wv):=zA HW2.out.b1 1;have r2:w2.cell? ⟨B,2,none⟩=some (.int .i64 0):=zA HW2.out.b1 2;have r3:w2.cell? ⟨B,3,none⟩=some (.int .i64 0):=zA HW2.out.b1 3;have r4:w2.cell? ⟨B,4,none⟩=some (.int .i64 0):=zA HW2.out.b1 4;have r5:w2.cell? ⟨B,5,none⟩=some (.int .u32 0):=zA HW2.out.b1 5;have r6:w2.cell? ⟨B,6,none⟩=some (.int .i64 0):=zA HW2.out.b1 6;have rl:=lty HW2.out.b0;have rm:=lty HW2.out.b1;clear hq2 hc2))
 all_goals(try go_wp2)
 all_goals go_end0
 all_goals exact⟨rfl,HW2.out.q,HW2.out.ch⟩
theorem zJr(k:QB)(ws tb mp:Value)(q:HQ)(op wv:Int)(ho1:48≤op)(ho2:op≤60)(hwv:op - 48=wv)(d a b c:Nat)(n:Int)(kk xx v:Nat)(w:World)(hq:QW w k ws tb mp q)(hd:d < 16)(ha:a < 16)(hb:b < 16)(hc:c < 16)
  (hv:∀ W,Calls Tryz.prog 58 #[.agg (ovC 7 wv),.int .u32 (q.reg a),.int .u32 (q.reg b),.int .u32 (q.reg c)] W fun e w'=>e=.returned (.int .u32 v)∧Below W.heap.size W w') :
  Calls Tryz.prog 40 #[.pointer (some ⟨k.h,0,none⟩),.agg (yJ op d a b c n kk xx)] w fun e w'=>e=.returned (.tuple #[])∧QW w' k ws tb mp { q with stuck:=(((q.stuck || !(q.has a)) || !(q.has b)) || !(q.has c)),reg:=upd q.reg d v,has:=upd q.has d true }∧zI k.own w w':=by
 have HF:∀ w,Hid (Calls Tryz.prog 35 #[.int .i64 op] w fun e w'=>e=.returned (.tuple #[.string ⟨#[100,97,98,99]⟩,.int .i64 0,.int .i64 1])∧w=w'):=fun w=>by have h:=yH op w;rw[show yQ op=⟨#[100,97,98,99],0,1⟩ from by unfold yQ;repeat(first|rw[if_pos aO]|rw[if_neg aO])] at h;exact h
 have lh:=hq.h.lt
 have e2:(op==2)=false:=by simp;omega
 have e3:(op==3)=false:=by simp;omega
 have e6:(op==6)=false:=by simp;omega
 have e7:(op==7)=false:=by simp;omega
 have e8:(op==8)=false:=by simp;omega
 have e9:(op==9)=false:=by simp;omega
 have e97:(op==97)=false:=by simp;omega
 have g64:¬64≤op:=aO
 have HJ0:Hid (JX w (w.alloc (.cells (yJ op d a b c n kk xx) 69)) k ws tb mp q (yJ op d a b c n kk xx)):=JX.al _ hq
 have HD:Hid _:=hd
 have HV:Hid _:=hv
 have Ha:Hid _:=ha
 clear ha
 have Hb:Hid _:=hb
 clear hb
 have Hc:Hid _:=hc
 clear hc
 have HLH:Hid _:=hq.h.lt
 have HLR:Hid _:=hq.r.lt
 have HLG:Hid _:=hq.g.lt
 clear hq hd hv
 go_enter Tryz.func40,Tryz.ntmps40
 go_upto_region 6 with first
  | (go_at_call 35;refine Calls.mono (HF _).out ?_;rintro e w1 ⟨rfl,rfl⟩)
  | (go_at_call 38;refine Calls.mono (zAR k ws tb mp q q.stuck a _ HJ0.out.q Ha.out) ?_;rintro e w1 ⟨rfl,hq1,hc1⟩;have HK:Hid (JX w w1 k ws tb mp { q with stuck:=(q.stuck || !(q.has a)) } (yJ op d a b c n kk xx)):=HJ0.out.gt HLH.out hq1 hc1;clear hq1 hc1)
 refine zJ (fun W'=>JX w W' k ws tb mp { q with stuck:=(q.stuck || !(q.has a)) } (yJ op d a b c n kk xx)) HK.out ?_
 clear HK
 intro wy hJ
 have HJ:Hid _:=hJ
 have y1:=zA hJ.b0 1
 have y3:=zA hJ.b0 3
 have y4:=zA hJ.b0 4
 have yl:=zE hJ.b0
 clear hJ
 clear lh HJ0
 go_upto_region 8 with first
  | (go_at_call 36;refine Calls.mono (zBM _) ?_;rintro e w1 ⟨rfl,rfl⟩)
  | (go_at_call 38;refine Calls.mono (zAR k ws tb mp q (q.stuck || !(q.has a)) b _ HJ.out.q Hb.out) ?_;rintro e w1 ⟨rfl,hq1,hc1⟩;have HK:Hid (JX w w1 k ws tb mp { q with stuck:=((q.stuck || !(q.has a)) || !(q.has b)) } (yJ op d a b c n kk xx)):=HJ.out.gt HLH.out hq1 hc1;clear hq1 hc1)
 clear HJ y1 y3 y4 yl
 refine zJ (fun W'=>JX w W' k ws tb mp { q with stuck:=((q.stuck || !(q.has a)) || !(q.has b)) } (yJ op d a b c n kk xx)) HK.out ?_
 clear HK
 intro wy hJ
 have HJ:Hid _:=hJ
 have y1:=zA hJ.b0 1
 have y3:=zA hJ.b0 3
 have y4:=zA hJ.b0 4
 have yl:=zE hJ.b0
 clear hJ
 go_upto_region 10 with first
  | (go_at_call 36;refine Calls.mono (zBN _) ?_;rintro e w1 ⟨rfl,rfl⟩)
  | (go_at_call 38;refine Calls.mono (zAR k ws tb mp q ((q.stuck || !(q.has a)) || !(q.has b)) c _ HJ.out.q Hc.out) ?_;rintro e w1 ⟨rfl,hq1,hc1⟩;have HK:Hid (JX w w1 k ws tb mp { q with stuck:=(((q.stuck || !(q.has a)) || !(q.has b)) || !(q.has c)) } (yJ op d a b c n kk xx)):=HJ.out.gt HLH.out hq1 hc1;clear hq1 hc1)
 clear HJ y1 y3 y4 yl
 refine zJ (fun W'=>JX w W' k ws tb mp { q with stuck:=(((q.stuck || !(q.has a)) || !(q.has b)) || !(q.has c)) } (yJ op d a b c n kk xx)) HK.out ?_
 clear HK
 intro wy hJ
 have HJ:Hid _:=hJ
 have y1:=zA hJ.b0 1
 have y3:=zA hJ.b0 3
 have y4:=zA hJ.b0 4
 have yl:=zE hJ.b0
 clear hJ
 go_upto_region 19 with fail
 refine zJ (fun W'=>IX w W' k ws tb mp { q with stuck:=(((q.stuck || !(q.has a)) || !(q.has b)) || !(q.has c)) } (yJ op d a b c n kk xx) wy.heap.size 7 wv) (zES HJ.out 7 wv) ?_
 clear HJ y1 y3 y4 yl
 intro wx hW
 generalize wy.heap.size=B at *
 have HW:Hid _:=hW
 have od:wx.cell? ⟨w.heap.size,1,none⟩=some (.int .i64 d):=zA hW.b0 1
 have o0:wx.cell? ⟨B,0,none⟩=some (.int .i64 7):=zA hW.b1 0
 have o1:wx.cell? ⟨B,1,none⟩=some (.int .i64 wv):=zA hW.b1 1
 have o2:wx.cell? ⟨B,2,none⟩=some (.int .i64 0):=zA hW.b1 2
 have o3:wx.cell? ⟨B,3,none⟩=some (.int .i64 0):=zA hW.b1 3
 have o4:wx.cell? ⟨B,4,none⟩=some (.int .i64 0):=zA hW.b1 4
 have o5:wx.cell? ⟨B,5,none⟩=some (.int .u32 0):=zA hW.b1 5
 have o6:wx.cell? ⟨B,6,none⟩=some (.int .i64 0):=zA hW.b1 6
 have ol:=lty hW.b0
 have om:=lty hW.b1
 clear hW
 go_region_held3 (fun W'=>W'.cell? ⟨w.heap.size,1,none⟩=some (.int .i64 d)∧W'.cell? ⟨B,0,none⟩=some (.int .i64 7)∧W'.cell? ⟨B,1,none⟩=some (.int .i64 wv)∧W'.cell? ⟨B,2,none⟩=some (.int .i64 0)∧W'.cell? ⟨B,3,none⟩=some (.int .i64 0)∧W'.cell? ⟨B,4,none⟩=some (.int .i64 0)∧W'.cell? ⟨B,5,none⟩=some (.int .u32 0)∧W'.cell? ⟨B,6,none⟩=some (.int .i64 0)) (first|(simp[go_sem,rd,r0,r1,r2,r3,r4,r5,r6,rl,rm];done)|(simp[go_sem,pd,p0,p1,p2,p3,p4,p5,p6,pl,pm];done)|(simp[go_sem,od,o0,o1,o2,o3,o4,o5,o6,ol,om];done))
  (first
  | (go_at_call 58;refine Calls.mono (HV.out _) ?_;rintro e w1 ⟨rfl,hb1⟩;have HW1:Hid (IX w w1 k ws tb mp { q with stuck:=(((q.stuck || !(q.has a)) || !(q.has b)) || !(q.has c)) } (yJ op d a b c n kk xx) B 7 wv):=HW.out.nx (zCh hb1);have pd:w1.cell? ⟨w.heap.size,1,none⟩=some (.int .i64 d):=zA HW1.out.b0 1;have p0:w1.cell? ⟨B,0,none⟩=some (.int .i64 7):=zA HW1.out.b1 0;have p1:w1.cell? ⟨B,1,none⟩=some (.int .i64 wv):=zA HW1.out.b1 1;have p2:w1.cell? ⟨B,2,none⟩=some (.int .i64 0):=zA HW1.out.b1 2;have p3:w1.cell? ⟨B,3,none⟩=some (.int .i64 0):=zA HW1.out.b1 3;have p4:w1.cell? ⟨B,4,none⟩=some (.int .i64 0):=zA HW1.out.b1 4;have p5:w1.cell? ⟨B,5,none⟩=some (.int .u32 0):=zA HW1.out.b1 5;have p6:w1.cell? ⟨B,6,none⟩=some (.int .i64 0):=zA HW1.out.b1 6;have pl:=lty HW1.out.b0;have pm:=lty HW1.out.b1;clear hb1)
  | (go_at_call 55;have HXX:=HW1;refine Calls.mono (uG k ws tb mp { q with stuck:=(((q.stuck || !(q.has a)) || !(q.has b)) || !(q.has c)) } d v _ ?_ HD.out) ?_;(exact zq13);rintro e w2 ⟨rfl,hq2,hc2⟩;have HW2:Hid (IX w w2 k ws tb mp { q with stuck:=(((q.stuck || !(q.has a)) || !(q.has b)) || !(q.has c)),reg:=upd q.reg d v,has:=upd q.has d true } (yJ op d a b c n kk xx) B 7 wv):=HW1.out.st HLR.out HLG.out hq2 hc2;have rd:w2.cell? ⟨w.heap.size,1,none⟩=some (.int .i64 d):=zA HW2.out.b0 1;have r0:w2.cell? ⟨B,0,none⟩=some (.int .i64 7):=zA HW2.out.b1 0;have r1:w2.cell? ⟨B,1,none⟩=some (.int .i64 wv):=zA HW2.out.b1 1;have r2:w2.cell? ⟨B,2,none⟩=some (.int .i64 0):=zA HW2.out.b1 2;have r3:w2.cell? ⟨B,3,none⟩=some (.int .i64 0):=zA HW2.out.b1 3;have r4:w2.cell? ⟨B,4,none⟩=some (.int .i64 0):=zA HW2.out.b1 4;have r5:w2.cell? ⟨B,5,none⟩=some (.int .u32 0):=zA HW2.out.b1 5;have r6:w2.cell? ⟨B,6,none⟩=some (.int .i64 0):=zA HW2.out.b1 6;have rl:=lty HW2.out.b0;have rm:=lty HW2.out.b1;clear hq2 hc2))
 all_goals(try go_wp2)
 all_goals go_end0
 all_goals exact⟨rfl,HW2.out.q,HW2.out.ch⟩
theorem zK3(k:QB)(ws tb mp:Value)(q:HQ)(op wv:Int)(ho1:64≤op)(ho2:op≤79)(hwv:op - 64=wv)(d a b c:Nat)(n:Int)(kk xx v:Nat)(w:World)(hq:QW w k ws tb mp q)(hd:d < 16)(ha:a < 16)
  (hv:∀ W,Calls Tryz.prog 58 #[.agg (ovC 8 wv),.int .u32 (q.reg a),.int .u32 0,.int .u32 0] W fun e w'=>e=.returned (.int .u32 v)∧Below W.heap.size W w') :
  Calls Tryz.prog 40 #[.pointer (some ⟨k.h,0,none⟩),.agg (yJ op d a b c n kk xx)] w fun e w'=>e=.returned (.tuple #[])∧QW w' k ws tb mp { q with stuck:=(q.stuck || !(q.has a)),reg:=upd q.reg d v,has:=upd q.has d true }∧zI k.own w w':=by
 have HF:∀ w,Hid (Calls Tryz.prog 35 #[.int .i64 op] w fun e w'=>e=.returned (.tuple #[.string ⟨#[100,97]⟩,.int .i64 0,.int .i64 1])∧w=w'):=fun w=>by have h:=yH op w;rw[show yQ op=⟨#[100,97],0,1⟩ from by unfold yQ;repeat(first|rw[if_pos aO]|rw[if_neg aO])] at h;exact h
 have lh:=hq.h.lt
 have e2:(op==2)=false:=by simp;omega
 have e3:(op==3)=false:=by simp;omega
 have e6:(op==6)=false:=by simp;omega
 have e7:(op==7)=false:=by simp;omega
 have e8:(op==8)=false:=by simp;omega
 have e9:(op==9)=false:=by simp;omega
 have e97:(op==97)=false:=by simp;omega
 have HJ0:Hid (JX w (w.alloc (.cells (yJ op d a b c n kk xx) 69)) k ws tb mp q (yJ op d a b c n kk xx)):=JX.al _ hq
 have HD:Hid _:=hd
 have HV:Hid _:=hv
 have Ha:Hid _:=ha
 clear ha
 have HLH:Hid _:=hq.h.lt
 have HLR:Hid _:=hq.r.lt
 have HLG:Hid _:=hq.g.lt
 clear hq hd hv
 go_enter Tryz.func40,Tryz.ntmps40
 go_upto_region 6 with first
  | (go_at_call 35;refine Calls.mono (HF _).out ?_;rintro e w1 ⟨rfl,rfl⟩)
  | (go_at_call 38;refine Calls.mono (zAR k ws tb mp q q.stuck a _ HJ0.out.q Ha.out) ?_;rintro e w1 ⟨rfl,hq1,hc1⟩;have HK:Hid (JX w w1 k ws tb mp { q with stuck:=(q.stuck || !(q.has a)) } (yJ op d a b c n kk xx)):=HJ0.out.gt HLH.out hq1 hc1;clear hq1 hc1)
 refine zJ (fun W'=>JX w W' k ws tb mp { q with stuck:=(q.stuck || !(q.has a)) } (yJ op d a b c n kk xx)) HK.out ?_
 clear HK
 intro wy hJ
 have HJ:Hid _:=hJ
 have y1:=zA hJ.b0 1
 have y3:=zA hJ.b0 3
 have y4:=zA hJ.b0 4
 have yl:=zE hJ.b0
 clear hJ
 clear lh HJ0
 go_upto_region 8 with first
  | (go_at_call 36;refine Calls.mono (zDd _) ?_;rintro e w1 ⟨rfl,rfl⟩)
 go_upto_region 10 with first
  | (go_at_call 36;refine Calls.mono (zDe _) ?_;rintro e w1 ⟨rfl,rfl⟩)
 go_upto_region 19 with fail
 refine zJ (fun W'=>IX w W' k ws tb mp { q with stuck:=(q.stuck || !(q.has a)) } (yJ op d a b c n kk xx) wy.heap.size 8 wv) (zES HJ.out 8 wv) ?_
 clear HJ y1 y3 y4 yl
 intro wx hW
 generalize wy.heap.size=B at *
 have HW:Hid _:=hW
 have od:wx.cell? ⟨w.heap.size,1,none⟩=some (.int .i64 d):=zA hW.b0 1
 have o0:wx.cell? ⟨B,0,none⟩=some (.int .i64 8):=zA hW.b1 0
 have o1:wx.cell? ⟨B,1,none⟩=some (.int .i64 wv):=zA hW.b1 1
 have o2:wx.cell? ⟨B,2,none⟩=some (.int .i64 0):=zA hW.b1 2
 have o3:wx.cell? ⟨B,3,none⟩=some (.int .i64 0):=zA hW.b1 3
 have o4:wx.cell? ⟨B,4,none⟩=some (.int .i64 0):=zA hW.b1 4
 have o5:wx.cell? ⟨B,5,none⟩=some (.int .u32 0):=zA hW.b1 5
 have o6:wx.cell? ⟨B,6,none⟩=some (.int .i64 0):=zA hW.b1 6
 have ol:=lty hW.b0
 have om:=lty hW.b1
 clear hW
 go_region_held3 (fun W'=>W'.cell? ⟨w.heap.size,1,none⟩=some (.int .i64 d)∧W'.cell? ⟨B,0,none⟩=some (.int .i64 8)∧W'.cell? ⟨B,1,none⟩=some (.int .i64 wv)∧W'.cell? ⟨B,2,none⟩=some (.int .i64 0)∧W'.cell? ⟨B,3,none⟩=some (.int .i64 0)∧W'.cell? ⟨B,4,none⟩=some (.int .i64 0)∧W'.cell? ⟨B,5,none⟩=some (.int .u32 0)∧W'.cell? ⟨B,6,none⟩=some (.int .i64 0)) (first|(simp[go_sem,rd,r0,r1,r2,r3,r4,r5,r6,rl,rm];done)|(simp[go_sem,pd,p0,p1,p2,p3,p4,p5,p6,pl,pm];done)|(simp[go_sem,od,o0,o1,o2,o3,o4,o5,o6,ol,om];done))
  (first
  | (go_at_call 58;refine Calls.mono (HV.out _) ?_;rintro e w1 ⟨rfl,hb1⟩;have HW1:Hid (IX w w1 k ws tb mp { q with stuck:=(q.stuck || !(q.has a)) } (yJ op d a b c n kk xx) B 8 wv):=HW.out.nx (zCh hb1);have pd:w1.cell? ⟨w.heap.size,1,none⟩=some (.int .i64 d):=zA HW1.out.b0 1;have p0:w1.cell? ⟨B,0,none⟩=some (.int .i64 8):=zA HW1.out.b1 0;have p1:w1.cell? ⟨B,1,none⟩=some (.int .i64 wv):=zA HW1.out.b1 1;have p2:w1.cell? ⟨B,2,none⟩=some (.int .i64 0):=zA HW1.out.b1 2;have p3:w1.cell? ⟨B,3,none⟩=some (.int .i64 0):=zA HW1.out.b1 3;have p4:w1.cell? ⟨B,4,none⟩=some (.int .i64 0):=zA HW1.out.b1 4;have p5:w1.cell? ⟨B,5,none⟩=some (.int .u32 0):=zA HW1.out.b1 5;have p6:w1.cell? ⟨B,6,none⟩=some (.int .i64 0):=zA HW1.out.b1 6;have pl:=lty HW1.out.b0;have pm:=lty HW1.out.b1;clear hb1)
  | (go_at_call 55;have HXX:=HW1;refine Calls.mono (uG k ws tb mp { q with stuck:=(q.stuck || !(q.has a)) } d v _ ?_ HD.out) ?_;(exact zq13);rintro e w2 ⟨rfl,hq2,hc2⟩;have HW2:Hid (IX w w2 k ws tb mp { q with stuck:=(q.stuck || !(q.has a)),reg:=upd q.reg d v,has:=upd q.has d true } (yJ op d a b c n kk xx) B 8 wv):=HW1.out.st HLR.out HLG.out hq2 hc2;have rd:w2.cell? ⟨w.heap.size,1,none⟩=some (.int .i64 d):=zA HW2.out.b0 1;have r0:w2.cell? ⟨B,0,none⟩=some (.int .i64 8):=zA HW2.out.b1 0;have r1:w2.cell? ⟨B,1,none⟩=some (.int .i64 wv):=zA HW2.out.b1 1;have r2:w2.cell? ⟨B,2,none⟩=some (.int .i64 0):=zA HW2.out.b1 2;have r3:w2.cell? ⟨B,3,none⟩=some (.int .i64 0):=zA HW2.out.b1 3;have r4:w2.cell? ⟨B,4,none⟩=some (.int .i64 0):=zA HW2.out.b1 4;have r5:w2.cell? ⟨B,5,none⟩=some (.int .u32 0):=zA HW2.out.b1 5;have r6:w2.cell? ⟨B,6,none⟩=some (.int .i64 0):=zA HW2.out.b1 6;have rl:=lty HW2.out.b0;have rm:=lty HW2.out.b1;clear hq2 hc2))
 all_goals(try go_wp2)
 all_goals go_end0
 all_goals exact⟨rfl,HW2.out.q,HW2.out.ch⟩
end Go.Proofs.YthcpipfmicbnmaaGreat.Ho
