import Derived.Test.YthcpipfmicbnmaaGreatXB
import Derived.Deep.RegionHeld3
set_option linter.unusedVariables false
set_option linter.unusedSimpArgs false
set_option maxHeartbeats 4000000
namespace Go.Proofs.YthcpipfmicbnmaaGreat.Ho
open Go.RowKit
set_option maxRecDepth 100000
structure SE(w W:World)(k:QB)(ws tb mp:Value)(q:HQ)(C:Array Value)(pc:Nat)(n:Int)(B:Nat)(p:Nat)(t:Int):Prop where
 sb:SB w W k ws tb mp q C pc n
 b3:W.heap[B]?=some (.cells #[.int .u32 p,.int .i64 t] 42)
 lB:w.heap.size+1+1 < B
theorem zGO{w W:World}{k:QB}{ws tb mp:Value}{q:HQ}{C:Array Value}{pc:Nat}{n:Int}(h:SB w W k ws tb mp q C pc n)(p:Nat)(t:Int):SE w (W.alloc (.cells #[.int .u32 p,.int .i64 t] 42)).drew k ws tb mp q C pc n W.heap.size p t:=
 ⟨h.bel (aB.alloc aL _).drew,heap_alloc_last _ _,lty h.b2⟩
theorem SE.bel{w W W':World}{k:QB}{ws tb mp:Value}{q:HQ}{C:Array Value}{pc:Nat}{n:Int}{B p:Nat}{t:Int}(h:SE w W k ws tb mp q C pc n B p t)(b:Below W.heap.size W W'):SE w W' k ws tb mp q C pc n B p t:=
 ⟨h.sb.bel b,(b.block _ (lty h.b3)).trans h.b3,h.lB⟩
theorem zEV{w W:World}{k:QB}{ws tb mp:Value}{q:HQ}{C:Array Value}{pc:Nat}{n:Int}(h:SB w W k ws tb mp q C pc n)(N2:w.heap.size+1+1∉k.own)(u:Nat):SB w (W.setCell ⟨w.heap.size+1+1,3,none⟩ (.int .u32 u)) k ws tb mp q C u n:=
 have c:zI [w.heap.size+1+1] W (W.setCell ⟨w.heap.size+1+1,3,none⟩ (.int .u32 u)):=(zI.refl _ _).set aC _ _
 ⟨h.q.oth N2 _ _,c.keep h.b0 zq7,c.keep h.b1 aS,zZ h.b2 _,h.ch.setNew aO _ _⟩
theorem zEw(k:QB)(ca:Option Addr)(len cap:Nat)(ta:Option Addr)(tcap:Nat)(mp:Value)(q:HQ)(d n b c:Int)(a kk xx:Nat)(w:World)(hq:QW w k (.slice ca len cap) (.slice ta 0 tcap) mp q)(hn0:0≤q.done+n)(hn1:q.done+n≤9223372036854775807)(ha:a < 16) :
  Calls Tryz.prog 24 #[.pointer (some ⟨k.h,0,none⟩),.agg (yJ 4 d a b c n kk xx)] w fun e w'=>e=.returned (.agg (uX 2 0 0 (q.reg a) (q.done+n) 0))∧QW w' k (.slice ca len cap) (.slice ta 0 tcap) mp { q with stuck:=q.stuck || !(q.has a) }∧zI k.own w w':=by
 have lh:=hq.h.lt
 have c16:w.cell? ⟨k.h,16,none⟩=some (.int .i64 q.done):=hq.h.c 16 aO
 have HQ':Hid _:=hq
 have HLH:Hid _:=hq.h.lt
 have l1:k.h < w.heap.size+1:=aO
 have l2:k.h < w.heap.size+1+1:=aO
 have l3:k.h < w.heap.size+1+1+1:=aO
 have N1:Hid (w.heap.size+1∉k.own):=show w.heap.size+1∉k.own from fun e=>by have:=yN hq _ e;omega
 have N2:Hid (w.heap.size+1+1∉k.own):=show w.heap.size+1+1∉k.own from fun e=>by have:=yN hq _ e;omega
 have HA:Hid _:=ha
 clear hq ha
 go_enter Tryz.func24,Tryz.ntmps24
 go_upto_region 1 with fail
 go_region
 all_goals go_upto_region 34 with (go_at_call 38;refine Calls.mono (vH k (.slice ca len cap) (.slice ta 0 tcap) mp q a _ ?_ HA.out) ?_;(exact zq3);rintro e w1 ⟨rfl,hq1,hc1⟩;have HB1:Hid (SB w w1 k (.slice ca len cap) (.slice ta 0 tcap) mp { q with stuck:=q.stuck || !(q.has a) } (yJ 4 d a b c n kk xx) kk (q.done+n)):=zAW hq1 hc1 HLH.out;obtain⟨z0,z1,z2,z3,z4,z5,zf,zl⟩:=uU HB1.out.b1;obtain⟨x0,x1,x2,x3,x4,x5,xf,xl⟩:=uU HB1.out.b2;obtain⟨y0,y1,y2,y3,y4,y5,y6,y7,yf,yl⟩:=rw8 HB1.out.b0;clear hq1 hc1)
 all_goals refine zJ (fun W'=>SB w W' k (.slice ca len cap) (.slice ta 0 tcap) mp { q with stuck:=q.stuck || !(q.has a) } (yJ 4 d a b c n kk xx) (q.reg a) (q.done+n)) (zEV HB1.out N2.out _) ?_
 all_goals clear HB1 z0 z1 z2 z3 z4 z5 zf zl x0 x1 x2 x3 x4 x5 xf xl y0 y1 y2 y3 y4 y5 y6 y7 yf yl
 all_goals(
  intro wx hB
  have HB:Hid _:=hB
  obtain⟨z0,z1,z2,z3,z4,z5,zf,zl⟩:=uU hB.b1
  obtain⟨x0,x1,x2,x3,x4,x5,xf,xl⟩:=uU hB.b2
  obtain⟨y0,y1,y2,y3,y4,y5,y6,y7,yf,yl⟩:=rw8 hB.b0
  have kl:=hB.q.h.lt
  have c17:wx.cell? ⟨k.h,17,none⟩=some ((.slice ta 0 tcap)):=hB.q.h.c 17 aO
  clear hB lh c16 l1 l2 l3)
 all_goals go_wp2
 all_goals exact bodyPost_ret (v:=.agg (uX 2 0 0 (q.reg a) (q.done+n) 0)) zq18 rfl ⟨rfl,by(focus(repeat first|with_reducible exact HB.out.q|with_reducible refine QW.oth ?_ N1.out _ _|with_reducible refine QW.oth ?_ N2.out _ _|with_reducible refine QW.al ?_ _|with_reducible refine QW.dr ?_|with_reducible refine QW.drN ?_ _)),(by focus(repeat first|with_reducible exact HB.out.ch|with_reducible exact zI.refl _ _|with_reducible refine zI.setNew ?_ aO _ _|with_reducible refine zI.alloc ?_ _|with_reducible refine zI.drew ?_|with_reducible refine zI.dN ?_ _))⟩
theorem zFL(k:QB)(ca:Option Addr)(len cap:Nat)(tq toff tl tcap:Nat)(mp:Value)(q:HQ)(d n b c:Int)(a kk xx:Nat)(w:World)(hq:QW w k (.slice ca len cap) (.slice (some ⟨tq,toff,none⟩) tl tcap) mp q)(hn0:0≤q.done+n)(hn1:q.done+n≤9223372036854775807)(ha:a < 16)(hra:q.reg a < 4294967296)(ix:Nat)(tp:Nat→Nat)(tat:Nat→Int)(hT:∀ W,zI k.own w W→TR W tq toff tl tp tat)(ht:0 < tl)(ht2:tl≤140737488355328)(hix:q.reg a%tl=ix)(wf:Nat→Nat)(hw:∀ W,zI k.own w W→Wds W ca len cap wf)(hm1:¬tp ix=q.reg a) :
  Calls Tryz.prog 24 #[.pointer (some ⟨k.h,0,none⟩),.agg (yJ 4 d a b c n kk xx)] w fun e w'=>e=.returned (.agg (uX 2 0 0 (q.reg a) (q.done+n) 0))∧QW w' k (.slice ca len cap) (.slice (some ⟨tq,toff,none⟩) tl tcap) mp { q with stuck:=q.stuck || !(q.has a) }∧zI k.own w w':=by
 have lh:=hq.h.lt
 have c16:w.cell? ⟨k.h,16,none⟩=some (.int .i64 q.done):=hq.h.c 16 aO
 have HQ':Hid _:=hq
 have HLH:Hid _:=hq.h.lt
 have l1:k.h < w.heap.size+1:=aO
 have l2:k.h < w.heap.size+1+1:=aO
 have l3:k.h < w.heap.size+1+1+1:=aO
 have N1:Hid (w.heap.size+1∉k.own):=show w.heap.size+1∉k.own from fun e=>by have:=yN hq _ e;omega
 have N2:Hid (w.heap.size+1+1∉k.own):=show w.heap.size+1+1∉k.own from fun e=>by have:=yN hq _ e;omega
 have HA:Hid _:=ha
 have HT:Hid _:=hT
 have HWD:Hid _:=hw
 have hi:ix < tl:=by rw[← hix];exact Nat.mod_lt _ ht
 have HI:Hid (ix < tl):=hi
 have t0:(0:Int) < tl:=aO
 have t1:(tl:Int)≤140737488355328:=aO
 have hm:((q.reg a:Nat):Int)%tl=ix:=aO
 have ix0:(0:Int)≤ix:=aO
 have ix1:(ix:Int) < tl:=aO
 have p0:(0:Int)≤((q.reg a:Nat):Int):=aO
 have g0:((tl:Int)==0)=false:=by simp;omega
 have g1:¬(tl:Int)=0:=aO
 have g2:¬tl=0:=aO
 have p1:IntKind.i64.wrap ((q.reg a:Nat):Int)=((q.reg a:Nat):Int):=IntWalk.i64_in _ aO
 have p3:Int.tmod ((q.reg a:Nat):Int) tl=ix:=by rw[Int.tmod_eq_emod_of_nonneg p0];exact hm
 have p4:IntKind.i64.wrap (ix:Int)=ix:=IntWalk.i64_in _ aO
 have m1:(((tp ix:Nat):Int)==((q.reg a:Nat):Int))=false:=by simp;omega
 clear hT hw hix ht ht2 hm1 hi
 clear hq ha
 go_enter Tryz.func24,Tryz.ntmps24
 go_upto_region 1 with fail
 go_region
 all_goals go_upto_region 34 with (go_at_call 38;refine Calls.mono (vH k (.slice ca len cap) (.slice (some ⟨tq,toff,none⟩) tl tcap) mp q a _ ?_ HA.out) ?_;(exact zq3);rintro e w1 ⟨rfl,hq1,hc1⟩;have HB1:Hid (SB w w1 k (.slice ca len cap) (.slice (some ⟨tq,toff,none⟩) tl tcap) mp { q with stuck:=q.stuck || !(q.has a) } (yJ 4 d a b c n kk xx) kk (q.done+n)):=zAW hq1 hc1 HLH.out;obtain⟨z0,z1,z2,z3,z4,z5,zf,zl⟩:=uU HB1.out.b1;obtain⟨x0,x1,x2,x3,x4,x5,xf,xl⟩:=uU HB1.out.b2;obtain⟨y0,y1,y2,y3,y4,y5,y6,y7,yf,yl⟩:=rw8 HB1.out.b0;clear hq1 hc1)
 all_goals refine zJ (fun W'=>SB w W' k (.slice ca len cap) (.slice (some ⟨tq,toff,none⟩) tl tcap) mp { q with stuck:=q.stuck || !(q.has a) } (yJ 4 d a b c n kk xx) (q.reg a) (q.done+n)) (zEV HB1.out N2.out _) ?_
 all_goals clear HB1 z0 z1 z2 z3 z4 z5 zf zl x0 x1 x2 x3 x4 x5 xf xl y0 y1 y2 y3 y4 y5 y6 y7 yf yl
 all_goals(
  intro wx hB
  have HB:Hid _:=hB
  obtain⟨z0,z1,z2,z3,z4,z5,zf,zl⟩:=uU hB.b1
  obtain⟨x0,x1,x2,x3,x4,x5,xf,xl⟩:=uU hB.b2
  obtain⟨y0,y1,y2,y3,y4,y5,y6,y7,yf,yl⟩:=rw8 hB.b0
  have kl:=hB.q.h.lt
  have c17:wx.cell? ⟨k.h,17,none⟩=some ((.slice (some ⟨tq,toff,none⟩) tl tcap)):=hB.q.h.c 17 aO
  clear hB lh c16 l1 l2 l3)
 all_goals go_upto_region 35 with fail
 all_goals(
  have hT:=HT.out _ HB.out.ch
  have e0:wx.cell? ⟨tq,toff+ix*2,none⟩=some (.int .u32 (tp ix)):=hT.p ix HI.out
  have e1:wx.cell? ⟨tq,toff+ix*2+1,none⟩=some (.int .i64 (tat ix)):=hT.a ix HI.out
  have el:=hT.lb
  have el1:=Nat.lt_succ_of_lt el
  have kl1:=Nat.lt_succ_of_lt kl
  have xl1:=Nat.lt_succ_of_lt xl
  have x3':wx.cell? ⟨w.heap.size+1+1,3,none⟩=some (.int .u32 (q.reg a)):=x3
  clear hT)
 all_goals go_region_held3 (fun W'=>W'.cell? ⟨k.h,17,none⟩=some (.slice (some ⟨tq,toff,none⟩) tl tcap)∧W'.cell? ⟨w.heap.size+1+1,3,none⟩=some (.int .u32 (q.reg a))∧W'.cell? ⟨tq,toff+ix*2,none⟩=some (.int .u32 (tp ix))∧W'.cell? ⟨tq,toff+ix*2+1,none⟩=some (.int .i64 (tat ix))) ((simp[go_sem,c17,x3',e0,e1,kl,kl1,el,el1,xl,xl1];done)) (fail)
 all_goals go_upto_region 36 with fail
 all_goals refine zJ (fun W'=>SE w W' k (.slice ca len cap) (.slice (some ⟨tq,toff,none⟩) tl tcap) mp { q with stuck:=q.stuck || !(q.has a) } (yJ 4 d a b c n kk xx) (q.reg a) (q.done+n) wx.heap.size (tp ix) (tat ix)) (zGO HB.out (tp ix) (tat ix)) ?_
 all_goals clear HB c17 e0 e1 el el1 kl kl1 xl1 x3' z0 z1 z2 z3 z4 z5 zf zl x0 x1 x2 x3 x4 x5 xf xl y0 y1 y2 y3 y4 y5 y6 y7 yf yl
 all_goals(
  intro wy hB
  generalize wx.heap.size=B at hB ⊢
  have HB:Hid _:=hB
  obtain⟨z0,z1,z2,z3,z4,z5,zf,zl⟩:=uU hB.sb.b1
  obtain⟨x0,x1,x2,x3,x4,x5,xf,xl⟩:=uU hB.sb.b2
  obtain⟨y0,y1,y2,y3,y4,y5,y6,y7,yf,yl⟩:=rw8 hB.sb.b0
  have v0:wy.cell? ⟨B,0,none⟩=some (.int .u32 (tp ix)):=zA hB.b3 0
  have v1:wy.cell? ⟨B,1,none⟩=some (.int .i64 (tat ix)):=zA hB.b3 1
  have vl:=zE hB.b3
  have kl:=hB.sb.q.h.lt
  clear hB)
 all_goals go_wp2
 all_goals exact bodyPost_ret (v:=.agg (uX 2 0 0 (q.reg a) (q.done+n) 0)) zq18 rfl ⟨rfl,by(focus(repeat first|with_reducible exact HB.out.sb.q|with_reducible refine QW.oth ?_ N1.out _ _|with_reducible refine QW.oth ?_ N2.out _ _|with_reducible refine QW.al ?_ _|with_reducible refine QW.dr ?_|with_reducible refine QW.drN ?_ _)),zq58⟩
theorem zFN(k:QB)(ca:Option Addr)(len cap:Nat)(tq toff tl tcap:Nat)(mp:Value)(q:HQ)(d n b c:Int)(a kk xx:Nat)(w:World)(hq:QW w k (.slice ca len cap) (.slice (some ⟨tq,toff,none⟩) tl tcap) mp q)(hn0:0≤q.done+n)(hn1:q.done+n≤9223372036854775807)(ha:a < 16)(hra:q.reg a < 4294967296)(ix:Nat)(tp:Nat→Nat)(tat:Nat→Int)(hT:∀ W,zI k.own w W→TR W tq toff tl tp tat)(ht:0 < tl)(ht2:tl≤140737488355328)(hix:q.reg a%tl=ix)(wf:Nat→Nat)(hw:∀ W,zI k.own w W→Wds W ca len cap wf)(hm1:tp ix=q.reg a)(hng:tat ix < 0) :
  Calls Tryz.prog 24 #[.pointer (some ⟨k.h,0,none⟩),.agg (yJ 4 d a b c n kk xx)] w fun e w'=>e=.returned (.agg (uX 2 0 0 (q.reg a) (q.done+n) 0))∧QW w' k (.slice ca len cap) (.slice (some ⟨tq,toff,none⟩) tl tcap) mp { q with stuck:=q.stuck || !(q.has a) }∧zI k.own w w':=by
 have lh:=hq.h.lt
 have c16:w.cell? ⟨k.h,16,none⟩=some (.int .i64 q.done):=hq.h.c 16 aO
 have HQ':Hid _:=hq
 have HLH:Hid _:=hq.h.lt
 have l1:k.h < w.heap.size+1:=aO
 have l2:k.h < w.heap.size+1+1:=aO
 have l3:k.h < w.heap.size+1+1+1:=aO
 have N1:Hid (w.heap.size+1∉k.own):=show w.heap.size+1∉k.own from fun e=>by have:=yN hq _ e;omega
 have N2:Hid (w.heap.size+1+1∉k.own):=show w.heap.size+1+1∉k.own from fun e=>by have:=yN hq _ e;omega
 have HA:Hid _:=ha
 have HT:Hid _:=hT
 have HWD:Hid _:=hw
 have hi:ix < tl:=by rw[← hix];exact Nat.mod_lt _ ht
 have HI:Hid (ix < tl):=hi
 have t0:(0:Int) < tl:=aO
 have t1:(tl:Int)≤140737488355328:=aO
 have hm:((q.reg a:Nat):Int)%tl=ix:=aO
 have ix0:(0:Int)≤ix:=aO
 have ix1:(ix:Int) < tl:=aO
 have p0:(0:Int)≤((q.reg a:Nat):Int):=aO
 have g0:((tl:Int)==0)=false:=by simp;omega
 have g1:¬(tl:Int)=0:=aO
 have g2:¬tl=0:=aO
 have p1:IntKind.i64.wrap ((q.reg a:Nat):Int)=((q.reg a:Nat):Int):=IntWalk.i64_in _ aO
 have p3:Int.tmod ((q.reg a:Nat):Int) tl=ix:=by rw[Int.tmod_eq_emod_of_nonneg p0];exact hm
 have p4:IntKind.i64.wrap (ix:Int)=ix:=IntWalk.i64_in _ aO
 have m1:(((tp ix:Nat):Int)==((q.reg a:Nat):Int))=true:=by simp;omega
 have m2:decide (0≤tat ix)=false:=aF
 have m3:¬0≤tat ix:=aO
 clear hT hw hix ht ht2 hm1 hi
 clear hq ha
 go_enter Tryz.func24,Tryz.ntmps24
 go_upto_region 1 with fail
 go_region
 all_goals go_upto_region 34 with (go_at_call 38;refine Calls.mono (vH k (.slice ca len cap) (.slice (some ⟨tq,toff,none⟩) tl tcap) mp q a _ ?_ HA.out) ?_;(exact zq3);rintro e w1 ⟨rfl,hq1,hc1⟩;have HB1:Hid (SB w w1 k (.slice ca len cap) (.slice (some ⟨tq,toff,none⟩) tl tcap) mp { q with stuck:=q.stuck || !(q.has a) } (yJ 4 d a b c n kk xx) kk (q.done+n)):=zAW hq1 hc1 HLH.out;obtain⟨z0,z1,z2,z3,z4,z5,zf,zl⟩:=uU HB1.out.b1;obtain⟨x0,x1,x2,x3,x4,x5,xf,xl⟩:=uU HB1.out.b2;obtain⟨y0,y1,y2,y3,y4,y5,y6,y7,yf,yl⟩:=rw8 HB1.out.b0;clear hq1 hc1)
 all_goals refine zJ (fun W'=>SB w W' k (.slice ca len cap) (.slice (some ⟨tq,toff,none⟩) tl tcap) mp { q with stuck:=q.stuck || !(q.has a) } (yJ 4 d a b c n kk xx) (q.reg a) (q.done+n)) (zEV HB1.out N2.out _) ?_
 all_goals clear HB1 z0 z1 z2 z3 z4 z5 zf zl x0 x1 x2 x3 x4 x5 xf xl y0 y1 y2 y3 y4 y5 y6 y7 yf yl
 all_goals(
  intro wx hB
  have HB:Hid _:=hB
  obtain⟨z0,z1,z2,z3,z4,z5,zf,zl⟩:=uU hB.b1
  obtain⟨x0,x1,x2,x3,x4,x5,xf,xl⟩:=uU hB.b2
  obtain⟨y0,y1,y2,y3,y4,y5,y6,y7,yf,yl⟩:=rw8 hB.b0
  have kl:=hB.q.h.lt
  have c17:wx.cell? ⟨k.h,17,none⟩=some ((.slice (some ⟨tq,toff,none⟩) tl tcap)):=hB.q.h.c 17 aO
  clear hB lh c16 l1 l2 l3)
 all_goals go_upto_region 35 with fail
 all_goals(
  have hT:=HT.out _ HB.out.ch
  have e0:wx.cell? ⟨tq,toff+ix*2,none⟩=some (.int .u32 (tp ix)):=hT.p ix HI.out
  have e1:wx.cell? ⟨tq,toff+ix*2+1,none⟩=some (.int .i64 (tat ix)):=hT.a ix HI.out
  have el:=hT.lb
  have el1:=Nat.lt_succ_of_lt el
  have kl1:=Nat.lt_succ_of_lt kl
  have xl1:=Nat.lt_succ_of_lt xl
  have x3':wx.cell? ⟨w.heap.size+1+1,3,none⟩=some (.int .u32 (q.reg a)):=x3
  clear hT)
 all_goals go_region_held3 (fun W'=>W'.cell? ⟨k.h,17,none⟩=some (.slice (some ⟨tq,toff,none⟩) tl tcap)∧W'.cell? ⟨w.heap.size+1+1,3,none⟩=some (.int .u32 (q.reg a))∧W'.cell? ⟨tq,toff+ix*2,none⟩=some (.int .u32 (tp ix))∧W'.cell? ⟨tq,toff+ix*2+1,none⟩=some (.int .i64 (tat ix))) ((simp[go_sem,c17,x3',e0,e1,kl,kl1,el,el1,xl,xl1];done)) (fail)
 all_goals go_upto_region 36 with fail
 all_goals refine zJ (fun W'=>SE w W' k (.slice ca len cap) (.slice (some ⟨tq,toff,none⟩) tl tcap) mp { q with stuck:=q.stuck || !(q.has a) } (yJ 4 d a b c n kk xx) (q.reg a) (q.done+n) wx.heap.size (tp ix) (tat ix)) (zGO HB.out (tp ix) (tat ix)) ?_
 all_goals clear HB c17 e0 e1 el el1 kl kl1 xl1 x3' z0 z1 z2 z3 z4 z5 zf zl x0 x1 x2 x3 x4 x5 xf xl y0 y1 y2 y3 y4 y5 y6 y7 yf yl
 all_goals(
  intro wy hB
  generalize wx.heap.size=B at hB ⊢
  have HB:Hid _:=hB
  obtain⟨z0,z1,z2,z3,z4,z5,zf,zl⟩:=uU hB.sb.b1
  obtain⟨x0,x1,x2,x3,x4,x5,xf,xl⟩:=uU hB.sb.b2
  obtain⟨y0,y1,y2,y3,y4,y5,y6,y7,yf,yl⟩:=rw8 hB.sb.b0
  have v0:wy.cell? ⟨B,0,none⟩=some (.int .u32 (tp ix)):=zA hB.b3 0
  have v1:wy.cell? ⟨B,1,none⟩=some (.int .i64 (tat ix)):=zA hB.b3 1
  have vl:=zE hB.b3
  have kl:=hB.sb.q.h.lt
  clear hB)
 all_goals go_wp2
 all_goals exact bodyPost_ret (v:=.agg (uX 2 0 0 (q.reg a) (q.done+n) 0)) zq18 rfl ⟨rfl,by(focus(repeat first|with_reducible exact HB.out.sb.q|with_reducible refine QW.oth ?_ N1.out _ _|with_reducible refine QW.oth ?_ N2.out _ _|with_reducible refine QW.al ?_ _|with_reducible refine QW.dr ?_|with_reducible refine QW.drN ?_ _)),zq58⟩
theorem zGA(k:QB)(ca:Option Addr)(len cap:Nat)(tq toff tl tcap:Nat)(mp:Value)(q:HQ)(d n b c:Int)(a kk xx:Nat)(w:World)(hq:QW w k (.slice ca len cap) (.slice (some ⟨tq,toff,none⟩) tl tcap) mp q)(hn0:0≤q.done+n)(hn1:q.done+n≤9223372036854775807)(ha:a < 16)(hra:q.reg a < 4294967296)(ix:Nat)(tp:Nat→Nat)(tat:Nat→Int)(hT:∀ W,zI k.own w W→TR W tq toff tl tp tat)(ht:0 < tl)(ht2:tl≤140737488355328)(hix:q.reg a%tl=ix)(wf:Nat→Nat)(hw:∀ W,zI k.own w W→Wds W ca len cap wf)(hm1:tp ix=q.reg a)(hng:0≤tat ix)(hE:isE wf len (tat ix)=false) :
  Calls Tryz.prog 24 #[.pointer (some ⟨k.h,0,none⟩),.agg (yJ 4 d a b c n kk xx)] w fun e w'=>e=.returned (.agg (uX 2 0 0 (q.reg a) (q.done+n) 0))∧QW w' k (.slice ca len cap) (.slice (some ⟨tq,toff,none⟩) tl tcap) mp { q with stuck:=q.stuck || !(q.has a) }∧zI k.own w w':=by
 have lh:=hq.h.lt
 have c16:w.cell? ⟨k.h,16,none⟩=some (.int .i64 q.done):=hq.h.c 16 aO
 have HQ':Hid _:=hq
 have HLH:Hid _:=hq.h.lt
 have l1:k.h < w.heap.size+1:=aO
 have l2:k.h < w.heap.size+1+1:=aO
 have l3:k.h < w.heap.size+1+1+1:=aO
 have N1:Hid (w.heap.size+1∉k.own):=show w.heap.size+1∉k.own from fun e=>by have:=yN hq _ e;omega
 have N2:Hid (w.heap.size+1+1∉k.own):=show w.heap.size+1+1∉k.own from fun e=>by have:=yN hq _ e;omega
 have HA:Hid _:=ha
 have HT:Hid _:=hT
 have HWD:Hid _:=hw
 have hi:ix < tl:=by rw[← hix];exact Nat.mod_lt _ ht
 have HI:Hid (ix < tl):=hi
 have t0:(0:Int) < tl:=aO
 have t1:(tl:Int)≤140737488355328:=aO
 have hm:((q.reg a:Nat):Int)%tl=ix:=aO
 have ix0:(0:Int)≤ix:=aO
 have ix1:(ix:Int) < tl:=aO
 have p0:(0:Int)≤((q.reg a:Nat):Int):=aO
 have g0:((tl:Int)==0)=false:=by simp;omega
 have g1:¬(tl:Int)=0:=aO
 have g2:¬tl=0:=aO
 have p1:IntKind.i64.wrap ((q.reg a:Nat):Int)=((q.reg a:Nat):Int):=IntWalk.i64_in _ aO
 have p3:Int.tmod ((q.reg a:Nat):Int) tl=ix:=by rw[Int.tmod_eq_emod_of_nonneg p0];exact hm
 have p4:IntKind.i64.wrap (ix:Int)=ix:=IntWalk.i64_in _ aO
 have m1:(((tp ix:Nat):Int)==((q.reg a:Nat):Int))=true:=by simp;omega
 have m2:decide (0≤tat ix)=true:=decide_eq_true hng
 have HE:Hid _:=hE
 clear hT hw hix ht ht2 hm1 hi hE
 clear hq ha
 go_enter Tryz.func24,Tryz.ntmps24
 go_upto_region 1 with fail
 go_region
 all_goals go_upto_region 34 with (go_at_call 38;refine Calls.mono (vH k (.slice ca len cap) (.slice (some ⟨tq,toff,none⟩) tl tcap) mp q a _ ?_ HA.out) ?_;(exact zq3);rintro e w1 ⟨rfl,hq1,hc1⟩;have HB1:Hid (SB w w1 k (.slice ca len cap) (.slice (some ⟨tq,toff,none⟩) tl tcap) mp { q with stuck:=q.stuck || !(q.has a) } (yJ 4 d a b c n kk xx) kk (q.done+n)):=zAW hq1 hc1 HLH.out;obtain⟨z0,z1,z2,z3,z4,z5,zf,zl⟩:=uU HB1.out.b1;obtain⟨x0,x1,x2,x3,x4,x5,xf,xl⟩:=uU HB1.out.b2;obtain⟨y0,y1,y2,y3,y4,y5,y6,y7,yf,yl⟩:=rw8 HB1.out.b0;clear hq1 hc1)
 all_goals refine zJ (fun W'=>SB w W' k (.slice ca len cap) (.slice (some ⟨tq,toff,none⟩) tl tcap) mp { q with stuck:=q.stuck || !(q.has a) } (yJ 4 d a b c n kk xx) (q.reg a) (q.done+n)) (zEV HB1.out N2.out _) ?_
 all_goals clear HB1 z0 z1 z2 z3 z4 z5 zf zl x0 x1 x2 x3 x4 x5 xf xl y0 y1 y2 y3 y4 y5 y6 y7 yf yl
 all_goals(
  intro wx hB
  have HB:Hid _:=hB
  obtain⟨z0,z1,z2,z3,z4,z5,zf,zl⟩:=uU hB.b1
  obtain⟨x0,x1,x2,x3,x4,x5,xf,xl⟩:=uU hB.b2
  obtain⟨y0,y1,y2,y3,y4,y5,y6,y7,yf,yl⟩:=rw8 hB.b0
  have kl:=hB.q.h.lt
  have c17:wx.cell? ⟨k.h,17,none⟩=some ((.slice (some ⟨tq,toff,none⟩) tl tcap)):=hB.q.h.c 17 aO
  clear hB lh c16 l1 l2 l3)
 all_goals go_upto_region 35 with fail
 all_goals(
  have hT:=HT.out _ HB.out.ch
  have e0:wx.cell? ⟨tq,toff+ix*2,none⟩=some (.int .u32 (tp ix)):=hT.p ix HI.out
  have e1:wx.cell? ⟨tq,toff+ix*2+1,none⟩=some (.int .i64 (tat ix)):=hT.a ix HI.out
  have el:=hT.lb
  have el1:=Nat.lt_succ_of_lt el
  have kl1:=Nat.lt_succ_of_lt kl
  have xl1:=Nat.lt_succ_of_lt xl
  have x3':wx.cell? ⟨w.heap.size+1+1,3,none⟩=some (.int .u32 (q.reg a)):=x3
  clear hT)
 all_goals go_region_held3 (fun W'=>W'.cell? ⟨k.h,17,none⟩=some (.slice (some ⟨tq,toff,none⟩) tl tcap)∧W'.cell? ⟨w.heap.size+1+1,3,none⟩=some (.int .u32 (q.reg a))∧W'.cell? ⟨tq,toff+ix*2,none⟩=some (.int .u32 (tp ix))∧W'.cell? ⟨tq,toff+ix*2+1,none⟩=some (.int .i64 (tat ix))) ((simp[go_sem,c17,x3',e0,e1,kl,kl1,el,el1,xl,xl1];done)) (fail)
 all_goals go_upto_region 36 with fail
 all_goals refine zJ (fun W'=>SE w W' k (.slice ca len cap) (.slice (some ⟨tq,toff,none⟩) tl tcap) mp { q with stuck:=q.stuck || !(q.has a) } (yJ 4 d a b c n kk xx) (q.reg a) (q.done+n) wx.heap.size (tp ix) (tat ix)) (zGO HB.out (tp ix) (tat ix)) ?_
 all_goals clear HB c17 e0 e1 el el1 kl kl1 xl1 x3' z0 z1 z2 z3 z4 z5 zf zl x0 x1 x2 x3 x4 x5 xf xl y0 y1 y2 y3 y4 y5 y6 y7 yf yl
 all_goals(
  intro wy hB
  generalize wx.heap.size=B at hB ⊢
  have HB:Hid _:=hB
  obtain⟨z0,z1,z2,z3,z4,z5,zf,zl⟩:=uU hB.sb.b1
  obtain⟨x0,x1,x2,x3,x4,x5,xf,xl⟩:=uU hB.sb.b2
  obtain⟨y0,y1,y2,y3,y4,y5,y6,y7,yf,yl⟩:=rw8 hB.sb.b0
  have v0:wy.cell? ⟨B,0,none⟩=some (.int .u32 (tp ix)):=zA hB.b3 0
  have v1:wy.cell? ⟨B,1,none⟩=some (.int .i64 (tat ix)):=zA hB.b3 1
  have vl:=zE hB.b3
  have kl:=hB.sb.q.h.lt
  clear hB)
 all_goals go_wp2_with (go_at_call 22;refine Calls.mono (uS k ca len cap (.slice (some ⟨tq,toff,none⟩) tl tcap) mp { q with stuck:=q.stuck || !(q.has a) } (tat ix) wf _ HB.out.sb.q (HWD.out _ HB.out.sb.ch)) ?_;rintro e w2 ⟨rfl,hb2⟩;rw[HE.out];have HB2:Hid _:=HB.out.bel hb2;clear z0 z1 z2 z3 z4 z5 zf zl x0 x1 x2 x3 x4 x5 xf xl y0 y1 y2 y3 y4 y5 y6 y7 yf yl v0 v1 vl kl;obtain⟨z0,z1,z2,z3,z4,z5,zf,zl⟩:=uU HB2.out.sb.b1;obtain⟨x0,x1,x2,x3,x4,x5,xf,xl⟩:=uU HB2.out.sb.b2;obtain⟨y0,y1,y2,y3,y4,y5,y6,y7,yf,yl⟩:=rw8 HB2.out.sb.b0;have v0:w2.cell? ⟨B,0,none⟩=some (.int .u32 (tp ix)):=zA HB2.out.b3 0;have v1:w2.cell? ⟨B,1,none⟩=some (.int .i64 (tat ix)):=zA HB2.out.b3 1;have vl:=zE HB2.out.b3;have kl:=HB2.out.sb.q.h.lt;clear hb2)
 all_goals exact bodyPost_ret (v:=.agg (uX 2 0 0 (q.reg a) (q.done+n) 0)) zq18 rfl ⟨rfl,by(focus(repeat first|with_reducible exact HB2.out.sb.q|with_reducible refine QW.oth ?_ N1.out _ _|with_reducible refine QW.oth ?_ N2.out _ _|with_reducible refine QW.al ?_ _|with_reducible refine QW.dr ?_|with_reducible refine QW.drN ?_ _)),(by focus(repeat first|with_reducible exact HB2.out.sb.ch|with_reducible exact zI.refl _ _|with_reducible refine zI.setNew ?_ aO _ _|with_reducible refine zI.alloc ?_ _|with_reducible refine zI.drew ?_|with_reducible refine zI.dN ?_ _))⟩
theorem zFM(k:QB)(ca:Option Addr)(len cap:Nat)(tq toff tl tcap:Nat)(mp:Value)(q:HQ)(d n b c:Int)(a kk xx:Nat)(w:World)(hq:QW w k (.slice ca len cap) (.slice (some ⟨tq,toff,none⟩) tl tcap) mp q)(hn0:0≤q.done+n)(hn1:q.done+n≤9223372036854775807)(ha:a < 16)(hra:q.reg a < 4294967296)(ix:Nat)(tp:Nat→Nat)(tat:Nat→Int)(hT:∀ W,zI k.own w W→TR W tq toff tl tp tat)(ht:0 < tl)(ht2:tl≤140737488355328)(hix:q.reg a%tl=ix)(wf:Nat→Nat)(hw:∀ W,zI k.own w W→Wds W ca len cap wf)(hm1:tp ix=q.reg a)(hng:0≤tat ix)(hE:isE wf len (tat ix)=true) :
  Calls Tryz.prog 24 #[.pointer (some ⟨k.h,0,none⟩),.agg (yJ 4 d a b c n kk xx)] w fun e w'=>e=.returned (.agg (uX 0 0 0 0 0 0))∧QW w' k (.slice ca len cap) (.slice (some ⟨tq,toff,none⟩) tl tcap) mp { q with stuck:=q.stuck || !(q.has a),done:=q.done+n,at_:=tat ix }∧zI k.own w w':=by
 have lh:=hq.h.lt
 have c16:w.cell? ⟨k.h,16,none⟩=some (.int .i64 q.done):=hq.h.c 16 aO
 have HQ':Hid _:=hq
 have HLH:Hid _:=hq.h.lt
 have l1:k.h < w.heap.size+1:=aO
 have l2:k.h < w.heap.size+1+1:=aO
 have l3:k.h < w.heap.size+1+1+1:=aO
 have N1:Hid (w.heap.size+1∉k.own):=show w.heap.size+1∉k.own from fun e=>by have:=yN hq _ e;omega
 have N2:Hid (w.heap.size+1+1∉k.own):=show w.heap.size+1+1∉k.own from fun e=>by have:=yN hq _ e;omega
 have HA:Hid _:=ha
 have HT:Hid _:=hT
 have HWD:Hid _:=hw
 have hi:ix < tl:=by rw[← hix];exact Nat.mod_lt _ ht
 have HI:Hid (ix < tl):=hi
 have t0:(0:Int) < tl:=aO
 have t1:(tl:Int)≤140737488355328:=aO
 have hm:((q.reg a:Nat):Int)%tl=ix:=aO
 have ix0:(0:Int)≤ix:=aO
 have ix1:(ix:Int) < tl:=aO
 have p0:(0:Int)≤((q.reg a:Nat):Int):=aO
 have g0:((tl:Int)==0)=false:=by simp;omega
 have g1:¬(tl:Int)=0:=aO
 have g2:¬tl=0:=aO
 have p1:IntKind.i64.wrap ((q.reg a:Nat):Int)=((q.reg a:Nat):Int):=IntWalk.i64_in _ aO
 have p3:Int.tmod ((q.reg a:Nat):Int) tl=ix:=by rw[Int.tmod_eq_emod_of_nonneg p0];exact hm
 have p4:IntKind.i64.wrap (ix:Int)=ix:=IntWalk.i64_in _ aO
 have m1:(((tp ix:Nat):Int)==((q.reg a:Nat):Int))=true:=by simp;omega
 have m2:decide (0≤tat ix)=true:=decide_eq_true hng
 have HE:Hid _:=hE
 clear hT hw hix ht ht2 hm1 hi hE
 clear hq ha
 go_enter Tryz.func24,Tryz.ntmps24
 go_upto_region 1 with fail
 go_region
 all_goals go_upto_region 34 with (go_at_call 38;refine Calls.mono (vH k (.slice ca len cap) (.slice (some ⟨tq,toff,none⟩) tl tcap) mp q a _ ?_ HA.out) ?_;(exact zq3);rintro e w1 ⟨rfl,hq1,hc1⟩;have HB1:Hid (SB w w1 k (.slice ca len cap) (.slice (some ⟨tq,toff,none⟩) tl tcap) mp { q with stuck:=q.stuck || !(q.has a) } (yJ 4 d a b c n kk xx) kk (q.done+n)):=zAW hq1 hc1 HLH.out;obtain⟨z0,z1,z2,z3,z4,z5,zf,zl⟩:=uU HB1.out.b1;obtain⟨x0,x1,x2,x3,x4,x5,xf,xl⟩:=uU HB1.out.b2;obtain⟨y0,y1,y2,y3,y4,y5,y6,y7,yf,yl⟩:=rw8 HB1.out.b0;clear hq1 hc1)
 all_goals refine zJ (fun W'=>SB w W' k (.slice ca len cap) (.slice (some ⟨tq,toff,none⟩) tl tcap) mp { q with stuck:=q.stuck || !(q.has a) } (yJ 4 d a b c n kk xx) (q.reg a) (q.done+n)) (zEV HB1.out N2.out _) ?_
 all_goals clear HB1 z0 z1 z2 z3 z4 z5 zf zl x0 x1 x2 x3 x4 x5 xf xl y0 y1 y2 y3 y4 y5 y6 y7 yf yl
 all_goals(
  intro wx hB
  have HB:Hid _:=hB
  obtain⟨z0,z1,z2,z3,z4,z5,zf,zl⟩:=uU hB.b1
  obtain⟨x0,x1,x2,x3,x4,x5,xf,xl⟩:=uU hB.b2
  obtain⟨y0,y1,y2,y3,y4,y5,y6,y7,yf,yl⟩:=rw8 hB.b0
  have kl:=hB.q.h.lt
  have c17:wx.cell? ⟨k.h,17,none⟩=some ((.slice (some ⟨tq,toff,none⟩) tl tcap)):=hB.q.h.c 17 aO
  clear hB lh c16 l1 l2 l3)
 all_goals go_upto_region 35 with fail
 all_goals(
  have hT:=HT.out _ HB.out.ch
  have e0:wx.cell? ⟨tq,toff+ix*2,none⟩=some (.int .u32 (tp ix)):=hT.p ix HI.out
  have e1:wx.cell? ⟨tq,toff+ix*2+1,none⟩=some (.int .i64 (tat ix)):=hT.a ix HI.out
  have el:=hT.lb
  have el1:=Nat.lt_succ_of_lt el
  have kl1:=Nat.lt_succ_of_lt kl
  have xl1:=Nat.lt_succ_of_lt xl
  have x3':wx.cell? ⟨w.heap.size+1+1,3,none⟩=some (.int .u32 (q.reg a)):=x3
  clear hT)
 all_goals go_region_held3 (fun W'=>W'.cell? ⟨k.h,17,none⟩=some (.slice (some ⟨tq,toff,none⟩) tl tcap)∧W'.cell? ⟨w.heap.size+1+1,3,none⟩=some (.int .u32 (q.reg a))∧W'.cell? ⟨tq,toff+ix*2,none⟩=some (.int .u32 (tp ix))∧W'.cell? ⟨tq,toff+ix*2+1,none⟩=some (.int .i64 (tat ix))) ((simp[go_sem,c17,x3',e0,e1,kl,kl1,el,el1,xl,xl1];done)) (fail)
 all_goals go_upto_region 36 with fail
 all_goals refine zJ (fun W'=>SE w W' k (.slice ca len cap) (.slice (some ⟨tq,toff,none⟩) tl tcap) mp { q with stuck:=q.stuck || !(q.has a) } (yJ 4 d a b c n kk xx) (q.reg a) (q.done+n) wx.heap.size (tp ix) (tat ix)) (zGO HB.out (tp ix) (tat ix)) ?_
 all_goals clear HB c17 e0 e1 el el1 kl kl1 xl1 x3' z0 z1 z2 z3 z4 z5 zf zl x0 x1 x2 x3 x4 x5 xf xl y0 y1 y2 y3 y4 y5 y6 y7 yf yl
 all_goals(
  intro wy hB
  generalize wx.heap.size=B at hB ⊢
  have HB:Hid _:=hB
  obtain⟨z0,z1,z2,z3,z4,z5,zf,zl⟩:=uU hB.sb.b1
  obtain⟨x0,x1,x2,x3,x4,x5,xf,xl⟩:=uU hB.sb.b2
  obtain⟨y0,y1,y2,y3,y4,y5,y6,y7,yf,yl⟩:=rw8 hB.sb.b0
  have v0:wy.cell? ⟨B,0,none⟩=some (.int .u32 (tp ix)):=zA hB.b3 0
  have v1:wy.cell? ⟨B,1,none⟩=some (.int .i64 (tat ix)):=zA hB.b3 1
  have vl:=zE hB.b3
  have kl:=hB.sb.q.h.lt
  clear hB)
 all_goals go_upto_region 37 with (go_at_call 22;refine Calls.mono (uS k ca len cap (.slice (some ⟨tq,toff,none⟩) tl tcap) mp { q with stuck:=q.stuck || !(q.has a) } (tat ix) wf _ HB.out.sb.q (HWD.out _ HB.out.sb.ch)) ?_;rintro e w2 ⟨rfl,hb2⟩;rw[HE.out];have HB2:Hid _:=HB.out.bel hb2;clear z0 z1 z2 z3 z4 z5 zf zl x0 x1 x2 x3 x4 x5 xf xl y0 y1 y2 y3 y4 y5 y6 y7 yf yl v0 v1 vl kl;obtain⟨z0,z1,z2,z3,z4,z5,zf,zl⟩:=uU HB2.out.sb.b1;obtain⟨x0,x1,x2,x3,x4,x5,xf,xl⟩:=uU HB2.out.sb.b2;obtain⟨y0,y1,y2,y3,y4,y5,y6,y7,yf,yl⟩:=rw8 HB2.out.sb.b0;have v0:w2.cell? ⟨B,0,none⟩=some (.int .u32 (tp ix)):=zA HB2.out.b3 0;have v1:w2.cell? ⟨B,1,none⟩=some (.int .i64 (tat ix)):=zA HB2.out.b3 1;have vl:=zE HB2.out.b3;have kl:=HB2.out.sb.q.h.lt;clear hb2)
 all_goals(
  have c16:w2.cell? ⟨k.h,16,none⟩=some (.int .i64 q.done):=HB2.out.sb.q.h.c 16 aO
  have f16:=HB2.out.sb.q.h.fz 16
  have c1:w2.cell? ⟨k.h,1,none⟩=some (.int .i64 q.at_):=HB2.out.sb.q.h.c 1 aO
  have f1:=HB2.out.sb.q.h.fz 1
  have u1:¬k.h=w.heap.size:=by have:=HLH.out;omega
  have u2:¬w.heap.size=k.h:=by have:=HLH.out;omega
  have u3:¬k.h=w.heap.size+1:=by have:=HLH.out;omega
  have u4:¬w.heap.size+1=k.h:=by have:=HLH.out;omega
  have u5:¬k.h=B:=by have:=HLH.out;have:=HB2.out.lB;omega
  have u6:¬B=k.h:=by have:=HLH.out;have:=HB2.out.lB;omega)
 all_goals go_region
 all_goals go_wp2
 all_goals exact bodyPost_ret (v:=.agg (uX 0 0 0 0 0 0)) zq47 rfl ⟨rfl,by(focus(repeat first|with_reducible exact(HB2.out.sb.q.setDone _).setAt _|with_reducible refine QW.oth ?_ N1.out _ _|with_reducible refine QW.dr ?_)),by(focus(repeat first|with_reducible exact HB2.out.sb.ch|with_reducible refine zI.setNew ?_ aO _ _|with_reducible refine zI.set ?_ (zAQ k) _ _|with_reducible refine zI.drew ?_))⟩
end Go.Proofs.YthcpipfmicbnmaaGreat.Ho
