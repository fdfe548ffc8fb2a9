import Derived.Test.YthcpipfmicbnmaaGreatWC1
import Derived.Test.YthcpipfmicbnmaaGreatXE
import Derived.Test.YthcpipfmicbnmaaGreatNF
import Derived.Test.YthcpipfmicbnmaaGreatXC
import Derived.Test.YthcpipfmicbnmaaGreatXF
import Derived.Deep.LoopGhost
set_option linter.unusedVariables false
set_option linter.unusedSimpArgs false
set_option maxHeartbeats 4000000
namespace Go.Proofs.YthcpipfmicbnmaaGreat.Ho
open Go.RowKit
set_option maxRecDepth 100000
theorem zIy{wx w1:World}{W:World}{o:Obj}(h:W.heap[wx.heap.size]?=some o)(hc:zI [] W w1):w1.heap[wx.heap.size]?=some o:=(hc.block _ (ltb h) aS).trans h
structure LD3(w W:World)(k:QB)(ws tb mp:Value)(q:HQ)(C:Array Value)(B:Nat)(sk ar:Int):Prop where
 q:QW W k ws tb mp q
 b0:W.heap[w.heap.size]?=some (.cells C 69)
 b1:W.heap[w.heap.size+1]?=some (.cells (stC 0 0) 35)
 b2:W.heap[B]?=some (.cells (stC sk ar) 35)
 ch:zI k.own w W
 ne:w.heap.size+1 < B
theorem zLP{w w1:World}{k:QB}{ws tb mp:Value}{q:HQ}{C:Array Value}(sk ar:Int)(h:MW w w1 k ws tb mp q C 0 0)(hc:zI k.own w w1):LD3 w (w1.alloc (.cells (stC sk ar) 35)) k ws tb mp q C w1.heap.size sk ar:=
 have a:zI [] w1 (w1.alloc (.cells (stC sk ar) 35)):=(zI.refl _ _).alloc _
 ⟨h.q.al _,(a.block _ (ltb h.b0) aS).trans h.b0,(a.block _ (ltb h.b1) aS).trans h.b1,heap_alloc_last _ _,hc.alloc _,ltb h.b1⟩
theorem zLQ{w w1:World}{k:QB}{ws tb mp:Value}{q:HQ}{C:Array Value}{B:Nat}(sk ar:Int)(h:MW w w1 k ws tb mp q C 0 0)(hc:zI k.own w w1)(ho:∀ x∈k.own,x < w.heap.size)(hb:w1.heap[B]?=some (.cells (stC 0 0) 35))(hB:w.heap.size+1 < B):LD3 w ((w1.setCell ⟨B,0,none⟩ (.int .i64 sk)).setCell ⟨B,1,none⟩ (.int .u32 ar)) k ws tb mp q C B sk ar:=
 have n:B∉k.own:=fun e=>by have:=ho _ e;omega
 have a:zI [B] w1 ((w1.setCell ⟨B,0,none⟩ (.int .i64 sk)).setCell ⟨B,1,none⟩ (.int .u32 ar)):=((zI.refl _ _).set aC _ _).set aC _ _
 ⟨(h.q.oth n _ _).oth n _ _,(a.block _ (ltb h.b0) zq7).trans h.b0,(a.block _ (ltb h.b1) zq7).trans h.b1,by rw[zZ (zZ hb _) _];rfl,(hc.setNew aO _ _).setNew aO _ _,hB⟩
theorem zLR{w W:World}{k:QB}{ws tb mp:Value}{q q':HQ}{C:Array Value}{B:Nat}{sk ar:Int}(h:LD3 w W k ws tb mp q C B sk ar)(ho:∀ x∈k.own,x < w.heap.size){w2:World}(hq:QW w2 k ws tb mp q')(hc:zI [k.r,k.g] W w2):w2.heap[w.heap.size+1]?=some (.cells (stC 0 0) 35)∧w2.heap[B]?=some (.cells (stC sk ar) 35)∧zI k.own w w2:=by
 have hr:=ho k.r zq56
 have hg:=ho k.g zq56
 have hn:=h.ne
 exact⟨(hc.block _ (ltb h.b1) zq7).trans h.b1,(hc.block _ (ltb h.b2) zq7).trans h.b2,h.ch.trans (hc.mono zq56)⟩
theorem zIk{w w1:World}{k:QB}{ws tb mp:Value}{q:HQ}{C:Array Value}(hq:QW w1 k ws tb mp q)(hc:zI [k.h] ((w.alloc (.cells C 69)).alloc (.cells (stC 0 0) 35)) w1)(lh:k.h < w.heap.size):MW w w1 k ws tb mp q C 0 0∧zI k.own w w1:=
 ⟨⟨hq,hc.keep (hpa w _ _).1 zq7,hc.keep (hpa w _ _).2 zq7⟩,zI.trans (((zI.refl _ _).alloc _).alloc _) (hc.mono zq56)⟩
theorem MW.gt{w W w1:World}{k:QB}{ws tb mp:Value}{q q1:HQ}{C:Array Value}(h:MW w W k ws tb mp q C 0 0)(lh:k.h < w.heap.size)(hq:QW w1 k ws tb mp q1)(c:zI [k.h] W w1):MW w w1 k ws tb mp q1 C 0 0:=
 ⟨hq,c.keep h.b0 zq7,c.keep h.b1 zq7⟩
theorem zLd(k:QB)(ws tb mp:Value)(q:HQ)(op g b c n sk ar:Int)(d a kk xx v:Nat)(P:World→Prop)(w:World)(hq:QW w k ws tb mp q)(ha:a < 16)(hd:d < 16)(hsk:(sk==0)=true)(ho1:op < 88)(ho:IntKind.i64.wrap (op - 80)=g)
  (hP:∀ W,zI k.own w W→P W)
  (hs:∀ W,P W→Calls Tryz.prog 54 #[mp,.int .i64 g,.int .u32 (q.reg a)] W fun e w'=>e=.returned (.tuple #[.int .u32 v,.agg (stC sk ar)])∧zI [] W w') :
  Calls Tryz.prog 39 #[.pointer (some ⟨k.h,0,none⟩),.agg (yJ op d a b c n kk xx)] w fun e w'=>e=.returned (.agg (stC sk ar))∧QW w' k ws tb mp { q with stuck:=q.stuck || !(q.has a),reg:=upd q.reg d v,has:=upd q.has d true }∧zI k.own w w':=by
 have lh:=hq.h.lt
 have HS:Hid _:=hs
 have HP:Hid _:=hP
 have HQ':Hid _:=hq
 have HLH:Hid _:=hq.h.lt
 have HA:Hid _:=ha
 have HD:Hid _:=hd
 clear hq hs ha hd hP
 go_enter Tryz.func39,Tryz.ntmps39
 go_upto_region 3 with (go_at_call 38;refine Calls.mono (vH k ws tb mp q a _ ?_ HA.out) ?_;(exact zq3);rintro e w1 ⟨rfl,hq1,hc1⟩;have HM0:Hid _:=zIk (C:=(yJ op d a b c n kk xx)) hq1 hc1 HLH.out;have p0:w1.cell? ⟨w.heap.size,0,none⟩=some (.int .i64 op):=cel HM0.out.1.b0 0;have pl:=ltb HM0.out.1.b0;clear hq1 hc1)
 refine zJ (fun W'=>MW w W' k ws tb mp { q with stuck:=q.stuck || !(q.has a) } (yJ op d a b c n kk xx) 0 0∧zI k.own w W') HM0.out ?_
 clear HM0 p0 pl
 intro wx hW
 have HW:Hid _:=hW.1
 have HC:Hid _:=hW.2
 have lh':k.h < wx.heap.size:=hW.1.q.h.lt
 have lh2:k.h < wx.heap.size+1:=Nat.lt_succ_of_lt lh'
 have c14:wx.cell? ⟨k.h,14,none⟩=some mp:=hW.1.q.h.c 14 aO
 have o0:wx.cell? ⟨w.heap.size,0,none⟩=some (.int .i64 op):=cel hW.1.b0 0
 have l0:=ltb hW.1.b0
 have l02:=Nat.lt_succ_of_lt l0
 clear hW lh
 go_region_held3 (fun W'=>W'.cell? ⟨k.h,14,none⟩=some mp∧W'.cell? ⟨w.heap.size,0,none⟩=some (.int .i64 op)) (first|(simp[go_sem,c14,o0,lh',lh2,l0,l02];done)|(simp[go_sem,d14,p0,dl,pl,dl2,pl2];done))
  (first|(go_at_call 54;refine Calls.mono (HS.out _ (HP.out _ zq41)) ?_;rintro e w1 ⟨rfl,hc1⟩;have HCC:Hid (zI [] wx w1):=zI.trans zq4 hc1;have HM1:Hid (MW w w1 k ws tb mp { q with stuck:=q.stuck || !(q.has a) } (yJ op d a b c n kk xx) 0 0):=⟨HW.out.q.chg HCC.out (fun _ _=>by simp),(HCC.out.block _ (ltb HW.out.b0) aS).trans HW.out.b0,(HCC.out.block _ (ltb HW.out.b1) aS).trans HW.out.b1⟩;have d14:w1.cell? ⟨k.h,14,none⟩=some mp:=HM1.out.q.h.c 14 aO;have p0:w1.cell? ⟨w.heap.size,0,none⟩=some (.int .i64 op):=cel HM1.out.b0 0;have dl:=HM1.out.q.h.lt;have dl2:=Nat.lt_succ_of_lt dl;have pl:=ltb HM1.out.b0;have pl2:=Nat.lt_succ_of_lt pl;(try(have ob:w1.heap[wx.heap.size]?=some (.cells (stC 0 0) 35):=zIy (wx:=wx) (W:=(wx.alloc (.cells (stC 0 0) 35)).drew) (heap_alloc_last wx _) hc1;have ob0:=cel ob 0;have ob1:=cel ob 1;have obf:=fro ob;have obl:=ltb ob));clear hc1))
 all_goals go_upto_region 4 with fail
 all_goals first
  | (refine zJ (fun W'=>LD3 w W' k ws tb mp { q with stuck:=q.stuck || !(q.has a) } (yJ op d a b c n kk xx) wx.heap.size sk ar) (zLQ sk ar HM1.out (HC.out.trans (HCC.out.mono aS)) (zA1 HQ'.out) ob (ltb HW.out.b1)) ?_;intro wy hy;generalize wx.heap.size=B at hy ⊢)
  | (refine zJ (fun W'=>LD3 w W' k ws tb mp { q with stuck:=q.stuck || !(q.has a) } (yJ op d a b c n kk xx) w1.heap.size sk ar) (zLP sk ar HM1.out (HC.out.trans (HCC.out.mono aS))) ?_;intro wy hy;generalize w1.heap.size=B at hy ⊢)
 all_goals(
  have HY:Hid _:=hy
  have x0:=cel hy.b0 1
  have t0:=cel hy.b2 0
  have t1:=cel hy.b2 1
  have y0:=cel hy.b1 0
  have y1:=cel hy.b1 1
  have yf:=fro hy.b1
  have la:=ltb hy.b0
  have lb:=ltb hy.b1
  have lc:=ltb hy.b2
  have hne:¬B=w.heap.size+1:=by have:=hy.ne;omega
  have hne':¬w.heap.size+1=B:=by have:=hy.ne;omega
  have NW:Hid (w.heap.size+1∉k.own):=show w.heap.size+1∉k.own from fun e=>by have:=zA1 HQ'.out _ e;omega
  clear hy)
 all_goals go_wp2_with (go_at_call 55;refine Calls.mono (uG k ws tb mp { q with stuck:=q.stuck || !(q.has a) } d v _ HY.out.q HD.out) ?_;rintro e w2 ⟨rfl,hq2,hc2⟩;obtain⟨f1,f2,f3⟩:=zLR HY.out (zA1 HQ'.out) hq2 hc2;have HF3:Hid _:=f3;have HQ2:Hid _:=hq2;have u0:=cel f2 0;have u1:=cel f2 1;have v0:=cel f1 0;have v1:=cel f1 1;have vf:=fro f1;have vl:=ltb f1;have ul:=ltb f2;clear hq2 hc2 f1 f2 f3)
 all_goals exact bodyPost_ret (v:=.agg (stC sk ar)) (by simp[results,Tryz.results39,go_sem,v0,v1,vf,vl]) rfl ⟨rfl,(by focus(repeat first|with_reducible exact HQ2.out|with_reducible refine QW.oth ?_ NW.out _ _|with_reducible refine QW.al ?_ _|with_reducible refine QW.dr ?_|with_reducible refine QW.drN ?_ _)),(by focus(repeat first|with_reducible exact HF3.out|with_reducible exact zI.refl _ _|with_reducible refine zI.setNew ?_ aO _ _|with_reducible refine zI.alloc ?_ _|with_reducible refine zI.drew ?_|with_reducible refine zI.dN ?_ _))⟩
theorem zLe(k:QB)(ws tb mp:Value)(q:HQ)(op g b c n sk ar:Int)(d a kk xx v:Nat)(P:World→Prop)(w:World)(hq:QW w k ws tb mp q)(ha:a < 16)(hd:d < 16)(hsk:(sk==0)=false)(ho1:op < 88)(ho:IntKind.i64.wrap (op - 80)=g)
  (hP:∀ W,zI k.own w W→P W)
  (hs:∀ W,P W→Calls Tryz.prog 54 #[mp,.int .i64 g,.int .u32 (q.reg a)] W fun e w'=>e=.returned (.tuple #[.int .u32 v,.agg (stC sk ar)])∧zI [] W w') :
  Calls Tryz.prog 39 #[.pointer (some ⟨k.h,0,none⟩),.agg (yJ op d a b c n kk xx)] w fun e w'=>e=.returned (.agg (stC sk ar))∧QW w' k ws tb mp { q with stuck:=q.stuck || !(q.has a) }∧zI k.own w w':=by
 have lh:=hq.h.lt
 have HS:Hid _:=hs
 have HP:Hid _:=hP
 have HQ':Hid _:=hq
 have HLH:Hid _:=hq.h.lt
 have HA:Hid _:=ha
 have HD:Hid _:=hd
 clear hq hs ha hd hP
 go_enter Tryz.func39,Tryz.ntmps39
 go_upto_region 3 with (go_at_call 38;refine Calls.mono (vH k ws tb mp q a _ ?_ HA.out) ?_;(exact zq3);rintro e w1 ⟨rfl,hq1,hc1⟩;have HM0:Hid _:=zIk (C:=(yJ op d a b c n kk xx)) hq1 hc1 HLH.out;have p0:w1.cell? ⟨w.heap.size,0,none⟩=some (.int .i64 op):=cel HM0.out.1.b0 0;have pl:=ltb HM0.out.1.b0;clear hq1 hc1)
 refine zJ (fun W'=>MW w W' k ws tb mp { q with stuck:=q.stuck || !(q.has a) } (yJ op d a b c n kk xx) 0 0∧zI k.own w W') HM0.out ?_
 clear HM0 p0 pl
 intro wx hW
 have HW:Hid _:=hW.1
 have HC:Hid _:=hW.2
 have lh':k.h < wx.heap.size:=hW.1.q.h.lt
 have lh2:k.h < wx.heap.size+1:=Nat.lt_succ_of_lt lh'
 have c14:wx.cell? ⟨k.h,14,none⟩=some mp:=hW.1.q.h.c 14 aO
 have o0:wx.cell? ⟨w.heap.size,0,none⟩=some (.int .i64 op):=cel hW.1.b0 0
 have l0:=ltb hW.1.b0
 have l02:=Nat.lt_succ_of_lt l0
 clear hW lh
 go_region_held3 (fun W'=>W'.cell? ⟨k.h,14,none⟩=some mp∧W'.cell? ⟨w.heap.size,0,none⟩=some (.int .i64 op)) (first|(simp[go_sem,c14,o0,lh',lh2,l0,l02];done)|(simp[go_sem,d14,p0,dl,pl,dl2,pl2];done))
  (first|(go_at_call 54;refine Calls.mono (HS.out _ (HP.out _ zq41)) ?_;rintro e w1 ⟨rfl,hc1⟩;have HCC:Hid (zI [] wx w1):=zI.trans zq4 hc1;have HM1:Hid (MW w w1 k ws tb mp { q with stuck:=q.stuck || !(q.has a) } (yJ op d a b c n kk xx) 0 0):=⟨HW.out.q.chg HCC.out (fun _ _=>by simp),(HCC.out.block _ (ltb HW.out.b0) aS).trans HW.out.b0,(HCC.out.block _ (ltb HW.out.b1) aS).trans HW.out.b1⟩;have d14:w1.cell? ⟨k.h,14,none⟩=some mp:=HM1.out.q.h.c 14 aO;have p0:w1.cell? ⟨w.heap.size,0,none⟩=some (.int .i64 op):=cel HM1.out.b0 0;have dl:=HM1.out.q.h.lt;have dl2:=Nat.lt_succ_of_lt dl;have pl:=ltb HM1.out.b0;have pl2:=Nat.lt_succ_of_lt pl;(try(have ob:w1.heap[wx.heap.size]?=some (.cells (stC 0 0) 35):=zIy (wx:=wx) (W:=(wx.alloc (.cells (stC 0 0) 35)).drew) (heap_alloc_last wx _) hc1;have ob0:=cel ob 0;have ob1:=cel ob 1;have obf:=fro ob;have obl:=ltb ob));clear hc1))
 all_goals go_upto_region 4 with fail
 all_goals first
  | (refine zJ (fun W'=>LD3 w W' k ws tb mp { q with stuck:=q.stuck || !(q.has a) } (yJ op d a b c n kk xx) wx.heap.size sk ar) (zLQ sk ar HM1.out (HC.out.trans (HCC.out.mono aS)) (zA1 HQ'.out) ob (ltb HW.out.b1)) ?_;intro wy hy;generalize wx.heap.size=B at hy ⊢)
  | (refine zJ (fun W'=>LD3 w W' k ws tb mp { q with stuck:=q.stuck || !(q.has a) } (yJ op d a b c n kk xx) w1.heap.size sk ar) (zLP sk ar HM1.out (HC.out.trans (HCC.out.mono aS))) ?_;intro wy hy;generalize w1.heap.size=B at hy ⊢)
 all_goals(
  have HY:Hid _:=hy
  have x0:=cel hy.b0 1
  have t0:=cel hy.b2 0
  have t1:=cel hy.b2 1
  have y0:=cel hy.b1 0
  have y1:=cel hy.b1 1
  have yf:=fro hy.b1
  have la:=ltb hy.b0
  have lb:=ltb hy.b1
  have lc:=ltb hy.b2
  have hne:¬B=w.heap.size+1:=by have:=hy.ne;omega
  have hne':¬w.heap.size+1=B:=by have:=hy.ne;omega
  have NW:Hid (w.heap.size+1∉k.own):=show w.heap.size+1∉k.own from fun e=>by have:=zA1 HQ'.out _ e;omega
  clear hy)
 all_goals go_wp2_with (go_at_call 55;refine Calls.mono (uG k ws tb mp { q with stuck:=q.stuck || !(q.has a) } d v _ HY.out.q HD.out) ?_;rintro e w2 ⟨rfl,hq2,hc2⟩;obtain⟨f1,f2,f3⟩:=zLR HY.out (zA1 HQ'.out) hq2 hc2;have HF3:Hid _:=f3;have HQ2:Hid _:=hq2;have u0:=cel f2 0;have u1:=cel f2 1;have v0:=cel f1 0;have v1:=cel f1 1;have vf:=fro f1;have vl:=ltb f1;have ul:=ltb f2;clear hq2 hc2 f1 f2 f3)
 all_goals exact bodyPost_ret (v:=.agg (stC sk ar)) (by simp[results,Tryz.results39,go_sem,y0,y1,yf,lb]) rfl ⟨rfl,(by focus(repeat first|with_reducible exact HY.out.q|with_reducible refine QW.oth ?_ NW.out _ _|with_reducible refine QW.al ?_ _|with_reducible refine QW.dr ?_|with_reducible refine QW.drN ?_ _)),(by focus(repeat first|with_reducible exact HY.out.ch|with_reducible exact zI.refl _ _|with_reducible refine zI.setNew ?_ aO _ _|with_reducible refine zI.alloc ?_ _|with_reducible refine zI.drew ?_|with_reducible refine zI.dN ?_ _))⟩
theorem zDq(k:QB)(ws tb mp:Value)(q:HQ)(op b c n:Int)(d a kk xx:Nat)(w:World)(hq:QW w k ws tb mp q)(ha:a < 16)(hd:d < 16)(yZ:((q.stuck || !(q.has a)) || !(q.has d))=true)(ho1:¬op < 88) :
  Calls Tryz.prog 39 #[.pointer (some ⟨k.h,0,none⟩),.agg (yJ op d a b c n kk xx)] w fun e w'=>e=.returned (.agg (stC 0 0))∧QW w' k ws tb mp { q with stuck:=true }∧zI k.own w w':=by
 have lh:=hq.h.lt
 have HQ':Hid _:=hq
 have HLH:Hid _:=hq.h.lt
 have HA:Hid _:=ha
 have HD:Hid _:=hd
 have HST:Hid _:=yZ
 have NW:Hid (w.heap.size+1∉k.own):=show w.heap.size+1∉k.own from fun e=>by have:=zA1 hq _ e;omega
 clear hq ha hd yZ
 go_enter Tryz.func39,Tryz.ntmps39
 go_upto_region 7 with (go_at_call 38;refine Calls.mono (vH k ws tb mp q a _ ?_ HA.out) ?_;(exact zq3);rintro e w1 ⟨rfl,hq1,hc1⟩;have HM0:Hid _:=zIk (C:=(yJ op d a b c n kk xx)) hq1 hc1 HLH.out;have p0:w1.cell? ⟨w.heap.size,0,none⟩=some (.int .i64 op):=cel HM0.out.1.b0 0;have pl:=ltb HM0.out.1.b0;clear hq1 hc1)
 refine zJ (fun W'=>MW w W' k ws tb mp { q with stuck:=q.stuck || !(q.has a) } (yJ op d a b c n kk xx) 0 0∧zI k.own w W') HM0.out ?_
 clear HM0 p0 pl
 intro wx hW
 have HW:Hid _:=hW.1
 have HC:Hid _:=hW.2
 have o1:wx.cell? ⟨w.heap.size,1,none⟩=some (.int .i64 d):=cel hW.1.b0 1
 have l0:=ltb hW.1.b0
 clear hW lh
 go_upto_region 8 with (go_at_call 38;refine Calls.mono (zAR k ws tb mp q (q.stuck || !(q.has a)) d _ HW.out.q HD.out) ?_;rintro e w1 ⟨rfl,hq1,hc1⟩;rw[HST.out] at hq1;have HM1:Hid _:=HW.out.gt HLH.out hq1 hc1;have HC1:Hid _:=HC.out.trans (hc1.mono (show ∀ x∈[k.h],x∈k.own by simp[QB.own]));clear hq1 hc1)
 have c23:w1.cell? ⟨k.h,23,none⟩=some (.bool true):=HM1.out.q.h.c 23 aO
 have lk:=HM1.out.q.h.lt
 have y0:=cel HM1.out.b1 0
 have y1:=cel HM1.out.b1 1
 have yf:=fro HM1.out.b1
 have lb:=ltb HM1.out.b1
 go_wp2
 exact bodyPost_ret (v:=.agg (stC 0 0)) (by simp[results,Tryz.results39,go_sem,y0,y1,yf,lb]) rfl ⟨rfl,(by focus(repeat first|with_reducible exact HM1.out.q|with_reducible refine QW.oth ?_ NW.out _ _|with_reducible refine QW.al ?_ _|with_reducible refine QW.dr ?_|with_reducible refine QW.drN ?_ _)),(by focus(repeat first|with_reducible exact HC1.out|with_reducible exact zI.refl _ _|with_reducible refine zI.setNew ?_ aO _ _|with_reducible refine zI.alloc ?_ _|with_reducible refine zI.drew ?_|with_reducible refine zI.dN ?_ _))⟩
structure HQR(q:HQ)(s:HS Va.MS):Prop where
 r:∀ i,s.R i=if q.has i=true then some (q.reg i) else none
 sp:∀ i,s.Sp i=if q.held i=true then some (q.sp i) else none
 c:q.c=s.c
 st:q.stuck=false
 rb:∀ i,q.reg i < 4294967296
 sb:∀ i,q.sp i < 4294967296
 cb:Va.zA0 s.c
 mo:s.m.Ok
theorem HQR.put{q:HQ}{h:HS Va.MS}(H:HQR q h)(d u:Nat)(hu:u < 4294967296):HQR { q with reg:=upd q.reg d u,has:=upd q.has d true } (h.set d u):=by
 refine⟨fun i=>?_,H.sp,H.c,H.st,fun i=>?_,H.sb,H.cb,H.mo⟩
 ·show upd h.R d (some u) i=if upd q.has d true i=true then some (upd q.reg d u i) else none
  unfold upd
  by_cases hi:i=d
  ·simp[hi]
  ·simp only[if_neg hi];exact H.r i
 ·show upd q.reg d u i < _
  unfold upd;split
  ·exact hu
  ·exact H.rb i
theorem HQR.spill{q:HQ}{h:HS Va.MS}(H:HQR q h)(n u:Nat)(hu:u < 4294967296):HQR { q with sp:=upd q.sp n u,held:=upd q.held n true } { h with Sp:=upd h.Sp n (some u) }:=by
 refine⟨H.r,fun i=>?_,H.c,H.st,H.rb,fun i=>?_,H.cb,H.mo⟩
 ·show upd h.Sp n (some u) i=if upd q.held n true i=true then some (upd q.sp n u i) else none
  unfold upd
  by_cases hi:i=n
  ·simp[hi]
  ·simp only[if_neg hi];exact H.sp i
 ·show upd q.sp n u i < _
  unfold upd;split
  ·exact hu
  ·exact H.sb i
theorem HQR.slot{q:HQ}{h:HS Va.MS}(H:HQR q h)(n u:Nat)(hu:u < 4294967296):HQR { q with c:=upd q.c n u } { h with c:=upd h.c n u }:=by
 refine⟨H.r,H.sp,?_,H.st,H.rb,H.sb,fun i=>?_,H.mo⟩
 ·show upd q.c n u=upd h.c n u;rw[H.c]
 ·show upd h.c n u i < _
  unfold upd;split
  ·exact hu
  ·exact H.cb i
theorem HQR.mem{q:HQ}{h:HS Va.MS}(H:HQR q h){m:Va.MS}(hm:m.Ok):HQR q { h with m:=m }:=⟨H.r,H.sp,H.c,H.st,H.rb,H.sb,H.cb,hm⟩
theorem HQR.sm{q:HQ}{h:HS Va.MS}(H:HQR q h){i u:Nat}(e:h.R i=some u):q.has i=true∧q.reg i=u:=by
 have:=H.r i
 rw[e] at this
 by_cases g:q.has i=true
 ·rw[if_pos g] at this;cases this;exact⟨g,rfl⟩
 ·rw[if_neg g] at this;cases this
theorem HQR.nn{q:HQ}{h:HS Va.MS}(H:HQR q h){i:Nat}(e:h.R i=none):q.has i=false:=by
 have:=H.r i
 rw[e] at this
 by_cases g:q.has i=true
 ·rw[if_pos g] at this;cases this
 ·simpa using g
theorem HQR.smS{q:HQ}{h:HS Va.MS}(H:HQR q h){i u:Nat}(e:h.Sp i=some u):q.held i=true∧q.sp i=u:=by
 have:=H.sp i
 rw[e] at this
 by_cases g:q.held i=true
 ·rw[if_pos g] at this;cases this;exact⟨g,rfl⟩
 ·rw[if_neg g] at this;cases this
theorem HQR.nnS{q:HQ}{h:HS Va.MS}(H:HQR q h){i:Nat}(e:h.Sp i=none):q.held i=false:=by
 have:=H.sp i
 rw[e] at this
 by_cases g:q.held i=true
 ·rw[if_pos g] at this;cases this
 ·simpa using g
structure RC(w:World)(k:QB)(kk:Va.RB)(ca:Option Addr)(cap:Nat)(ta:Option Addr)(tcap:Nat)(T:PT)(q:HQ)(s:HS Va.MS):Prop where
 qw:QW w k (.slice ca T.len cap) (.slice ta T.tl tcap) (.pointer (some ⟨kk.y,0,none⟩)) q
 m:Va.RM w kk s.m
 H:HQR q s
 wd:Wds w ca T.len cap T.ws
 tr:T.tl=0∨∃ tq toff,ta=some ⟨tq,toff,none⟩∧TR w tq toff T.tl T.tp T.ta∧T.tl≤140737488355328
 dj:∀ x∈k.own,x∉kk.y :: kk.all
 cn:0 < T.len→∀ b o,ca=some ⟨b,o,none⟩→b∉k.own
 tn:0 < T.tl→∀ b o,ta=some ⟨b,o,none⟩→b∉k.own
 dn:0≤q.done∧q.done≤9223372036854700000
 lf:q.left=T.left
 ld : -9223372036854775808≤T.left - q.done∧T.left - q.done≤9223372036854775807
def zAr(w:World)(k:QB)(kk:Va.RB)(ws tb:Value)(q:HQ)(s:HS Va.MS)(e:Ending)(w':World):PR→Prop
 | .stuck=>(∃ L q',e=.returned (.agg (yE L))∧QW w' k ws tb (.pointer (some ⟨kk.y,0,none⟩)) q'∧q'.stuck=true∧q'.c=s.c)∧Va.RM w' kk s.m∧zI (k.own++kk.all) w w'
 | .out L s'=>e=.returned (.agg (yE L))∧(∃ q',QW w' k ws tb (.pointer (some ⟨kk.y,0,none⟩)) q'∧q'.stuck=false∧q'.c=s'.c)∧Va.RM w' kk s'.m∧zI (k.own++kk.all) w w'
 | .go s' dn nx=>e=.returned (.agg (yE ⟨0,0,0,0,0,0⟩))∧(∃ k' q',k'.h=k.h∧(∀ x∈k'.own,x∈k.own∨w.heap.size≤x)∧QW w' k' ws tb (.pointer (some ⟨kk.y,0,none⟩)) q'∧HQR q' s'∧q'.done=dn∧q'.at_=nx.getD q.at_∧q'.ran=q.ran∧q'.left=q.left)∧Va.RM w' kk s'.m∧zI (k.own++kk.all) w w'
theorem zAK(op:Int)(h:op≠1∧op≠10∧op≠11∧op≠14∧op≠12∧op≠13∧op≠4∧op≠15∧op≠96)(l:op < 80∨90 < op):zLL op:=by
 obtain⟨h1,h2,h3,h4,h5,h6,h7,h8,h9⟩:=h
 exact⟨by simp[h1],by simp[h2],by simp[h3],by simp[h4],by simp[h5],by simp[h6],by simp[h7],by simp[h8],by simp[h9],l⟩
theorem zCi(op:Int)(l:80≤op)(h:op≤90):zFS op:=
 ⟨by simp;omega,by simp;omega,by simp;omega,by simp;omega,by simp;omega,by simp;omega,by simp;omega,by simp;omega,by simp;omega,l,h⟩
theorem zDm(op:Nat)(m:Int)(h:op < 256)(h0:0≤m)(h1:m≤256):IntKind.i64.wrap ((op:Int) - m)=(op:Int) - m:=IntWalk.i64_in _ aO
theorem zEW(kd wv:Int)(a b c:Nat)(W:World)(ha:a < 4294967296)(hb:b < 4294967296)(hc:c < 4294967296)(hk:kd=4∨kd=5∨kd=6∨kd=7∨kd=8)(lo:(Va.rr kd).lo≤wv)(hi:wv≤(Va.rr kd).hi) :
  (Calls Tryz.prog 58 #[.agg (ovC kd wv),.int .u32 a,.int .u32 b,.int .u32 c] W fun e w'=>e=.returned (.int .u32 ((uV.val kd wv a b c:Nat):Int))∧Below W.heap.size W w')∧uV.val kd wv a b c < 4294967296:=by
 have hg:Va.zFT 1 ⟨kd,wv,0,0,0,0,0⟩:=⟨by show 1≤kd;omega,by show kd≤17;omega,lo,hi,by simp,fun _=>by simp,fun _=>by simp,by simp⟩
 have h:=Va.zJY 1 ⟨kd,wv,0,0,0,0,0⟩ a b c W ha hb hc (by show kd=1∨kd=4∨kd=5∨kd=6∨kd=7∨kd=8;omega) hg
 have hb0:=Va.zFe ⟨kd,wv,0,0,0,0,0⟩ (fun _=>0) a b c (fun _=>by show 0 < 4294967296;decide) ha hb hc zq70
 have e0:Va.zC5 ⟨kd,wv,0,0,0,0,0⟩ (fun _=>0) a b c=Va.yC ⟨kd,wv,0,0,0,0,0⟩ a b c:=by
  unfold Va.zC5
  rw[if_neg (show ¬kd=2 by omega),if_neg (show ¬kd=17 by omega)]
 rw[e0] at hb0
 have e1:((uV.val kd wv a b c:Nat):Int)=Va.yC ⟨kd,wv,0,0,0,0,0⟩ a b c:=Int.toNat_of_nonneg hb0.1
 exact⟨by rw[e1];exact h,by omega⟩
theorem zK8{ws:Nat→Nat}{len:Nat}{at':Int}(hw:∀ i,ws i < 4294967296)(h:at' < 0):isE ws len at'=false:=by
 cases e:isE ws len at' with
 | false=>rfl
 | true=>
  unfold isE at e
  simp only[Bool.and_eq_true,decide_eq_true_eq] at e
  obtain⟨m',_,_,_,_,_,_,_,_,_,F'⟩:=zAx hw e.1
  have:=F'.at_
  omega
theorem yS{w:World}{k:QB}:∀ x∈k.own,x∈k.own∨w.heap.size≤x:=fun x hx=>.inl hx
theorem zPt(k:QB)(kk:Va.RB)(ca:Option Addr)(cap:Nat)(ta:Option Addr)(tcap:Nat)(T:PT)(q:HQ)(s:HS Va.MS)(d a b c n kx xx:Nat)(w:World)(P:RC w k kk ca cap ta tcap T q s)(ld:d < 16)(la:a < 16)(lb:b < 16)(lc:c < 16)(ln:n < 65536)(hkx:kx < 4294967296) :
  Calls Tryz.prog 24 #[.pointer (some ⟨k.h,0,none⟩),.agg (yJ 2 d a b c n kx xx)] w fun e w'=>zAr w k kk (.slice ca T.len cap) (.slice ta T.tl tcap) q s e w' (zU T q.ran ⟨2,d,a,b,c,n,kx,xx⟩ s q.done):=by
 have H:=P.H
 have d0:=P.dn
 have hdj2:∀ x∈kk.y :: kk.all,x∉k.own:=fun x hx hy=>P.dj x hy hx
 have n0:0≤q.done+(n:Int):=aO
 have n1:q.done+(n:Int)≤9223372036854775807:=aO
 rw[show zU T q.ran ⟨2,d,a,b,c,n,kx,xx⟩ s q.done=.go (s.set d kx) q.done none from rfl]
 refine(uE k _ _ _ q _ 2 d a b c n kx xx w P.qw (zAK _ aO aO) n0 n1 (fun W hW=>zOC k _ _ _ q d a b c n kx xx W hW ld)).mono ?_
 rintro r w' ⟨rfl,hq',hc'⟩
 exact⟨rfl,⟨k,_,rfl,yS,hq',H.put d kx hkx,rfl,rfl,rfl,rfl⟩,P.m.keep (zQ hc') hdj2,hc'.mono (fun x hx=>List.mem_append_left _ hx)⟩
theorem zNy(k:QB)(kk:Va.RB)(ca:Option Addr)(cap:Nat)(ta:Option Addr)(tcap:Nat)(T:PT)(q:HQ)(s:HS Va.MS)(d a b c n kx xx:Nat)(w:World)(P:RC w k kk ca cap ta tcap T q s)(ld:d < 16)(la:a < 16)(lb:b < 16)(lc:c < 16)(ln:n < 65536)(hn2:n < 12) :
  Calls Tryz.prog 24 #[.pointer (some ⟨k.h,0,none⟩),.agg (yJ 6 d a b c n kx xx)] w fun e w'=>zAr w k kk (.slice ca T.len cap) (.slice ta T.tl tcap) q s e w' (zU T q.ran ⟨6,d,a,b,c,n,kx,xx⟩ s q.done):=by
 have H:=P.H
 have d0:=P.dn
 have hdj2:∀ x∈kk.y :: kk.all,x∉k.own:=fun x hx hy=>P.dj x hy hx
 have n0:0≤q.done+(n:Int):=aO
 have n1:q.done+(n:Int)≤9223372036854775807:=aO
 rw[show zU T q.ran ⟨6,d,a,b,c,n,kx,xx⟩ s q.done=.go (s.set d (s.c n)) q.done none from rfl]
 refine(uE k _ _ _ q _ 6 d a b c n kx xx w P.qw (zAK _ aO aO) n0 n1 (fun W hW=>zMN k _ _ _ q d a n b c kx xx W hW ld hn2)).mono ?_
 rintro r w' ⟨rfl,hq',hc'⟩
 exact⟨rfl,⟨k,_,rfl,yS,hq',(by rw[← H.c];exact H.put d (q.c n) (by rw[H.c];exact H.cb n)),rfl,rfl,rfl,rfl⟩,P.m.keep (zQ hc') hdj2,hc'.mono (fun x hx=>List.mem_append_left _ hx)⟩
theorem zNA(k:QB)(kk:Va.RB)(ca:Option Addr)(cap:Nat)(ta:Option Addr)(tcap:Nat)(T:PT)(q:HQ)(s:HS Va.MS)(d a b c n kx xx:Nat)(w:World)(P:RC w k kk ca cap ta tcap T q s)(ld:d < 16)(la:a < 16)(lb:b < 16)(lc:c < 16)(ln:n < 65536) :
  Calls Tryz.prog 24 #[.pointer (some ⟨k.h,0,none⟩),.agg (yJ 3 d a b c n kx xx)] w fun e w'=>zAr w k kk (.slice ca T.len cap) (.slice ta T.tl tcap) q s e w' (zU T q.ran ⟨3,d,a,b,c,n,kx,xx⟩ s q.done):=by
 have H:=P.H
 have d0:=P.dn
 have hdj2:∀ x∈kk.y :: kk.all,x∉k.own:=fun x hx hy=>P.dj x hy hx
 have n0:0≤q.done+(n:Int):=aO
 have n1:q.done+(n:Int)≤9223372036854775807:=aO
 cases hu:s.R a with
 | none=>
  have g1:=H.nn hu
  rw[show zU T q.ran ⟨3,d,a,b,c,n,kx,xx⟩ s q.done=.stuck by simp[zU,yZ,HS.get,HS.set,hu]]
  refine(uE k _ _ _ q _ 3 d a b c n kx xx w P.qw (zAK _ aO aO) n0 n1 (fun W hW=>zIu k _ _ _ q d a b c n kx xx W hW ld la)).mono ?_
  rintro r w' ⟨rfl,hq',hc'⟩
  exact⟨⟨⟨0,0,0,0,0,0⟩,_,rfl,hq',zq39,H.c⟩,P.m.keep (zQ hc') hdj2,hc'.mono (fun x hx=>List.mem_append_left _ hx)⟩
 | some u=>
  obtain⟨g1,g2⟩:=H.sm hu
  have ub:u < 4294967296:=by rw[← g2];exact H.rb a
  rw[show zU T q.ran ⟨3,d,a,b,c,n,kx,xx⟩ s q.done=.go (s.set d u) q.done none by simp[zU,yZ,HS.get,HS.set,hu]]
  refine(uE k _ _ _ q _ 3 d a b c n kx xx w P.qw (zAK _ aO aO) n0 n1 (fun W hW=>zIu k _ _ _ q d a b c n kx xx W hW ld la)).mono ?_
  rintro r w' ⟨rfl,hq',hc'⟩
  exact⟨rfl,⟨k,_,rfl,yS,hq',(by rw[show(q.stuck || !(q.has a))=q.stuck from(by rw[g1];simp),g2];exact H.put d u ub),rfl,rfl,rfl,rfl⟩,P.m.keep (zQ hc') hdj2,hc'.mono (fun x hx=>List.mem_append_left _ hx)⟩
theorem zNE(k:QB)(kk:Va.RB)(ca:Option Addr)(cap:Nat)(ta:Option Addr)(tcap:Nat)(T:PT)(q:HQ)(s:HS Va.MS)(d a b c n kx xx:Nat)(w:World)(P:RC w k kk ca cap ta tcap T q s)(ld:d < 16)(la:a < 16)(lb:b < 16)(lc:c < 16)(ln:n < 65536)(hn2:n < 12) :
  Calls Tryz.prog 24 #[.pointer (some ⟨k.h,0,none⟩),.agg (yJ 7 d a b c n kx xx)] w fun e w'=>zAr w k kk (.slice ca T.len cap) (.slice ta T.tl tcap) q s e w' (zU T q.ran ⟨7,d,a,b,c,n,kx,xx⟩ s q.done):=by
 have H:=P.H
 have d0:=P.dn
 have hdj2:∀ x∈kk.y :: kk.all,x∉k.own:=fun x hx hy=>P.dj x hy hx
 have n0:0≤q.done+(n:Int):=aO
 have n1:q.done+(n:Int)≤9223372036854775807:=aO
 cases hu:s.R a with
 | none=>
  have g1:=H.nn hu
  rw[show zU T q.ran ⟨7,d,a,b,c,n,kx,xx⟩ s q.done=.stuck by simp[zU,yZ,HS.get,HS.set,hu]]
  refine(uE k _ _ _ q _ 7 d a b c n kx xx w P.qw (zAK _ aO aO) n0 n1 (fun W hW=>zK5 k _ _ _ q d a n b c kx xx W hW la g1)).mono ?_
  rintro r w' ⟨rfl,hq',hc'⟩
  exact⟨⟨⟨0,0,0,0,0,0⟩,_,rfl,hq',rfl,H.c⟩,P.m.keep (zQ hc') hdj2,hc'.mono (fun x hx=>List.mem_append_left _ hx)⟩
 | some u=>
  obtain⟨g1,g2⟩:=H.sm hu
  have ub:u < 4294967296:=by rw[← g2];exact H.rb a
  rw[show zU T q.ran ⟨7,d,a,b,c,n,kx,xx⟩ s q.done=.go { s with c:=upd s.c n u } q.done none by simp[zU,yZ,HS.get,HS.set,hu]]
  refine(uE k _ _ _ q _ 7 d a b c n kx xx w P.qw (zAK _ aO aO) n0 n1 (fun W hW=>zMR k _ _ _ q d a n b c kx xx W hW la hn2 g1 H.st)).mono ?_
  rintro r w' ⟨rfl,hq',hc'⟩
  exact⟨rfl,⟨k,_,rfl,yS,hq',(by rw[g2];exact H.slot n u ub),rfl,rfl,rfl,rfl⟩,P.m.keep (zQ hc') hdj2,hc'.mono (fun x hx=>List.mem_append_left _ hx)⟩
theorem zNz(k:QB)(kk:Va.RB)(ca:Option Addr)(cap:Nat)(ta:Option Addr)(tcap:Nat)(T:PT)(q:HQ)(s:HS Va.MS)(d a b c n kx xx:Nat)(w:World)(P:RC w k kk ca cap ta tcap T q s)(ld:d < 16)(la:a < 16)(lb:b < 16)(lc:c < 16)(ln:n < 65536)(hn2:n < 2048) :
  Calls Tryz.prog 24 #[.pointer (some ⟨k.h,0,none⟩),.agg (yJ 8 d a b c n kx xx)] w fun e w'=>zAr w k kk (.slice ca T.len cap) (.slice ta T.tl tcap) q s e w' (zU T q.ran ⟨8,d,a,b,c,n,kx,xx⟩ s q.done):=by
 have H:=P.H
 have d0:=P.dn
 have hdj2:∀ x∈kk.y :: kk.all,x∉k.own:=fun x hx hy=>P.dj x hy hx
 have n0:0≤q.done+(n:Int):=aO
 have n1:q.done+(n:Int)≤9223372036854775807:=aO
 cases hu:s.Sp n with
 | none=>
  have g1:=H.nnS hu
  rw[show zU T q.ran ⟨8,d,a,b,c,n,kx,xx⟩ s q.done=.stuck by simp[zU,yZ,hu]]
  refine(uE k _ _ _ q _ 8 d a b c n kx xx w P.qw (zAK _ aO aO) n0 n1 (fun W hW=>zK4 k _ _ _ q d a n b c kx xx W hW ld hn2 g1)).mono ?_
  rintro r w' ⟨rfl,hq',hc'⟩
  exact⟨⟨⟨0,0,0,0,0,0⟩,_,rfl,hq',rfl,H.c⟩,P.m.keep (zQ hc') hdj2,hc'.mono (fun x hx=>List.mem_append_left _ hx)⟩
 | some u=>
  obtain⟨g1,g2⟩:=H.smS hu
  have ub:u < 4294967296:=by rw[← g2];exact H.sb n
  rw[show zU T q.ran ⟨8,d,a,b,c,n,kx,xx⟩ s q.done=.go (s.set d u) q.done none by simp[zU,yZ,hu,HS.set]]
  refine(uE k _ _ _ q _ 8 d a b c n kx xx w P.qw (zAK _ aO aO) n0 n1 (fun W hW=>zMO k _ _ _ q d a n b c kx xx W hW ld hn2 g1)).mono ?_
  rintro r w' ⟨rfl,hq',hc'⟩
  exact⟨rfl,⟨k,_,rfl,yS,hq',(by rw[g2];exact H.put d u ub),rfl,rfl,rfl,rfl⟩,P.m.keep (zQ hc') hdj2,hc'.mono (fun x hx=>List.mem_append_left _ hx)⟩
theorem zNF(k:QB)(kk:Va.RB)(ca:Option Addr)(cap:Nat)(ta:Option Addr)(tcap:Nat)(T:PT)(q:HQ)(s:HS Va.MS)(d a b c n kx xx:Nat)(w:World)(P:RC w k kk ca cap ta tcap T q s)(ld:d < 16)(la:a < 16)(lb:b < 16)(lc:c < 16)(ln:n < 65536)(hn2:n < 2048) :
  Calls Tryz.prog 24 #[.pointer (some ⟨k.h,0,none⟩),.agg (yJ 9 d a b c n kx xx)] w fun e w'=>zAr w k kk (.slice ca T.len cap) (.slice ta T.tl tcap) q s e w' (zU T q.ran ⟨9,d,a,b,c,n,kx,xx⟩ s q.done):=by
 have H:=P.H
 have d0:=P.dn
 have hdj2:∀ x∈kk.y :: kk.all,x∉k.own:=fun x hx hy=>P.dj x hy hx
 have n0:0≤q.done+(n:Int):=aO
 have n1:q.done+(n:Int)≤9223372036854775807:=aO
 cases hu:s.R a with
 | none=>
  have g1:=H.nn hu
  rw[show zU T q.ran ⟨9,d,a,b,c,n,kx,xx⟩ s q.done=.stuck by simp[zU,yZ,HS.get,HS.set,hu]]
  refine(uE k _ _ _ q _ 9 d a b c n kx xx w P.qw (zAK _ aO aO) n0 n1 (fun W hW=>zK6 k _ _ _ q d a n b c kx xx W hW la hn2 g1)).mono ?_
  rintro r w' ⟨rfl,hq',hc'⟩
  exact⟨⟨⟨0,0,0,0,0,0⟩,_,rfl,hq',rfl,H.c⟩,P.m.keep (zQ hc') hdj2,hc'.mono (fun x hx=>List.mem_append_left _ hx)⟩
 | some u=>
  obtain⟨g1,g2⟩:=H.sm hu
  have ub:u < 4294967296:=by rw[← g2];exact H.rb a
  rw[show zU T q.ran ⟨9,d,a,b,c,n,kx,xx⟩ s q.done=.go { s with Sp:=upd s.Sp n (some u) } q.done none by simp[zU,yZ,HS.get,HS.set,hu]]
  refine(uE k _ _ _ q _ 9 d a b c n kx xx w P.qw (zAK _ aO aO) n0 n1 (fun W hW=>zMS k _ _ _ q d a n b c kx xx W hW la hn2 g1)).mono ?_
  rintro r w' ⟨rfl,hq',hc'⟩
  exact⟨rfl,⟨k,_,rfl,yS,hq',(by rw[g2];exact H.spill n u ub),rfl,rfl,rfl,rfl⟩,P.m.keep (zQ hc') hdj2,hc'.mono (fun x hx=>List.mem_append_left _ hx)⟩
theorem zNB(k:QB)(kk:Va.RB)(ca:Option Addr)(cap:Nat)(ta:Option Addr)(tcap:Nat)(T:PT)(q:HQ)(s:HS Va.MS)(d a b c n kx xx:Nat)(w:World)(P:RC w k kk ca cap ta tcap T q s)(ld:d < 16)(la:a < 16)(lb:b < 16)(lc:c < 16)(ln:n < 65536) :
  Calls Tryz.prog 24 #[.pointer (some ⟨k.h,0,none⟩),.agg (yJ 97 d a b c n kx xx)] w fun e w'=>zAr w k kk (.slice ca T.len cap) (.slice ta T.tl tcap) q s e w' (zU T q.ran ⟨97,d,a,b,c,n,kx,xx⟩ s q.done):=by
 have H:=P.H
 have d0:=P.dn
 have hdj2:∀ x∈kk.y :: kk.all,x∉k.own:=fun x hx hy=>P.dj x hy hx
 have n0:0≤q.done+(n:Int):=aO
 have n1:q.done+(n:Int)≤9223372036854775807:=aO
 have hb0:=Va.zBD (s.c 8) (s.c 9) (s.c 10) (s.c 11)
 have e1:((uV.now s.c:Nat):Int)=Va.cxF s.c:=Int.toNat_of_nonneg hb0.1
 have e2:uV.now s.c < 4294967296:=by have h2:Va.cxF s.c≤15:=hb0.2;omega
 have hcc:=H.c
 rw[show zU T q.ran ⟨97,d,a,b,c,n,kx,xx⟩ s q.done=.go (s.set d (uV.now s.c)) q.done none from rfl]
 refine(uE k _ _ _ q _ 97 d a b c n kx xx w P.qw (zAK _ aO aO) n0 n1 (fun W hW=>zMP k _ _ _ q d a b c n kx xx (uV.now s.c) W hW ld (fun W2=>by rw[hcc,e1];exact Va.zGw s.c 0 W2 H.cb))).mono ?_
 rintro r w' ⟨rfl,hq',hc'⟩
 exact⟨rfl,⟨k,_,rfl,yS,hq',H.put d _ e2,rfl,rfl,rfl,rfl⟩,P.m.keep (zQ hc') hdj2,hc'.mono (fun x hx=>List.mem_append_left _ hx)⟩
theorem zJ2(k:QB)(kk:Va.RB)(ca:Option Addr)(cap:Nat)(ta:Option Addr)(tcap:Nat)(T:PT)(q:HQ)(s:HS Va.MS)(d a b c n kx xx:Nat)(w:World)(P:RC w k kk ca cap ta tcap T q s)(ld:d < 16)(la:a < 16)(lb:b < 16)(lc:c < 16)(ln:n < 65536) :
  Calls Tryz.prog 24 #[.pointer (some ⟨k.h,0,none⟩),.agg (yJ 14 d a b c n kx xx)] w fun e w'=>zAr w k kk (.slice ca T.len cap) (.slice ta T.tl tcap) q s e w' (zU T q.ran ⟨14,d,a,b,c,n,kx,xx⟩ s q.done):=by
 have H:=P.H
 have d0:=P.dn
 have hdj2:∀ x∈kk.y :: kk.all,x∉k.own:=fun x hx hy=>P.dj x hy hx
 have n0:0≤q.done+(n:Int):=aO
 have n1:q.done+(n:Int)≤9223372036854775807:=aO
 rw[show zU T q.ran ⟨14,d,a,b,c,n,kx,xx⟩ s q.done=.out ⟨1,0,0,kx,q.done+n,0⟩ s from rfl]
 refine(zGz k _ _ _ q d n b c a kx xx w P.qw n0 n1).mono ?_
 rintro r w' ⟨rfl,hq',hc'⟩
 exact⟨rfl,⟨_,hq',H.st,H.c⟩,P.m.keep (zQ hc') hdj2,hc'.mono (fun x hx=>List.mem_append_left _ hx)⟩
theorem zLB(k:QB)(kk:Va.RB)(ca:Option Addr)(cap:Nat)(ta:Option Addr)(tcap:Nat)(T:PT)(q:HQ)(s:HS Va.MS)(d a b c n kx xx:Nat)(w:World)(P:RC w k kk ca cap ta tcap T q s)(ld:d < 16)(la:a < 16)(lb:b < 16)(lc:c < 16)(ln:n < 65536) :
  Calls Tryz.prog 24 #[.pointer (some ⟨k.h,0,none⟩),.agg (yJ 12 d a b c n kx xx)] w fun e w'=>zAr w k kk (.slice ca T.len cap) (.slice ta T.tl tcap) q s e w' (zU T q.ran ⟨12,d,a,b,c,n,kx,xx⟩ s q.done):=by
 have H:=P.H
 have d0:=P.dn
 have hdj2:∀ x∈kk.y :: kk.all,x∉k.own:=fun x hx hy=>P.dj x hy hx
 have n0:0≤q.done+(n:Int):=aO
 have n1:q.done+(n:Int)≤9223372036854775807:=aO
 rw[show zU T q.ran ⟨12,d,a,b,c,n,kx,xx⟩ s q.done=.out ⟨3,d,xx,kx,q.done+n,0⟩ s from rfl]
 refine(zH7 k _ _ _ q d n b c a kx xx w P.qw n0 n1).mono ?_
 rintro r w' ⟨rfl,hq',hc'⟩
 exact⟨rfl,⟨_,hq',H.st,H.c⟩,P.m.keep (zQ hc') hdj2,hc'.mono (fun x hx=>List.mem_append_left _ hx)⟩
theorem zJ4(k:QB)(kk:Va.RB)(ca:Option Addr)(cap:Nat)(ta:Option Addr)(tcap:Nat)(T:PT)(q:HQ)(s:HS Va.MS)(d a b c n kx xx:Nat)(w:World)(P:RC w k kk ca cap ta tcap T q s)(ld:d < 16)(la:a < 16)(lb:b < 16)(lc:c < 16)(ln:n < 65536) :
  Calls Tryz.prog 24 #[.pointer (some ⟨k.h,0,none⟩),.agg (yJ 10 d a b c n kx xx)] w fun e w'=>zAr w k kk (.slice ca T.len cap) (.slice ta T.tl tcap) q s e w' (zU T q.ran ⟨10,d,a,b,c,n,kx,xx⟩ s q.done):=by
 have H:=P.H
 have d0:=P.dn
 have hdj2:∀ x∈kk.y :: kk.all,x∉k.own:=fun x hx hy=>P.dj x hy hx
 have n0:0≤q.done+(n:Int):=aO
 have n1:q.done+(n:Int)≤9223372036854775807:=aO
 cases et:Va.zA2 s.m with
 | true=>
  rw[show zU T q.ran ⟨10,d,a,b,c,n,kx,xx⟩ s q.done=.out ⟨1,0,0,kx,q.done+n,0⟩ s by simp[zU,yZ,uV,et,km]]
  refine(zFP k _ _ _ q d a b c n kx xx w P.qw n0 n1 (fun W hW=>by have h1:=Va.vO kk s.m W (P.m.keep (zQ hW) (fun _ _=>by simp));rw[et] at h1;exact h1)).mono ?_
  rintro r w' ⟨rfl,hq',hc'⟩
  exact⟨rfl,⟨_,hq',H.st,H.c⟩,P.m.keep (zQ hc') hdj2,hc'.mono (fun x hx=>List.mem_append_left _ hx)⟩
 | false=>
  rw[show zU T q.ran ⟨10,d,a,b,c,n,kx,xx⟩ s q.done=.go s q.done none by simp[zU,yZ,uV,et]]
  refine(zFO k _ _ _ q d a b c n kx xx w P.qw n0 n1 (fun W hW=>by have h1:=Va.vO kk s.m W (P.m.keep (zQ hW) (fun _ _=>by simp));rw[et] at h1;exact h1)).mono ?_
  rintro r w' ⟨rfl,hq',hc'⟩
  exact⟨rfl,⟨k,_,rfl,yS,hq',H,rfl,rfl,rfl,rfl⟩,P.m.keep (zQ hc') hdj2,hc'.mono (fun x hx=>List.mem_append_left _ hx)⟩
theorem zPs(k:QB)(kk:Va.RB)(ca:Option Addr)(cap:Nat)(ta:Option Addr)(tcap:Nat)(T:PT)(q:HQ)(s:HS Va.MS)(d a b c n kx xx:Nat)(w:World)(P:RC w k kk ca cap ta tcap T q s)(ld:d < 16)(la:a < 16)(lb:b < 16)(lc:c < 16)(ln:n < 65536) :
  Calls Tryz.prog 24 #[.pointer (some ⟨k.h,0,none⟩),.agg (yJ 11 d a b c n kx xx)] w fun e w'=>zAr w k kk (.slice ca T.len cap) (.slice ta T.tl tcap) q s e w' (zU T q.ran ⟨11,d,a,b,c,n,kx,xx⟩ s q.done):=by
 have H:=P.H
 have d0:=P.dn
 have hdj2:∀ x∈kk.y :: kk.all,x∉k.own:=fun x hx hy=>P.dj x hy hx
 have n0:0≤q.done+(n:Int):=aO
 have n1:q.done+(n:Int)≤9223372036854775807:=aO
 cases hu:s.R a with
 | none=>
  have g1:=H.nn hu
  rw[show zU T q.ran ⟨11,d,a,b,c,n,kx,xx⟩ s q.done=.stuck by simp[zU,yZ,HS.get,HS.set,hu]]
  by_cases hz:q.reg a=0
  ·refine(zFj k _ _ _ q d n b c a kx xx w P.qw n0 n1 la hz).mono ?_
   rintro r w' ⟨rfl,hq',hc'⟩
   exact⟨⟨⟨0,0,0,0,0,0⟩,_,rfl,hq',zq39,H.c⟩,P.m.keep (zQ hc') hdj2,hc'.mono (fun x hx=>List.mem_append_left _ hx)⟩
  ·refine(zFk k _ _ _ q d n b c a kx xx w P.qw n0 n1 la zq71).mono ?_
   rintro r w' ⟨rfl,hq',hc'⟩
   exact⟨⟨⟨1,0,0,kx,q.done+n,0⟩,_,rfl,hq',zq39,H.c⟩,P.m.keep (zQ hc') hdj2,hc'.mono (fun x hx=>List.mem_append_left _ hx)⟩
 | some u=>
  obtain⟨g1,g2⟩:=H.sm hu
  have ub:u < 4294967296:=by rw[← g2];exact H.rb a
  by_cases hz:u=0
  ·rw[show zU T q.ran ⟨11,d,a,b,c,n,kx,xx⟩ s q.done=.go s q.done none by simp[zU,yZ,HS.get,hu,hz]]
   refine(zFj k _ _ _ q d n b c a kx xx w P.qw n0 n1 la (g2.trans hz)).mono ?_
   rintro r w' ⟨rfl,hq',hc'⟩
   exact⟨rfl,⟨k,_,rfl,yS,hq',(by rw[show(q.stuck || !(q.has a))=q.stuck from(by rw[g1];simp)];exact H),rfl,rfl,rfl,rfl⟩,P.m.keep (zQ hc') hdj2,hc'.mono (fun x hx=>List.mem_append_left _ hx)⟩
  ·rw[show zU T q.ran ⟨11,d,a,b,c,n,kx,xx⟩ s q.done=.out ⟨1,0,0,kx,q.done+n,0⟩ s by simp[zU,yZ,HS.get,hu,hz,km]]
   refine(zFk k _ _ _ q d n b c a kx xx w P.qw n0 n1 la (by rw[g2];simpa using hz)).mono ?_
   rintro r w' ⟨rfl,hq',hc'⟩
   exact⟨rfl,⟨_,hq',zq53,H.c⟩,P.m.keep (zQ hc') hdj2,hc'.mono (fun x hx=>List.mem_append_left _ hx)⟩
theorem zND(k:QB)(kk:Va.RB)(ca:Option Addr)(cap:Nat)(ta:Option Addr)(tcap:Nat)(T:PT)(q:HQ)(s:HS Va.MS)(d a b c n kx xx:Nat)(w:World)(P:RC w k kk ca cap ta tcap T q s)(ld:d < 16)(la:a < 16)(lb:b < 16)(lc:c < 16)(ln:n < 65536) :
  Calls Tryz.prog 24 #[.pointer (some ⟨k.h,0,none⟩),.agg (yJ 13 d a b c n kx xx)] w fun e w'=>zAr w k kk (.slice ca T.len cap) (.slice ta T.tl tcap) q s e w' (zU T q.ran ⟨13,d,a,b,c,n,kx,xx⟩ s q.done):=by
 have H:=P.H
 have d0:=P.dn
 have hdj2:∀ x∈kk.y :: kk.all,x∉k.own:=fun x hx hy=>P.dj x hy hx
 have n0:0≤q.done+(n:Int):=aO
 have n1:q.done+(n:Int)≤9223372036854775807:=aO
 cases hu:s.R a with
 | none=>
  have g1:=H.nn hu
  rw[show zU T q.ran ⟨13,d,a,b,c,n,kx,xx⟩ s q.done=.stuck by simp[zU,yZ,HS.get,HS.set,hu]]
  by_cases hz:q.reg a=0
  ·refine(zD6 k _ _ _ q d n b c a kx xx w P.qw n0 n1 la hz).mono ?_
   rintro r w' ⟨rfl,hq',hc'⟩
   exact⟨⟨⟨0,0,0,0,0,0⟩,_,rfl,hq',zq39,H.c⟩,P.m.keep (zQ hc') hdj2,hc'.mono (fun x hx=>List.mem_append_left _ hx)⟩
  ·refine(zD7 k _ _ _ q d n b c a kx xx w P.qw n0 n1 la zq71).mono ?_
   rintro r w' ⟨rfl,hq',hc'⟩
   exact⟨⟨⟨3,d,xx,kx,q.done+n,0⟩,_,rfl,hq',zq39,H.c⟩,P.m.keep (zQ hc') hdj2,hc'.mono (fun x hx=>List.mem_append_left _ hx)⟩
 | some u=>
  obtain⟨g1,g2⟩:=H.sm hu
  have ub:u < 4294967296:=by rw[← g2];exact H.rb a
  by_cases hz:u=0
  ·rw[show zU T q.ran ⟨13,d,a,b,c,n,kx,xx⟩ s q.done=.go s q.done none by simp[zU,yZ,HS.get,hu,hz]]
   refine(zD6 k _ _ _ q d n b c a kx xx w P.qw n0 n1 la (g2.trans hz)).mono ?_
   rintro r w' ⟨rfl,hq',hc'⟩
   exact⟨rfl,⟨k,_,rfl,yS,hq',(by rw[show(q.stuck || !(q.has a))=q.stuck from(by rw[g1];simp)];exact H),rfl,rfl,rfl,rfl⟩,P.m.keep (zQ hc') hdj2,hc'.mono (fun x hx=>List.mem_append_left _ hx)⟩
  ·rw[show zU T q.ran ⟨13,d,a,b,c,n,kx,xx⟩ s q.done=.out ⟨3,d,xx,kx,q.done+n,0⟩ s by simp[zU,yZ,HS.get,hu,hz,km]]
   refine(zD7 k _ _ _ q d n b c a kx xx w P.qw n0 n1 la (by rw[g2];simpa using hz)).mono ?_
   rintro r w' ⟨rfl,hq',hc'⟩
   exact⟨rfl,⟨_,hq',zq53,H.c⟩,P.m.keep (zQ hc') hdj2,hc'.mono (fun x hx=>List.mem_append_left _ hx)⟩
theorem zJ0(k:QB)(kk:Va.RB)(ca:Option Addr)(cap:Nat)(ta:Option Addr)(tcap:Nat)(T:PT)(q:HQ)(s:HS Va.MS)(d a b c n kx xx:Nat)(w:World)(P:RC w k kk ca cap ta tcap T q s)(ld:d < 16)(la:a < 16)(lb:b < 16)(lc:c < 16)(ln:n < 65536) :
  Calls Tryz.prog 24 #[.pointer (some ⟨k.h,0,none⟩),.agg (yJ 1 d a b c n kx xx)] w fun e w'=>zAr w k kk (.slice ca T.len cap) (.slice ta T.tl tcap) q s e w' (zU T q.ran ⟨1,d,a,b,c,n,kx,xx⟩ s q.done):=by
 have H:=P.H
 have d0:=P.dn
 have hdj2:∀ x∈kk.y :: kk.all,x∉k.own:=fun x hx hy=>P.dj x hy hx
 have n0:0≤q.done+(n:Int):=aO
 have n1:q.done+(n:Int)≤9223372036854775807:=aO
 have hl:=P.ld
 have hlw:IntKind.i64.wrap (q.left - q.done)=q.left - q.done:=IntWalk.i64_in _ (by rw[P.lf];omega)
 cases et:Va.zA2 s.m with
 | true=>
  rw[show zU T q.ran ⟨1,d,a,b,c,n,kx,xx⟩ s q.done=.out ⟨1,0,0,kx,q.done,0⟩ s by simp[zU,uV,et]]
  refine(zFI k _ _ _ q d a b c n kx xx w P.qw n0 n1 (fun W hW=>by have h1:=Va.vO kk s.m W (P.m.keep (zQ hW) (fun _ _=>by simp));rw[et] at h1;exact h1)).mono ?_
  rintro r w' ⟨rfl,hq',hc'⟩
  exact⟨rfl,⟨_,hq',H.st,H.c⟩,P.m.keep (zQ hc') hdj2,hc'.mono (fun x hx=>List.mem_append_left _ hx)⟩
 | false=>
  by_cases h1:T.left - q.done < (n:Int)
  ·rw[show zU T q.ran ⟨1,d,a,b,c,n,kx,xx⟩ s q.done=.out ⟨4,0,0,kx,q.done,0⟩ s by simp[zU,uV,et,h1]]
   refine(zFJ k _ _ _ q d a b c n kx xx w P.qw n0 n1 (fun W hW=>by have h1:=Va.vO kk s.m W (P.m.keep (zQ hW) (fun _ _=>by simp));rw[et] at h1;exact h1) hlw (by rw[P.lf];exact h1)).mono ?_
   rintro r w' ⟨rfl,hq',hc'⟩
   exact⟨rfl,⟨_,hq',H.st,H.c⟩,P.m.keep (zQ hc') hdj2,hc'.mono (fun x hx=>List.mem_append_left _ hx)⟩
  ·by_cases h2:1048576≤q.ran
   ·rw[show zU T q.ran ⟨1,d,a,b,c,n,kx,xx⟩ s q.done=.out ⟨6,0,0,kx,q.done,0⟩ s by simp[zU,uV,et,h1,h2]]
    refine(zFK k _ _ _ q d a b c n kx xx w P.qw n0 n1 (fun W hW=>by have h1:=Va.vO kk s.m W (P.m.keep (zQ hW) (fun _ _=>by simp));rw[et] at h1;exact h1) hlw (by rw[P.lf];omega) h2).mono ?_
    rintro r w' ⟨rfl,hq',hc'⟩
    exact⟨rfl,⟨_,hq',H.st,H.c⟩,P.m.keep (zQ hc') hdj2,hc'.mono (fun x hx=>List.mem_append_left _ hx)⟩
   ·rw[show zU T q.ran ⟨1,d,a,b,c,n,kx,xx⟩ s q.done=.go { s with R:=fun _=>none,Sp:=fun _=>none } q.done none by simp[zU,uV,et,h1,h2]]
    refine(zGy k _ _ _ q d a b c n kx xx w P.qw n0 n1 (fun W hW=>by have h1:=Va.vO kk s.m W (P.m.keep (zQ hW) (fun _ _=>by simp));rw[et] at h1;exact h1) (by rw[P.lf];omega) (by rw[P.lf];omega) (by rw[P.lf];omega) aO).mono ?_
    rintro r w' ⟨rfl,⟨k',hk',ho,hq'⟩,hc'⟩
    have hco:zI k.own w w':=hc'.mono zq56
    refine⟨rfl,⟨k',_,hk',fun x hx=>?_,hq',⟨fun _=>rfl,fun _=>rfl,H.c,H.st,fun _=>zq70,fun _=>zq70,H.cb,H.mo⟩,rfl,rfl,rfl,rfl⟩,P.m.keep (zQ hco) hdj2,hco.mono (fun x hx=>List.mem_append_left _ hx)⟩
    rcases ho x hx with e|e
    ·exact .inl (by rw[e];exact zAQ k)
    ·exact .inr e
theorem zJZ(k:QB)(kk:Va.RB)(ca:Option Addr)(cap:Nat)(ta:Option Addr)(tcap:Nat)(T:PT)(q:HQ)(s:HS Va.MS)(d a b c n kx xx:Nat)(w:World)(P:RC w k kk ca cap ta tcap T q s)(ld:d < 16)(la:a < 16)(lb:b < 16)(lc:c < 16)(ln:n < 65536)(hkx:kx < 4294967296) :
  Calls Tryz.prog 24 #[.pointer (some ⟨k.h,0,none⟩),.agg (yJ 15 d a b c n kx xx)] w fun e w'=>zAr w k kk (.slice ca T.len cap) (.slice ta T.tl tcap) q s e w' (zU T q.ran ⟨15,d,a,b,c,n,kx,xx⟩ s q.done):=by
 have H:=P.H
 have d0:=P.dn
 have hdj2:∀ x∈kk.y :: kk.all,x∉k.own:=fun x hx hy=>P.dj x hy hx
 have n0:0≤q.done+(n:Int):=aO
 have n1:q.done+(n:Int)≤9223372036854775807:=aO
 cases hE:isE T.ws T.len (kx:Int) with
 | true=>
  rw[show zU T q.ran ⟨15,d,a,b,c,n,kx,xx⟩ s q.done=.go s (q.done+n) (some kx) by simp[zU,hE]]
  refine(zFH k ca T.len cap _ _ q d n b c a kx xx w P.qw n0 n1 T.ws (fun W hW=>vZ P.wd hW P.cn) hkx hE).mono ?_
  rintro r w' ⟨rfl,hq',hc'⟩
  exact⟨rfl,⟨k,_,rfl,yS,hq',⟨H.r,H.sp,H.c,H.st,H.rb,H.sb,H.cb,H.mo⟩,rfl,rfl,rfl,rfl⟩,P.m.keep (zQ hc') hdj2,hc'.mono (fun x hx=>List.mem_append_left _ hx)⟩
 | false=>
  rw[show zU T q.ran ⟨15,d,a,b,c,n,kx,xx⟩ s q.done=.stuck by simp[zU,hE]]
  refine(zFG k ca T.len cap _ _ q d n b c a kx xx w P.qw n0 n1 T.ws (fun W hW=>vZ P.wd hW P.cn) hkx hE).mono ?_
  rintro r w' ⟨rfl,hq',hc'⟩
  exact⟨⟨⟨0,0,0,0,0,0⟩,_,rfl,hq',rfl,H.c⟩,P.m.keep (zQ hc') hdj2,hc'.mono (fun x hx=>List.mem_append_left _ hx)⟩
theorem zLz(k:QB)(kk:Va.RB)(ca:Option Addr)(cap:Nat)(ta:Option Addr)(tcap:Nat)(T:PT)(q:HQ)(s:HS Va.MS)(d a b c n kx xx:Nat)(w:World)(P:RC w k kk ca cap ta tcap T q s)(ld:d < 16)(la:a < 16)(lb:b < 16)(lc:c < 16)(ln:n < 65536)(hkx:kx < 4294967296) :
  Calls Tryz.prog 24 #[.pointer (some ⟨k.h,0,none⟩),.agg (yJ 96 d a b c n kx xx)] w fun e w'=>zAr w k kk (.slice ca T.len cap) (.slice ta T.tl tcap) q s e w' (zU T q.ran ⟨96,d,a,b,c,n,kx,xx⟩ s q.done):=by
 have H:=P.H
 have d0:=P.dn
 have hdj2:∀ x∈kk.y :: kk.all,x∉k.own:=fun x hx hy=>P.dj x hy hx
 have n0:0≤q.done+(n:Int):=aO
 have n1:q.done+(n:Int)≤9223372036854775807:=aO
 cases hu:s.R a with
 | none=>
  have g1:=H.nn hu
  rw[show zU T q.ran ⟨96,d,a,b,c,n,kx,xx⟩ s q.done=.stuck by simp[zU,hu]]
  by_cases hz:q.reg a=0
  ·refine(zDt k _ _ _ q d n b c a kx xx w P.qw n0 n1 la hz).mono ?_
   rintro r w' ⟨rfl,hq',hc'⟩
   exact⟨⟨⟨0,0,0,0,0,0⟩,_,rfl,hq',zq39,H.c⟩,P.m.keep (zQ hc') hdj2,hc'.mono (fun x hx=>List.mem_append_left _ hx)⟩
  ·cases hE:isE T.ws T.len (kx:Int) with
   | true=>
    refine(zDu k ca T.len cap _ _ q d n b c a kx xx w P.qw n0 n1 la zq71 T.ws (fun W hW=>vZ P.wd hW P.cn) hkx hE).mono ?_
    rintro r w' ⟨rfl,hq',hc'⟩
    exact⟨⟨⟨0,0,0,0,0,0⟩,_,rfl,hq',zq39,H.c⟩,P.m.keep (zQ hc') hdj2,hc'.mono (fun x hx=>List.mem_append_left _ hx)⟩
   | false=>
    refine(zDv k ca T.len cap _ _ q d n b c a kx xx w P.qw n0 n1 la zq71 T.ws (fun W hW=>vZ P.wd hW P.cn) hkx hE).mono ?_
    rintro r w' ⟨rfl,hq',hc'⟩
    exact⟨⟨⟨0,0,0,0,0,0⟩,_,rfl,hq',rfl,H.c⟩,P.m.keep (zQ hc') hdj2,hc'.mono (fun x hx=>List.mem_append_left _ hx)⟩
 | some u=>
  obtain⟨g1,g2⟩:=H.sm hu
  have ub:u < 4294967296:=by rw[← g2];exact H.rb a
  by_cases hz:u=0
  ·rw[show zU T q.ran ⟨96,d,a,b,c,n,kx,xx⟩ s q.done=.go s q.done none by simp[zU,hu,hz]]
   refine(zDt k _ _ _ q d n b c a kx xx w P.qw n0 n1 la (g2.trans hz)).mono ?_
   rintro r w' ⟨rfl,hq',hc'⟩
   exact⟨rfl,⟨k,_,rfl,yS,hq',(by rw[show(q.stuck || !(q.has a))=q.stuck from(by rw[g1];simp)];exact H),rfl,rfl,rfl,rfl⟩,P.m.keep (zQ hc') hdj2,hc'.mono (fun x hx=>List.mem_append_left _ hx)⟩
  ·cases hE:isE T.ws T.len (kx:Int) with
   | true=>
    rw[show zU T q.ran ⟨96,d,a,b,c,n,kx,xx⟩ s q.done=.go s (q.done+n) (some kx) by simp[zU,hu,hz,hE]]
    refine(zDu k ca T.len cap _ _ q d n b c a kx xx w P.qw n0 n1 la (by rw[g2];simpa using hz) T.ws (fun W hW=>vZ P.wd hW P.cn) hkx hE).mono ?_
    rintro r w' ⟨rfl,hq',hc'⟩
    exact⟨rfl,⟨k,_,rfl,yS,hq',⟨H.r,H.sp,H.c,zq53,H.rb,H.sb,H.cb,H.mo⟩,rfl,rfl,rfl,rfl⟩,P.m.keep (zQ hc') hdj2,hc'.mono (fun x hx=>List.mem_append_left _ hx)⟩
   | false=>
    rw[show zU T q.ran ⟨96,d,a,b,c,n,kx,xx⟩ s q.done=.stuck by simp[zU,hu,hz,hE]]
    refine(zDv k ca T.len cap _ _ q d n b c a kx xx w P.qw n0 n1 la (by rw[g2];simpa using hz) T.ws (fun W hW=>vZ P.wd hW P.cn) hkx hE).mono ?_
    rintro r w' ⟨rfl,hq',hc'⟩
    exact⟨⟨⟨0,0,0,0,0,0⟩,_,rfl,hq',rfl,H.c⟩,P.m.keep (zQ hc') hdj2,hc'.mono (fun x hx=>List.mem_append_left _ hx)⟩
theorem zLU(k:QB)(kk:Va.RB)(ca:Option Addr)(cap:Nat)(ta:Option Addr)(tcap:Nat)(T:PT)(q:HQ)(s:HS Va.MS)(d a b c n kx xx:Nat)(w:World)(P:RC w k kk ca cap ta tcap T q s)(ld:d < 16)(la:a < 16)(lb:b < 16)(lc:c < 16)(ln:n < 65536)(hws:∀ i,T.ws i < 4294967296) :
  Calls Tryz.prog 24 #[.pointer (some ⟨k.h,0,none⟩),.agg (yJ 4 d a b c n kx xx)] w fun e w'=>(if 0 < T.tl∧T.tp (q.reg a%T.tl)=q.reg a∧isE T.ws T.len (T.ta (q.reg a%T.tl))=true then e=.returned (.agg (yE ⟨0,0,0,0,0,0⟩))∧QW w' k (.slice ca T.len cap) (.slice ta T.tl tcap) (.pointer (some ⟨kk.y,0,none⟩)) { q with stuck:=q.stuck || !(q.has a),done:=q.done+n,at_:=T.ta (q.reg a%T.tl) } else e=.returned (.agg (yE ⟨2,0,0,q.reg a,q.done+n,0⟩))∧QW w' k (.slice ca T.len cap) (.slice ta T.tl tcap) (.pointer (some ⟨kk.y,0,none⟩)) { q with stuck:=q.stuck || !(q.has a) })∧zI k.own w w':=by
 have H:=P.H
 have d0:=P.dn
 have hdj2:∀ x∈kk.y :: kk.all,x∉k.own:=fun x hx hy=>P.dj x hy hx
 have n0:0≤q.done+(n:Int):=aO
 have n1:q.done+(n:Int)≤9223372036854775807:=aO
 have h0:T.tl=0→Calls Tryz.prog 24 #[.pointer (some ⟨k.h,0,none⟩),.agg (yJ 4 d a b c n kx xx)] w fun e w'=>(e=.returned (.agg (yE ⟨2,0,0,q.reg a,q.done+n,0⟩))∧QW w' k (.slice ca T.len cap) (.slice ta T.tl tcap) (.pointer (some ⟨kk.y,0,none⟩)) { q with stuck:=q.stuck || !(q.has a) })∧zI k.own w w':=fun ht=>by
  have hq:=P.qw
  rw[ht] at hq ⊢
  refine(zEw k ca T.len cap ta tcap _ q d n b c a kx xx w hq n0 n1 la).mono ?_
  rintro r w' ⟨rfl,hq',hc'⟩
  exact⟨⟨rfl,hq'⟩,hc'⟩
 by_cases ht:0 < T.tl
 ·rcases P.tr with h1|⟨tq,toff,hta,hT,ht2⟩
  ·omega
  ·subst hta
   have hTT:∀ W,zI k.own w W→TR W tq toff T.tl T.tp T.ta:=fun W hW=>hT.chg hW (P.tn ht tq toff rfl)
   by_cases h1:T.tp (q.reg a%T.tl)=q.reg a
   ·by_cases h2:0≤T.ta (q.reg a%T.tl)
    ·by_cases hE:isE T.ws T.len (T.ta (q.reg a%T.tl))=true
     ·refine(zFM k ca T.len cap tq toff T.tl tcap _ q d n b c a kx xx w P.qw n0 n1 la (H.rb a) _ T.tp T.ta hTT ht ht2 rfl T.ws (fun W hW=>vZ P.wd hW P.cn) h1 h2 hE).mono ?_
      rintro r w' ⟨rfl,hq',hc'⟩
      exact⟨by rw[if_pos ⟨ht,h1,hE⟩];exact⟨rfl,hq'⟩,hc'⟩
     ·refine(zGA k ca T.len cap tq toff T.tl tcap _ q d n b c a kx xx w P.qw n0 n1 la (H.rb a) _ T.tp T.ta hTT ht ht2 rfl T.ws (fun W hW=>vZ P.wd hW P.cn) h1 h2 (by simpa using hE)).mono ?_
      rintro r w' ⟨rfl,hq',hc'⟩
      exact⟨by rw[if_neg (fun e=>hE e.2.2)];exact⟨rfl,hq'⟩,hc'⟩
    ·refine(zFN k ca T.len cap tq toff T.tl tcap _ q d n b c a kx xx w P.qw n0 n1 la (H.rb a) _ T.tp T.ta hTT ht ht2 rfl T.ws (fun W hW=>vZ P.wd hW P.cn) h1 aO).mono ?_
     rintro r w' ⟨rfl,hq',hc'⟩
     exact⟨by rw[if_neg (fun e=>by have:=e.2.2;rw[zK8 hws aO] at this;cases this)];exact⟨rfl,hq'⟩,hc'⟩
   ·refine(zFL k ca T.len cap tq toff T.tl tcap _ q d n b c a kx xx w P.qw n0 n1 la (H.rb a) _ T.tp T.ta hTT ht ht2 rfl T.ws (fun W hW=>vZ P.wd hW P.cn) h1).mono ?_
    rintro r w' ⟨rfl,hq',hc'⟩
    exact⟨by rw[if_neg (fun e=>h1 e.2.1)];exact⟨rfl,hq'⟩,hc'⟩
 ·refine(h0 aO).mono ?_
  rintro r w' ⟨hx,hc'⟩
  exact⟨by rw[if_neg (fun e=>ht e.1)];exact hx,hc'⟩
theorem zH6(k:QB)(kk:Va.RB)(ca:Option Addr)(cap:Nat)(ta:Option Addr)(tcap:Nat)(T:PT)(q:HQ)(s:HS Va.MS)(d a b c n kx xx:Nat)(w:World)(P:RC w k kk ca cap ta tcap T q s)(ld:d < 16)(la:a < 16)(lb:b < 16)(lc:c < 16)(ln:n < 65536)(hws:∀ i,T.ws i < 4294967296) :
  Calls Tryz.prog 24 #[.pointer (some ⟨k.h,0,none⟩),.agg (yJ 4 d a b c n kx xx)] w fun e w'=>zAr w k kk (.slice ca T.len cap) (.slice ta T.tl tcap) q s e w' (zU T q.ran ⟨4,d,a,b,c,n,kx,xx⟩ s q.done):=by
 have H:=P.H
 have d0:=P.dn
 have hdj2:∀ x∈kk.y :: kk.all,x∉k.own:=fun x hx hy=>P.dj x hy hx
 have n0:0≤q.done+(n:Int):=aO
 have n1:q.done+(n:Int)≤9223372036854775807:=aO
 cases hu:s.R a with
 | none=>
  have g1:=H.nn hu
  rw[show zU T q.ran ⟨4,d,a,b,c,n,kx,xx⟩ s q.done=.stuck by simp[zU,hu]]
  refine(zLU k kk ca cap ta tcap T q s d a b c n kx xx w P ld la lb lc ln hws).mono ?_
  rintro r w' ⟨hx,hc'⟩
  split at hx
  ·exact⟨⟨⟨0,0,0,0,0,0⟩,_,hx.1,hx.2,zq39,H.c⟩,P.m.keep (zQ hc') hdj2,hc'.mono (fun x hx=>List.mem_append_left _ hx)⟩
  ·exact⟨⟨⟨2,0,0,q.reg a,q.done+n,0⟩,_,hx.1,hx.2,zq39,H.c⟩,P.m.keep (zQ hc') hdj2,hc'.mono (fun x hx=>List.mem_append_left _ hx)⟩
 | some u=>
  obtain⟨g1,g2⟩:=H.sm hu
  have ub:u < 4294967296:=by rw[← g2];exact H.rb a
  refine(zLU k kk ca cap ta tcap T q s d a b c n kx xx w P ld la lb lc ln hws).mono ?_
  rintro r w' ⟨hx,hc'⟩
  rw[g2] at hx
  by_cases hz:0 < T.tl∧T.tp (u%T.tl)=u∧isE T.ws T.len (T.ta (u%T.tl))=true
  ·rw[if_pos hz] at hx
   rw[show zU T q.ran ⟨4,d,a,b,c,n,kx,xx⟩ s q.done=.go s (q.done+n) (some (T.ta (u%T.tl))) by simp[zU,hu];exact hz]
   exact⟨hx.1,⟨k,_,rfl,yS,hx.2,⟨H.r,H.sp,H.c,zq53,H.rb,H.sb,H.cb,H.mo⟩,rfl,rfl,rfl,rfl⟩,P.m.keep (zQ hc') hdj2,hc'.mono (fun x hx=>List.mem_append_left _ hx)⟩
  ·rw[if_neg hz] at hx
   rw[show zU T q.ran ⟨4,d,a,b,c,n,kx,xx⟩ s q.done=.out ⟨2,0,0,u,q.done+n,0⟩ s by simp[zU,hu];exact fun x y=>by cases e:isE T.ws T.len (T.ta (u%T.tl)) with|false=>rfl|true=>exact absurd ⟨x,y,e⟩ hz]
   exact⟨hx.1,⟨_,hx.2,zq53,H.c⟩,P.m.keep (zQ hc') hdj2,hc'.mono (fun x hx=>List.mem_append_left _ hx)⟩
theorem uR{T:PT}{ran dn:Int}{x:Cd}{s:HS Va.MS}(h1:x.op≠1)(h2:x.op≠15)(h3:x.op≠96)(h4:x.op≠4)(h5:x.op≠3):zU T ran x s dn=(match yZ uV x s with|.go s'=>.go s' dn none|.out e s'=>.out ⟨km e.kind,e.sk,e.arg,e.pc,dn+e.n,0⟩ s'|.stuck=>.stuck):=by
  unfold zU
  rw[if_neg h1,if_neg h2,if_neg h3,if_neg h4,if_neg h5]
  cases yZ uV x s<;>rfl
theorem zKS{Mem:Type}(S:Sm Mem)(x:Cd)(h:HS Mem)(l:5≤x.op)(u:x.op≤5):yZ S x h=(match h.get x.a,h.get x.b,h.get x.c with|some a,some b,some c=>.go (h.set x.d (S.val 6 0 a b c))|_,_,_=>.stuck):=by
  unfold yZ;(repeat(first|rw[if_pos aO]|rw[if_neg aO]));(cases h.get x.a<;>cases h.get x.b<;>cases h.get x.c<;>cases h.get x.d<;>rfl)
theorem zNC(k:QB)(kk:Va.RB)(ca:Option Addr)(cap:Nat)(ta:Option Addr)(tcap:Nat)(T:PT)(q:HQ)(s:HS Va.MS)(d a b c n kx xx:Nat)(w:World)(P:RC w k kk ca cap ta tcap T q s)(ld:d < 16)(la:a < 16)(lb:b < 16)(lc:c < 16)(ln:n < 65536) :
    Calls Tryz.prog 24 #[.pointer (some ⟨k.h,0,none⟩),.agg (yJ 5 d a b c n kx xx)] w fun e w'=>zAr w k kk (.slice ca T.len cap) (.slice ta T.tl tcap) q s e w' (zU T q.ran ⟨5,d,a,b,c,n,kx,xx⟩ s q.done):=by
  have H:=P.H
  have d0:=P.dn
  have hdj2:∀ x∈kk.y :: kk.all,x∉k.own:=fun x hx hy=>P.dj x hy hx
  have n0:0≤q.done+(n:Int):=aO
  have n1:q.done+(n:Int)≤9223372036854775807:=aO
  have e0:=zKS uV ⟨5,d,a,b,c,n,kx,xx⟩ s (by show(5:Int)≤5;omega) (by show(5:Int)≤5;omega)
  have lo0:(Va.rr 6).lo=0:=by decide
  have hi0:(Va.rr 6).hi=0:=by decide
  have V:=fun W=>zEW 6 0 (q.reg a) (q.reg b) (q.reg c) W (H.rb a) (H.rb b) (H.rb c) aO (by rw[lo0];omega) (by rw[hi0];omega)
  refine(uE k _ _ _ q _ 5 d a b c n kx xx w P.qw (zAK _ aO aO) n0 n1 (fun W hW=>zMQ k _ _ _ q d a b c n kx xx (uV.val 6 0 (q.reg a) (q.reg b) (q.reg c)) W hW ld la lb lc (fun W2=>(V W2).1))).mono ?_
  rintro r w' ⟨rfl,hq',hc'⟩
  cases hua:s.R a with
  | none=>
    have ga:=H.nn hua
    have e:zU T q.ran ⟨5,d,a,b,c,n,kx,xx⟩ s q.done=.stuck:=by rw[uR (by show(5:Int)≠1;omega) (by show(5:Int)≠15;omega) (by show(5:Int)≠96;omega) (by show(5:Int)≠4;omega) (by show(5:Int)≠3;omega),e0];simp only[HS.get,Int.toNat_natCast,hua]
    rw[e]
    exact⟨⟨⟨0,0,0,0,0,0⟩,_,rfl,hq',by simp[ga],H.c⟩,P.m.keep (zQ hc') hdj2,hc'.mono (fun x hx=>List.mem_append_left _ hx)⟩
  | some ua=>
    have ga:=H.sm hua
    cases hub:s.R b with
    | none=>
      have gb:=H.nn hub
      have e:zU T q.ran ⟨5,d,a,b,c,n,kx,xx⟩ s q.done=.stuck:=by rw[uR (by show(5:Int)≠1;omega) (by show(5:Int)≠15;omega) (by show(5:Int)≠96;omega) (by show(5:Int)≠4;omega) (by show(5:Int)≠3;omega),e0];simp only[HS.get,Int.toNat_natCast,hua,hub]
      rw[e]
      exact⟨⟨⟨0,0,0,0,0,0⟩,_,rfl,hq',by simp[gb],H.c⟩,P.m.keep (zQ hc') hdj2,hc'.mono (fun x hx=>List.mem_append_left _ hx)⟩
    | some ub=>
      have gb:=H.sm hub
      cases huc:s.R c with
      | none=>
        have gc:=H.nn huc
        have e:zU T q.ran ⟨5,d,a,b,c,n,kx,xx⟩ s q.done=.stuck:=by rw[uR (by show(5:Int)≠1;omega) (by show(5:Int)≠15;omega) (by show(5:Int)≠96;omega) (by show(5:Int)≠4;omega) (by show(5:Int)≠3;omega),e0];simp only[HS.get,Int.toNat_natCast,hua,hub,huc]
        rw[e]
        exact⟨⟨⟨0,0,0,0,0,0⟩,_,rfl,hq',by simp[gc],H.c⟩,P.m.keep (zQ hc') hdj2,hc'.mono (fun x hx=>List.mem_append_left _ hx)⟩
      | some uc=>
        have gc:=H.sm huc
        have e:zU T q.ran ⟨5,d,a,b,c,n,kx,xx⟩ s q.done=.go (s.set d (uV.val 6 0 ua ub uc)) q.done none:=by rw[uR (by show(5:Int)≠1;omega) (by show(5:Int)≠15;omega) (by show(5:Int)≠96;omega) (by show(5:Int)≠4;omega) (by show(5:Int)≠3;omega),e0];simp[HS.get,hua,hub,huc]
        rw[e]
        have es:(((q.stuck || !(q.has a)) || !(q.has b)) || !(q.has c))=q.stuck:=by simp[ga.1,gb.1,gc.1]
        rw[es,ga.2,gb.2,gc.2] at hq'
        have vb:=(V w).2
        rw[ga.2,gb.2,gc.2] at vb
        exact⟨rfl,⟨k,_,rfl,yS,hq',H.put d _ vb,rfl,rfl,rfl,rfl⟩,P.m.keep (zQ hc') hdj2,hc'.mono (fun x hx=>List.mem_append_left _ hx)⟩
theorem zKR{Mem:Type}(S:Sm Mem)(x:Cd)(h:HS Mem)(l:16≤x.op)(u:x.op≤31):yZ S x h=(match h.get x.a,h.get x.b with|some a,some b=>.go (h.set x.d (S.val 4 (x.op - 16) a b 0))|_,_=>.stuck):=by
  unfold yZ;(repeat(first|rw[if_pos aO]|rw[if_neg aO]));(cases h.get x.a<;>cases h.get x.b<;>cases h.get x.c<;>cases h.get x.d<;>rfl)
theorem zNx(k:QB)(kk:Va.RB)(ca:Option Addr)(cap:Nat)(ta:Option Addr)(tcap:Nat)(T:PT)(q:HQ)(s:HS Va.MS)(op d a b c n kx xx:Nat)(w:World)(P:RC w k kk ca cap ta tcap T q s)(ld:d < 16)(la:a < 16)(lb:b < 16)(lc:c < 16)(ln:n < 65536)(ho1:16≤op)(ho2:op≤31) :
    Calls Tryz.prog 24 #[.pointer (some ⟨k.h,0,none⟩),.agg (yJ op d a b c n kx xx)] w fun e w'=>zAr w k kk (.slice ca T.len cap) (.slice ta T.tl tcap) q s e w' (zU T q.ran ⟨op,d,a,b,c,n,kx,xx⟩ s q.done):=by
  have H:=P.H
  have d0:=P.dn
  have hdj2:∀ x∈kk.y :: kk.all,x∉k.own:=fun x hx hy=>P.dj x hy hx
  have n0:0≤q.done+(n:Int):=aO
  have n1:q.done+(n:Int)≤9223372036854775807:=aO
  have e0:=zKR uV ⟨op,d,a,b,c,n,kx,xx⟩ s (by show(16:Int)≤(op:Int);omega) (by show(op:Int)≤31;omega)
  have lo0:(Va.rr 4).lo=0:=by decide
  have hi0:(Va.rr 4).hi=15:=by decide
  have V:=fun W=>zEW 4 ((op:Int) - 16) (q.reg a) (q.reg b) 0 W (H.rb a) (H.rb b) aD aO (by rw[lo0];omega) (by rw[hi0];omega)
  refine(uE k _ _ _ q _ op d a b c n kx xx w P.qw (zAK _ aO aO) n0 n1 (fun W hW=>zMM k _ _ _ q (op:Int) ((op:Int) - 16) aO aO rfl d a b c n kx xx (uV.val 4 ((op:Int) - 16) (q.reg a) (q.reg b) 0) W hW ld la lb (fun W2=>(V W2).1))).mono ?_
  rintro r w' ⟨rfl,hq',hc'⟩
  cases hua:s.R a with
  | none=>
    have ga:=H.nn hua
    have e:zU T q.ran ⟨op,d,a,b,c,n,kx,xx⟩ s q.done=.stuck:=by rw[uR zq24 zq22 zq23 zq25 zq26,e0];simp only[HS.get,Int.toNat_natCast,hua]
    rw[e]
    exact⟨⟨⟨0,0,0,0,0,0⟩,_,rfl,hq',by simp[ga],H.c⟩,P.m.keep (zQ hc') hdj2,hc'.mono (fun x hx=>List.mem_append_left _ hx)⟩
  | some ua=>
    have ga:=H.sm hua
    cases hub:s.R b with
    | none=>
      have gb:=H.nn hub
      have e:zU T q.ran ⟨op,d,a,b,c,n,kx,xx⟩ s q.done=.stuck:=by rw[uR zq24 zq22 zq23 zq25 zq26,e0];simp only[HS.get,Int.toNat_natCast,hua,hub]
      rw[e]
      exact⟨⟨⟨0,0,0,0,0,0⟩,_,rfl,hq',by simp[gb],H.c⟩,P.m.keep (zQ hc') hdj2,hc'.mono (fun x hx=>List.mem_append_left _ hx)⟩
    | some ub=>
      have gb:=H.sm hub
      have e:zU T q.ran ⟨op,d,a,b,c,n,kx,xx⟩ s q.done=.go (s.set d (uV.val 4 ((op:Int) - 16) ua ub 0)) q.done none:=by rw[uR zq24 zq22 zq23 zq25 zq26,e0];simp[HS.get,hua,hub]
      rw[e]
      have es:((q.stuck || !(q.has a)) || !(q.has b))=q.stuck:=by simp[ga.1,gb.1]
      rw[es,ga.2,gb.2] at hq'
      have vb:=(V w).2
      rw[ga.2,gb.2] at vb
      exact⟨rfl,⟨k,_,rfl,yS,hq',H.put d _ vb,rfl,rfl,rfl,rfl⟩,P.m.keep (zQ hc') hdj2,hc'.mono (fun x hx=>List.mem_append_left _ hx)⟩
theorem zMu{Mem:Type}(S:Sm Mem)(x:Cd)(h:HS Mem)(l:32≤x.op)(u:x.op≤38):yZ S x h=(match h.get x.a with|some a=>.go (h.set x.d (S.val 5 (x.op - 32) a 0 0))|_=>.stuck):=by
  unfold yZ;(repeat(first|rw[if_pos aO]|rw[if_neg aO]));(cases h.get x.a<;>cases h.get x.b<;>cases h.get x.c<;>cases h.get x.d<;>rfl)
theorem zPu(k:QB)(kk:Va.RB)(ca:Option Addr)(cap:Nat)(ta:Option Addr)(tcap:Nat)(T:PT)(q:HQ)(s:HS Va.MS)(op d a b c n kx xx:Nat)(w:World)(P:RC w k kk ca cap ta tcap T q s)(ld:d < 16)(la:a < 16)(lb:b < 16)(lc:c < 16)(ln:n < 65536)(ho1:32≤op)(ho2:op≤38) :
    Calls Tryz.prog 24 #[.pointer (some ⟨k.h,0,none⟩),.agg (yJ op d a b c n kx xx)] w fun e w'=>zAr w k kk (.slice ca T.len cap) (.slice ta T.tl tcap) q s e w' (zU T q.ran ⟨op,d,a,b,c,n,kx,xx⟩ s q.done):=by
  have H:=P.H
  have d0:=P.dn
  have hdj2:∀ x∈kk.y :: kk.all,x∉k.own:=fun x hx hy=>P.dj x hy hx
  have n0:0≤q.done+(n:Int):=aO
  have n1:q.done+(n:Int)≤9223372036854775807:=aO
  have e0:=zMu uV ⟨op,d,a,b,c,n,kx,xx⟩ s (by show(32:Int)≤(op:Int);omega) (by show(op:Int)≤38;omega)
  have lo0:(Va.rr 5).lo=0:=by decide
  have hi0:(Va.rr 5).hi=6:=by decide
  have V:=fun W=>zEW 5 ((op:Int) - 32) (q.reg a) 0 0 W (H.rb a) aD aD aO (by rw[lo0];omega) (by rw[hi0];omega)
  refine(uE k _ _ _ q _ op d a b c n kx xx w P.qw (zAK _ aO aO) n0 n1 (fun W hW=>zOD k _ _ _ q (op:Int) ((op:Int) - 32) aO aO rfl d a b c n kx xx (uV.val 5 ((op:Int) - 32) (q.reg a) 0 0) W hW ld la (fun W2=>(V W2).1))).mono ?_
  rintro r w' ⟨rfl,hq',hc'⟩
  cases hua:s.R a with
  | none=>
    have ga:=H.nn hua
    have e:zU T q.ran ⟨op,d,a,b,c,n,kx,xx⟩ s q.done=.stuck:=by rw[uR zq24 zq22 zq23 zq25 zq26,e0];simp only[HS.get,Int.toNat_natCast,hua]
    rw[e]
    exact⟨⟨⟨0,0,0,0,0,0⟩,_,rfl,hq',by simp[ga],H.c⟩,P.m.keep (zQ hc') hdj2,hc'.mono (fun x hx=>List.mem_append_left _ hx)⟩
  | some ua=>
    have ga:=H.sm hua
    have e:zU T q.ran ⟨op,d,a,b,c,n,kx,xx⟩ s q.done=.go (s.set d (uV.val 5 ((op:Int) - 32) ua 0 0)) q.done none:=by rw[uR zq24 zq22 zq23 zq25 zq26,e0];simp[HS.get,hua]
    rw[e]
    have es:(q.stuck || !(q.has a))=q.stuck:=by simp[ga.1]
    rw[es,ga.2] at hq'
    have vb:=(V w).2
    rw[ga.2] at vb
    exact⟨rfl,⟨k,_,rfl,yS,hq',H.put d _ vb,rfl,rfl,rfl,rfl⟩,P.m.keep (zQ hc') hdj2,hc'.mono (fun x hx=>List.mem_append_left _ hx)⟩
theorem zHA{Mem:Type}(S:Sm Mem)(x:Cd)(h:HS Mem)(l:48≤x.op)(u:x.op≤60):yZ S x h=(match h.get x.a,h.get x.b,h.get x.c with|some a,some b,some c=>.go (h.set x.d (S.val 7 (x.op - 48) a b c))|_,_,_=>.stuck):=by
  unfold yZ;(repeat(first|rw[if_pos aO]|rw[if_neg aO]));(cases h.get x.a<;>cases h.get x.b<;>cases h.get x.c<;>cases h.get x.d<;>rfl)
theorem zJ1(k:QB)(kk:Va.RB)(ca:Option Addr)(cap:Nat)(ta:Option Addr)(tcap:Nat)(T:PT)(q:HQ)(s:HS Va.MS)(op d a b c n kx xx:Nat)(w:World)(P:RC w k kk ca cap ta tcap T q s)(ld:d < 16)(la:a < 16)(lb:b < 16)(lc:c < 16)(ln:n < 65536)(ho1:48≤op)(ho2:op≤60) :
    Calls Tryz.prog 24 #[.pointer (some ⟨k.h,0,none⟩),.agg (yJ op d a b c n kx xx)] w fun e w'=>zAr w k kk (.slice ca T.len cap) (.slice ta T.tl tcap) q s e w' (zU T q.ran ⟨op,d,a,b,c,n,kx,xx⟩ s q.done):=by
  have H:=P.H
  have d0:=P.dn
  have hdj2:∀ x∈kk.y :: kk.all,x∉k.own:=fun x hx hy=>P.dj x hy hx
  have n0:0≤q.done+(n:Int):=aO
  have n1:q.done+(n:Int)≤9223372036854775807:=aO
  have e0:=zHA uV ⟨op,d,a,b,c,n,kx,xx⟩ s (by show(48:Int)≤(op:Int);omega) (by show(op:Int)≤60;omega)
  have lo0:(Va.rr 7).lo=0:=by decide
  have hi0:(Va.rr 7).hi=12:=by decide
  have V:=fun W=>zEW 7 ((op:Int) - 48) (q.reg a) (q.reg b) (q.reg c) W (H.rb a) (H.rb b) (H.rb c) aO (by rw[lo0];omega) (by rw[hi0];omega)
  refine(uE k _ _ _ q _ op d a b c n kx xx w P.qw (zAK _ aO aO) n0 n1 (fun W hW=>zJr k _ _ _ q (op:Int) ((op:Int) - 48) aO aO rfl d a b c n kx xx (uV.val 7 ((op:Int) - 48) (q.reg a) (q.reg b) (q.reg c)) W hW ld la lb lc (fun W2=>(V W2).1))).mono ?_
  rintro r w' ⟨rfl,hq',hc'⟩
  cases hua:s.R a with
  | none=>
    have ga:=H.nn hua
    have e:zU T q.ran ⟨op,d,a,b,c,n,kx,xx⟩ s q.done=.stuck:=by rw[uR zq24 zq22 zq23 zq25 zq26,e0];simp only[HS.get,Int.toNat_natCast,hua]
    rw[e]
    exact⟨⟨⟨0,0,0,0,0,0⟩,_,rfl,hq',by simp[ga],H.c⟩,P.m.keep (zQ hc') hdj2,hc'.mono (fun x hx=>List.mem_append_left _ hx)⟩
  | some ua=>
    have ga:=H.sm hua
    cases hub:s.R b with
    | none=>
      have gb:=H.nn hub
      have e:zU T q.ran ⟨op,d,a,b,c,n,kx,xx⟩ s q.done=.stuck:=by rw[uR zq24 zq22 zq23 zq25 zq26,e0];simp only[HS.get,Int.toNat_natCast,hua,hub]
      rw[e]
      exact⟨⟨⟨0,0,0,0,0,0⟩,_,rfl,hq',by simp[gb],H.c⟩,P.m.keep (zQ hc') hdj2,hc'.mono (fun x hx=>List.mem_append_left _ hx)⟩
    | some ub=>
      have gb:=H.sm hub
      cases huc:s.R c with
      | none=>
        have gc:=H.nn huc
        have e:zU T q.ran ⟨op,d,a,b,c,n,kx,xx⟩ s q.done=.stuck:=by rw[uR zq24 zq22 zq23 zq25 zq26,e0];simp only[HS.get,Int.toNat_natCast,hua,hub,huc]
        rw[e]
        exact⟨⟨⟨0,0,0,0,0,0⟩,_,rfl,hq',by simp[gc],H.c⟩,P.m.keep (zQ hc') hdj2,hc'.mono (fun x hx=>List.mem_append_left _ hx)⟩
      | some uc=>
        have gc:=H.sm huc
        have e:zU T q.ran ⟨op,d,a,b,c,n,kx,xx⟩ s q.done=.go (s.set d (uV.val 7 ((op:Int) - 48) ua ub uc)) q.done none:=by rw[uR zq24 zq22 zq23 zq25 zq26,e0];simp[HS.get,hua,hub,huc]
        rw[e]
        have es:(((q.stuck || !(q.has a)) || !(q.has b)) || !(q.has c))=q.stuck:=by simp[ga.1,gb.1,gc.1]
        rw[es,ga.2,gb.2,gc.2] at hq'
        have vb:=(V w).2
        rw[ga.2,gb.2,gc.2] at vb
        exact⟨rfl,⟨k,_,rfl,yS,hq',H.put d _ vb,rfl,rfl,rfl,rfl⟩,P.m.keep (zQ hc') hdj2,hc'.mono (fun x hx=>List.mem_append_left _ hx)⟩
theorem zJg{Mem:Type}(S:Sm Mem)(x:Cd)(h:HS Mem)(l:64≤x.op)(u:x.op≤79):yZ S x h=(match h.get x.a with|some a=>.go (h.set x.d (S.val 8 (x.op - 64) a 0 0))|_=>.stuck):=by
  unfold yZ;(repeat(first|rw[if_pos aO]|rw[if_neg aO]));(cases h.get x.a<;>cases h.get x.b<;>cases h.get x.c<;>cases h.get x.d<;>rfl)
theorem zLy(k:QB)(kk:Va.RB)(ca:Option Addr)(cap:Nat)(ta:Option Addr)(tcap:Nat)(T:PT)(q:HQ)(s:HS Va.MS)(op d a b c n kx xx:Nat)(w:World)(P:RC w k kk ca cap ta tcap T q s)(ld:d < 16)(la:a < 16)(lb:b < 16)(lc:c < 16)(ln:n < 65536)(ho1:64≤op)(ho2:op≤79) :
    Calls Tryz.prog 24 #[.pointer (some ⟨k.h,0,none⟩),.agg (yJ op d a b c n kx xx)] w fun e w'=>zAr w k kk (.slice ca T.len cap) (.slice ta T.tl tcap) q s e w' (zU T q.ran ⟨op,d,a,b,c,n,kx,xx⟩ s q.done):=by
  have H:=P.H
  have d0:=P.dn
  have hdj2:∀ x∈kk.y :: kk.all,x∉k.own:=fun x hx hy=>P.dj x hy hx
  have n0:0≤q.done+(n:Int):=aO
  have n1:q.done+(n:Int)≤9223372036854775807:=aO
  have e0:=zJg uV ⟨op,d,a,b,c,n,kx,xx⟩ s (by show(64:Int)≤(op:Int);omega) (by show(op:Int)≤79;omega)
  have lo0:(Va.rr 8).lo=0:=by decide
  have hi0:(Va.rr 8).hi=15:=by decide
  have V:=fun W=>zEW 8 ((op:Int) - 64) (q.reg a) 0 0 W (H.rb a) aD aD aO (by rw[lo0];omega) (by rw[hi0];omega)
  refine(uE k _ _ _ q _ op d a b c n kx xx w P.qw (zAK _ aO aO) n0 n1 (fun W hW=>zK3 k _ _ _ q (op:Int) ((op:Int) - 64) aO aO rfl d a b c n kx xx (uV.val 8 ((op:Int) - 64) (q.reg a) 0 0) W hW ld la (fun W2=>(V W2).1))).mono ?_
  rintro r w' ⟨rfl,hq',hc'⟩
  cases hua:s.R a with
  | none=>
    have ga:=H.nn hua
    have e:zU T q.ran ⟨op,d,a,b,c,n,kx,xx⟩ s q.done=.stuck:=by rw[uR zq24 zq22 zq23 zq25 zq26,e0];simp only[HS.get,Int.toNat_natCast,hua]
    rw[e]
    exact⟨⟨⟨0,0,0,0,0,0⟩,_,rfl,hq',by simp[ga],H.c⟩,P.m.keep (zQ hc') hdj2,hc'.mono (fun x hx=>List.mem_append_left _ hx)⟩
  | some ua=>
    have ga:=H.sm hua
    have e:zU T q.ran ⟨op,d,a,b,c,n,kx,xx⟩ s q.done=.go (s.set d (uV.val 8 ((op:Int) - 64) ua 0 0)) q.done none:=by rw[uR zq24 zq22 zq23 zq25 zq26,e0];simp[HS.get,hua]
    rw[e]
    have es:(q.stuck || !(q.has a))=q.stuck:=by simp[ga.1]
    rw[es,ga.2] at hq'
    have vb:=(V w).2
    rw[ga.2] at vb
    exact⟨rfl,⟨k,_,rfl,yS,hq',H.put d _ vb,rfl,rfl,rfl,rfl⟩,P.m.keep (zQ hc') hdj2,hc'.mono (fun x hx=>List.mem_append_left _ hx)⟩
theorem zJh{Mem:Type}(S:Sm Mem)(x:Cd)(h:HS Mem)(l:80≤x.op)(u:x.op≤84):yZ S x h=(match h.get x.a with|some a=>if(S.load h.m (x.op - 80) a).2.1=0 then .go (h.set x.d (S.load h.m (x.op - 80) a).1) else .out ⟨2,(S.load h.m (x.op - 80) a).2.1,(S.load h.m (x.op - 80) a).2.2,x.k,x.n⟩ h|none=>.stuck):=by
  unfold yZ;(repeat(first|rw[if_pos aO]|rw[if_neg aO]));(cases h.get x.a<;>cases h.get x.b<;>cases h.get x.c<;>cases h.get x.d<;>rfl)
theorem zHB{Mem:Type}(S:Sm Mem)(x:Cd)(h:HS Mem)(l:88≤x.op)(u:x.op≤90):yZ S x h=(match h.get x.a,h.get x.d with|some a,some b=>if(S.store h.m (x.op - 88) a b).2.1=0 then .go { h with m:=(S.store h.m (x.op - 88) a b).1 } else .out ⟨2,(S.store h.m (x.op - 88) a b).2.1,(S.store h.m (x.op - 88) a b).2.2,x.k,x.n⟩ { h with m:=(S.store h.m (x.op - 88) a b).1 }|_,_=>.stuck):=by
  unfold yZ;(repeat(first|rw[if_pos aO]|rw[if_neg aO]));(cases h.get x.a<;>cases h.get x.b<;>cases h.get x.c<;>cases h.get x.d<;>rfl)
theorem zLA(k:QB)(kk:Va.RB)(ca:Option Addr)(cap:Nat)(ta:Option Addr)(tcap:Nat)(T:PT)(q:HQ)(s:HS Va.MS)(op d a b c n kx xx:Nat)(w:World)(P:RC w k kk ca cap ta tcap T q s)(ld:d < 16)(la:a < 16)(lb:b < 16)(lc:c < 16)(ln:n < 65536)(ho1:80≤op)(ho2:op≤84) :
    Calls Tryz.prog 24 #[.pointer (some ⟨k.h,0,none⟩),.agg (yJ op d a b c n kx xx)] w fun e w'=>zAr w k kk (.slice ca T.len cap) (.slice ta T.tl tcap) q s e w' (zU T q.ran ⟨op,d,a,b,c,n,kx,xx⟩ s q.done):=by
  have H:=P.H
  have d0:=P.dn
  have hdj2:∀ x∈kk.y :: kk.all,x∉k.own:=fun x hx hy=>P.dj x hy hx
  have n0:0≤q.done+(n:Int):=aO
  have n1:q.done+(n:Int)≤9223372036854775807:=aO
  have e0:=zJh uV ⟨op,d,a,b,c,n,kx,xx⟩ s (by show(80:Int)≤(op:Int);omega) (by show(op:Int)≤84;omega)
  have hL:∀ W,Va.RM W kk s.m→Calls Tryz.prog 54 #[(.pointer (some ⟨kk.y,0,none⟩)),.int .i64 ((op:Int) - 80),.int .u32 (q.reg a)] W fun e w'=>e=.returned (.tuple #[.int .u32 ((Va.ldW s.m ((op:Int) - 80) (q.reg a):Nat):Int),.agg (stC (Va.vS 5 (Va.yA s.m 1 (q.reg a) (Va.ldN ((op:Int) - 80)).toNat)) (((Va.stA (Va.yA s.m 1 (q.reg a) (Va.ldN ((op:Int) - 80)).toNat)).toNat:Nat):Int))])∧zI [] W w':=fun W hW=>by
    rw[zBB]
    refine(Va.zLq kk (q.reg a) ((op:Int) - 80) s.m W (H.rb a) H.mo hW aO).mono ?_
    rintro e w' ⟨rfl,hb'⟩
    exact⟨rfl,zI.of_below _ hb'⟩
  have hPk:∀ W W' T,Va.RM W kk s.m→(∀ x∈T,w.heap.size≤x)→zI T W W'→Va.RM W' kk s.m:=fun W W' T hW hT hc'=>hW.keep (zQ hc') (fun x hx hy=>by have h1:=P.m.lt x hx;have h2:=hT x hy;omega)
  by_cases hz:Va.vS 5 (Va.yA s.m 1 (q.reg a) (Va.ldN ((op:Int) - 80)).toNat)=0
  · refine(zBE k _ _ _ q { q with stuck:=q.stuck || !(q.has a),reg:=upd q.reg d (Va.ldW s.m ((op:Int) - 80) (q.reg a)),has:=upd q.has d true } op d a b c n (Va.vS 5 (Va.yA s.m 1 (q.reg a) (Va.ldN ((op:Int) - 80)).toNat)) kx xx (Va.stA (Va.yA s.m 1 (q.reg a) (Va.ldN ((op:Int) - 80)).toNat)).toNat [] (fun W=>Va.RM W kk s.m) (fun W=>Va.RM W kk s.m) w P.qw (zCi _ aO aO) zq71 n0 n1 (fun x hx=>by cases hx) (fun W hW=>P.m.keep (zQ hW) (fun _ _=>by simp)) hPk (fun W hs hW hR=>?_)).mono ?_
    · refine(zLd k _ _ _ q op ((op:Int) - 80) b c n (Va.vS 5 (Va.yA s.m 1 (q.reg a) (Va.ldN ((op:Int) - 80)).toNat)) _ d a kx xx (Va.ldW s.m ((op:Int) - 80) (q.reg a)) (fun W=>Va.RM W kk s.m) W hW la ld zq71 aO (zDm op 80 aO aD aD) (fun W' hc'=>hR.keep (zQ hc') hdj2) hL).mono ?_
      rintro e w' ⟨rfl,hq',hc'⟩
      exact⟨rfl,hq',hR.keep (zQ hc') hdj2,hc'.mono (fun x hx=>List.mem_append_left _ hx)⟩
    · rintro r w' ⟨rfl,hq',hR',hc'⟩
      have hc2:zI (k.own++kk.all) w w':=hc'.mono (fun x hx=>by rw[List.append_nil] at hx;exact List.mem_append_left _ hx)
      cases hu:s.R a with
      | none=>
        have g1:=H.nn hu
        rw[show zU T q.ran ⟨op,d,a,b,c,n,kx,xx⟩ s q.done=.stuck by rw[uR zq24 zq22 zq23 zq25 zq26,e0];simp[HS.get,hu]]
        exact⟨⟨⟨0,0,0,0,0,0⟩,_,rfl,hq',by simp[g1],H.c⟩,hR',hc2⟩
      | some u=>
        obtain⟨g1,g2⟩:=H.sm hu
        rw[g2] at hz hq'
        have es:(q.stuck || !(q.has a))=q.stuck:=by simp[g1]
        rw[es] at hq'
        rw[show zU T q.ran ⟨op,d,a,b,c,n,kx,xx⟩ s q.done=.go (s.set d (Va.ldW s.m ((op:Int) - 80) u)) q.done none by rw[uR zq24 zq22 zq23 zq25 zq26,e0];simp[HS.get,hu,uV,hz]]
        exact⟨rfl,⟨k,_,rfl,yS,hq',H.put d _ (Va.zIw s.m ((op:Int) - 80) u H.mo),rfl,rfl,rfl,rfl⟩,hR',hc2⟩
  · refine(zD5 k _ _ _ q { q with stuck:=q.stuck || !(q.has a) } op d a b c n (Va.vS 5 (Va.yA s.m 1 (q.reg a) (Va.ldN ((op:Int) - 80)).toNat)) kx xx (Va.stA (Va.yA s.m 1 (q.reg a) (Va.ldN ((op:Int) - 80)).toNat)).toNat [] (fun W=>Va.RM W kk s.m) (fun W=>Va.RM W kk s.m) w P.qw (zCi _ aO aO) zq71 n0 n1 (fun x hx=>by cases hx) (fun W hW=>P.m.keep (zQ hW) (fun _ _=>by simp)) hPk (fun W hs hW hR=>?_)).mono ?_
    · refine(zLe k _ _ _ q op ((op:Int) - 80) b c n (Va.vS 5 (Va.yA s.m 1 (q.reg a) (Va.ldN ((op:Int) - 80)).toNat)) _ d a kx xx (Va.ldW s.m ((op:Int) - 80) (q.reg a)) (fun W=>Va.RM W kk s.m) W hW la ld zq71 aO (zDm op 80 aO aD aD) (fun W' hc'=>hR.keep (zQ hc') hdj2) hL).mono ?_
      rintro e w' ⟨rfl,hq',hc'⟩
      exact⟨rfl,hq',hR.keep (zQ hc') hdj2,hc'.mono (fun x hx=>List.mem_append_left _ hx)⟩
    · rintro r w' ⟨rfl,hq',hR',hc'⟩
      have hc2:zI (k.own++kk.all) w w':=hc'.mono (fun x hx=>by rw[List.append_nil] at hx;exact List.mem_append_left _ hx)
      cases hu:s.R a with
      | none=>
        have g1:=H.nn hu
        rw[show zU T q.ran ⟨op,d,a,b,c,n,kx,xx⟩ s q.done=.stuck by rw[uR zq24 zq22 zq23 zq25 zq26,e0];simp[HS.get,hu]]
        exact⟨⟨⟨3,Va.vS 5 (Va.yA s.m 1 (q.reg a) (Va.ldN ((op:Int) - 80)).toNat),(Va.stA (Va.yA s.m 1 (q.reg a) (Va.ldN ((op:Int) - 80)).toNat)).toNat,kx,q.done+n,0⟩,_,rfl,hq',by simp[g1],H.c⟩,hR',hc2⟩
      | some u=>
        obtain⟨g1,g2⟩:=H.sm hu
        rw[g2] at hz ⊢
        rw[show zU T q.ran ⟨op,d,a,b,c,n,kx,xx⟩ s q.done=.out ⟨3,Va.vS 5 (Va.yA s.m 1 u (Va.ldN ((op:Int) - 80)).toNat),(Va.stA (Va.yA s.m 1 u (Va.ldN ((op:Int) - 80)).toNat)).toNat,kx,q.done+n,0⟩ s by rw[uR zq24 zq22 zq23 zq25 zq26,e0];simp[HS.get,hu,uV,hz,km]]
        exact⟨rfl,⟨_,hq',zq53,H.c⟩,hR',hc2⟩
theorem zJ3(k:QB)(kk:Va.RB)(ca:Option Addr)(cap:Nat)(ta:Option Addr)(tcap:Nat)(T:PT)(q:HQ)(s:HS Va.MS)(op d a b c n kx xx:Nat)(w:World)(P:RC w k kk ca cap ta tcap T q s)(ld:d < 16)(la:a < 16)(lb:b < 16)(lc:c < 16)(ln:n < 65536)(ho1:88≤op)(ho2:op≤90) :
    Calls Tryz.prog 24 #[.pointer (some ⟨k.h,0,none⟩),.agg (yJ op d a b c n kx xx)] w fun e w'=>zAr w k kk (.slice ca T.len cap) (.slice ta T.tl tcap) q s e w' (zU T q.ran ⟨op,d,a,b,c,n,kx,xx⟩ s q.done):=by
  have H:=P.H
  have d0:=P.dn
  have hdj2:∀ x∈kk.y :: kk.all,x∉k.own:=fun x hx hy=>P.dj x hy hx
  have n0:0≤q.done+(n:Int):=aO
  have n1:q.done+(n:Int)≤9223372036854775807:=aO
  have e0:=zHB uV ⟨op,d,a,b,c,n,kx,xx⟩ s (by show(88:Int)≤(op:Int);omega) (by show(op:Int)≤90;omega)
  have hPk:∀ W W' T,Va.RM W kk s.m→(∀ x∈T,w.heap.size≤x)→zI T W W'→Va.RM W' kk s.m:=fun W W' T hW hT hc'=>hW.keep (zQ hc') (fun x hx hy=>by have h1:=P.m.lt x hx;have h2:=hT x hy;omega)
  cases hua:s.R a with
  | none=>
    have ga:=H.nn hua
    refine(zBE k _ _ _ q { q with stuck:=true } op d a b c n 0 kx xx 0 [] (fun W=>Va.RM W kk s.m) (fun W=>Va.RM W kk s.m) w P.qw (zCi _ aO aO) aD n0 n1 (fun x hx=>by cases hx) (fun W hW=>P.m.keep (zQ hW) (fun _ _=>by simp)) hPk (fun W hs hW hR=>?_)).mono ?_
    · refine(zDq k _ _ _ q op b c n d a kx xx W hW la ld (by rw[ga];simp) aO).mono ?_
      rintro e w' ⟨rfl,hq',hc'⟩
      exact⟨rfl,hq',hR.keep (zQ hc') hdj2,hc'.mono (fun x hx=>List.mem_append_left _ hx)⟩
    · rintro r w' ⟨rfl,hq',hR',hc'⟩
      rw[show zU T q.ran ⟨op,d,a,b,c,n,kx,xx⟩ s q.done=.stuck by rw[uR zq24 zq22 zq23 zq25 zq26,e0];simp only[HS.get,Int.toNat_natCast,hua]]
      exact⟨⟨⟨0,0,0,0,0,0⟩,_,rfl,hq',rfl,H.c⟩,hR',hc'.mono (fun x hx=>by rw[List.append_nil] at hx;exact List.mem_append_left _ hx)⟩
  | some ua=>
   have ga:=H.sm hua
   cases hud:s.R d with
   | none=>
    have gd:=H.nn hud
    refine(zBE k _ _ _ q { q with stuck:=true } op d a b c n 0 kx xx 0 [] (fun W=>Va.RM W kk s.m) (fun W=>Va.RM W kk s.m) w P.qw (zCi _ aO aO) aD n0 n1 (fun x hx=>by cases hx) (fun W hW=>P.m.keep (zQ hW) (fun _ _=>by simp)) hPk (fun W hs hW hR=>?_)).mono ?_
    · refine(zDq k _ _ _ q op b c n d a kx xx W hW la ld (by rw[gd];simp) aO).mono ?_
      rintro e w' ⟨rfl,hq',hc'⟩
      exact⟨rfl,hq',hR.keep (zQ hc') hdj2,hc'.mono (fun x hx=>List.mem_append_left _ hx)⟩
    · rintro r w' ⟨rfl,hq',hR',hc'⟩
      rw[show zU T q.ran ⟨op,d,a,b,c,n,kx,xx⟩ s q.done=.stuck by rw[uR zq24 zq22 zq23 zq25 zq26,e0];simp only[HS.get,Int.toNat_natCast,hua,hud]]
      exact⟨⟨⟨0,0,0,0,0,0⟩,_,rfl,hq',rfl,H.c⟩,hR',hc'.mono (fun x hx=>by rw[List.append_nil] at hx;exact List.mem_append_left _ hx)⟩
   | some ud=>
    have gd:=H.sm hud
    have bda:ua < 4294967296:=by rw[← ga.2];exact H.rb a
    have bdd:ud < 4294967296:=by rw[← gd.2];exact H.rb d
    have hS:∀ W,Va.RM W kk s.m→Calls Tryz.prog 56 #[(.pointer (some ⟨kk.y,0,none⟩)),.int .i64 ((op:Int) - 88),.int .u32 (q.reg a),.int .u32 (q.reg d)] W fun e w'=>e=.returned (.agg (stC (Va.vS 6 (Va.sto s.m ua (Va.stN ((op:Int) - 88)))) (((Va.stA (Va.sto s.m ua (Va.stN ((op:Int) - 88)))).toNat:Nat):Int)))∧Va.RM w' kk (Va.storeT s.m ua (Va.stN ((op:Int) - 88)) ud)∧zI kk.all W w':=fun W hW=>by
      rw[ga.2,gd.2,zBB]
      refine(Va.zBZ kk ua ud ((op:Int) - 88) s.m W bda bdd H.mo hW aO).mono ?_
      rintro e w' ⟨rfl,hR',hb'⟩
      exact⟨rfl,hR',zC2 hb'⟩
    have hPk2:∀ W W' T,Va.RM W kk (Va.storeT s.m ua (Va.stN ((op:Int) - 88)) ud)→(∀ x∈T,w.heap.size≤x)→zI T W W'→Va.RM W' kk (Va.storeT s.m ua (Va.stN ((op:Int) - 88)) ud):=fun W W' T hW hT hc'=>hW.keep (zQ hc') (fun x hx hy=>by have h1:=P.m.lt x hx;have h2:=hT x hy;omega)
    have hSn:∀ x∈kk.all,x < w.heap.size:=fun x hx=>P.m.lt x (aM _ hx)
    have hmem:∀ W,w.heap.size≤W.heap.size→QW W k (.slice ca T.len cap) (.slice ta T.tl tcap) (.pointer (some ⟨kk.y,0,none⟩)) q→Va.RM W kk s.m→Calls Tryz.prog 39 #[.pointer (some ⟨k.h,0,none⟩),.agg (yJ op d a b c n kx xx)] W fun e w'=>e=.returned (.agg (stC (Va.vS 6 (Va.sto s.m ua (Va.stN ((op:Int) - 88)))) (((Va.stA (Va.sto s.m ua (Va.stN ((op:Int) - 88)))).toNat:Nat):Int)))∧QW w' k (.slice ca T.len cap) (.slice ta T.tl tcap) (.pointer (some ⟨kk.y,0,none⟩)) q∧Va.RM w' kk (Va.storeT s.m ua (Va.stN ((op:Int) - 88)) ud)∧zI (k.own++kk.all) W w':=fun W hs hW hR=>by
      refine(zHG k _ _ _ q op ((op:Int) - 88) b c n (Va.vS 6 (Va.sto s.m ua (Va.stN ((op:Int) - 88)))) _ d a kx xx kk.all (fun W=>Va.RM W kk s.m) (fun W=>Va.RM W kk (Va.storeT s.m ua (Va.stN ((op:Int) - 88)) ud)) W hW la ga.1 ld gd.1 H.st aO (zDm op 88 aO aD aD) (fun x hx hy=>P.dj x hx (aM _ hy)) (fun x hx=>Nat.lt_of_lt_of_le (hSn x hx) hs) (fun W' hc'=>hR.keep (zQ hc') (fun _ _=>by simp)) (fun W1 W2 x h1 h2 h3=>h1.keep (zQ h3) (fun y hy hz=>by rw[List.mem_singleton] at hz;have:=hR.lt y hy;omega)) hS).mono ?_
      rintro e w' ⟨rfl,hq',hR',hc'⟩
      exact⟨rfl,hq',hR',hc'.mono (fun x hx=>List.mem_append_right _ hx)⟩
    have hok:(Va.storeT s.m ua (Va.stN ((op:Int) - 88)) ud).Ok:=Va.zD1 H.mo _ _ _
    by_cases hz:Va.vS 6 (Va.sto s.m ua (Va.stN ((op:Int) - 88)))=0
    · rw[show zU T q.ran ⟨op,d,a,b,c,n,kx,xx⟩ s q.done=.go { s with m:=(Va.storeT s.m ua (Va.stN ((op:Int) - 88)) ud) } q.done none by rw[uR zq24 zq22 zq23 zq25 zq26,e0];simp[HS.get,hua,hud,uV,hz]]
      refine(zBE k _ _ _ q q op d a b c n (Va.vS 6 (Va.sto s.m ua (Va.stN ((op:Int) - 88)))) kx xx (Va.stA (Va.sto s.m ua (Va.stN ((op:Int) - 88)))).toNat kk.all (fun W=>Va.RM W kk s.m) (fun W=>Va.RM W kk (Va.storeT s.m ua (Va.stN ((op:Int) - 88)) ud)) w P.qw (zCi _ aO aO) zq71 n0 n1 hSn (fun W hW=>P.m.keep (zQ hW) (fun _ _=>by simp)) hPk2 hmem).mono ?_
      rintro r w' ⟨rfl,hq',hR',hc'⟩
      exact⟨rfl,⟨k,_,rfl,yS,hq',H.mem hok,rfl,rfl,rfl,rfl⟩,hR',hc'⟩
    · rw[show zU T q.ran ⟨op,d,a,b,c,n,kx,xx⟩ s q.done=.out ⟨3,Va.vS 6 (Va.sto s.m ua (Va.stN ((op:Int) - 88))),(Va.stA (Va.sto s.m ua (Va.stN ((op:Int) - 88)))).toNat,kx,q.done+n,0⟩ { s with m:=(Va.storeT s.m ua (Va.stN ((op:Int) - 88)) ud) } by rw[uR zq24 zq22 zq23 zq25 zq26,e0];simp[HS.get,hua,hud,uV,hz,km]]
      refine(zD5 k _ _ _ q q op d a b c n (Va.vS 6 (Va.sto s.m ua (Va.stN ((op:Int) - 88)))) kx xx (Va.stA (Va.sto s.m ua (Va.stN ((op:Int) - 88)))).toNat kk.all (fun W=>Va.RM W kk s.m) (fun W=>Va.RM W kk (Va.storeT s.m ua (Va.stN ((op:Int) - 88)) ud)) w P.qw (zCi _ aO aO) zq71 n0 n1 hSn (fun W hW=>P.m.keep (zQ hW) (fun _ _=>by simp)) hPk2 hmem).mono ?_
      rintro r w' ⟨rfl,hq',hR',hc'⟩
      exact⟨rfl,⟨_,hq',H.st,H.c⟩,hR',hc'⟩
theorem zBZ(k:QB)(kk:Va.RB)(ca:Option Addr)(cap:Nat)(ta:Option Addr)(tcap:Nat)(T:PT)(q:HQ)(s:HS Va.MS)(at':Int)(w:World)(hws:∀ i,T.ws i < 4294967296)(he:(yG T.ws T.len at').e=0)(P:RC w k kk ca cap ta tcap T q s) :
    Calls Tryz.prog 24 #[.pointer (some ⟨k.h,0,none⟩),cdV (yG T.ws T.len at').x] w fun e w'=>zAr w k kk (.slice ca T.len cap) (.slice ta T.tl tcap) q s e w' (zU T q.ran (yG T.ws T.len at').x s q.done):=by
  obtain⟨m,kf,op,d,a,b,c,n,kx,xx,F⟩:=zAx hws he
  rw[F.ex]
  have al:=F.al
  rcases zG5 F.fo F.hk with ⟨rfl,rfl⟩|⟨rfl,rfl⟩|⟨rfl,rfl⟩|⟨rfl,rfl⟩|⟨rfl,rfl⟩|⟨rfl,rfl⟩|⟨rfl,rfl⟩|⟨rfl,rfl⟩|⟨rfl,rfl⟩|⟨rfl,rfl⟩|⟨rfl,rfl⟩|⟨rfl,rfl⟩|⟨rfl,rfl⟩|⟨rfl,rfl⟩|⟨rfl,rfl⟩|⟨rfl,rfl⟩|⟨rfl,rfl⟩|⟨l0,l1,rfl⟩|⟨l0,l1,rfl⟩|⟨l0,l1,rfl⟩|⟨l0,l1,rfl⟩|⟨l0,l1,rfl⟩|⟨l0,l1,rfl⟩
  · exact zJ0 k kk ca cap ta tcap T q s d a b c n kx xx w P F.fd F.fa F.fb F.fc F.fn
  · exact zPt k kk ca cap ta tcap T q s d a b c n kx xx w P F.fd F.fa F.fb F.fc F.fn F.fk
  · exact zNA k kk ca cap ta tcap T q s d a b c n kx xx w P F.fd F.fa F.fb F.fc F.fn
  · exact zH6 k kk ca cap ta tcap T q s d a b c n kx xx w P F.fd F.fa F.fb F.fc F.fn hws
  · exact zNC k kk ca cap ta tcap T q s d a b c n kx xx w P F.fd F.fa F.fb F.fc F.fn
  · exact zNy k kk ca cap ta tcap T q s d a b c n kx xx w P F.fd F.fa F.fb F.fc F.fn (by have:=zAX 11 al aD;omega)
  · exact zNE k kk ca cap ta tcap T q s d a b c n kx xx w P F.fd F.fa F.fb F.fc F.fn (by have:=zAX 11 al aD;omega)
  · exact zNz k kk ca cap ta tcap T q s d a b c n kx xx w P F.fd F.fa F.fb F.fc F.fn (by have:=zAX 2047 al aD;omega)
  · exact zNF k kk ca cap ta tcap T q s d a b c n kx xx w P F.fd F.fa F.fb F.fc F.fn (by have:=zAX 2047 al aD;omega)
  · exact zJ4 k kk ca cap ta tcap T q s d a b c n kx xx w P F.fd F.fa F.fb F.fc F.fn
  · exact zPs k kk ca cap ta tcap T q s d a b c n kx xx w P F.fd F.fa F.fb F.fc F.fn
  · exact zLB k kk ca cap ta tcap T q s d a b c n kx xx w P F.fd F.fa F.fb F.fc F.fn
  · exact zND k kk ca cap ta tcap T q s d a b c n kx xx w P F.fd F.fa F.fb F.fc F.fn
  · exact zJ2 k kk ca cap ta tcap T q s d a b c n kx xx w P F.fd F.fa F.fb F.fc F.fn
  · exact zJZ k kk ca cap ta tcap T q s d a b c n kx xx w P F.fd F.fa F.fb F.fc F.fn F.fk
  · exact zLz k kk ca cap ta tcap T q s d a b c n kx xx w P F.fd F.fa F.fb F.fc F.fn F.fk
  · exact zNB k kk ca cap ta tcap T q s d a b c n kx xx w P F.fd F.fa F.fb F.fc F.fn
  · exact zNx k kk ca cap ta tcap T q s op d a b c n kx xx w P F.fd F.fa F.fb F.fc F.fn l0 l1
  · exact zPu k kk ca cap ta tcap T q s op d a b c n kx xx w P F.fd F.fa F.fb F.fc F.fn l0 l1
  · exact zJ1 k kk ca cap ta tcap T q s op d a b c n kx xx w P F.fd F.fa F.fb F.fc F.fn l0 l1
  · exact zLy k kk ca cap ta tcap T q s op d a b c n kx xx w P F.fd F.fa F.fb F.fc F.fn l0 l1
  · exact zLA k kk ca cap ta tcap T q s op d a b c n kx xx w P F.fd F.fa F.fb F.fc F.fn l0 l1
  · exact zJ3 k kk ca cap ta tcap T q s op d a b c n kx xx w P F.fd F.fa F.fb F.fc F.fn l0 l1
structure RR(w wr:World)(k:QB)(kk:Va.RB)(ca:Option Addr)(cap:Nat)(ta:Option Addr)(tcap:Nat)(T:PT)(q:HQ)(s:HS Va.MS):Prop where
 qw:QW wr k (.slice ca T.len cap) (.slice ta T.tl tcap) (.pointer (some ⟨kk.y,0,none⟩)) q
 m:Va.RM wr kk s.m
 H:HQR q s
 wd:Wds wr ca T.len cap T.ws
 tr:T.tl=0∨∃ tq toff,ta=some ⟨tq,toff,none⟩∧TR wr tq toff T.tl T.tp T.ta∧T.tl≤140737488355328
 b1:wr.heap[w.heap.size+1]?=some (.cells #[.int .u32 0,.int .u32 0,.int .u32 0,.int .u32 0,.int .u32 0,.int .u32 0,.int .u32 0,.int .u32 0,.int .u32 0,.int .u32 0,.int .u32 0,.int .u32 0] 25)
 b2:wr.heap[w.heap.size+1+1]?=some (.cells (uX 0 0 0 0 0 0) 37)
 ch:zI kk.all w wr
 ow:∀ x∈k.own,w.heap.size+1+1 < x
 kl:∀ x∈kk.y :: kk.all,x < w.heap.size
 cl:0 < T.len→∀ b o,ca=some ⟨b,o,none⟩→b < w.heap.size∧b∉kk.all
 tl:0 < T.tl→∀ b o,ta=some ⟨b,o,none⟩→b < w.heap.size∧b∉kk.all
 lf:q.left=T.left
theorem RR.rc{w wr:World}{k:QB}{kk:Va.RB}{ca:Option Addr}{cap:Nat}{ta:Option Addr}{tcap:Nat}{T:PT}{q:HQ}{s:HS Va.MS}(h:RR w wr k kk ca cap ta tcap T q s){at':Int}(B:BN T at' q.done q.ran 0)(hlen:T.len≤140737488355328)(hlf : -9223372036854775808≤T.left∧T.left≤9223372036854775807):RC wr k kk ca cap ta tcap T q s:=by
 have c1:=B.c1
 have d1:=B.d1
 have d0:=B.d0
 refine⟨h.qw,h.m,h.H,h.wd,h.tr,fun x hx hy=>by have h1:=h.ow x hx;have h2:=h.kl x hy;omega,fun hp b o e hx=>by have h1:=h.ow b hx;have h2:=(h.cl hp b o e).1;omega,fun hp b o e hx=>by have h1:=h.ow b hx;have h2:=(h.tl hp b o e).1;omega,⟨d0,by omega⟩,h.lf,⟨?_,?_⟩⟩
 ·rcases B.d2 with g|⟨_,g|g⟩<;>omega
 ·omega
theorem RR.step{w wr:World}{k:QB}{kk:Va.RB}{ca:Option Addr}{cap:Nat}{ta:Option Addr}{tcap:Nat}{T:PT}{q:HQ}{s:HS Va.MS}(h0:RR w wr k kk ca cap ta tcap T q s){k':QB}{q':HQ}{s':HS Va.MS}{w':World}{U:List Nat}(hq:QW w' k' (.slice ca T.len cap) (.slice ta T.tl tcap) (.pointer (some ⟨kk.y,0,none⟩)) q')(hm:Va.RM w' kk s'.m)(H:HQR q' s')(c:zI U wr w')(hU:∀ x∈U,x∈kk.all∨w.heap.size+1+1 < x)(hk:∀ x∈k'.own,w.heap.size+1+1 < x)(hl:q'.left=T.left):RR w w' k' kk ca cap ta tcap T q' s':=by
 have nn:∀ x,x≤w.heap.size+1+1→x∉kk.all→x∉U:=fun x hx hn e=>by
  rcases hU _ e with h1|h1
  ·exact hn h1
  ·omega
 have nk:∀ x,w.heap.size≤x→x∉kk.all:=fun x hx e=>by have:=h0.kl x (aM _ e);omega
 exact⟨hq,hm,H,vZ h0.wd c (fun hp b o e=>nn b (by have:=(h0.cl hp b o e).1;omega) (h0.cl hp b o e).2),zDa h0.tr c (fun hp b o e=>nn b (by have:=(h0.tl hp b o e).1;omega) (h0.tl hp b o e).2),(c.block _ (ltb h0.b1) (nn _ aO (nk _ aO))).trans h0.b1,(c.block _ (ltb h0.b2) (nn _ aO (nk _ aO))).trans h0.b2,h0.ch.into c (fun x hx=>by
  rcases hU x hx with h1|h1
  ·exact .inl h1
  ·exact .inr aO),hk,h0.kl,h0.cl,h0.tl,hl⟩
theorem RR.bel{w wr:World}{k:QB}{kk:Va.RB}{ca:Option Addr}{cap:Nat}{ta:Option Addr}{tcap:Nat}{T:PT}{q:HQ}{s:HS Va.MS}(h0:RR w wr k kk ca cap ta tcap T q s){w':World}(b:Below wr.heap.size wr w'):RR w w' k kk ca cap ta tcap T q s:=
 h0.step (U:=[]) (h0.qw.chg (S:=[]) (zI.of_below _ b) (fun _ _=>by simp)) (h0.m.below b aL) h0.H (zI.of_below _ b) (fun x hx=>by cases hx) h0.ow h0.lf
theorem RR.al{w wr:World}{k:QB}{kk:Va.RB}{ca:Option Addr}{cap:Nat}{ta:Option Addr}{tcap:Nat}{T:PT}{q:HQ}{s:HS Va.MS}(h0:RR w wr k kk ca cap ta tcap T q s)(o:Obj):RR w (wr.alloc o) k kk ca cap ta tcap T q s:=h0.bel (aB.alloc aL o)
theorem RR.dj{w wr:World}{k:QB}{kk:Va.RB}{ca:Option Addr}{cap:Nat}{ta:Option Addr}{tcap:Nat}{T:PT}{q:HQ}{s:HS Va.MS}(h0:RR w wr k kk ca cap ta tcap T q s):∀ x∈kk.y :: kk.all,x∉k.own:=fun x hx hy=>by have h1:=h0.ow x hy;have h2:=h0.kl x hx;omega
theorem RR.setAt{w wr:World}{k:QB}{kk:Va.RB}{ca:Option Addr}{cap:Nat}{ta:Option Addr}{tcap:Nat}{T:PT}{q:HQ}{s:HS Va.MS}(h0:RR w wr k kk ca cap ta tcap T q s)(v:Int):RR w (wr.setCell ⟨k.h,1,none⟩ (.int .i64 v)) k kk ca cap ta tcap T { q with at_:=v } s:=
 have c:zI [k.h] wr (wr.setCell ⟨k.h,1,none⟩ (.int .i64 v)):=(zI.refl _ _).set aC _ _
 h0.step (h0.qw.setAt v) (h0.m.keep (zQ c) (fun x hx e=>by rw[List.mem_singleton] at e;subst e;exact h0.dj _ hx (zAQ k))) ⟨h0.H.r,h0.H.sp,h0.H.c,h0.H.st,h0.H.rb,h0.H.sb,h0.H.cb,h0.H.mo⟩ c (fun x hx=>by rw[List.mem_singleton] at hx;subst hx;exact .inr (h0.ow _ (zAQ k))) h0.ow h0.lf
theorem RR.setRan{w wr:World}{k:QB}{kk:Va.RB}{ca:Option Addr}{cap:Nat}{ta:Option Addr}{tcap:Nat}{T:PT}{q:HQ}{s:HS Va.MS}(h0:RR w wr k kk ca cap ta tcap T q s)(v:Int):RR w (wr.setCell ⟨k.h,22,none⟩ (.int .i64 v)) k kk ca cap ta tcap T { q with ran:=v } s:=
 have c:zI [k.h] wr (wr.setCell ⟨k.h,22,none⟩ (.int .i64 v)):=(zI.refl _ _).set aC _ _
 h0.step (h0.qw.setRan v) (h0.m.keep (zQ c) (fun x hx e=>by rw[List.mem_singleton] at e;subst e;exact h0.dj _ hx (zAQ k))) ⟨h0.H.r,h0.H.sp,h0.H.c,h0.H.st,h0.H.rb,h0.H.sb,h0.H.cb,h0.H.mo⟩ c (fun x hx=>by rw[List.mem_singleton] at hx;subst hx;exact .inr (h0.ow _ (zAQ k))) h0.ow h0.lf
structure RE2(w wr:World)(k:QB)(kk:Va.RB)(ws tb:Value)(q:HQ)(m:Va.MS):Prop where
 qw:QW wr k ws tb (.pointer (some ⟨kk.y,0,none⟩)) q
 m:Va.RM wr kk m
 b1:wr.heap[w.heap.size+1]?=some (.cells #[.int .u32 0,.int .u32 0,.int .u32 0,.int .u32 0,.int .u32 0,.int .u32 0,.int .u32 0,.int .u32 0,.int .u32 0,.int .u32 0,.int .u32 0,.int .u32 0] 25)
 b2:wr.heap[w.heap.size+1+1]?=some (.cells (uX 0 0 0 0 0 0) 37)
 ch:zI kk.all w wr
 ow:∀ x∈k.own,w.heap.size+1+1 < x
 kl:∀ x∈kk.y :: kk.all,x < w.heap.size
theorem RR.left{w wr:World}{k:QB}{kk:Va.RB}{ca:Option Addr}{cap:Nat}{ta:Option Addr}{tcap:Nat}{T:PT}{q:HQ}{s:HS Va.MS}(h0:RR w wr k kk ca cap ta tcap T q s):RE2 w wr k kk (.slice ca T.len cap) (.slice ta T.tl tcap) q s.m:=⟨h0.qw,h0.m,h0.b1,h0.b2,h0.ch,h0.ow,h0.kl⟩
theorem RR.out{w wr:World}{k:QB}{kk:Va.RB}{ca:Option Addr}{cap:Nat}{ta:Option Addr}{tcap:Nat}{T:PT}{q:HQ}{s:HS Va.MS}(h0:RR w wr k kk ca cap ta tcap T q s){q':HQ}{m':Va.MS}{w':World}(hq:QW w' k (.slice ca T.len cap) (.slice ta T.tl tcap) (.pointer (some ⟨kk.y,0,none⟩)) q')(hm:Va.RM w' kk m')(c:zI (k.own++kk.all) wr w'):RE2 w w' k kk (.slice ca T.len cap) (.slice ta T.tl tcap) q' m':=by
 have hU:∀ x∈k.own++kk.all,x∈kk.all∨w.heap.size+1+1 < x:=fun x hx=>by
  rcases List.mem_append.1 hx with e|e
  ·exact .inr (h0.ow x e)
  ·exact .inl e
 have nn:∀ x,w.heap.size≤x→x≤w.heap.size+1+1→x∉k.own++kk.all:=fun x h1 h2 e=>by
  rcases List.mem_append.1 e with e|e
  ·have:=h0.ow x e;omega
  ·have:=h0.kl x (aM _ e);omega
 exact⟨hq,hm,(c.block _ (ltb h0.b1) (nn _ aO aO)).trans h0.b1,(c.block _ (ltb h0.b2) (nn _ aO aO)).trans h0.b2,h0.ch.into c (fun x hx=>by
  rcases hU x hx with h1|h1
  ·exact .inl h1
  ·exact .inr aO),h0.ow,h0.kl⟩
theorem RR.go{w wr:World}{k:QB}{kk:Va.RB}{ca:Option Addr}{cap:Nat}{ta:Option Addr}{tcap:Nat}{T:PT}{q:HQ}{s:HS Va.MS}(h0:RR w wr k kk ca cap ta tcap T q s){k':QB}{q':HQ}{s':HS Va.MS}{w':World}(hq:QW w' k' (.slice ca T.len cap) (.slice ta T.tl tcap) (.pointer (some ⟨kk.y,0,none⟩)) q')(hm:Va.RM w' kk s'.m)(H:HQR q' s')(c:zI (k.own++kk.all) wr w')(ho:∀ x∈k'.own,x∈k.own∨wr.heap.size≤x)(hl:q'.left=q.left):RR w w' k' kk ca cap ta tcap T q' s':=by
 refine h0.step hq hm H c (fun x hx=>?_) (fun x hx=>?_) (hl.trans h0.lf)
 ·rcases List.mem_append.1 hx with e|e
  ·exact .inr (h0.ow x e)
  ·exact .inl e
 ·rcases ho x hx with e|e
  ·exact h0.ow x e
  ·have:=ltb h0.b2;omega
theorem RE2.al{w wr:World}{k:QB}{kk:Va.RB}{ws tb:Value}{q:HQ}{m:Va.MS}(h:RE2 w wr k kk ws tb q m)(o:Obj):RE2 w (wr.alloc o) k kk ws tb q m:=
 have b:Below wr.heap.size wr (wr.alloc o):=aB.alloc aL o
 ⟨h.qw.al o,h.m.below b aL,(b.block _ (ltb h.b1)).trans h.b1,(b.block _ (ltb h.b2)).trans h.b2,h.ch.alloc o,h.ow,h.kl⟩
theorem RE2.fin{w wr V:World}{k:QB}{kk:Va.RB}{ws tb:Value}{q:HQ}{m:Va.MS}(h:RE2 w wr k kk ws tb q m)(c:zI [w.heap.size+1,w.heap.size+1+1] wr V):Va.RM V kk m∧zI kk.all w V:=
 ⟨h.m.keep (zQ c) (fun x hx e=>by have:=h.kl x hx;simp at e;omega),h.ch.into c (fun x hx=>by simp at hx;exact .inr aO)⟩
structure FX(w V wx:World)(c:Nat→Nat):Prop where
 m:V.cell? ⟨w.heap.size+1,0,none⟩=some (.int .u32 (c 0))∧V.cell? ⟨w.heap.size+1,1,none⟩=some (.int .u32 (c 1))∧V.cell? ⟨w.heap.size+1,2,none⟩=some (.int .u32 (c 2))∧V.cell? ⟨w.heap.size+1,3,none⟩=some (.int .u32 (c 3))∧V.cell? ⟨w.heap.size+1,4,none⟩=some (.int .u32 (c 4))∧V.cell? ⟨w.heap.size+1,5,none⟩=some (.int .u32 (c 5))∧V.cell? ⟨w.heap.size+1,6,none⟩=some (.int .u32 (c 6))∧V.cell? ⟨w.heap.size+1,7,none⟩=some (.int .u32 (c 7))∧V.cell? ⟨w.heap.size+1,8,none⟩=some (.int .u32 (c 8))∧V.cell? ⟨w.heap.size+1,9,none⟩=some (.int .u32 (c 9))∧V.cell? ⟨w.heap.size+1,10,none⟩=some (.int .u32 (c 10))∧V.cell? ⟨w.heap.size+1,11,none⟩=some (.int .u32 (c 11))
 ch:zI [w.heap.size+1] wx V
 y0:V.cell? ⟨w.heap.size+1+1,0,none⟩=some (.int .i64 0)
 y1:V.cell? ⟨w.heap.size+1+1,1,none⟩=some (.int .i64 0)
 y2:V.cell? ⟨w.heap.size+1+1,2,none⟩=some (.int .u32 0)
 y3:V.cell? ⟨w.heap.size+1+1,3,none⟩=some (.int .u32 0)
 y4:V.cell? ⟨w.heap.size+1+1,4,none⟩=some (.int .i64 0)
 y5:V.cell? ⟨w.heap.size+1+1,5,none⟩=some (.int .i64 0)
 yf:∀ o,V.frozen? ⟨w.heap.size+1+1,o,none⟩=false
 yl:w.heap.size+1+1 < V.heap.size
theorem zIe{w wx:World}(c:Nat→Nat)(b1:wx.heap[w.heap.size+1]?=some (.cells #[.int .u32 0,.int .u32 0,.int .u32 0,.int .u32 0,.int .u32 0,.int .u32 0,.int .u32 0,.int .u32 0,.int .u32 0,.int .u32 0,.int .u32 0,.int .u32 0] 25))(b2:wx.heap[w.heap.size+1+1]?=some (.cells (uX 0 0 0 0 0 0) 37)):FX w (wx.setCells (w.heap.size+1) 0 [.int .u32 (c 0),.int .u32 (c 1),.int .u32 (c 2),.int .u32 (c 3),.int .u32 (c 4),.int .u32 (c 5),.int .u32 (c 6),.int .u32 (c 7),.int .u32 (c 8),.int .u32 (c 9),.int .u32 (c 10),.int .u32 (c 11)]) wx c:=by
 have far:∀ X o,X≠w.heap.size+1→(wx.setCells (w.heap.size+1) 0 [.int .u32 (c 0),.int .u32 (c 1),.int .u32 (c 2),.int .u32 (c 3),.int .u32 (c 4),.int .u32 (c 5),.int .u32 (c 6),.int .u32 (c 7),.int .u32 (c 8),.int .u32 (c 9),.int .u32 (c 10),.int .u32 (c 11)]).cell? ⟨X,o,none⟩=wx.cell? ⟨X,o,none⟩:=fun X o hX=>zFf _ _ _ _ _ hX
 have e2:=fun o=>(far (w.heap.size+1+1) o aO).trans (cel b2 o)
 have hsame:=World.rangeAt_setCells_same wx (w.heap.size+1) 0 [.int .u32 (c 0),.int .u32 (c 1),.int .u32 (c 2),.int .u32 (c 3),.int .u32 (c 4),.int .u32 (c 5),.int .u32 (c 6),.int .u32 (c 7),.int .u32 (c 8),.int .u32 (c 9),.int .u32 (c 10),.int .u32 (c 11)] (zAS b1)
 have hm:∀ j,j < 12→∀ v,([.int .u32 (c 0),.int .u32 (c 1),.int .u32 (c 2),.int .u32 (c 3),.int .u32 (c 4),.int .u32 (c 5),.int .u32 (c 6),.int .u32 (c 7),.int .u32 (c 8),.int .u32 (c 9),.int .u32 (c 10),.int .u32 (c 11)]:List Value)[j]?=some v→(wx.setCells (w.heap.size+1) 0 [.int .u32 (c 0),.int .u32 (c 1),.int .u32 (c 2),.int .u32 (c 3),.int .u32 (c 4),.int .u32 (c 5),.int .u32 (c 6),.int .u32 (c 7),.int .u32 (c 8),.int .u32 (c 9),.int .u32 (c 10),.int .u32 (c 11)]).cell? ⟨w.heap.size+1,j,none⟩=some v:=fun j hj v hv=>by have h1:=hsame j v hv;rwa [Nat.zero_add] at h1
 refine⟨⟨hm 0 aD _ rfl,hm 1 aD _ rfl,hm 2 aD _ rfl,hm 3 aD _ rfl,hm 4 aD _ rfl,hm 5 aD _ rfl,hm 6 aD _ rfl,hm 7 aD _ rfl,hm 8 aD _ rfl,hm 9 aD _ rfl,hm 10 aD _ rfl,hm 11 aD _ rfl⟩,zCa (zI.refl _ _) aC _ _,e2 0,e2 1,e2 2,e2 3,e2 4,e2 5,fun o=>(zFg _ _ _ _ _).trans (fro b2 o),?_⟩
 ·rw[zB6];exact ltb b2
theorem QW.cs{w:World}{k:QB}{ws tb mp:Value}{q:HQ}{c:Nat→Nat}(h:QW w k ws tb mp q)(e:q.c=c):w.cell? ⟨k.h,2,none⟩=some (.int .u32 (c 0))∧w.cell? ⟨k.h,3,none⟩=some (.int .u32 (c 1))∧w.cell? ⟨k.h,4,none⟩=some (.int .u32 (c 2))∧w.cell? ⟨k.h,5,none⟩=some (.int .u32 (c 3))∧w.cell? ⟨k.h,6,none⟩=some (.int .u32 (c 4))∧w.cell? ⟨k.h,7,none⟩=some (.int .u32 (c 5))∧w.cell? ⟨k.h,8,none⟩=some (.int .u32 (c 6))∧w.cell? ⟨k.h,9,none⟩=some (.int .u32 (c 7))∧w.cell? ⟨k.h,10,none⟩=some (.int .u32 (c 8))∧w.cell? ⟨k.h,11,none⟩=some (.int .u32 (c 9))∧w.cell? ⟨k.h,12,none⟩=some (.int .u32 (c 10))∧w.cell? ⟨k.h,13,none⟩=some (.int .u32 (c 11))∧k.h < w.heap.size:=by
 subst e
 exact⟨h.h.c 2 aO,h.h.c 3 aO,h.h.c 4 aO,h.h.c 5 aO,h.h.c 6 aO,h.h.c 7 aO,h.h.c 8 aO,h.h.c 9 aO,h.h.c 10 aO,h.h.c 11 aO,h.h.c 12 aO,h.h.c 13 aO,h.h.lt⟩
theorem zEt{P:Program}{ops:Array Oper}{Q:Exit→Act→World→Prop}{l:List Oper}{a:Act}{W:World}(p:World→Prop)(h:p W)(k:∀ w',p w'→wpList P ops Q l a w'):wpList P ops Q l a W:=k W h
theorem zPU{w wr:World}{k:QB}{kk:Va.RB}{ws tb:Value}{q:HQ}{m:Va.MS}{c:Nat→Nat}{L:LF}(h:RE2 w wr k kk ws tb q m)(e:q.c=c):FN w (wr.alloc (.cells (yE L) 37)) k.h 2 c L wr.heap.size:=by
 have h2:=h.al (.cells (yE L) 37)
 subst e
 exact⟨zGM q h2.qw rfl,h2.qw.h.lt,heap_alloc_last _ _,h2.b1,h2.b2,h.ow _ (zAQ k),ltb h.b2⟩
def hqR(K:QB)(ws tb mp:Value)(q:HQ)(o:Nat):Value:=if 18≤o∧o≤21 then .slice none 0 0 else hqF K ws tb mp q o
abbrev hq0(c:Nat→Nat)(at0 left:Int):HQ:=⟨c,at0,left,0,0,fun _=>0,fun _=>false,fun _=>0,fun _=>false,false⟩
theorem zN2(K:QB){W:World}{B:Nat}{ws tb mp:Value}{c:Nat→Nat}{at0 left:Int}(h:W.heap[B]?=some (.cells #[ws,.int .i64 at0,.int .u32 (c 0),.int .u32 (c 1),.int .u32 (c 2),.int .u32 (c 3),.int .u32 (c 4),.int .u32 (c 5),.int .u32 (c 6),.int .u32 (c 7),.int .u32 (c 8),.int .u32 (c 9),.int .u32 (c 10),.int .u32 (c 11),mp,.int .i64 left,.int .i64 0,tb,.slice none 0 0,.slice none 0 0,.slice none 0 0,.slice none 0 0,.int .i64 0,.bool false] 66)):BC 24 W B (hqR K ws tb mp (hq0 c at0 left)):=
 ⟨fun o ho=>(cel h o).trans (match o,ho with
  | 0,_|1,_|2,_|3,_|4,_|5,_|6,_|7,_|8,_|9,_|10,_|11,_|12,_|13,_|14,_|15,_|16,_|17,_|18,_|19,_|20,_|21,_|22,_|23,_=>rfl
  | m+24,h=>absurd h aO),fun o=>fro h o,ltb h⟩
theorem hp4(w:World)(o1 o2 o3 o4:Obj):((((w.alloc o1).alloc o2).alloc o3).alloc o4).heap[w.heap.size]?=some o1∧((((w.alloc o1).alloc o2).alloc o3).alloc o4).heap[w.heap.size+1]?=some o2∧((((w.alloc o1).alloc o2).alloc o3).alloc o4).heap[w.heap.size+1+1]?=some o3∧((((w.alloc o1).alloc o2).alloc o3).alloc o4).heap[w.heap.size+1+1+1]?=some o4:=by
 refine⟨?_,?_,?_,?_⟩
 ·show((((w.heap.push o1).push o2).push o3).push o4)[w.heap.size]?=some o1
  rw[Array.getElem?_push,if_neg zq7,Array.getElem?_push,if_neg zq7,Array.getElem?_push,if_neg aS,Array.getElem?_push,if_pos rfl]
 ·show((((w.heap.push o1).push o2).push o3).push o4)[w.heap.size+1]?=some o2
  rw[Array.getElem?_push,if_neg aS,Array.getElem?_push,if_neg aS,Array.getElem?_push,if_pos aS]
 ·show((((w.heap.push o1).push o2).push o3).push o4)[w.heap.size+1+1]?=some o3
  rw[Array.getElem?_push,if_neg aS,Array.getElem?_push,if_pos aS]
 ·show((((w.heap.push o1).push o2).push o3).push o4)[w.heap.size+1+1+1]?=some o4
  rw[Array.getElem?_push,if_pos aS]
theorem zJV{w w1:World}{kk:Va.RB}{ca:Option Addr}{cap:Nat}{ta:Option Addr}{tcap:Nat}{T:PT}{c:Nat→Nat}{m:Va.MS}{at0:Int}{k:QB}{o4:Obj}
  (hq:QW w1 k (.slice ca T.len cap) (.slice ta T.tl tcap) (.pointer (some ⟨kk.y,0,none⟩)) (hq0 c at0 T.left)) (hc:zI [w.heap.size+1+1+1] ((((w.alloc (.cells (Va.cxA c) 25)).alloc (.cells #[.int .u32 0,.int .u32 0,.int .u32 0,.int .u32 0,.int .u32 0,.int .u32 0,.int .u32 0,.int .u32 0,.int .u32 0,.int .u32 0,.int .u32 0,.int .u32 0] 25)).alloc (.cells (uX 0 0 0 0 0 0) 37)).alloc o4) w1) (hk:∀ x∈k.own,w.heap.size+1+1 < x)
  (hp:∀ W,zI [] w W→Wds W ca T.len cap T.ws∧(T.tl=0∨∃ tq toff,ta=some ⟨tq,toff,none⟩∧TR W tq toff T.tl T.tp T.ta∧T.tl≤140737488355328)∧Va.RM W kk m) (hcx:Va.zA0 c) (hmo:m.Ok) (hkl:∀ x∈kk.y :: kk.all,x < w.heap.size) (hcl:0 < T.len→∀ b o,ca=some ⟨b,o,none⟩→b < w.heap.size∧b∉kk.all) (htl:0 < T.tl→∀ b o,ta=some ⟨b,o,none⟩→b < w.heap.size∧b∉kk.all):w1.heap[w.heap.size]?=some (.cells (Va.cxA c) 25)∧RE2 w w1 k kk (.slice ca T.len cap) (.slice ta T.tl tcap) (hq0 c at0 T.left) m∧RR w w1 k kk ca cap ta tcap T (hq0 c at0 T.left) ⟨fun _=>none,fun _=>none,c,m⟩:=by
 have h4:=hp4 w (.cells (Va.cxA c) 25) (.cells #[.int .u32 0,.int .u32 0,.int .u32 0,.int .u32 0,.int .u32 0,.int .u32 0,.int .u32 0,.int .u32 0,.int .u32 0,.int .u32 0,.int .u32 0,.int .u32 0] 25) (.cells (uX 0 0 0 0 0 0) 37) o4
 have c0:zI [] w ((((w.alloc (.cells (Va.cxA c) 25)).alloc (.cells #[.int .u32 0,.int .u32 0,.int .u32 0,.int .u32 0,.int .u32 0,.int .u32 0,.int .u32 0,.int .u32 0,.int .u32 0,.int .u32 0,.int .u32 0,.int .u32 0] 25)).alloc (.cells (uX 0 0 0 0 0 0) 37)).alloc o4):=((((zI.refl _ _).alloc _).alloc _).alloc _).alloc _
 have c1:zI [] w w1:=c0.into hc (fun x hx=>by rw[List.mem_singleton] at hx;exact .inr aO)
 obtain⟨p1,p2,p3⟩:=hp w1 c1
 have e0:=hc.keep h4.1 zq7
 have e1:=hc.keep h4.2.1 aS
 have e2:=hc.keep h4.2.2.1 aS
 exact⟨e0,⟨hq,p3,e1,e2,c1.mono aS,hk,hkl⟩,⟨hq,p3,⟨fun _=>rfl,fun _=>rfl,rfl,rfl,fun _=>zq70,fun _=>zq70,hcx,hmo⟩,p1,p2,e1,e2,c1.mono aS,hk,hkl,hcl,htl,rfl⟩⟩
end Go.Proofs.YthcpipfmicbnmaaGreat.Ho
