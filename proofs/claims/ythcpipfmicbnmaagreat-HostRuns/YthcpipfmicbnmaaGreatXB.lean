import Derived.Test.YthcpipfmicbnmaaGreatXA
import Derived.Test.YthcpipfmicbnmaaGreatNF
set_option linter.unusedVariables false
set_option linter.unusedSimpArgs false
set_option maxHeartbeats 4000000
namespace Go.Proofs.YthcpipfmicbnmaaGreat.Ho
open Go.RowKit
set_option maxRecDepth 100000
theorem zMF(w:World)(X Y Z:Obj):(((w.alloc X).alloc Y).alloc Z).drew.heap[w.heap.size]?=some X:=by
 show(((w.heap.push X).push Y).push Z)[w.heap.size]?=some X
 rw[Array.getElem?_push,if_neg zq7,Array.getElem?_push,if_neg aS,Array.getElem?_push,if_pos rfl]
theorem zMH(w:World)(X Y Z:Obj):(((w.alloc X).alloc Y).alloc Z).drew.heap[w.heap.size+1+1]?=some Z:=by
 show(((w.heap.push X).push Y).push Z)[w.heap.size+1+1]?=some Z
 rw[Array.getElem?_push,if_pos aS]
structure SB(w W:World)(k:QB)(ws tb mp:Value)(q:HQ)(C:Array Value)(pc:Nat)(n:Int):Prop where
 q:QW W k ws tb mp q
 b0:W.heap[w.heap.size]?=some (.cells C 69)
 b1:W.heap[w.heap.size+1]?=some (.cells (uX 0 0 0 0 0 0) 37)
 b2:W.heap[w.heap.size+1+1]?=some (.cells (uX 0 0 0 pc n 0) 37)
 ch:zI k.own w W
theorem zAW{w w1:World}{k:QB}{ws tb mp:Value}{q:HQ}{C:Array Value}{pc:Nat}{n:Int}(hq:QW w1 k ws tb mp q)(hc:zI [k.h] (((w.alloc (.cells C 69)).alloc (.cells (uX 0 0 0 0 0 0) 37)).alloc (.cells (uX 0 0 0 pc n 0) 37)).drew w1)(lh:k.h < w.heap.size):SB w w1 k ws tb mp q C pc n:=
 ⟨hq,hc.keep (zMF w _ _ _) zq7,hc.keep (zC7 w _ _ _) zq7,hc.keep (zMH w _ _ _) zq7,zI.trans ((((zI.refl _ _).alloc _).alloc _).alloc _).drew (hc.mono zq56)⟩
theorem SB.bel{w W W':World}{k:QB}{ws tb mp:Value}{q:HQ}{C:Array Value}{pc:Nat}{n:Int}(h:SB w W k ws tb mp q C pc n)(b:Below W.heap.size W W'):SB w W' k ws tb mp q C pc n:=
 ⟨h.q.chg (S:=[]) (zI.of_below _ b) (fun _ _=>by simp),(b.block _ (lty h.b0)).trans h.b0,(b.block _ (lty h.b1)).trans h.b1,(b.block _ (lty h.b2)).trans h.b2,h.ch.trans (zI.of_below _ b)⟩
theorem SB.stick{w W:World}{k:QB}{ws tb mp:Value}{q:HQ}{C:Array Value}{pc:Nat}{n:Int}(h:SB w W k ws tb mp q C pc n)(lh:k.h < w.heap.size)(b:Bool):SB w (W.setCell ⟨k.h,23,none⟩ (.bool b)) k ws tb mp { q with stuck:=b } C pc n:=
 have c:zI [k.h] W (W.setCell ⟨k.h,23,none⟩ (.bool b)):=(zI.refl _ _).set aC _ _
 ⟨h.q.stick b,c.keep h.b0 zq7,c.keep h.b1 zq7,c.keep h.b2 zq7,h.ch.trans (c.mono zq56)⟩
theorem yN{w:World}{k:QB}{ws tb mp:Value}{q:HQ}(h:QW w k ws tb mp q):∀ x∈k.own,x < w.heap.size:=by
 intro x hx
 simp only[QB.own,List.mem_cons,List.not_mem_nil,or_false] at hx
 rcases hx with rfl|rfl|rfl|rfl|rfl
 ·exact h.h.lt
 ·exact h.r.lt
 ·exact h.g.lt
 ·exact h.s.lt
 ·exact h.d.lt
theorem zOx(k:QB)(ws tb mp:Value)(q:HQ)(v:Int)(o:Nat)(ho:o < 24):upd (hqF k ws tb mp q) 1 (.int .i64 v) o=hqF k ws tb mp { q with at_:=v } o:=by
 unfold upd hqF
 by_cases e:o=1
 ·subst e;rfl
 ·simp only[if_neg e]
theorem zMJ(k:QB)(ws tb mp:Value)(q:HQ)(v:Int)(o:Nat)(ho:o < 24):upd (hqF k ws tb mp q) 22 (.int .i64 v) o=hqF k ws tb mp { q with ran:=v } o:=by
 unfold upd hqF
 by_cases e:o=22
 ·subst e;rfl
 ·simp only[if_neg e]
theorem zK0(k:QB)(ws tb mp:Value)(q:HQ)(v:Int)(o:Nat)(ho:o < 24):upd (hqF k ws tb mp q) 16 (.int .i64 v) o=hqF k ws tb mp { q with done:=v } o:=by
 unfold upd hqF
 by_cases e:o=16
 ·subst e;rfl
 ·simp only[if_neg e]
theorem QW.setAt{w:World}{k:QB}{ws tb mp:Value}{q:HQ}(h:QW w k ws tb mp q)(v:Int):QW (w.setCell ⟨k.h,1,none⟩ (.int .i64 v)) k ws tb mp { q with at_:=v }:=
 ⟨(h.h.set 1 aO _).congr (fun o ho=>zOx k ws tb mp q v o ho),h.r.other h.hr _ _,h.g.other h.hg _ _,h.s.other h.hs _ _,h.d.other h.hd _ _,h.hr,h.hg,h.hs,h.hd,h.rg,h.rs,h.rd,h.gs,h.gd,h.sd⟩
theorem QW.setRan{w:World}{k:QB}{ws tb mp:Value}{q:HQ}(h:QW w k ws tb mp q)(v:Int):QW (w.setCell ⟨k.h,22,none⟩ (.int .i64 v)) k ws tb mp { q with ran:=v }:=
 ⟨(h.h.set 22 aO _).congr (fun o ho=>zMJ k ws tb mp q v o ho),h.r.other h.hr _ _,h.g.other h.hg _ _,h.s.other h.hs _ _,h.d.other h.hd _ _,h.hr,h.hg,h.hs,h.hd,h.rg,h.rs,h.rd,h.gs,h.gd,h.sd⟩
theorem QW.setDone{w:World}{k:QB}{ws tb mp:Value}{q:HQ}(h:QW w k ws tb mp q)(v:Int):QW (w.setCell ⟨k.h,16,none⟩ (.int .i64 v)) k ws tb mp { q with done:=v }:=
 ⟨(h.h.set 16 aO _).congr (fun o ho=>zK0 k ws tb mp q v o ho),h.r.other h.hr _ _,h.g.other h.hg _ _,h.s.other h.hs _ _,h.d.other h.hd _ _,h.hr,h.hg,h.hs,h.hd,h.rg,h.rs,h.rd,h.gs,h.gd,h.sd⟩
theorem zFk(k:QB)(ws tb mp:Value)(q:HQ)(d n b c:Int)(a kk xx:Nat)(w:World)(hq:QW w k ws tb mp q)(hn0:0≤q.done+n)(hn1:q.done+n≤9223372036854775807)(ha:a < 16)(hv:(q.reg a==0)=false) :
  Calls Tryz.prog 24 #[.pointer (some ⟨k.h,0,none⟩),.agg (yJ 11 d a b c n kk xx)] w fun e w'=>e=.returned (.agg (uX 1 0 0 kk (q.done+n) 0))∧QW w' k ws tb mp { q with stuck:=q.stuck || !(q.has a) }∧zI k.own w w':=by
 have lh:=hq.h.lt
 have c16:w.cell? ⟨k.h,16,none⟩=some (.int .i64 q.done):=hq.h.c 16 aO
 have HQ':Hid _:=hq
 have HLH:Hid _:=hq.h.lt
 have l1:k.h < w.heap.size+1:=aO
 have l2:k.h < w.heap.size+1+1:=aO
 have l3:k.h < w.heap.size+1+1+1:=aO
 have N1:Hid (w.heap.size+1∉k.own):=show w.heap.size+1∉k.own from fun e=>by have:=yN hq _ e;omega
 have N2:Hid (w.heap.size+1+1∉k.own):=show w.heap.size+1+1∉k.own from fun e=>by have:=yN hq _ e;omega
 have HA:Hid _:=ha
 have hv2:(((q.reg a:Nat):Int)==0)=false:=by
   have:q.reg a≠0:=by simpa using hv
   simpa using this
 clear hq ha
 go_enter Tryz.func24,Tryz.ntmps24
 go_upto_region 1 with fail
 go_region
 all_goals go_wp2_with (go_at_call 38;refine Calls.mono (vH k ws tb mp q a _ ?_ HA.out) ?_;(exact zq3);rintro e w1 ⟨rfl,hq1,hc1⟩;have HB1:Hid (SB w w1 k ws tb mp { q with stuck:=q.stuck || !(q.has a) } (yJ 11 d a b c n kk xx) kk (q.done+n)):=zAW hq1 hc1 HLH.out;obtain⟨z0,z1,z2,z3,z4,z5,zf,zl⟩:=uU HB1.out.b1;obtain⟨x0,x1,x2,x3,x4,x5,xf,xl⟩:=uU HB1.out.b2;obtain⟨y0,y1,y2,y3,y4,y5,y6,y7,yf,yl⟩:=rw8 HB1.out.b0;clear hq1 hc1)
 all_goals exact bodyPost_ret (v:=.agg (uX 1 0 0 kk (q.done+n) 0)) zq18 rfl ⟨rfl,by(focus(repeat first|with_reducible exact HB1.out.q|with_reducible refine QW.oth ?_ N1.out _ _|with_reducible refine QW.oth ?_ N2.out _ _|with_reducible refine QW.al ?_ _|with_reducible refine QW.dr ?_|with_reducible refine QW.drN ?_ _)),zq12⟩
theorem zFj(k:QB)(ws tb mp:Value)(q:HQ)(d n b c:Int)(a kk xx:Nat)(w:World)(hq:QW w k ws tb mp q)(hn0:0≤q.done+n)(hn1:q.done+n≤9223372036854775807)(ha:a < 16)(hv:q.reg a=0) :
  Calls Tryz.prog 24 #[.pointer (some ⟨k.h,0,none⟩),.agg (yJ 11 d a b c n kk xx)] w fun e w'=>e=.returned (.agg (uX 0 0 0 0 0 0))∧QW w' k ws tb mp { q with stuck:=q.stuck || !(q.has a) }∧zI k.own w w':=by
 have lh:=hq.h.lt
 have c16:w.cell? ⟨k.h,16,none⟩=some (.int .i64 q.done):=hq.h.c 16 aO
 have HQ':Hid _:=hq
 have HLH:Hid _:=hq.h.lt
 have l1:k.h < w.heap.size+1:=aO
 have l2:k.h < w.heap.size+1+1:=aO
 have l3:k.h < w.heap.size+1+1+1:=aO
 have N1:Hid (w.heap.size+1∉k.own):=show w.heap.size+1∉k.own from fun e=>by have:=yN hq _ e;omega
 have N2:Hid (w.heap.size+1+1∉k.own):=show w.heap.size+1+1∉k.own from fun e=>by have:=yN hq _ e;omega
 have HA:Hid _:=ha
 have hv2:(((q.reg a:Nat):Int)==0)=true:=by simp[hv]
 clear hq ha
 go_enter Tryz.func24,Tryz.ntmps24
 go_upto_region 1 with fail
 go_region
 all_goals go_wp2_with (go_at_call 38;refine Calls.mono (vH k ws tb mp q a _ ?_ HA.out) ?_;(exact zq3);rintro e w1 ⟨rfl,hq1,hc1⟩;have HB1:Hid (SB w w1 k ws tb mp { q with stuck:=q.stuck || !(q.has a) } (yJ 11 d a b c n kk xx) kk (q.done+n)):=zAW hq1 hc1 HLH.out;obtain⟨z0,z1,z2,z3,z4,z5,zf,zl⟩:=uU HB1.out.b1;obtain⟨x0,x1,x2,x3,x4,x5,xf,xl⟩:=uU HB1.out.b2;obtain⟨y0,y1,y2,y3,y4,y5,y6,y7,yf,yl⟩:=rw8 HB1.out.b0;clear hq1 hc1)
 all_goals exact bodyPost_ret (v:=.agg (uX 0 0 0 0 0 0)) zq18 rfl ⟨rfl,by(focus(repeat first|with_reducible exact HB1.out.q|with_reducible refine QW.oth ?_ N1.out _ _|with_reducible refine QW.oth ?_ N2.out _ _|with_reducible refine QW.al ?_ _|with_reducible refine QW.dr ?_|with_reducible refine QW.drN ?_ _)),zq12⟩
theorem zD7(k:QB)(ws tb mp:Value)(q:HQ)(d n b c:Int)(a kk xx:Nat)(w:World)(hq:QW w k ws tb mp q)(hn0:0≤q.done+n)(hn1:q.done+n≤9223372036854775807)(ha:a < 16)(hv:(q.reg a==0)=false) :
  Calls Tryz.prog 24 #[.pointer (some ⟨k.h,0,none⟩),.agg (yJ 13 d a b c n kk xx)] w fun e w'=>e=.returned (.agg (uX 3 d xx kk (q.done+n) 0))∧QW w' k ws tb mp { q with stuck:=q.stuck || !(q.has a) }∧zI k.own w w':=by
 have lh:=hq.h.lt
 have c16:w.cell? ⟨k.h,16,none⟩=some (.int .i64 q.done):=hq.h.c 16 aO
 have HQ':Hid _:=hq
 have HLH:Hid _:=hq.h.lt
 have l1:k.h < w.heap.size+1:=aO
 have l2:k.h < w.heap.size+1+1:=aO
 have l3:k.h < w.heap.size+1+1+1:=aO
 have N1:Hid (w.heap.size+1∉k.own):=show w.heap.size+1∉k.own from fun e=>by have:=yN hq _ e;omega
 have N2:Hid (w.heap.size+1+1∉k.own):=show w.heap.size+1+1∉k.own from fun e=>by have:=yN hq _ e;omega
 have HA:Hid _:=ha
 have hv2:(((q.reg a:Nat):Int)==0)=false:=by
   have:q.reg a≠0:=by simpa using hv
   simpa using this
 clear hq ha
 go_enter Tryz.func24,Tryz.ntmps24
 go_upto_region 1 with fail
 go_region
 all_goals go_wp2_with (go_at_call 38;refine Calls.mono (vH k ws tb mp q a _ ?_ HA.out) ?_;(exact zq3);rintro e w1 ⟨rfl,hq1,hc1⟩;have HB1:Hid (SB w w1 k ws tb mp { q with stuck:=q.stuck || !(q.has a) } (yJ 13 d a b c n kk xx) kk (q.done+n)):=zAW hq1 hc1 HLH.out;obtain⟨z0,z1,z2,z3,z4,z5,zf,zl⟩:=uU HB1.out.b1;obtain⟨x0,x1,x2,x3,x4,x5,xf,xl⟩:=uU HB1.out.b2;obtain⟨y0,y1,y2,y3,y4,y5,y6,y7,yf,yl⟩:=rw8 HB1.out.b0;clear hq1 hc1)
 all_goals exact bodyPost_ret (v:=.agg (uX 3 d xx kk (q.done+n) 0)) zq18 rfl ⟨rfl,by(focus(repeat first|with_reducible exact HB1.out.q|with_reducible refine QW.oth ?_ N1.out _ _|with_reducible refine QW.oth ?_ N2.out _ _|with_reducible refine QW.al ?_ _|with_reducible refine QW.dr ?_|with_reducible refine QW.drN ?_ _)),zq12⟩
theorem zD6(k:QB)(ws tb mp:Value)(q:HQ)(d n b c:Int)(a kk xx:Nat)(w:World)(hq:QW w k ws tb mp q)(hn0:0≤q.done+n)(hn1:q.done+n≤9223372036854775807)(ha:a < 16)(hv:q.reg a=0) :
  Calls Tryz.prog 24 #[.pointer (some ⟨k.h,0,none⟩),.agg (yJ 13 d a b c n kk xx)] w fun e w'=>e=.returned (.agg (uX 0 0 0 0 0 0))∧QW w' k ws tb mp { q with stuck:=q.stuck || !(q.has a) }∧zI k.own w w':=by
 have lh:=hq.h.lt
 have c16:w.cell? ⟨k.h,16,none⟩=some (.int .i64 q.done):=hq.h.c 16 aO
 have HQ':Hid _:=hq
 have HLH:Hid _:=hq.h.lt
 have l1:k.h < w.heap.size+1:=aO
 have l2:k.h < w.heap.size+1+1:=aO
 have l3:k.h < w.heap.size+1+1+1:=aO
 have N1:Hid (w.heap.size+1∉k.own):=show w.heap.size+1∉k.own from fun e=>by have:=yN hq _ e;omega
 have N2:Hid (w.heap.size+1+1∉k.own):=show w.heap.size+1+1∉k.own from fun e=>by have:=yN hq _ e;omega
 have HA:Hid _:=ha
 have hv2:(((q.reg a:Nat):Int)==0)=true:=by simp[hv]
 clear hq ha
 go_enter Tryz.func24,Tryz.ntmps24
 go_upto_region 1 with fail
 go_region
 all_goals go_wp2_with (go_at_call 38;refine Calls.mono (vH k ws tb mp q a _ ?_ HA.out) ?_;(exact zq3);rintro e w1 ⟨rfl,hq1,hc1⟩;have HB1:Hid (SB w w1 k ws tb mp { q with stuck:=q.stuck || !(q.has a) } (yJ 13 d a b c n kk xx) kk (q.done+n)):=zAW hq1 hc1 HLH.out;obtain⟨z0,z1,z2,z3,z4,z5,zf,zl⟩:=uU HB1.out.b1;obtain⟨x0,x1,x2,x3,x4,x5,xf,xl⟩:=uU HB1.out.b2;obtain⟨y0,y1,y2,y3,y4,y5,y6,y7,yf,yl⟩:=rw8 HB1.out.b0;clear hq1 hc1)
 all_goals exact bodyPost_ret (v:=.agg (uX 0 0 0 0 0 0)) zq18 rfl ⟨rfl,by(focus(repeat first|with_reducible exact HB1.out.q|with_reducible refine QW.oth ?_ N1.out _ _|with_reducible refine QW.oth ?_ N2.out _ _|with_reducible refine QW.al ?_ _|with_reducible refine QW.dr ?_|with_reducible refine QW.drN ?_ _)),zq12⟩
theorem zDt(k:QB)(ws tb mp:Value)(q:HQ)(d n b c:Int)(a kk xx:Nat)(w:World)(hq:QW w k ws tb mp q)(hn0:0≤q.done+n)(hn1:q.done+n≤9223372036854775807)(ha:a < 16)(hv:q.reg a=0) :
  Calls Tryz.prog 24 #[.pointer (some ⟨k.h,0,none⟩),.agg (yJ 96 d a b c n kk xx)] w fun e w'=>e=.returned (.agg (uX 0 0 0 0 0 0))∧QW w' k ws tb mp { q with stuck:=q.stuck || !(q.has a) }∧zI k.own w w':=by
 have lh:=hq.h.lt
 have c16:w.cell? ⟨k.h,16,none⟩=some (.int .i64 q.done):=hq.h.c 16 aO
 have HQ':Hid _:=hq
 have HLH:Hid _:=hq.h.lt
 have l1:k.h < w.heap.size+1:=aO
 have l2:k.h < w.heap.size+1+1:=aO
 have l3:k.h < w.heap.size+1+1+1:=aO
 have N1:Hid (w.heap.size+1∉k.own):=show w.heap.size+1∉k.own from fun e=>by have:=yN hq _ e;omega
 have N2:Hid (w.heap.size+1+1∉k.own):=show w.heap.size+1+1∉k.own from fun e=>by have:=yN hq _ e;omega
 have HA:Hid _:=ha
 have hv2:(((q.reg a:Nat):Int)==0)=true:=by simp[hv]
 clear hq ha
 go_enter Tryz.func24,Tryz.ntmps24
 go_upto_region 1 with fail
 go_region
 all_goals go_wp2_with (go_at_call 38;refine Calls.mono (vH k ws tb mp q a _ ?_ HA.out) ?_;(exact zq3);rintro e w1 ⟨rfl,hq1,hc1⟩;have HB1:Hid (SB w w1 k ws tb mp { q with stuck:=q.stuck || !(q.has a) } (yJ 96 d a b c n kk xx) kk (q.done+n)):=zAW hq1 hc1 HLH.out;obtain⟨z0,z1,z2,z3,z4,z5,zf,zl⟩:=uU HB1.out.b1;obtain⟨x0,x1,x2,x3,x4,x5,xf,xl⟩:=uU HB1.out.b2;obtain⟨y0,y1,y2,y3,y4,y5,y6,y7,yf,yl⟩:=rw8 HB1.out.b0;clear hq1 hc1)
 all_goals exact bodyPost_ret (v:=.agg (uX 0 0 0 0 0 0)) zq18 rfl ⟨rfl,by(focus(repeat first|with_reducible exact HB1.out.q|with_reducible refine QW.oth ?_ N1.out _ _|with_reducible refine QW.oth ?_ N2.out _ _|with_reducible refine QW.al ?_ _|with_reducible refine QW.dr ?_|with_reducible refine QW.drN ?_ _)),zq12⟩
end Go.Proofs.YthcpipfmicbnmaaGreat.Ho
