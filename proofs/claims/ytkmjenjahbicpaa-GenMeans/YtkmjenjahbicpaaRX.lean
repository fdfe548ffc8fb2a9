import Derived.Test.YtkmjenjahbicpaaRW
import Derived.Deep.RegionHeld3
set_option linter.unusedVariables false
set_option linter.unusedSimpArgs false
set_option maxHeartbeats 4000000
namespace Go.Proofs.Ytkmjenjahbicpaa.Ho
open Go.RowKit
set_option maxRecDepth 100000
theorem zGT(k:QB)(ws tb mp:Value)(q:HQ)(d a b c n:Int)(kk xx:Nat)(w:World)(hq:QW w k ws tb mp q)(hn0:0≤q.done+n)(hn1:q.done+n≤9223372036854775807)(ht:∀ W,zJ [] w W→Calls Try.prog 30 #[mp] W fun e w'=>e=.returned (.bool true)∧W=w') :
  Calls Try.prog 35 #[.pointer (some ⟨k.h,0,none⟩),.agg (cdC 10 d a b c n kk xx)] w fun e w'=>e=.returned (.agg (lfC 1 0 0 kk (q.done+n) 0))∧QW w' k ws tb mp q∧zJ k.own w w':=by
 have lh:=hq.h.lt
 have c16:w.cell? ⟨k.h,16,none⟩=some (.int .i64 q.done):=hq.h.c 16 aO
 have c15:w.cell? ⟨k.h,15,none⟩=some (.int .i64 q.left):=hq.h.c 15 aO
 have c22:w.cell? ⟨k.h,22,none⟩=some (.int .i64 q.ran):=hq.h.c 22 aO
 have c14:w.cell? ⟨k.h,14,none⟩=some mp:=hq.h.c 14 aO
 have l1:k.h < w.heap.size+1:=aO
 have l2:k.h < w.heap.size+1+1:=aO
 have l3:k.h < w.heap.size+1+1+1:=aO
 have HT:Hid _:=ht
 have HQ':Hid _:=hq
 clear hq ht
 go_enter Try.func35,Try.ntmps35
 go_upto_region 1 with fail
 go_region
 all_goals go_wp2_with (go_at_call 30;refine Calls.mono (HT.out _ ?_) ?_;(exact zq3);rintro e w1 ⟨rfl,rfl⟩)
 all_goals exact bodyPost_ret (v:=.agg (lfC 1 0 0 kk (q.done+n) 0)) zq33 rfl ⟨rfl,zq4,zq3⟩
theorem zGS(k:QB)(ws tb mp:Value)(q:HQ)(d a b c n:Int)(kk xx:Nat)(w:World)(hq:QW w k ws tb mp q)(hn0:0≤q.done+n)(hn1:q.done+n≤9223372036854775807)(ht:∀ W,zJ [] w W→Calls Try.prog 30 #[mp] W fun e w'=>e=.returned (.bool false)∧W=w') :
  Calls Try.prog 35 #[.pointer (some ⟨k.h,0,none⟩),.agg (cdC 10 d a b c n kk xx)] w fun e w'=>e=.returned (.agg (lfC 0 0 0 0 0 0))∧QW w' k ws tb mp q∧zJ k.own w w':=by
 have lh:=hq.h.lt
 have c16:w.cell? ⟨k.h,16,none⟩=some (.int .i64 q.done):=hq.h.c 16 aO
 have c15:w.cell? ⟨k.h,15,none⟩=some (.int .i64 q.left):=hq.h.c 15 aO
 have c22:w.cell? ⟨k.h,22,none⟩=some (.int .i64 q.ran):=hq.h.c 22 aO
 have c14:w.cell? ⟨k.h,14,none⟩=some mp:=hq.h.c 14 aO
 have l1:k.h < w.heap.size+1:=aO
 have l2:k.h < w.heap.size+1+1:=aO
 have l3:k.h < w.heap.size+1+1+1:=aO
 have HT:Hid _:=ht
 have HQ':Hid _:=hq
 clear hq ht
 go_enter Try.func35,Try.ntmps35
 go_upto_region 1 with fail
 go_region
 all_goals go_wp2_with (go_at_call 30;refine Calls.mono (HT.out _ ?_) ?_;(exact zq3);rintro e w1 ⟨rfl,rfl⟩)
 all_goals exact bodyPost_ret (v:=.agg (lfC 0 0 0 0 0 0)) zq33 rfl ⟨rfl,zq4,zq3⟩
theorem zNG(w:World)(X Y Z:Obj)(j:Nat):((((w.alloc X).alloc Y).alloc Z).drewN j).heap[w.heap.size+1]?=some Y:=zFA w X Y Z
theorem zHQ(k:QB)(ws tb mp:Value)(q:HQ)(d a b c n:Int)(kk xx:Nat)(w:World)(hq:QW w k ws tb mp q)(hn0:0≤q.done+n)(hn1:q.done+n≤9223372036854775807)(ht:∀ W,zJ [] w W→Calls Try.prog 30 #[mp] W fun e w'=>e=.returned (.bool false)∧W=w')(hl0:0≤q.left - q.done)(hl1:q.left - q.done≤9223372036854775807)(hl:n≤q.left - q.done)(hr:q.ran < 1048576) :
  Calls Try.prog 35 #[.pointer (some ⟨k.h,0,none⟩),.agg (cdC 1 d a b c n kk xx)] w fun e w'=>e=.returned (.agg (lfC 0 0 0 0 0 0))∧(∃ k',k'.h=k.h∧(∀ x∈k'.own,x=k.h∨w.heap.size≤x)∧QW w' k' ws tb mp { q with reg:=fun _=>0,has:=fun _=>false,sp:=fun _=>0,held:=fun _=>false })∧zJ [k.h] w w':=by
 have lh:=hq.h.lt
 have c16:w.cell? ⟨k.h,16,none⟩=some (.int .i64 q.done):=hq.h.c 16 aO
 have c15:w.cell? ⟨k.h,15,none⟩=some (.int .i64 q.left):=hq.h.c 15 aO
 have c22:w.cell? ⟨k.h,22,none⟩=some (.int .i64 q.ran):=hq.h.c 22 aO
 have c14:w.cell? ⟨k.h,14,none⟩=some mp:=hq.h.c 14 aO
 have l1:k.h < w.heap.size+1:=aO
 have l2:k.h < w.heap.size+1+1:=aO
 have l3:k.h < w.heap.size+1+1+1:=aO
 have HT:Hid _:=ht
 have N4:Hid (w.heap.size+1∉[k.h]):=by show w.heap.size+1∉[k.h];simp;omega
 have HQ':Hid _:=hq
 clear hq ht
 go_enter Try.func35,Try.ntmps35
 go_upto_region 1 with fail
 go_region
 all_goals go_upto_region 9 with (go_at_call 30;refine Calls.mono (HT.out _ ?_) ?_;(exact zq3);rintro e w1 ⟨rfl,rfl⟩)
 all_goals go_quiet (fail)
 all_goals go_wp2_with (go_at_call 32;refine Calls.mono (zIR k ws tb mp q _ ?_) ?_;(focus(show BC 24 _ _ _;refine QW.h (?_:QW _ k ws tb mp q);focus(repeat first|with_reducible exact HQ'.out|with_reducible refine QW.al ?_ _|with_reducible refine QW.dr ?_|with_reducible refine QW.drN ?_ _)));rintro e w1 ⟨rfl,hq1,hc1⟩;have b4:w1.heap[w.heap.size+1]?=some (.cells (lfC 0 0 0 0 0 0) 48):=hc1.keep (zNG w _ _ _ _) N4.out;have lb4:=zE b4;have z0:=zA b4 0;have z1:=zA b4 1;have z2:=zA b4 2;have z3:=zA b4 3;have z4:=zA b4 4;have z5:=zA b4 5;have y0:=zD b4 0;have y1:=zD b4 1;have y2:=zD b4 2;have y3:=zD b4 3;have y4:=zD b4 4;have y5:=zD b4 5;have HQ1:Hid _:=hq1;have HC1:Hid _:=hc1;clear hq1 hc1)
 all_goals(
  have hc:zJ [k.h] w w1:=zJ.trans zq3 HC1.out
  have HQ2:QW w1 ⟨k.h,w.heap.size+1+1+1,w.heap.size+1+1+1+1,w.heap.size+1+1+1+1+1,w.heap.size+1+1+1+1+1+1⟩ ws tb mp { q with reg:=fun _=>0,has:=fun _=>false,sp:=fun _=>0,held:=fun _=>false }:=by
   have h:=HQ1.out
   have e:∀ (X Y Z:Obj) (j:Nat),((((w.alloc X).alloc Y).alloc Z).drewN j).heap.size=w.heap.size+1+1+1:=fun X Y Z j=>by
    show(((w.heap.push X).push Y).push Z).size=_
    simp
   simp only[e] at h
   exact h
  have hn:w.heap.size+1∉(⟨k.h,w.heap.size+1+1+1,w.heap.size+1+1+1+1,w.heap.size+1+1+1+1+1,w.heap.size+1+1+1+1+1+1⟩:QB).own:=by
   intro e
   simp only[QB.own,List.mem_cons,List.not_mem_nil,or_false] at e
   omega
  exact bodyPost_ret (v:=.agg (lfC 0 0 0 0 0 0)) (by simp[results,Try.results35,go_sem,z0,z1,z2,z3,z4,z5]) rfl ⟨rfl,⟨(⟨k.h,w.heap.size+1+1+1,w.heap.size+1+1+1+1,w.heap.size+1+1+1+1+1,w.heap.size+1+1+1+1+1+1⟩:QB),rfl,fun x hx=>by simp only[QB.own,List.mem_cons,List.not_mem_nil,or_false] at hx;omega,(by focus(repeat first|with_reducible exact HQ2|with_reducible refine QW.oth ?_ hn _ _|with_reducible refine QW.al ?_ _|with_reducible refine QW.dr ?_|with_reducible refine QW.drN ?_ _))⟩,zq41⟩)
abbrev stC(sk:Int)(ar:Int):Array Value:=#[.int .i64 sk,.int .u32 ar]
structure MW(w W:World)(k:QB)(ws tb mp:Value)(q:HQ)(C:Array Value)(sk ar:Int):Prop where
 q:QW W k ws tb mp q
 b0:W.heap[w.heap.size]?=some (.cells C 80)
 b1:W.heap[w.heap.size+1]?=some (.cells (stC sk ar) 42)
theorem hpa(w:World)(X Y:Obj):((w.alloc X).alloc Y).heap[w.heap.size]?=some X∧((w.alloc X).alloc Y).heap[w.heap.size+1]?=some Y:=by
 constructor
 ·show((w.heap.push X).push Y)[w.heap.size]?=some X
  rw[Array.getElem?_push,if_neg aS,Array.getElem?_push,if_pos rfl]
 ·show((w.heap.push X).push Y)[w.heap.size+1]?=some Y
  rw[Array.getElem?_push,if_pos aS]
theorem yI{w:World}{X:Nat}{B:Array Value}{T:TypeId}(h:w.heap[X]?=some (.cells B T))(o:Nat):w.cell? ⟨X,o,none⟩=B[o]?:=cell_of_row _ _ o _ _ (0,0) h
theorem fro{w:World}{X:Nat}{B:Array Value}{T:TypeId}(h:w.heap[X]?=some (.cells B T))(o:Nat):w.frozen? ⟨X,o,none⟩=false:=frozen_of_row _ _ o _ _ h
theorem ltb{w:World}{X:Nat}{o:Obj}(h:w.heap[X]?=some o):X < w.heap.size:=by
 rcases Nat.lt_or_ge X w.heap.size with g|g
 ·exact g
 ·rw[Array.getElem?_eq_none g] at h;cases h
theorem zCa{w:World}{k:QB}{ws tb mp:Value}{q:HQ}(h:QW w k ws tb mp q):∀ x∈k.own,x < w.heap.size:=by
 intro x hx
 simp only[QB.own,List.mem_cons,List.not_mem_nil,or_false] at hx
 rcases hx with rfl|rfl|rfl|rfl|rfl
 ·exact h.h.lt
 ·exact h.r.lt
 ·exact h.g.lt
 ·exact h.s.lt
 ·exact h.d.lt
theorem zJA(k:QB)(ws tb mp:Value)(q:HQ)(op g b c n sk ar:Int)(d a kk xx:Nat)(S:List Nat)(P P':World→Prop)(w:World)(hq:QW w k ws tb mp q)(ha:a < 16)(hh:q.has a=true)(hd:d < 16)(hhd:q.has d=true)(yD:q.stuck=false)(ho1:¬op < 88)(ho:IntKind.i64.wrap (op - 88)=g)(hS:∀ x∈k.own,x∉S)(hSn:∀ x∈S,x < w.heap.size)
  (hP0:∀ W,zJ [] w W→P W) (hPk:∀ W W' x,P' W→w.heap.size≤x→zJ [x] W W'→P' W')
  (hs:∀ W,P W→Calls Try.prog 29 #[mp,.int .i64 g,.int .u32 (q.reg a),.int .u32 (q.reg d)] W fun e w'=>e=.returned (.agg (stC sk ar))∧P' w'∧zJ S W w') :
  Calls Try.prog 65 #[.pointer (some ⟨k.h,0,none⟩),.agg (cdC op d a b c n kk xx)] w fun e w'=>e=.returned (.agg (stC sk ar))∧QW w' k ws tb mp q∧P' w'∧zJ S w w':=by
 have lh:=hq.h.lt
 have HS:Hid _:=hs
 have HSS:Hid _:=hS
 have HSN:Hid _:=hSn
 have HP0:Hid _:=hP0
 have HPK:Hid _:=hPk
 have HQ':Hid _:=hq
 have HA:Hid _:=ha
 have HH:Hid _:=hh
 have HD:Hid _:=hd
 have HHD:Hid _:=hhd
 have HST:Hid _:=yD
 have c23:w.cell? ⟨k.h,23,none⟩=some (.bool q.stuck):=hq.h.c 23 aO
 rw[yD] at c23
 clear hq hs hS ha hh hd hhd yD hSn hP0 hPk
 go_enter Try.func65,Try.ntmps65
 go_upto_region 7 with (go_at_call 64;refine Calls.mono (vM k ws tb mp q a _ ?_ HA.out HH.out) ?_;(exact zq4);rintro e w1 ⟨rfl,rfl⟩)
 go_upto_region 10 with (go_at_call 64;refine Calls.mono (vM k ws tb mp q d _ ?_ HD.out HHD.out) ?_;(exact zq4);rintro e w1 ⟨rfl,rfl⟩)
 refine zI (fun W'=>MW w W' k ws tb mp q (cdC op d a b c n kk xx) 0 0∧zJ [] w W') ⟨⟨zq4,(hpa w _ _).1,(hpa w _ _).2⟩,zq3⟩ ?_
 intro wx hW
 have HW:Hid _:=hW.1
 have HC:Hid _:=hW.2
 have lh':k.h < wx.heap.size:=hW.1.q.h.lt
 have c14:wx.cell? ⟨k.h,14,none⟩=some mp:=hW.1.q.h.c 14 aO
 have o0:wx.cell? ⟨w.heap.size,0,none⟩=some (.int .i64 op):=yI hW.1.b0 0
 have l0:=ltb hW.1.b0
 have l1:=ltb hW.1.b1
 have l1':w.heap.size+1 < wx.drew.heap.size:=l1
 clear hW c23 lh
 go_region_held3 (fun W'=>W'.cell? ⟨k.h,14,none⟩=some mp∧W'.cell? ⟨w.heap.size,0,none⟩=some (.int .i64 op)) (first|(simp[go_sem,c14,o0,lh',l0,l1];done)|(simp[go_sem,d14,p0];done))
  (first|(go_at_call 29;refine Calls.mono (HS.out _ (HP0.out _ zq27)) ?_;rintro e w1 ⟨rfl,hp1,hc1⟩;have HP1:Hid _:=hp1;have HCC:Hid (zJ S wx w1):=zJ.trans zq3 hc1;have HM1:Hid (MW w w1 k ws tb mp q (cdC op d a b c n kk xx) 0 0):=⟨HW.out.q.chg HCC.out HSS.out,(HCC.out.block _ (ltb HW.out.b0) (fun e=>absurd (HSN.out _ e) (Nat.lt_irrefl _))).trans HW.out.b0,(HCC.out.block _ (ltb HW.out.b1) (fun e=>absurd (HSN.out _ e) aO)).trans HW.out.b1⟩;have d14:w1.cell? ⟨k.h,14,none⟩=some mp:=HM1.out.q.h.c 14 aO;have p0:w1.cell? ⟨w.heap.size,0,none⟩=some (.int .i64 op):=yI HM1.out.b0 0;have z0:w1.cell? ⟨w.heap.size+1,0,none⟩=some (.int .i64 0):=yI HM1.out.b1 0;have z1:w1.cell? ⟨w.heap.size+1,1,none⟩=some (.int .u32 0):=yI HM1.out.b1 1;have zf:=fro HM1.out.b1;have zl:=ltb HM1.out.b1;clear hp1 hc1))
 all_goals(try go_wp2)
 all_goals(
  have hn:w.heap.size+1∉k.own:=fun e=>by have:=zCa HQ'.out _ e;omega
  exact bodyPost_ret (v:=.agg (stC sk ar)) (by simp[results,Try.results65,go_sem,z0,z1,zf,zl]) rfl ⟨rfl,(by focus(repeat first|with_reducible exact HM1.out.q|with_reducible refine QW.oth ?_ hn _ _|with_reducible refine QW.al ?_ _|with_reducible refine QW.dr ?_|with_reducible refine QW.drN ?_ _)),HPK.out _ _ (w.heap.size+1) HP1.out aO (zJ.set (zJ.set (zJ.refl _ _) aC _ _) aC _ _),(by focus(repeat first|with_reducible exact((show zJ S w wx from HC.out.mono aS).trans HCC.out)|with_reducible exact zJ.refl _ _|with_reducible refine zJ.setNew ?_ aO _ _|with_reducible refine zJ.alloc ?_ _|with_reducible refine zJ.drew ?_|with_reducible refine zJ.dN ?_ _))⟩)
theorem zKy{wx w1:World}{W:World}{o:Obj}(h:W.heap[wx.heap.size]?=some o)(hc:zJ [] W w1):w1.heap[wx.heap.size]?=some o:=(hc.block _ (ltb h) aS).trans h
structure LD3(w W:World)(k:QB)(ws tb mp:Value)(q:HQ)(C:Array Value)(B:Nat)(sk ar:Int):Prop where
 q:QW W k ws tb mp q
 b0:W.heap[w.heap.size]?=some (.cells C 80)
 b1:W.heap[w.heap.size+1]?=some (.cells (stC 0 0) 42)
 b2:W.heap[B]?=some (.cells (stC sk ar) 42)
 ch:zJ [] w W
 ne:w.heap.size+1 < B
theorem zOQ{w w1:World}{k:QB}{ws tb mp:Value}{q:HQ}{C:Array Value}(sk ar:Int)(h:MW w w1 k ws tb mp q C 0 0)(hc:zJ [] w w1):LD3 w (w1.alloc (.cells (stC sk ar) 42)) k ws tb mp q C w1.heap.size sk ar:=
 have a:zJ [] w1 (w1.alloc (.cells (stC sk ar) 42)):=(zJ.refl _ _).alloc _
 ⟨h.q.al _,(a.block _ (ltb h.b0) aS).trans h.b0,(a.block _ (ltb h.b1) aS).trans h.b1,heap_alloc_last _ _,hc.alloc _,ltb h.b1⟩
theorem zOR{w w1:World}{k:QB}{ws tb mp:Value}{q:HQ}{C:Array Value}{B:Nat}(sk ar:Int)(h:MW w w1 k ws tb mp q C 0 0)(hc:zJ [] w w1)(ho:∀ x∈k.own,x < w.heap.size)(hb:w1.heap[B]?=some (.cells (stC 0 0) 42))(hB:w.heap.size+1 < B):LD3 w ((w1.setCell ⟨B,0,none⟩ (.int .i64 sk)).setCell ⟨B,1,none⟩ (.int .u32 ar)) k ws tb mp q C B sk ar:=
 have n:B∉k.own:=fun e=>by have:=ho _ e;omega
 have a:zJ [B] w1 ((w1.setCell ⟨B,0,none⟩ (.int .i64 sk)).setCell ⟨B,1,none⟩ (.int .u32 ar)):=((zJ.refl _ _).set aC _ _).set aC _ _
 ⟨(h.q.oth n _ _).oth n _ _,(a.block _ (ltb h.b0) zq19).trans h.b0,(a.block _ (ltb h.b1) zq19).trans h.b1,by rw[yE (yE hb _) _];rfl,(hc.setNew aO _ _).setNew aO _ _,hB⟩
theorem zOS{w W:World}{k:QB}{ws tb mp:Value}{q q':HQ}{C:Array Value}{B:Nat}{sk ar:Int}(h:LD3 w W k ws tb mp q C B sk ar)(ho:∀ x∈k.own,x < w.heap.size){w2:World}(hq:QW w2 k ws tb mp q')(hc:zJ [k.r,k.g] W w2):w2.heap[w.heap.size+1]?=some (.cells (stC 0 0) 42)∧w2.heap[B]?=some (.cells (stC sk ar) 42)∧zJ k.own w w2:=by
 have hr:=ho k.r zq43
 have hg:=ho k.g zq43
 have hn:=h.ne
 exact⟨(hc.block _ (ltb h.b1) zq19).trans h.b1,(hc.block _ (ltb h.b2) zq19).trans h.b2,(h.ch.mono aS).trans (hc.mono zq43)⟩
theorem zNV(k:QB)(ws tb mp:Value)(q:HQ)(op g b c n sk ar:Int)(d a kk xx v:Nat)(P:World→Prop)(w:World)(hq:QW w k ws tb mp q)(ha:a < 16)(hh:q.has a=true)(hd:d < 16)(hsk:(sk==0)=true)(ho1:op < 88)(ho:IntKind.i64.wrap (op - 80)=g)
  (hP:∀ W,zJ [] w W→P W)
  (hs:∀ W,P W→Calls Try.prog 28 #[mp,.int .i64 g,.int .u32 (q.reg a)] W fun e w'=>e=.returned (.tuple #[.int .u32 v,.agg (stC sk ar)])∧zJ [] W w') :
  Calls Try.prog 65 #[.pointer (some ⟨k.h,0,none⟩),.agg (cdC op d a b c n kk xx)] w fun e w'=>e=.returned (.agg (stC sk ar))∧QW w' k ws tb mp { q with reg:=upd q.reg d v,has:=upd q.has d true }∧zJ k.own w w':=by
 have lh:=hq.h.lt
 have HS:Hid _:=hs
 have HP:Hid _:=hP
 have HQ':Hid _:=hq
 have HA:Hid _:=ha
 have HH:Hid _:=hh
 have HD:Hid _:=hd
 clear hq hs ha hh hd hP
 go_enter Try.func65,Try.ntmps65
 go_upto_region 3 with (go_at_call 64;refine Calls.mono (vM k ws tb mp q a _ ?_ HA.out HH.out) ?_;(exact zq4);rintro e w1 ⟨rfl,rfl⟩)
 refine zI (fun W'=>MW w W' k ws tb mp q (cdC op d a b c n kk xx) 0 0∧zJ [] w W') ⟨⟨zq4,(hpa w _ _).1,(hpa w _ _).2⟩,zq3⟩ ?_
 intro wx hW
 have HW:Hid _:=hW.1
 have HC:Hid _:=hW.2
 have lh':k.h < wx.heap.size:=hW.1.q.h.lt
 have lh2:k.h < wx.heap.size+1:=Nat.lt_succ_of_lt lh'
 have c14:wx.cell? ⟨k.h,14,none⟩=some mp:=hW.1.q.h.c 14 aO
 have o0:wx.cell? ⟨w.heap.size,0,none⟩=some (.int .i64 op):=yI hW.1.b0 0
 have l0:=ltb hW.1.b0
 have l02:=Nat.lt_succ_of_lt l0
 clear hW lh
 go_region_held3 (fun W'=>W'.cell? ⟨k.h,14,none⟩=some mp∧W'.cell? ⟨w.heap.size,0,none⟩=some (.int .i64 op)) (first|(simp[go_sem,c14,o0,lh',lh2,l0,l02];done)|(simp[go_sem,d14,p0,dl,pl,dl2,pl2];done))
  (first|(go_at_call 28;refine Calls.mono (HS.out _ (HP.out _ zq27)) ?_;rintro e w1 ⟨rfl,hc1⟩;have HCC:Hid (zJ [] wx w1):=zJ.trans zq3 hc1;have HM1:Hid (MW w w1 k ws tb mp q (cdC op d a b c n kk xx) 0 0):=⟨HW.out.q.chg HCC.out (fun _ _=>by simp),(HCC.out.block _ (ltb HW.out.b0) aS).trans HW.out.b0,(HCC.out.block _ (ltb HW.out.b1) aS).trans HW.out.b1⟩;have d14:w1.cell? ⟨k.h,14,none⟩=some mp:=HM1.out.q.h.c 14 aO;have p0:w1.cell? ⟨w.heap.size,0,none⟩=some (.int .i64 op):=yI HM1.out.b0 0;have dl:=HM1.out.q.h.lt;have dl2:=Nat.lt_succ_of_lt dl;have pl:=ltb HM1.out.b0;have pl2:=Nat.lt_succ_of_lt pl;(try(have ob:w1.heap[wx.heap.size]?=some (.cells (stC 0 0) 42):=zKy (wx:=wx) (W:=(wx.alloc (.cells (stC 0 0) 42)).drew) (heap_alloc_last wx _) hc1;have ob0:=yI ob 0;have ob1:=yI ob 1;have obf:=fro ob;have obl:=ltb ob));clear hc1))
 all_goals go_upto_region 4 with fail
 all_goals first
  | (refine zI (fun W'=>LD3 w W' k ws tb mp q (cdC op d a b c n kk xx) wx.heap.size sk ar) (zOR sk ar HM1.out (HC.out.trans HCC.out) (zCa HQ'.out) ob (ltb HW.out.b1)) ?_;intro wy hy;generalize wx.heap.size=B at hy ⊢)
  | (refine zI (fun W'=>LD3 w W' k ws tb mp q (cdC op d a b c n kk xx) w1.heap.size sk ar) (zOQ sk ar HM1.out (HC.out.trans HCC.out)) ?_;intro wy hy;generalize w1.heap.size=B at hy ⊢)
 all_goals(
  have HY:Hid _:=hy
  have x0:=yI hy.b0 1
  have t0:=yI hy.b2 0
  have t1:=yI hy.b2 1
  have y0:=yI hy.b1 0
  have y1:=yI hy.b1 1
  have yf:=fro hy.b1
  have la:=ltb hy.b0
  have lb:=ltb hy.b1
  have lc:=ltb hy.b2
  have hne:¬B=w.heap.size+1:=by have:=hy.ne;omega
  have hne':¬w.heap.size+1=B:=by have:=hy.ne;omega
  have NW:Hid (w.heap.size+1∉k.own):=show w.heap.size+1∉k.own from fun e=>by have:=zCa HQ'.out _ e;omega
  clear hy)
 all_goals go_wp2_with (go_at_call 86;refine Calls.mono (zAq k ws tb mp q d v _ HY.out.q HD.out) ?_;rintro e w2 ⟨rfl,hq2,hc2⟩;obtain⟨f1,f2,f3⟩:=zOS HY.out (zCa HQ'.out) hq2 hc2;have HF3:Hid _:=f3;have HQ2:Hid _:=hq2;have u0:=yI f2 0;have u1:=yI f2 1;have v0:=yI f1 0;have v1:=yI f1 1;have vf:=fro f1;have vl:=ltb f1;have ul:=ltb f2;clear hq2 hc2 f1 f2 f3)
 all_goals exact bodyPost_ret (v:=.agg (stC sk ar)) (by simp[results,Try.results65,go_sem,v0,v1,vf,vl]) rfl ⟨rfl,(by focus(repeat first|with_reducible exact HQ2.out|with_reducible refine QW.oth ?_ NW.out _ _|with_reducible refine QW.al ?_ _|with_reducible refine QW.dr ?_|with_reducible refine QW.drN ?_ _)),(by focus(repeat first|with_reducible exact HF3.out|with_reducible exact zJ.refl _ _|with_reducible refine zJ.setNew ?_ aO _ _|with_reducible refine zJ.alloc ?_ _|with_reducible refine zJ.drew ?_|with_reducible refine zJ.dN ?_ _))⟩
theorem zNW(k:QB)(ws tb mp:Value)(q:HQ)(op g b c n sk ar:Int)(d a kk xx v:Nat)(P:World→Prop)(w:World)(hq:QW w k ws tb mp q)(ha:a < 16)(hh:q.has a=true)(hd:d < 16)(hsk:(sk==0)=false)(ho1:op < 88)(ho:IntKind.i64.wrap (op - 80)=g)
  (hP:∀ W,zJ [] w W→P W)
  (hs:∀ W,P W→Calls Try.prog 28 #[mp,.int .i64 g,.int .u32 (q.reg a)] W fun e w'=>e=.returned (.tuple #[.int .u32 v,.agg (stC sk ar)])∧zJ [] W w') :
  Calls Try.prog 65 #[.pointer (some ⟨k.h,0,none⟩),.agg (cdC op d a b c n kk xx)] w fun e w'=>e=.returned (.agg (stC sk ar))∧QW w' k ws tb mp q∧zJ k.own w w':=by
 have lh:=hq.h.lt
 have HS:Hid _:=hs
 have HP:Hid _:=hP
 have HQ':Hid _:=hq
 have HA:Hid _:=ha
 have HH:Hid _:=hh
 have HD:Hid _:=hd
 clear hq hs ha hh hd hP
 go_enter Try.func65,Try.ntmps65
 go_upto_region 3 with (go_at_call 64;refine Calls.mono (vM k ws tb mp q a _ ?_ HA.out HH.out) ?_;(exact zq4);rintro e w1 ⟨rfl,rfl⟩)
 refine zI (fun W'=>MW w W' k ws tb mp q (cdC op d a b c n kk xx) 0 0∧zJ [] w W') ⟨⟨zq4,(hpa w _ _).1,(hpa w _ _).2⟩,zq3⟩ ?_
 intro wx hW
 have HW:Hid _:=hW.1
 have HC:Hid _:=hW.2
 have lh':k.h < wx.heap.size:=hW.1.q.h.lt
 have lh2:k.h < wx.heap.size+1:=Nat.lt_succ_of_lt lh'
 have c14:wx.cell? ⟨k.h,14,none⟩=some mp:=hW.1.q.h.c 14 aO
 have o0:wx.cell? ⟨w.heap.size,0,none⟩=some (.int .i64 op):=yI hW.1.b0 0
 have l0:=ltb hW.1.b0
 have l02:=Nat.lt_succ_of_lt l0
 clear hW lh
 go_region_held3 (fun W'=>W'.cell? ⟨k.h,14,none⟩=some mp∧W'.cell? ⟨w.heap.size,0,none⟩=some (.int .i64 op)) (first|(simp[go_sem,c14,o0,lh',lh2,l0,l02];done)|(simp[go_sem,d14,p0,dl,pl,dl2,pl2];done))
  (first|(go_at_call 28;refine Calls.mono (HS.out _ (HP.out _ zq27)) ?_;rintro e w1 ⟨rfl,hc1⟩;have HCC:Hid (zJ [] wx w1):=zJ.trans zq3 hc1;have HM1:Hid (MW w w1 k ws tb mp q (cdC op d a b c n kk xx) 0 0):=⟨HW.out.q.chg HCC.out (fun _ _=>by simp),(HCC.out.block _ (ltb HW.out.b0) aS).trans HW.out.b0,(HCC.out.block _ (ltb HW.out.b1) aS).trans HW.out.b1⟩;have d14:w1.cell? ⟨k.h,14,none⟩=some mp:=HM1.out.q.h.c 14 aO;have p0:w1.cell? ⟨w.heap.size,0,none⟩=some (.int .i64 op):=yI HM1.out.b0 0;have dl:=HM1.out.q.h.lt;have dl2:=Nat.lt_succ_of_lt dl;have pl:=ltb HM1.out.b0;have pl2:=Nat.lt_succ_of_lt pl;(try(have ob:w1.heap[wx.heap.size]?=some (.cells (stC 0 0) 42):=zKy (wx:=wx) (W:=(wx.alloc (.cells (stC 0 0) 42)).drew) (heap_alloc_last wx _) hc1;have ob0:=yI ob 0;have ob1:=yI ob 1;have obf:=fro ob;have obl:=ltb ob));clear hc1))
 all_goals go_upto_region 4 with fail
 all_goals first
  | (refine zI (fun W'=>LD3 w W' k ws tb mp q (cdC op d a b c n kk xx) wx.heap.size sk ar) (zOR sk ar HM1.out (HC.out.trans HCC.out) (zCa HQ'.out) ob (ltb HW.out.b1)) ?_;intro wy hy;generalize wx.heap.size=B at hy ⊢)
  | (refine zI (fun W'=>LD3 w W' k ws tb mp q (cdC op d a b c n kk xx) w1.heap.size sk ar) (zOQ sk ar HM1.out (HC.out.trans HCC.out)) ?_;intro wy hy;generalize w1.heap.size=B at hy ⊢)
 all_goals(
  have HY:Hid _:=hy
  have x0:=yI hy.b0 1
  have t0:=yI hy.b2 0
  have t1:=yI hy.b2 1
  have y0:=yI hy.b1 0
  have y1:=yI hy.b1 1
  have yf:=fro hy.b1
  have la:=ltb hy.b0
  have lb:=ltb hy.b1
  have lc:=ltb hy.b2
  have hne:¬B=w.heap.size+1:=by have:=hy.ne;omega
  have hne':¬w.heap.size+1=B:=by have:=hy.ne;omega
  have NW:Hid (w.heap.size+1∉k.own):=show w.heap.size+1∉k.own from fun e=>by have:=zCa HQ'.out _ e;omega
  clear hy)
 all_goals go_wp2_with (go_at_call 86;refine Calls.mono (zAq k ws tb mp q d v _ HY.out.q HD.out) ?_;rintro e w2 ⟨rfl,hq2,hc2⟩;obtain⟨f1,f2,f3⟩:=zOS HY.out (zCa HQ'.out) hq2 hc2;have HF3:Hid _:=f3;have HQ2:Hid _:=hq2;have u0:=yI f2 0;have u1:=yI f2 1;have v0:=yI f1 0;have v1:=yI f1 1;have vf:=fro f1;have vl:=ltb f1;have ul:=ltb f2;clear hq2 hc2 f1 f2 f3)
 all_goals exact bodyPost_ret (v:=.agg (stC sk ar)) (by simp[results,Try.results65,go_sem,y0,y1,yf,lb]) rfl ⟨rfl,(by focus(repeat first|with_reducible exact HY.out.q|with_reducible refine QW.oth ?_ NW.out _ _|with_reducible refine QW.al ?_ _|with_reducible refine QW.dr ?_|with_reducible refine QW.drN ?_ _)),(by focus(repeat first|with_reducible exact(show zJ k.own w wy from HY.out.ch.mono aS)|with_reducible exact zJ.refl _ _|with_reducible refine zJ.setNew ?_ aO _ _|with_reducible refine zJ.alloc ?_ _|with_reducible refine zJ.drew ?_|with_reducible refine zJ.dN ?_ _))⟩
structure zGY(op:Int):Prop where
 a1:(op==1)=false
 a10:(op==10)=false
 a11:(op==11)=false
 a14:(op==14)=false
 a12:(op==12)=false
 a13:(op==13)=false
 a4:(op==4)=false
 a15:(op==15)=false
 a96:(op==96)=false
 l:80≤op
 h:op≤90
structure SM2(w W:World)(k:QB)(ws tb mp:Value)(q:HQ)(S:List Nat)(P:World→Prop)(pc:Nat)(n:Int):Prop where
 q:QW W k ws tb mp q
 p:P W
 ch:zJ (k.own++S) w W
 b1:W.heap[w.heap.size+1]?=some (.cells (lfC 0 0 0 0 0 0) 48)
 b2:W.heap[w.heap.size+1+1]?=some (.cells (lfC 0 0 0 pc n 0) 48)
theorem zKq(w:World)(X Y Z:Obj):(((w.alloc X).alloc Y).alloc Z).drew.heap[w.heap.size+1+1]?=some Z:=by
 show(((w.heap.push X).push Y).push Z)[w.heap.size+1+1]?=some Z
 rw[Array.getElem?_push,if_pos aS]
theorem zFs(k:QB)(ws tb mp:Value)(q q':HQ)(op d a b c n sk:Int)(kk xx ar:Nat)(S:List Nat)(P P':World→Prop)(w:World)(hq:QW w k ws tb mp q)(ho:zGY op)(hsk:(sk==0)=true)(hn0:0≤q.done+n)(hn1:q.done+n≤9223372036854775807)(hSn:∀ x∈S,x < w.heap.size)
  (hP0:∀ W,zJ [] w W→P W) (hPk:∀ W W' T,P' W→(∀ x∈T,w.heap.size≤x)→zJ T W W'→P' W')
  (hi:∀ W,w.heap.size≤W.heap.size→QW W k ws tb mp q→P W→Calls Try.prog 65 #[.pointer (some ⟨k.h,0,none⟩),.agg (cdC op d a b c n kk xx)] W fun e w'=>e=.returned (.agg (stC sk ar))∧QW w' k ws tb mp q'∧P' w'∧zJ (k.own++S) W w') :
  Calls Try.prog 35 #[.pointer (some ⟨k.h,0,none⟩),.agg (cdC op d a b c n kk xx)] w fun e w'=>e=.returned (.agg (lfC 0 0 0 0 0 0))∧QW w' k ws tb mp q'∧P' w'∧zJ (k.own++S) w w':=by
 have lh:=hq.h.lt
 have c16:w.cell? ⟨k.h,16,none⟩=some (.int .i64 q.done):=hq.h.c 16 aO
 obtain⟨a1,a10,a11,a14,a12,a13,a4,a15,a96,l,h⟩:=ho
 have HI:Hid _:=hi
 have HQ':Hid _:=hq
 have HP0:Hid _:=hP0
 have HPK:Hid _:=hPk
 have l1:k.h < w.heap.size+1:=aO
 have l2:k.h < w.heap.size+1+1:=aO
 have l3:k.h < w.heap.size+1+1+1:=aO
 have n4:∀ B,w.heap.size≤B→B∉k.own++S:=fun B hB e=>by
  rcases List.mem_append.1 e with e|e
  ·have:=zCa hq _ e;omega
  ·have:=hSn _ e;omega
 have N4:Hid _:=n4
 clear n4 hq hi hP0 hPk hSn
 go_enter Try.func35,Try.ntmps35
 go_upto_region 1 with fail
 go_region
 all_goals go_upto_region 51 with (go_at_call 65;refine Calls.mono (HI.out _ ?_ ?_ (HP0.out _ ?_)) ?_;(focus(simp;omega));(exact zq4);(exact zq3);rintro e w1 ⟨rfl,hq1,hp1,hc1⟩;have HM1:Hid (SM2 w w1 k ws tb mp q' S P' kk (q.done+n)):=⟨hq1,hp1,zJ.trans zq3 hc1,hc1.keep (zFA w _ _ _) (N4.out _ aO),hc1.keep (zKq w _ _ _) (N4.out _ aO)⟩;clear hq1 hp1 hc1)
 all_goals(
  have z0:=zA HM1.out.b1 0;have z1:=zA HM1.out.b1 1;have z2:=zA HM1.out.b1 2;have z3:=zA HM1.out.b1 3;have z4:=zA HM1.out.b1 4;have z5:=zA HM1.out.b1 5
  have zf:=zD HM1.out.b1
  have zl:=zE HM1.out.b1
  have x0:=zA HM1.out.b2 0;have x1:=zA HM1.out.b2 1;have x2:=zA HM1.out.b2 2;have x3:=zA HM1.out.b2 3;have x4:=zA HM1.out.b2 4;have x5:=zA HM1.out.b2 5
  have xf:=zD HM1.out.b2
  have xl:=zE HM1.out.b2
  have N1:Hid _:=fun e=>N4.out (w.heap.size+1) aO (List.mem_append_left S e)
  have N2:Hid _:=fun e=>N4.out (w.heap.size+1+1) aO (List.mem_append_left S e)
  go_wp2)
 all_goals exact bodyPost_ret (v:=.agg (lfC 0 0 0 0 0 0)) (by simp[results,Try.results35,go_sem,z0,z1,z2,z3,z4,z5,zl,zf]) rfl ⟨rfl,by(focus(repeat first|with_reducible exact HM1.out.q|with_reducible refine QW.oth ?_ N1.out _ _|with_reducible refine QW.oth ?_ N2.out _ _|with_reducible refine QW.al ?_ _ )),HPK.out w1 _ [w.heap.size+1,w.heap.size+1+1] HM1.out.p (fun x hx=>by simp at hx;omega) (by(focus(repeat first|with_reducible exact zJ.refl _ _|with_reducible refine zJ.set ?_ aS _ _|with_reducible refine zJ.alloc ?_ _))),zq40⟩
theorem zFt(k:QB)(ws tb mp:Value)(q q':HQ)(op d a b c n sk:Int)(kk xx ar:Nat)(S:List Nat)(P P':World→Prop)(w:World)(hq:QW w k ws tb mp q)(ho:zGY op)(hsk:(sk==0)=false)(hn0:0≤q.done+n)(hn1:q.done+n≤9223372036854775807)(hSn:∀ x∈S,x < w.heap.size)
  (hP0:∀ W,zJ [] w W→P W) (hPk:∀ W W' T,P' W→(∀ x∈T,w.heap.size≤x)→zJ T W W'→P' W')
  (hi:∀ W,w.heap.size≤W.heap.size→QW W k ws tb mp q→P W→Calls Try.prog 65 #[.pointer (some ⟨k.h,0,none⟩),.agg (cdC op d a b c n kk xx)] W fun e w'=>e=.returned (.agg (stC sk ar))∧QW w' k ws tb mp q'∧P' w'∧zJ (k.own++S) W w') :
  Calls Try.prog 35 #[.pointer (some ⟨k.h,0,none⟩),.agg (cdC op d a b c n kk xx)] w fun e w'=>e=.returned (.agg (lfC 3 sk ar kk (q.done+n) 0))∧QW w' k ws tb mp q'∧P' w'∧zJ (k.own++S) w w':=by
 have lh:=hq.h.lt
 have c16:w.cell? ⟨k.h,16,none⟩=some (.int .i64 q.done):=hq.h.c 16 aO
 obtain⟨a1,a10,a11,a14,a12,a13,a4,a15,a96,l,h⟩:=ho
 have HI:Hid _:=hi
 have HQ':Hid _:=hq
 have HP0:Hid _:=hP0
 have HPK:Hid _:=hPk
 have l1:k.h < w.heap.size+1:=aO
 have l2:k.h < w.heap.size+1+1:=aO
 have l3:k.h < w.heap.size+1+1+1:=aO
 have n4:∀ B,w.heap.size≤B→B∉k.own++S:=fun B hB e=>by
  rcases List.mem_append.1 e with e|e
  ·have:=zCa hq _ e;omega
  ·have:=hSn _ e;omega
 have N4:Hid _:=n4
 clear n4 hq hi hP0 hPk hSn
 go_enter Try.func35,Try.ntmps35
 go_upto_region 1 with fail
 go_region
 all_goals go_upto_region 51 with (go_at_call 65;refine Calls.mono (HI.out _ ?_ ?_ (HP0.out _ ?_)) ?_;(focus(simp;omega));(exact zq4);(exact zq3);rintro e w1 ⟨rfl,hq1,hp1,hc1⟩;have HM1:Hid (SM2 w w1 k ws tb mp q' S P' kk (q.done+n)):=⟨hq1,hp1,zJ.trans zq3 hc1,hc1.keep (zFA w _ _ _) (N4.out _ aO),hc1.keep (zKq w _ _ _) (N4.out _ aO)⟩;clear hq1 hp1 hc1)
 all_goals(
  have z0:=zA HM1.out.b1 0;have z1:=zA HM1.out.b1 1;have z2:=zA HM1.out.b1 2;have z3:=zA HM1.out.b1 3;have z4:=zA HM1.out.b1 4;have z5:=zA HM1.out.b1 5
  have zf:=zD HM1.out.b1
  have zl:=zE HM1.out.b1
  have x0:=zA HM1.out.b2 0;have x1:=zA HM1.out.b2 1;have x2:=zA HM1.out.b2 2;have x3:=zA HM1.out.b2 3;have x4:=zA HM1.out.b2 4;have x5:=zA HM1.out.b2 5
  have xf:=zD HM1.out.b2
  have xl:=zE HM1.out.b2
  have N1:Hid _:=fun e=>N4.out (w.heap.size+1) aO (List.mem_append_left S e)
  have N2:Hid _:=fun e=>N4.out (w.heap.size+1+1) aO (List.mem_append_left S e)
  go_wp2)
 all_goals exact bodyPost_ret (v:=.agg (lfC 3 sk ar kk (q.done+n) 0)) (by simp[results,Try.results35,go_sem,z0,z1,z2,z3,z4,z5,zl,zf]) rfl ⟨rfl,by(focus(repeat first|with_reducible exact HM1.out.q|with_reducible refine QW.oth ?_ N1.out _ _|with_reducible refine QW.oth ?_ N2.out _ _|with_reducible refine QW.al ?_ _ )),HPK.out w1 _ [w.heap.size+1,w.heap.size+1+1] HM1.out.p (fun x hx=>by simp at hx;omega) (by(focus(repeat first|with_reducible exact zJ.refl _ _|with_reducible refine zJ.set ?_ aS _ _|with_reducible refine zJ.alloc ?_ _))),zq40⟩
end Go.Proofs.Ytkmjenjahbicpaa.Ho
