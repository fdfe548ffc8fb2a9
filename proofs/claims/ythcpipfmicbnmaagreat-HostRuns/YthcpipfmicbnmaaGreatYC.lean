import Derived.Test.YthcpipfmicbnmaaGreatXD
set_option linter.unusedVariables false
set_option linter.unusedSimpArgs false
set_option maxHeartbeats 16000000
namespace Go.Proofs.YthcpipfmicbnmaaGreat.Ho
open Go.RowKit
set_option maxRecDepth 100000
theorem zNu{w w1:World}{o1 o2 o3 o4:Obj}(hc:zI [w.heap.size+1+1+1] ((((w.alloc o1).alloc o2).alloc o3).alloc o4) w1):zI [] w w1:=
 zI.into (((((zI.refl _ _).alloc _).alloc _).alloc _).alloc _) hc (fun x hx=>by rw[List.mem_singleton] at hx;exact .inr aO)
theorem RE2.bel{w wr w':World}{k:QB}{kk:Va.RB}{ws tb:Value}{q:HQ}{m:Va.MS}(h:RE2 w wr k kk ws tb q m)(b:Below wr.heap.size wr w'):RE2 w w' k kk ws tb q m:=
 ⟨h.qw.chg (S:=[]) (zI.of_below _ b) (fun _ _=>by simp),h.m.below b aL,(b.block _ (ltb h.b1)).trans h.b1,(b.block _ (ltb h.b2)).trans h.b2,h.ch.trans (zI.of_below _ b),h.ow,h.kl⟩
theorem zJW(kk:Va.RB)(ca:Option Addr)(cap:Nat)(ta:Option Addr)(tcap:Nat)(T:PT)(c:Nat→Nat)(m:Va.MS)(at0:Int)(w:World)(hws:∀ i,T.ws i < 4294967296)(hm:Va.RM w kk m)(hmo:m.Ok)(hc:Va.zA0 c)(hwd:Wds w ca T.len cap T.ws)
  (htr:T.tl=0∨∃ tq toff,ta=some ⟨tq,toff,none⟩∧TR w tq toff T.tl T.tp T.ta∧T.tl≤140737488355328) (hcn:0 < T.len→∀ b o,ca=some ⟨b,o,none⟩→b < w.heap.size∧b∉kk.all) (htn:0 < T.tl→∀ b o,ta=some ⟨b,o,none⟩→b < w.heap.size∧b∉kk.all) (hlen:T.len≤140737488355328) (hlf : -9223372036854775808≤T.left∧T.left≤9223372036854775807) :
  Calls Tryz.prog 7 #[.slice ca T.len cap,.int .i64 at0,Va.cxV c,(.pointer (some ⟨kk.y,0,none⟩)),.int .i64 T.left,.slice ta T.tl tcap] w fun e w'=>e=.returned (.tuple #[Va.cxV (zAD T at0 c m).2.c,.agg (yE (zAD T at0 c m).1)])∧Va.RM w' kk (zAD T at0 c m).2.m∧zI kk.all w w':=by
 obtain⟨rs,HRS⟩:∃ rs,Hid (zAD T at0 c m=rs):=⟨_,rfl⟩
 rw[HRS.out]
 have hkl:∀ x∈kk.y :: kk.all,x < w.heap.size:=hm.lt
 have HKL:Hid _:=hkl
 have HWS:Hid _:=hws
 have HMO:Hid _:=hmo
 have HCX:Hid _:=hc
 have HP:Hid (∀ W,zI [] w W→Wds W ca T.len cap T.ws∧(T.tl=0∨∃ tq toff,ta=some ⟨tq,toff,none⟩∧TR W tq toff T.tl T.tp T.ta∧T.tl≤140737488355328)∧Va.RM W kk m):=show ∀ W,zI [] w W→_ from fun W hW=>⟨vZ hwd hW (fun _ _ _ _=>by simp),htr.imp id (fun ⟨tq,toff,e,hT,hl⟩=>⟨tq,toff,e,hT.chg hW aS,hl⟩),hm.keep (zQ hW) (fun _ _=>by simp)⟩
 have HCN:Hid _:=hcn
 have HTN:Hid _:=htn
 have HLN:Hid _:=hlen
 have HLF:Hid _:=hlf
 clear hws hm hmo hc hwd htr hcn htn hlen hlf hkl
 go_enter Tryz.func7,Tryz.ntmps7
 go_upto_region 2 with fail
 have H4:Hid _:=hp4 w
 go_upto_region 3 with (go_at_call 21;refine Calls.mono (zEY ⟨w.heap.size+1+1+1,0,0,0,0⟩ (.slice ca T.len cap) (.slice ta T.tl tcap) (.pointer (some ⟨kk.y,0,none⟩)) (hq0 c at0 T.left) _ _ (zN2 ⟨w.heap.size+1+1+1,0,0,0,0⟩ (H4.out _ _ _ _).2.2.2) (fun o ho=>if_neg aO)) ?_;rintro e w1 ⟨rfl,hq1,hcc1⟩;have HW1:Hid (Wds w1 ca T.len cap T.ws∧∃ k:QB,k.h=w.heap.size+1+1+1∧w1.heap[w.heap.size]?=some (.cells (Va.cxA c) 25)∧RE2 w w1 k kk (.slice ca T.len cap) (.slice ta T.tl tcap) (hq0 c at0 T.left) m∧RR w w1 k kk ca cap ta tcap T (hq0 c at0 T.left) ⟨fun _=>none,fun _=>none,c,m⟩):=⟨(HP.out w1 (zNu hcc1)).1,_,rfl,zJV hq1 hcc1 (fun x hx=>by simp[QB.own] at hx;omega) HP.out HCX.out HMO.out HKL.out HCN.out HTN.out⟩;clear hq1 hcc1)
 obtain⟨hwd,⟨kh,kr,kg,ks,kd⟩,hk,hb0,hW,hRR⟩:=HW1.out
 clear HW1 H4
 simp only at hk
 subst hk
 have HB0:Hid _:=hb0
 have HWD:Hid _:=hwd
 have HW:Hid _:=hW
 have HRR:Hid _:=hRR
 clear hW hb0 hRR hwd
 cases hE:isE T.ws T.len at0 with
 | false=>
  have hr:rs=(⟨5,0,0,0,0,at0⟩,⟨fun _=>none,fun _=>none,c,m⟩):=by have:=HRS.out;unfold zAD at this;rw[hE] at this;simpa using this.symm
  subst hr
  go_upto_region 4 with (go_at_call 22;refine Calls.mono (uS ⟨w.heap.size+1+1+1,kr,kg,ks,kd⟩ ca T.len cap (.slice ta T.tl tcap) (.pointer (some ⟨kk.y,0,none⟩)) (hq0 c at0 T.left) at0 T.ws _ HW.out.qw HWD.out) ?_;rintro e w2 ⟨rfl,hb2⟩;rw[hE];have HB2:Hid (RE2 w w2 ⟨w.heap.size+1+1+1,kr,kg,ks,kd⟩ kk (.slice ca T.len cap) (.slice ta T.tl tcap) (hq0 c at0 T.left) m∧w2.heap[w.heap.size]?=some (.cells (Va.cxA c) 25)):=⟨HW.out.bel hb2,(hb2.block _ (ltb HB0.out)).trans HB0.out⟩;clear hb2)
  obtain⟨c0,c1,c2,c3,c4,c5,c6,c7,c8,c9,c10,c11,cf,cl⟩:=zBS HB2.out.2
  go_wp2_with (refine wpList_store_mid rfl 25 _ _ rfl (w.heap.size+1) 0 ([.int .u32 (c 0),.int .u32 (c 1),.int .u32 (c 2),.int .u32 (c 3),.int .u32 (c 4),.int .u32 (c 5),.int .u32 (c 6),.int .u32 (c 7),.int .u32 (c 8),.int .u32 (c 9),.int .u32 (c 10),.int .u32 (c 11)]:List Value).toArray rfl rfl (zAS HB2.out.1.b1) (show(Tryz.prog.info? 25).map (·.size)=some ([.int .u32 (c 0),.int .u32 (c 1),.int .u32 (c 2),.int .u32 (c 3),.int .u32 (c 4),.int .u32 (c 5),.int .u32 (c 6),.int .u32 (c 7),.int .u32 (c 8),.int .u32 (c 9),.int .u32 (c 10),.int .u32 (c 11)]:List Value).toArray.size from i27) (all_oneCell_toArray (zET c)) ?_;refine zEt (fun W'=>FX w W' w2 c) (zIe c HB2.out.1.b1 HB2.out.1.b2) ?_;intro V hV;have HV:Hid _:=hV;obtain⟨⟨m0,m1,m2,m3,m4,m5,m6,m7,m8,m9,m10,m11⟩,hch,y0,y1,y2,y3,y4,y5,yf,yl⟩:=hV;have ml:w.heap.size+1 < V.heap.size:=aO;clear hch)
  exact bodyPost_ret (v:=.tuple #[Va.cxV c,.agg (yE ⟨5,0,0,0,0,at0⟩)]) zq44 rfl ⟨rfl,HB2.out.1.fin (HV.out.ch.trans' ((((((((zI.refl [w.heap.size+1+1] V).set aC _ _).set aC _ _).set aC _ _).set aC _ _).set aC _ _).set aC _ _)))⟩
 | true=>
  go_wp2_with (go_at_call 22;refine Calls.mono (uS ⟨w.heap.size+1+1+1,kr,kg,ks,kd⟩ ca T.len cap (.slice ta T.tl tcap) (.pointer (some ⟨kk.y,0,none⟩)) (hq0 c at0 T.left) at0 T.ws _ HW.out.qw HWD.out) ?_;rintro e w2 ⟨rfl,hb2⟩;rw[hE];have HW2:Hid _:=HRR.out.bel hb2;clear hb2)
  clear HW HRR HB0 HWD HP HKL HMO HCX HCN HTN
  go_loopg [18] (phi T at0 0+1) (fun gk _ wr=>∃ (k:QB) (q:HQ) (s:HS Va.MS) (at':Int),k.h=w.heap.size+1+1+1∧RR w wr k kk ca cap ta tcap T q s∧BN T at' q.done q.ran 0∧q.at_=at'∧phi T at' q.ran < gk∧zBj T gk at' s q.done q.ran=rs)
  case atStart=>
   refine⟨_,_,_,at0,rfl,HW2.out,(show BN T at0 0 0 0 from⟨by decide,by omega,.inl hE,by decide,by decide,.inr ⟨hE,.inl rfl⟩,by decide,by decide⟩),rfl,Nat.lt_succ_self _,?_⟩
   have:=HRS.out
   unfold zAD at this
   rw[hE] at this
   simpa using this
  case round=>
   clear HW2 HRS
   obtain⟨⟨kh,kr,kg,ks,kd⟩,q,s,at',hk,hW,hbn,hat,hphi,hrun⟩:=hrel
   simp only at hk
   subst hk
   obtain⟨fu,rfl⟩:∃ fu,gk=fu+1:=⟨gk - 1,by omega⟩
   have HW:Hid _:=hW
   have HAT:Hid _:=hat
   have HBN:Hid _:=hbn
   have HPH:Hid _:=hphi
   have HRU:Hid _:=hrun
   have c1:wr.cell? ⟨w.heap.size+1+1+1,1,none⟩=some (.int .i64 at'):=(hW.qw.h.c 1 aO).trans (by show some (Value.int .i64 q.at_)=_;rw[hat])
   have lh:w.heap.size+1+1+1 < wr.heap.size:=hW.qw.h.lt
   clear hW hat hphi hrun hbn
   by_cases he:(yG T.ws T.len at').e=0
   ·have b0:((yG T.ws T.len at').e !=0)=false:=by simp[he]
    have HDE:Hid _:=he
    obtain⟨m',k',op,d,a,b,cc,n,kx,xx,F⟩:=zAx HWS.out he
    have wr1:IntKind.i64.wrap (at'+(yG T.ws T.len at').n)=at'+(yG T.ws T.len at').n:=IntWalk.i64_in _ (by have:=zAf (zG k').has;have:=F.le;have:=F.at_;have:=F.sz;have:=HLN.out;omega)
    clear F he
    cases hps:zU T q.ran (yG T.ws T.len at').x s q.done with
    | stuck=>
     have HPS:Hid _:=hps
     clear hps
     have hr:rs=(⟨5,0,0,0,0,at'⟩,s):=by have:=HRU.out;unfold zBj at this;rw[if_pos HDE.out,HPS.out] at this;exact this.symm
     subst hr
     go_upto_region 12 with first
      | (go_at_call 23;refine Calls.mono (zAz ca T.len cap at' T.ws _ HW.out.wd) ?_;rintro e w2 ⟨rfl,hb2⟩;have HW2:Hid (RR w w2 ⟨w.heap.size+1+1+1,kr,kg,ks,kd⟩ kk ca cap ta tcap T q s):=HW.out.bel hb2;have e1:w2.cell? ⟨w.heap.size+1+1+1,1,none⟩=some (.int .i64 at'):=(HW2.out.qw.h.c 1 aO).trans (by show some (Value.int .i64 q.at_)=_;rw[HAT.out]);have ef:w2.frozen? ⟨w.heap.size+1+1+1,1,none⟩=false:=HW2.out.qw.h.fz 1;have el:w.heap.size+1+1+1 < w2.heap.size:=HW2.out.qw.h.lt;have el2:=Nat.lt_succ_of_lt el;clear hb2 c1 lh)
      | (go_at_call 24;refine Calls.mono (zBZ ⟨w.heap.size+1+1+1,kr,kg,ks,kd⟩ kk ca cap ta tcap T { q with at_:=at'+((yG T.ws T.len at').n:Int) } s at' _ HWS.out HDE.out (RR.rc (w:=w) ?_ (at':=at') HBN.out HLN.out HLF.out)) ?_;(focus(first|exact(HW2.out.al _).setAt _|exact(HW2.out.setAt _).al _));rintro e w3 hD;have hD:zAr _ _ kk (.slice ca T.len cap) (.slice ta T.tl tcap) _ s e w3 (.stuck):=(by rw[← HPS.out];exact hD);obtain⟨⟨L,q2,rfl,hq2,hs2,hc2⟩,hm2,hcc⟩:=hD;have HR2:Hid (RE2 w w3 ⟨w.heap.size+1+1+1,kr,kg,ks,kd⟩ kk (.slice ca T.len cap) (.slice ta T.tl tcap) q2 s.m):=RR.out (w:=w) (by first|exact(HW2.out.al _).setAt _|exact(HW2.out.setAt _).al _) hq2 hm2 hcc;have HC2:Hid _:=hc2;have f23:w3.cell? ⟨w.heap.size+1+1+1,23,none⟩=some (.bool true):=(hq2.h.c 23 aO).trans (by show some (Value.bool q2.stuck)=_;rw[hs2]);have fl:w.heap.size+1+1+1 < w3.heap.size:=hq2.h.lt;have fl2:=Nat.lt_succ_of_lt fl;clear hq2 hm2 hcc hs2 hc2 e1 ef el el2)
     have HR3:Hid _:=HR2.out.al (.cells (yE L) 37)
     generalize hwx:w3.alloc (.cells (yE L) 37)=wx at *
     obtain⟨d0,d1,d2,d3,d4,d5,d6,d7,d8,d9,d10,d11,dl⟩:=HR3.out.qw.cs HC2.out
     clear HR2 f23 fl fl2 hwx
     go_wp2_with (refine wpList_store_mid rfl 25 _ _ rfl (w.heap.size+1) 0 ([.int .u32 (s.c 0),.int .u32 (s.c 1),.int .u32 (s.c 2),.int .u32 (s.c 3),.int .u32 (s.c 4),.int .u32 (s.c 5),.int .u32 (s.c 6),.int .u32 (s.c 7),.int .u32 (s.c 8),.int .u32 (s.c 9),.int .u32 (s.c 10),.int .u32 (s.c 11)]:List Value).toArray rfl rfl (zAS HR3.out.b1) (show(Tryz.prog.info? 25).map (·.size)=some ([.int .u32 (s.c 0),.int .u32 (s.c 1),.int .u32 (s.c 2),.int .u32 (s.c 3),.int .u32 (s.c 4),.int .u32 (s.c 5),.int .u32 (s.c 6),.int .u32 (s.c 7),.int .u32 (s.c 8),.int .u32 (s.c 9),.int .u32 (s.c 10),.int .u32 (s.c 11)]:List Value).toArray.size from i27) (all_oneCell_toArray (zET s.c)) ?_;refine zEt (fun W'=>FX w W' wx s.c) (zIe s.c HR3.out.b1 HR3.out.b2) ?_;intro V hV;have HV:Hid _:=hV;obtain⟨⟨m0,m1,m2,m3,m4,m5,m6,m7,m8,m9,m10,m11⟩,hch,y0,y1,y2,y3,y4,y5,yf,yl⟩:=hV;have ml:w.heap.size+1 < V.heap.size:=aO;clear hch)
     exact bodyPost_ret (v:=.tuple #[Va.cxV s.c,.agg (yE ⟨5,0,0,0,0,at'⟩)]) zq44 rfl ⟨rfl,HR3.out.fin (HV.out.ch.trans' ((((((((zI.refl [w.heap.size+1+1] V).set aC _ _).set aC _ _).set aC _ _).set aC _ _).set aC _ _).set aC _ _)))⟩
    | out L s2=>
     have HPS:Hid _:=hps
     have kz:(L.k !=0)=true:=by have:=zHd hps;simpa using this
     clear hps
     have hr:rs=({ L with at_:=at' },s2):=by have:=HRU.out;unfold zBj at this;rw[if_pos HDE.out,HPS.out] at this;exact this.symm
     subst hr
     go_upto_region 15 with first
      | (go_at_call 23;refine Calls.mono (zAz ca T.len cap at' T.ws _ HW.out.wd) ?_;rintro e w2 ⟨rfl,hb2⟩;have HW2:Hid (RR w w2 ⟨w.heap.size+1+1+1,kr,kg,ks,kd⟩ kk ca cap ta tcap T q s):=HW.out.bel hb2;have e1:w2.cell? ⟨w.heap.size+1+1+1,1,none⟩=some (.int .i64 at'):=(HW2.out.qw.h.c 1 aO).trans (by show some (Value.int .i64 q.at_)=_;rw[HAT.out]);have ef:w2.frozen? ⟨w.heap.size+1+1+1,1,none⟩=false:=HW2.out.qw.h.fz 1;have el:w.heap.size+1+1+1 < w2.heap.size:=HW2.out.qw.h.lt;have el2:=Nat.lt_succ_of_lt el;clear hb2 c1 lh)
      | (go_at_call 24;refine Calls.mono (zBZ ⟨w.heap.size+1+1+1,kr,kg,ks,kd⟩ kk ca cap ta tcap T { q with at_:=at'+((yG T.ws T.len at').n:Int) } s at' _ HWS.out HDE.out (RR.rc (w:=w) ?_ (at':=at') HBN.out HLN.out HLF.out)) ?_;(focus(first|exact(HW2.out.al _).setAt _|exact(HW2.out.setAt _).al _));rintro e w3 hD;have hD:zAr _ _ kk (.slice ca T.len cap) (.slice ta T.tl tcap) _ s e w3 (.out L s2):=(by rw[← HPS.out];exact hD);obtain⟨rfl,⟨q2,hq2,hs2,hc2⟩,hm2,hcc⟩:=hD;have HR2:Hid (RE2 w w3 ⟨w.heap.size+1+1+1,kr,kg,ks,kd⟩ kk (.slice ca T.len cap) (.slice ta T.tl tcap) q2 s2.m):=RR.out (w:=w) (by first|exact(HW2.out.al _).setAt _|exact(HW2.out.setAt _).al _) hq2 hm2 hcc;have HC2:Hid _:=hc2;have f23:w3.cell? ⟨w.heap.size+1+1+1,23,none⟩=some (.bool false):=(hq2.h.c 23 aO).trans (by show some (Value.bool q2.stuck)=_;rw[hs2]);have fl:w.heap.size+1+1+1 < w3.heap.size:=hq2.h.lt;have fl2:=Nat.lt_succ_of_lt fl;clear hq2 hm2 hcc hs2 hc2 e1 ef el el2)
     refine zJ (fun W'=>FN w W' (w.heap.size+1+1+1) 2 s2.c { L with at_:=at' } w3.heap.size∧RE2 w W' ⟨w.heap.size+1+1+1,kr,kg,ks,kd⟩ kk (.slice ca T.len cap) (.slice ta T.tl tcap) q2 s2.m) ⟨zPU (L:={ L with at_:=at' }) HR2.out HC2.out,HR2.out.al _⟩ ?_
     clear HR2 f23 fl fl2 HW2 HW HPS HRU HPH HAT HDE HC2
     generalize w3.heap.size=D
     rintro wx ⟨hF,hR⟩
     have HF:Hid _:=hF
     have HR:Hid _:=hR
     have gr:=hF.g
     obtain⟨g0,g1,g2,g3,g4,g5,gf,gl⟩:=uU hF.bD
     have gm:=hF.bB
     have U27:=u27
     have I27:(Tryz.prog.info? 25).map (·.size)=some ([.int .u32 (s2.c 0),.int .u32 (s2.c 1),.int .u32 (s2.c 2),.int .u32 (s2.c 3),.int .u32 (s2.c 4),.int .u32 (s2.c 5),.int .u32 (s2.c 6),.int .u32 (s2.c 7),.int .u32 (s2.c 8),.int .u32 (s2.c 9),.int .u32 (s2.c 10),.int .u32 (s2.c 11)]:List Value).length:=i27
     have I27':(Tryz.prog.info? 25).map (·.size)=some ([.int .u32 (s2.c 0),.int .u32 (s2.c 1),.int .u32 (s2.c 2),.int .u32 (s2.c 3),.int .u32 (s2.c 4),.int .u32 (s2.c 5),.int .u32 (s2.c 6),.int .u32 (s2.c 7),.int .u32 (s2.c 8),.int .u32 (s2.c 9),.int .u32 (s2.c 10),.int .u32 (s2.c 11)]:List Value).toArray.size:=i27
     have hth:wx.drew.there (w.heap.size+1) 0 12:=(World.there_drew _ _ _ _).2 (zAS hF.b1)
     clear hF hR
     have hV:=zNY HF.out
     refine wp_region_held_drew (S:=fun W'=>W'.rangeAt (w.heap.size+1+1+1) 2 [.int .u32 (s2.c 0),.int .u32 (s2.c 1),.int .u32 (s2.c 2),.int .u32 (s2.c 3),.int .u32 (s2.c 4),.int .u32 (s2.c 5),.int .u32 (s2.c 6),.int .u32 (s2.c 7),.int .u32 (s2.c 8),.int .u32 (s2.c 9),.int .u32 (s2.c 10),.int .u32 (s2.c 11)]∧W'.cell? ⟨D,0,none⟩=some (.int .i64 L.k)∧W'.cell? ⟨D,1,none⟩=some (.int .i64 L.sk)∧W'.cell? ⟨D,2,none⟩=some (.int .u32 L.sa)∧W'.cell? ⟨D,3,none⟩=some (.int .u32 L.pc)∧W'.cell? ⟨D,4,none⟩=some (.int .i64 L.n)∧W'.cell? ⟨D,5,none⟩=some (.int .i64 at')) (by kernel_rfl) (by simp[go_sem,gr,g0,g1,g2,g3,g4,g5,gl,gm]) (fun hHeld=>?_)
     refine wpAnyH_take (i:=0) (oi:=_) (v:=?v0) rfl (by kernel_rfl) (by kernel_rfl) (by kernel_rfl) (fun _ _ _ h=>h) (Or.inl ⟨by rfl,?hy0⟩) (by assumption) ?rest0
     case hy0=>(intro w hSw;(try dsimp only at hSw);go_simp;(try with_reducible rfl))
     simp only[Act.put,aP]
     refine wpAnyH_take (i:=1) (oi:=_) (v:=?v1) rfl (by kernel_rfl) (by kernel_rfl) (by kernel_rfl) (fun _ _ _ h=>h) (Or.inl ⟨by rfl,?hy1⟩) (by assumption) ?rest1
     case hy1=>(intro w hSw;(try dsimp only at hSw);go_simp;(try with_reducible rfl))
     simp only[Act.put,aP]
     refine wpAnyH_take (i:=2) (oi:=_) (v:=?v2) rfl (by kernel_rfl) (by kernel_rfl) (by kernel_rfl) (fun _ _ _ h=>h) (Or.inl ⟨by rfl,?hy2⟩) (by assumption) ?rest2
     case hy2=>(intro w hSw;(try dsimp only at hSw);go_simp;(try with_reducible rfl))
     simp only[Act.put,aP]
     refine wpAnyH_take (i:=3) (oi:=_) (v:=_) rfl (by kernel_rfl) (by kernel_rfl) (by kernel_rfl) (fun _ _ _ h=>h) (yieldsIf_load_mid (by rfl) _ _ rfl _ _ rfl _ _ (fun w hSw=>hSw.1) U27 rfl I27) (by assumption) ?rest3
     simp only[Act.put,aP]
     refine wpAnyH_take (i:=4) (oi:=_) (v:=?v4) rfl (by kernel_rfl) (by kernel_rfl) (by kernel_rfl) (fun _ _ _ h=>h) (Or.inl ⟨by rfl,?hy4⟩) (by assumption) ?rest4
     case hy4=>(intro w hSw;(try dsimp only at hSw);go_simp;(try with_reducible rfl))
     simp only[Act.put,aP]
     refine wpAnyH_ready (rs:=[5]) (by kernel_rfl) aS ?_
     refine AllReadyH.cons (o:=_) rfl (fun K hK=>?_) AllReadyH.nil
     rw[if_pos (by rfl)]
     refine wp_store_mid 25 _ _ rfl (w.heap.size+1) 0 ([.int .u32 (s2.c 0),.int .u32 (s2.c 1),.int .u32 (s2.c 2),.int .u32 (s2.c 3),.int .u32 (s2.c 4),.int .u32 (s2.c 5),.int .u32 (s2.c 6),.int .u32 (s2.c 7),.int .u32 (s2.c 8),.int .u32 (s2.c 9),.int .u32 (s2.c 10),.int .u32 (s2.c 11)]:List Value).toArray rfl rfl hth I27' (all_oneCell_toArray (zET s2.c)) ?_
     refine hK.out _ _ hV.s (fun hHeld=>?_)
     clear hK K hHeld
     simp only[Act.put,aP]
     refine zEX (fun W'=>FV w W' wx (w.heap.size+1+1+1) 2 s2.c { L with at_:=at' } D) hV ?_
     clear hV hth gr g0 g1 g2 g3 g4 g5 gf gl gm U27 I27 I27' hHeld
     intro V hV
     have HV:Hid _:=hV
     have y0:=hV.y0;have y1:=hV.y1;have y2:=hV.y2;have y3:=hV.y3;have y4:=hV.y4;have y5:=hV.y5;have yf:=hV.yf;have yl:=hV.yl;have kl:=hV.kl
     obtain⟨m0,m1,m2,m3,m4,m5,m6,m7,m8,m9,m10,m11⟩:=hV.m
     have ml:w.heap.size+1 < V.heap.size:=aO
     have hHeld:=hV.s
     clear hV
     refine wpAnyH_ready (rs:=[6]) (by kernel_rfl) aS ?_
     refine AllReadyH.cons (o:=_) rfl (fun K hK=>?_) AllReadyH.nil
     go_simp
     refine hK.out _ _ ?_ (fun hHeld=>?_)
     ·exact HV.out.nx ((((((((zI.refl [w.heap.size+1+1] V).set aC _ _).set aC _ _).set aC _ _).set aC _ _).set aC _ _).set aC _ _))
     clear hK K hHeld
     (try simp only[Act.put,aP])
     refine wpAnyH_done (by kernel_rfl) ?_ _
     go_wp2
     exact bodyPost_ret (v:=.tuple #[Va.cxV s2.c,.agg (yE { L with at_:=at' })]) zq44 rfl ⟨rfl,HR.out.fin (HV.out.ch.trans' ((((((((zI.refl [w.heap.size+1+1] V).set aC _ _).set aC _ _).set aC _ _).set aC _ _).set aC _ _).set aC _ _)))⟩
    | go s2 dn nx=>
     have HPS:Hid _:=hps
     clear hps
     have HNX:Hid _:=zGT HWS.out HDE.out HPS.out HBN.out (.inl rfl)
     have rr0:0≤q.ran+1:=by have:=HBN.out.c0;omega
     have rr1:q.ran+1≤9223372036854775807:=by have:=HBN.out.c1;have:=HLN.out;omega
     go_wp2_with first
      | (go_at_call 23;refine Calls.mono (zAz ca T.len cap at' T.ws _ HW.out.wd) ?_;rintro e w2 ⟨rfl,hb2⟩;have HW2:Hid (RR w w2 ⟨w.heap.size+1+1+1,kr,kg,ks,kd⟩ kk ca cap ta tcap T q s):=HW.out.bel hb2;have e1:w2.cell? ⟨w.heap.size+1+1+1,1,none⟩=some (.int .i64 at'):=(HW2.out.qw.h.c 1 aO).trans (by show some (Value.int .i64 q.at_)=_;rw[HAT.out]);have ef:w2.frozen? ⟨w.heap.size+1+1+1,1,none⟩=false:=HW2.out.qw.h.fz 1;have el:w.heap.size+1+1+1 < w2.heap.size:=HW2.out.qw.h.lt;have el2:=Nat.lt_succ_of_lt el;clear hb2 c1 lh)
      | (go_at_call 24;refine Calls.mono (zBZ ⟨w.heap.size+1+1+1,kr,kg,ks,kd⟩ kk ca cap ta tcap T { q with at_:=at'+((yG T.ws T.len at').n:Int) } s at' _ HWS.out HDE.out (RR.rc (w:=w) ?_ (at':=at') HBN.out HLN.out HLF.out)) ?_;(focus(first|exact(HW2.out.al _).setAt _|exact(HW2.out.setAt _).al _));rintro e w3 hD;have hD:zAr _ _ kk (.slice ca T.len cap) (.slice ta T.tl tcap) _ s e w3 (.go s2 dn nx):=(by rw[← HPS.out];exact hD);obtain⟨rfl,⟨⟨kh',kr',kg',ks',kd'⟩,q2,hk',ho,hq2,hH2,g1,g2,g3,g4⟩,hm2,hcc⟩:=hD;simp only at hk' g2 g3 g4;subst hk';have HW3:Hid (RR w w3 ⟨w.heap.size+1+1+1,kr',kg',ks',kd'⟩ kk ca cap ta tcap T q2 s2):=RR.go (w:=w) (q:={ q with at_:=at'+((yG T.ws T.len at').n:Int) }) (s:=s) (by first|exact(HW2.out.al _).setAt _|exact(HW2.out.setAt _).al _) hq2 hm2 hH2 hcc ho g4;have HG:Hid _:=And.intro g1 (And.intro g2 g3);have f23:w3.cell? ⟨w.heap.size+1+1+1,23,none⟩=some (.bool false):=(hq2.h.c 23 aO).trans (by show some (Value.bool q2.stuck)=_;rw[hH2.st]);have f22:w3.cell? ⟨w.heap.size+1+1+1,22,none⟩=some (.int .i64 q.ran):=(hq2.h.c 22 aO).trans (by show some (Value.int .i64 q2.ran)=_;rw[g3]);have ff:w3.frozen? ⟨w.heap.size+1+1+1,22,none⟩=false:=hq2.h.fz 22;have fl:w.heap.size+1+1+1 < w3.heap.size:=hq2.h.lt;have fl2:=Nat.lt_succ_of_lt fl;clear hq2 hm2 hcc hH2 ho g1 g2 g3 g4 e1 ef el el2)
     go_roundg fu
     case measure=>exact Nat.lt_succ_self _
     case rel=>
      obtain⟨g1,g2,g3⟩:=HG.out
      refine⟨⟨w.heap.size+1+1+1,kr',kg',ks',kd'⟩,{ q2 with ran:=q.ran+1 },s2,nx.getD (at'+(yG T.ws T.len at').n),rfl,?_,?_,g2,?_,?_⟩
      ·first|exact(HW3.out.al _).setRan _|exact(HW3.out.setRan _).al _
      ·show BN T _ q2.done (q.ran+1) 0;rw[g1];exact HNX.out
      ·have h1:=zFb HWS.out HDE.out HPS.out
       have h2:=HPH.out
       show phi T _ (q.ran+1) < fu
       omega
      ·have:=HRU.out
       unfold zBj at this
       rw[if_pos HDE.out,HPS.out] at this
       show zBj T fu _ s2 q2.done (q.ran+1)=rs
       rw[g1]
       exact this
   ·have bb:((yG T.ws T.len at').e !=0)=true:=by simpa using he
    have hr:rs=(⟨5,0,0,0,0,at'⟩,s):=by have:=HRU.out;unfold zBj at this;rw[if_neg he] at this;exact this.symm
    subst hr
    go_upto_region 8 with (go_at_call 23;refine Calls.mono (zAz ca T.len cap at' T.ws _ HW.out.wd) ?_;rintro e w2 ⟨rfl,hb2⟩;have HW2:Hid (RR w w2 ⟨w.heap.size+1+1+1,kr,kg,ks,kd⟩ kk ca cap ta tcap T q s):=HW.out.bel hb2;have e1:w2.cell? ⟨w.heap.size+1+1+1,1,none⟩=some (.int .i64 at'):=(HW2.out.qw.h.c 1 aO).trans (by show some (Value.int .i64 q.at_)=_;rw[HAT.out]);have ef:w2.frozen? ⟨w.heap.size+1+1+1,1,none⟩=false:=HW2.out.qw.h.fz 1;have el:w.heap.size+1+1+1 < w2.heap.size:=HW2.out.qw.h.lt;have el2:=Nat.lt_succ_of_lt el;clear hb2 c1 lh)
    have HR3:Hid _:=HW2.out.left.al (.cells (cdA (yG T.ws T.len at').x) 69)
    have hcc:q.c=s.c:=HW2.out.H.c
    generalize hwx:w2.alloc (.cells (cdA (yG T.ws T.len at').x) 69)=wx at *
    obtain⟨d0,d1,d2,d3,d4,d5,d6,d7,d8,d9,d10,d11,dl⟩:=HR3.out.qw.cs hcc
    clear HW2 hwx hcc e1 ef el el2
    go_wp2_with (refine wpList_store_mid rfl 25 _ _ rfl (w.heap.size+1) 0 ([.int .u32 (s.c 0),.int .u32 (s.c 1),.int .u32 (s.c 2),.int .u32 (s.c 3),.int .u32 (s.c 4),.int .u32 (s.c 5),.int .u32 (s.c 6),.int .u32 (s.c 7),.int .u32 (s.c 8),.int .u32 (s.c 9),.int .u32 (s.c 10),.int .u32 (s.c 11)]:List Value).toArray rfl rfl (zAS HR3.out.b1) (show(Tryz.prog.info? 25).map (·.size)=some ([.int .u32 (s.c 0),.int .u32 (s.c 1),.int .u32 (s.c 2),.int .u32 (s.c 3),.int .u32 (s.c 4),.int .u32 (s.c 5),.int .u32 (s.c 6),.int .u32 (s.c 7),.int .u32 (s.c 8),.int .u32 (s.c 9),.int .u32 (s.c 10),.int .u32 (s.c 11)]:List Value).toArray.size from i27) (all_oneCell_toArray (zET s.c)) ?_;refine zEt (fun W'=>FX w W' wx s.c) (zIe s.c HR3.out.b1 HR3.out.b2) ?_;intro V hV;have HV:Hid _:=hV;obtain⟨⟨m0,m1,m2,m3,m4,m5,m6,m7,m8,m9,m10,m11⟩,hch,y0,y1,y2,y3,y4,y5,yf,yl⟩:=hV;have ml:w.heap.size+1 < V.heap.size:=aO;clear hch)
    exact bodyPost_ret (v:=.tuple #[Va.cxV s.c,.agg (yE ⟨5,0,0,0,0,at'⟩)]) zq44 rfl ⟨rfl,HR3.out.fin (HV.out.ch.trans' ((((((((zI.refl [w.heap.size+1+1] V).set aC _ _).set aC _ _).set aC _ _).set aC _ _).set aC _ _).set aC _ _)))⟩
end Go.Proofs.YthcpipfmicbnmaaGreat.Ho
