import Derived.Test.YtkmjenjahbicpaaWER
set_option linter.unusedVariables false
set_option linter.unusedSimpArgs false
set_option maxHeartbeats 16000000
namespace Go.Proofs.Ytkmjenjahbicpaa.Va
open Go.RowKit
set_option maxRecDepth 100000
theorem zHK(pc:Nat)(count bytes:Int)(bp:Option Addr)(n cap:Nat)(f:Nat→zL)(k:RB)(c:Nat→Nat)(s:MS)(w:World)(hO:vN w bp n f)(hb:∀ b off,bp=some ⟨b,off,none⟩→b∉k.all)(hg:∀ j,j < n→zB7 n (f j)∧(f j).k < 4294967296)(hl:∀ j,j < n→(f j).kind=9→(f j).a < j)(hn:n≤2048)(hn0:0 < n)(hq:zJ8 ⟨c,s,fun _=>0⟩)(h:RM w k s) :
  Calls Try.prog 8 #[.agg #[.int .u32 pc,.int .i64 count,.int .i64 bytes,.slice bp n cap],cxV c,.pointer (some ⟨k.y,0,none⟩)] w fun e w'=>e=.returned (.tuple #[cxV (zBx f n 0 ⟨c,s,fun _=>0⟩).1.c,exR (zBx f n 0 ⟨c,s,fun _=>0⟩).2.1,.int .i64 (zBx f n 0 ⟨c,s,fun _=>0⟩).2.2])∧RM w' k (zBx f n 0 ⟨c,s,fun _=>0⟩).1.s∧zJ k.all w w':=by
 obtain⟨R,HR⟩:∃ R,Hid (zBx f n 0 ⟨c,s,fun _=>0⟩=R):=⟨_,rfl⟩
 rw[HR.out]
 obtain⟨i0,hi,hz0,hz1,hz2⟩:=info_parts zEb
 have hb8:i0.bytes≤8:=aO
 have HI:Hid (Try.prog.info? 22=some i0∧i0.zero=some (.int .u32 0)∧i0.size=1∧i0.bytes≤8):=⟨hi,hz0,hz1,hb8⟩
 have HNM:Hid (n≤65536):=show n≤65536 by omega
 have HO:Hid (vN w bp n f):=hO
 have HBN:Hid _:=hb
 have HG:Hid _:=hg
 have HN:Hid _:=hn
 have HLS:Hid _:=hl
 have HQ:Hid _:=hq
 have HW:Hid _:=zNS w #[.int .u32 pc,.int .i64 count,.int .i64 bytes,.slice bp n cap] c s k n hn0 h
 have n1:(n:Int)≤2048:=aO
 have n0:(0:Int)≤(n:Int):=aO
 obtain⟨C,HCC⟩:∃ C,Hid (w.heap.size+1=C):=⟨_,rfl⟩
 clear hi hz0 hz1 hz2 hb8 hO hb hg hq h hl
 go_enter Try.func8,Try.ntmps8
 go_wp2_with (refine zEV rfl (.tmp 16) (.tmp 16) 37 rfl 22 i0 (.int .u32 0) Try.underlying37 HI.out.1 HI.out.2.1 HI.out.2.2.1 HI.out.2.2.2 n rfl rfl HNM.out (w.heap.size+1+1+1+1) aS ?_)
 go_loopw [21] (fun i' wr=>∃ (j:Nat) (q:Sq),i'=.int .i64 j∧j≤n∧zBx f (n - j) j q=R∧zJ8 q∧LvA w wr (w.heap.size+1) (w.heap.size+1+1+1+1) n k q) (fun i _=>n - (intOf i).toNat)
 case atStart=>exact⟨0,_,rfl,by omega,HR.out,HQ.out,HW.out⟩
 case round=>
  obtain⟨j,q,rfl,hj,hsc,hq',hW⟩:=hrel
  have HSC:Hid _:=hsc
  have HQ':Hid _:=hq'
  have HWr:Hid _:=hW
  clear hsc hW HW hq'
  by_cases hlt:j < n
  ·have hji:(j:Int) < (n:Int):=aO
   have dj:decide ((j:Int) < (n:Int))=true:=decide_eq_true hji
   have j0:(0:Int)≤(j:Int):=aO
   have hstep:n - j=(n - (j+1))+1:=aO
   have HLT:Hid _:=hlt
   obtain⟨b,off,rfl,hb,hc⟩:=(vN.chg HO.out HBN.out HWr.out.chg) aO
   obtain⟨o,HOO⟩:∃ o,Hid (f j=o):=⟨_,rfl⟩
   obtain⟨z0,z1,z2,z3,z4,z5,z6⟩:zAm wr b (off+j*7) o:=HOO.out▸hc j hlt
   obtain⟨L,HL⟩:∃ L,Hid (yC o q=L):=⟨_,rfl⟩
   have HST:Hid ((if yC o q then(zP o j q,exO o q,(j:Int)) else zBx f (n - (j+1)) (j+1) (zP o j q))=R):=by
    show _=_
    have:=hstep▸HSC.out
    simp only[zBx,HOO.out] at this
    exact this
   have HLO:Hid (o.kind=9→o.a < j):=HOO.out▸HLS.out j HLT.out
   have HGO:Hid (zB7 n o):=(HOO.out▸HG.out j HLT.out).1
   have HNX:Hid (zJ8 (zP o j q)):=zLY o j q HQ'.out (HOO.out▸HG.out j HLT.out).2
   clear hc hlt hb hstep
   go_upto_block 2 with fail
   have H0:Hid _:=lvB w wr _ _ n k q o HWr.out
   obtain⟨D,HD⟩:∃ D,Hid (wr.heap.size=D):=⟨_,rfl⟩
   rw[HD.out] at H0 ⊢
   generalize ((wr.alloc _).alloc _)=W0 at H0 ⊢
   clear z0 z1 z2 z3 z4 z5 z6
   rw[HCC.out] at H0 ⊢
   generalize hVV:C+1+1+1=V at H0 ⊢
   have HVV:Hid _:=hVV
   clear hVV
   go_cut [13] from 22 to 170 (fun x wx=>x=.bool (yC o q)∧LvB w wx C V D n k (zP o j q) o (exO o q))
   case first=>
    have kk:(o.kind=1∨o.kind=4∨o.kind=5∨o.kind=6∨o.kind=7∨o.kind=8)∨o.kind=2∨o.kind=3∨o.kind=17∨o.kind=9∨o.kind=10∨o.kind=11∨o.kind=12∨o.kind=13∨o.kind=14∨o.kind=15∨o.kind=16:=by have h1:=HGO.out.k1;have h2:=HGO.out.k2;omega
    clear L HL HST HO HBN HNX HWr
    rcases kk with e|e|e|e|e|e|e|e|e|e|e|e
    ·have HX1:Hid (exO o q=⟨0,0,o.k,o.n⟩):=show exO o q=⟨0,0,o.k,o.n⟩ by unfold exO;rw[if_neg aO,if_neg aO,if_neg aO,if_neg aO,if_neg aO]
     have HX2:Hid (yC o q=false):=show yC o q=false by unfold yC;rw[if_neg aO,if_neg aO,if_neg aO,if_neg aO];exact aF
     have HX3:Hid (zP o j q=⟨q.c,q.s,zBm q.v j (zBg o q).toNat⟩):=show zP o j q=⟨q.c,q.s,zBm q.v j (zBg o q).toNat⟩ by unfold zP;rw[if_neg aO,if_neg aO,if_neg aO,if_pos (by unfold isV;omega)]
     have kb2:(o.kind==2)=false:=by simp;omega
     have kb3:(o.kind==3)=false:=by simp;omega
     have kb17:(o.kind==17)=false:=by simp;omega
     have kb9:(o.kind==9)=false:=by simp;omega
     have kb10:(o.kind==10)=false:=by simp;omega
     have kb11:(o.kind==11)=false:=by simp;omega
     have kb12:(o.kind==12)=false:=by simp;omega
     have kb13:(o.kind==13)=false:=by simp;omega
     have kb14:(o.kind==14)=false:=by simp;omega
     have kb15:(o.kind==15)=false:=by simp;omega
     have kb16:(o.kind==16)=false:=by simp;omega
     obtain⟨y,HY⟩:∃ y:Nat,Hid (yM o (q.v o.a.toNat) (q.v o.b.toNat) (q.v o.c.toNat)=(y:Int)):=⟨(yM o (q.v o.a.toNat) (q.v o.b.toNat) (q.v o.c.toNat)).toNat,show yM o (q.v o.a.toNat) (q.v o.b.toNat) (q.v o.c.toNat)=_ from by
      have bd:=zEw o q.c (q.v o.a.toNat) (q.v o.b.toNat) (q.v o.c.toNat) HQ'.out.c (HQ'.out.v _) (HQ'.out.v _) (HQ'.out.v _) (HOO.out▸HG.out j HLT.out).2
      unfold zAZ at bd
      rw[if_neg aO,if_neg aO] at bd
      exact(Int.toNat_of_nonneg bd.1).symm⟩
     have HV:Hid ((zBg o q).toNat=y):=show(zBg o q).toNat=y by unfold zBg zAZ;rw[if_neg aO,if_neg aO,HY.out,Int.toNat_natCast]
     have HE6:Hid _:=e
     have HC:Hid (∀ W,Below W0.heap.size W0 W→Calls Try.prog 31 #[.agg #[.int .i64 o.kind,.int .i64 o.w,.int .i64 o.a,.int .i64 o.b,.int .i64 o.c,.int .u32 o.k,.int .i64 o.n],.int .u32 (q.v o.a.toNat),.int .u32 (q.v o.b.toNat),.int .u32 (q.v o.c.toNat)] W fun e w'=>e=.returned (.int .u32 y)∧Below W.heap.size W w'):=show ∀ W,_ from fun W hW=>by
      have:=zGD n o (q.v o.a.toNat) (q.v o.b.toNat) (q.v o.c.toNat) W (HQ'.out.v _) (HQ'.out.v _) (HQ'.out.v _) HE6.out HGO.out
      rw[HY.out] at this
      exact this
     have lCV:=H0.out.a.lV
     have lVD:=H0.out.lD
     have nCV:C≠V:=aO
     have nVD:V≠D:=aO
     have nVD1:V≠D+1:=aO
     have nCD:C≠D:=aO
     have nCD1:C≠D+1:=aO
     have z5_0:W0.cell? ⟨D,0,none⟩=some (.int .i64 o.kind):=zA H0.out.b11 0
     have z5_1:W0.cell? ⟨D,1,none⟩=some (.int .i64 o.w):=zA H0.out.b11 1
     have z5_2:W0.cell? ⟨D,2,none⟩=some (.int .i64 o.a):=zA H0.out.b11 2
     have z5_3:W0.cell? ⟨D,3,none⟩=some (.int .i64 o.b):=zA H0.out.b11 3
     have z5_4:W0.cell? ⟨D,4,none⟩=some (.int .i64 o.c):=zA H0.out.b11 4
     have z5_5:W0.cell? ⟨D,5,none⟩=some (.int .u32 o.k):=zA H0.out.b11 5
     have z5_6:W0.cell? ⟨D,6,none⟩=some (.int .i64 o.n):=zA H0.out.b11 6
     have ga:=HGO.out.a
     obtain⟨a0,a1⟩:=ga
     have xa:=H0.out.a.r.cv o.a.toNat aO
     have gb:=HGO.out.b aO
     obtain⟨b0,b1⟩:=gb
     have xb:=H0.out.a.r.cv o.b.toNat aO
     have gc:=HGO.out.c
     obtain⟨c0,c1⟩:=gc
     have xc:=H0.out.a.r.cv o.c.toNat aO
     clear e
     go_upto_region 8 with fail
     refine wp_region_held_drew (S:=fun W'=>W'.cell? ⟨D,0,none⟩=some (.int .i64 o.kind)∧W'.cell? ⟨D,1,none⟩=some (.int .i64 o.w)∧W'.cell? ⟨D,2,none⟩=some (.int .i64 o.a)∧W'.cell? ⟨D,3,none⟩=some (.int .i64 o.b)∧W'.cell? ⟨D,4,none⟩=some (.int .i64 o.c)∧W'.cell? ⟨D,5,none⟩=some (.int .u32 o.k)∧W'.cell? ⟨D,6,none⟩=some (.int .i64 o.n)) (by kernel_rfl) (by simp[go_sem,z5_0,z5_1,z5_2,z5_3,z5_4,z5_5,z5_6]) (fun hHeld=>?_)
     refine wpAnyH_take (i:=0) (oi:=_) (v:=?vA0) rfl (by kernel_rfl) (by kernel_rfl) (by kernel_rfl) (fun _ _ _ h=>h) (Or.inl ⟨by rfl,?hyA0⟩) (by assumption) ?restA0
     case hyA0=>(intro w hSw;(try dsimp only at hSw);go_simp;(try with_reducible rfl))
     simp only[Act.put,aP]
     refine wpAnyH_take (i:=1) (oi:=_) (v:=?vA1) rfl (by kernel_rfl) (by kernel_rfl) (by kernel_rfl) (fun _ _ _ h=>h) (Or.inl ⟨by rfl,?hyA1⟩) (by assumption) ?restA1
     case hyA1=>(intro w hSw;(try dsimp only at hSw);go_simp;(try with_reducible rfl))
     simp only[Act.put,aP]
     refine wpAnyH_take (i:=2) (oi:=_) (v:=?vA2) rfl (by kernel_rfl) (by kernel_rfl) (by kernel_rfl) (fun _ _ _ h=>h) (Or.inl ⟨by rfl,?hyA2⟩) (by assumption) ?restA2
     case hyA2=>(intro w hSw;(try dsimp only at hSw);go_simp;(try with_reducible rfl))
     simp only[Act.put,aP]
     refine wpAnyH_take (i:=3) (oi:=_) (v:=?vA3) rfl (by kernel_rfl) (by kernel_rfl) (by kernel_rfl) (fun _ _ _ h=>h) (Or.inl ⟨by rfl,?hyA3⟩) (by assumption) ?restA3
     case hyA3=>(intro w hSw;(try dsimp only at hSw);go_simp;(try with_reducible rfl))
     simp only[Act.put,aP]
     refine wpAnyH_take (i:=4) (oi:=_) (v:=?vA4) rfl (by kernel_rfl) (by kernel_rfl) (by kernel_rfl) (fun _ _ _ h=>h) (Or.inl ⟨by rfl,?hyA4⟩) (by assumption) ?restA4
     case hyA4=>(intro w hSw;(try dsimp only at hSw);go_simp;(try with_reducible rfl))
     simp only[Act.put,aP]
     refine wpAnyH_take (i:=5) (oi:=_) (v:=?vA5) rfl (by kernel_rfl) (by kernel_rfl) (by kernel_rfl) (fun _ _ _ h=>h) (Or.inl ⟨by rfl,?hyA5⟩) (by assumption) ?restA5
     case hyA5=>(intro w hSw;(try dsimp only at hSw);go_simp;(try with_reducible rfl))
     simp only[Act.put,aP]
     refine wpAnyH_take (i:=6) (oi:=_) (v:=?vA6) rfl (by kernel_rfl) (by kernel_rfl) (by kernel_rfl) (fun _ _ _ h=>h) (Or.inl ⟨by rfl,?hyA6⟩) (by assumption) ?restA6
     case hyA6=>(intro w hSw;(try dsimp only at hSw);go_simp;(try with_reducible rfl))
     simp only[Act.put,aP]
     refine wpAnyH_take (i:=8) (oi:=_) (v:=?vA8) rfl (by kernel_rfl) (by kernel_rfl) (by kernel_rfl) (fun _ _ _ h=>h) (Or.inl ⟨by rfl,?hyA8⟩) (by assumption) ?restA8
     case hyA8=>(intro w hSw;(try dsimp only at hSw);go_simp;(try with_reducible rfl))
     simp only[Act.put,aP]
     refine wpAnyH_take (i:=9) (oi:=_) (v:=?vA9) rfl (by kernel_rfl) (by kernel_rfl) (by kernel_rfl) (fun _ _ _ h=>h) (Or.inl ⟨by rfl,?hyA9⟩) (by assumption) ?restA9
     case hyA9=>(intro w hSw;(try dsimp only at hSw);go_simp;(try with_reducible rfl))
     simp only[Act.put,aP]
     refine wpAnyH_take (i:=10) (oi:=_) (v:=?vA10) rfl (by kernel_rfl) (by kernel_rfl) (by kernel_rfl) (fun _ _ _ h=>h) (Or.inl ⟨by rfl,?hyA10⟩) (by assumption) ?restA10
     case hyA10=>(intro w hSw;(try dsimp only at hSw);go_simp;(try with_reducible rfl))
     simp only[Act.put,aP]
     refine wpAnyH_take (i:=11) (oi:=_) (v:=?vA11) rfl (by kernel_rfl) (by kernel_rfl) (by kernel_rfl) (fun _ _ _ h=>h) (Or.inl ⟨by rfl,?hyA11⟩) (by assumption) ?restA11
     case hyA11=>(intro w hSw;(try dsimp only at hSw);go_simp;(try with_reducible rfl))
     simp only[Act.put,aP]
     refine wpAnyH_take (i:=13) (oi:=_) (v:=?vA13) rfl (by kernel_rfl) (by kernel_rfl) (by kernel_rfl) (fun _ _ _ h=>h) (Or.inl ⟨by rfl,?hyA13⟩) (by assumption) ?restA13
     case hyA13=>(intro w hSw;(try dsimp only at hSw);go_simp;(try with_reducible rfl))
     simp only[Act.put,aP]
     refine wpAnyH_take (i:=14) (oi:=_) (v:=?vA14) rfl (by kernel_rfl) (by kernel_rfl) (by kernel_rfl) (fun _ _ _ h=>h) (Or.inl ⟨by rfl,?hyA14⟩) (by assumption) ?restA14
     case hyA14=>(intro w hSw;(try dsimp only at hSw);go_simp;(try with_reducible rfl))
     simp only[Act.put,aP]
     refine wpAnyH_take (i:=15) (oi:=_) (v:=?vA15) rfl (by kernel_rfl) (by kernel_rfl) (by kernel_rfl) (fun _ _ _ h=>h) (Or.inl ⟨by rfl,?hyA15⟩) (by assumption) ?restA15
     case hyA15=>(intro w hSw;(try dsimp only at hSw);go_simp;(try with_reducible rfl))
     simp only[Act.put,aP]
     refine wpAnyH_take (i:=16) (oi:=_) (v:=?vA16) rfl (by kernel_rfl) (by kernel_rfl) (by kernel_rfl) (fun _ _ _ h=>h) (Or.inl ⟨by rfl,?hyA16⟩) (by assumption) ?restA16
     case hyA16=>(intro w hSw;(try dsimp only at hSw);go_simp;(try with_reducible rfl))
     simp only[Act.put,aP]
     refine wpAnyH_ready (rs:=[7,12,17]) (by kernel_rfl) aS ?_
     refine AllReadyH.cons (o:=_) rfl (fun K hK=>?_) (AllReadyH.cons (o:=_) rfl (fun K hK=>?_) (AllReadyH.cons (o:=_) rfl (fun K hK=>?_) AllReadyH.nil))
     ·(go_simp;refine hK.out _ _ zq11 (fun hHeld=>?_);clear hK K;(try simp only[Act.put,aP]))
      refine wpAnyH_ready (rs:=[12,17]) (by kernel_rfl) aS ?_
      refine AllReadyH.cons (o:=_) rfl (fun K hK=>?_) (AllReadyH.cons (o:=_) rfl (fun K hK=>?_) AllReadyH.nil)
      ·(go_simp;refine hK.out _ _ zq11 (fun hHeld=>?_);clear hK K;(try simp only[Act.put,aP]))
       refine wpAnyH_ready (rs:=[17]) (by kernel_rfl) aS ?_
       refine AllReadyH.cons (o:=_) rfl (fun K hK=>?_) AllReadyH.nil
       ·(go_simp;refine hK.out _ _ zq11 (fun hHeld=>?_);clear hK K;(try simp only[Act.put,aP]))
        refine wpAnyH_ready (rs:=[18]) (by kernel_rfl) aS ?_
        refine AllReadyH.cons (o:=_) rfl (fun K hK=>?_) AllReadyH.nil
        (go_simp;go_at_call 31;refine(HC.out _ ?_).mono ?_;(focus(first|with_reducible exact Below.refl _ _|with_reducible exact aB.drew|with_reducible exact aB.drew.drew));rintro e w1 ⟨rfl,h1⟩;have H1:Hid (LvB w w1 C V D n k q o ⟨0,0,o.k,o.n⟩):=zq21;have v5_0:w1.cell? ⟨D,0,none⟩=some (.int .i64 o.kind):=zA H1.out.b11 0;have v5_1:w1.cell? ⟨D,1,none⟩=some (.int .i64 o.w):=zA H1.out.b11 1;have v5_2:w1.cell? ⟨D,2,none⟩=some (.int .i64 o.a):=zA H1.out.b11 2;have v5_3:w1.cell? ⟨D,3,none⟩=some (.int .i64 o.b):=zA H1.out.b11 3;have v5_4:w1.cell? ⟨D,4,none⟩=some (.int .i64 o.c):=zA H1.out.b11 4;have v5_5:w1.cell? ⟨D,5,none⟩=some (.int .u32 o.k):=zA H1.out.b11 5;have v5_6:w1.cell? ⟨D,6,none⟩=some (.int .i64 o.n):=zA H1.out.b11 6;have yj:=H1.out.a.r.cv j HLT.out;have yjf:=H1.out.a.r.fv.fr j;clear h1;(try dsimp only);refine hK.out _ _ zq30 (fun hHeld=>?_);clear hK K;(try simp only[Act.put,aP]))
        refine wpAnyH_take (i:=19) (oi:=_) (v:=?v19L1) rfl (by kernel_rfl) (by kernel_rfl) (by kernel_rfl) (fun _ _ _ h=>h) (Or.inl ⟨by rfl,?hy19L1⟩) (by assumption) ?rest19L1
        case hy19L1=>(intro w hSw;(try dsimp only at hSw);go_simp;(try with_reducible rfl))
        simp only[Act.put,aP]
        refine wpAnyH_ready (rs:=[20]) (by kernel_rfl) aS ?_
        refine AllReadyH.cons (o:=_) rfl (fun K hK=>?_) AllReadyH.nil
        go_simp
        refine hK.out _ _ zq25 (fun hHeld=>?_)
        clear hK K
        (try simp only[Act.put,aP])
        refine wpAnyH_done (by kernel_rfl) ?_ _
        go_wp2
        go_meet
        case rel=>exact⟨by rw[HX2.out],by rw[HX1.out,HX3.out,HV.out];exact H1.out.putV HLT.out y⟩
      ·(go_simp;refine hK.out _ _ zq11 (fun hHeld=>?_);clear hK K;(try simp only[Act.put,aP]))
       refine wpAnyH_ready (rs:=[12]) (by kernel_rfl) aS ?_
       refine AllReadyH.cons (o:=_) rfl (fun K hK=>?_) AllReadyH.nil
       ·(go_simp;refine hK.out _ _ zq11 (fun hHeld=>?_);clear hK K;(try simp only[Act.put,aP]))
        refine wpAnyH_ready (rs:=[18]) (by kernel_rfl) aS ?_
        refine AllReadyH.cons (o:=_) rfl (fun K hK=>?_) AllReadyH.nil
        (go_simp;go_at_call 31;refine(HC.out _ ?_).mono ?_;(focus(first|with_reducible exact Below.refl _ _|with_reducible exact aB.drew|with_reducible exact aB.drew.drew));rintro e w1 ⟨rfl,h1⟩;have H1:Hid (LvB w w1 C V D n k q o ⟨0,0,o.k,o.n⟩):=zq21;have v5_0:w1.cell? ⟨D,0,none⟩=some (.int .i64 o.kind):=zA H1.out.b11 0;have v5_1:w1.cell? ⟨D,1,none⟩=some (.int .i64 o.w):=zA H1.out.b11 1;have v5_2:w1.cell? ⟨D,2,none⟩=some (.int .i64 o.a):=zA H1.out.b11 2;have v5_3:w1.cell? ⟨D,3,none⟩=some (.int .i64 o.b):=zA H1.out.b11 3;have v5_4:w1.cell? ⟨D,4,none⟩=some (.int .i64 o.c):=zA H1.out.b11 4;have v5_5:w1.cell? ⟨D,5,none⟩=some (.int .u32 o.k):=zA H1.out.b11 5;have v5_6:w1.cell? ⟨D,6,none⟩=some (.int .i64 o.n):=zA H1.out.b11 6;have yj:=H1.out.a.r.cv j HLT.out;have yjf:=H1.out.a.r.fv.fr j;clear h1;(try dsimp only);refine hK.out _ _ zq30 (fun hHeld=>?_);clear hK K;(try simp only[Act.put,aP]))
        refine wpAnyH_take (i:=19) (oi:=_) (v:=?v19L2) rfl (by kernel_rfl) (by kernel_rfl) (by kernel_rfl) (fun _ _ _ h=>h) (Or.inl ⟨by rfl,?hy19L2⟩) (by assumption) ?rest19L2
        case hy19L2=>(intro w hSw;(try dsimp only at hSw);go_simp;(try with_reducible rfl))
        simp only[Act.put,aP]
        refine wpAnyH_ready (rs:=[20]) (by kernel_rfl) aS ?_
        refine AllReadyH.cons (o:=_) rfl (fun K hK=>?_) AllReadyH.nil
        go_simp
        refine hK.out _ _ zq25 (fun hHeld=>?_)
        clear hK K
        (try simp only[Act.put,aP])
        refine wpAnyH_done (by kernel_rfl) ?_ _
        go_wp2
        go_meet
        case rel=>exact⟨by rw[HX2.out],by rw[HX1.out,HX3.out,HV.out];exact H1.out.putV HLT.out y⟩
     ·(go_simp;refine hK.out _ _ zq11 (fun hHeld=>?_);clear hK K;(try simp only[Act.put,aP]))
      refine wpAnyH_ready (rs:=[7,17]) (by kernel_rfl) aS ?_
      refine AllReadyH.cons (o:=_) rfl (fun K hK=>?_) (AllReadyH.cons (o:=_) rfl (fun K hK=>?_) AllReadyH.nil)
      ·(go_simp;refine hK.out _ _ zq11 (fun hHeld=>?_);clear hK K;(try simp only[Act.put,aP]))
       refine wpAnyH_ready (rs:=[17]) (by kernel_rfl) aS ?_
       refine AllReadyH.cons (o:=_) rfl (fun K hK=>?_) AllReadyH.nil
       ·(go_simp;refine hK.out _ _ zq11 (fun hHeld=>?_);clear hK K;(try simp only[Act.put,aP]))
        refine wpAnyH_ready (rs:=[18]) (by kernel_rfl) aS ?_
        refine AllReadyH.cons (o:=_) rfl (fun K hK=>?_) AllReadyH.nil
        (go_simp;go_at_call 31;refine(HC.out _ ?_).mono ?_;(focus(first|with_reducible exact Below.refl _ _|with_reducible exact aB.drew|with_reducible exact aB.drew.drew));rintro e w1 ⟨rfl,h1⟩;have H1:Hid (LvB w w1 C V D n k q o ⟨0,0,o.k,o.n⟩):=zq21;have v5_0:w1.cell? ⟨D,0,none⟩=some (.int .i64 o.kind):=zA H1.out.b11 0;have v5_1:w1.cell? ⟨D,1,none⟩=some (.int .i64 o.w):=zA H1.out.b11 1;have v5_2:w1.cell? ⟨D,2,none⟩=some (.int .i64 o.a):=zA H1.out.b11 2;have v5_3:w1.cell? ⟨D,3,none⟩=some (.int .i64 o.b):=zA H1.out.b11 3;have v5_4:w1.cell? ⟨D,4,none⟩=some (.int .i64 o.c):=zA H1.out.b11 4;have v5_5:w1.cell? ⟨D,5,none⟩=some (.int .u32 o.k):=zA H1.out.b11 5;have v5_6:w1.cell? ⟨D,6,none⟩=some (.int .i64 o.n):=zA H1.out.b11 6;have yj:=H1.out.a.r.cv j HLT.out;have yjf:=H1.out.a.r.fv.fr j;clear h1;(try dsimp only);refine hK.out _ _ zq30 (fun hHeld=>?_);clear hK K;(try simp only[Act.put,aP]))
        refine wpAnyH_take (i:=19) (oi:=_) (v:=?v19L3) rfl (by kernel_rfl) (by kernel_rfl) (by kernel_rfl) (fun _ _ _ h=>h) (Or.inl ⟨by rfl,?hy19L3⟩) (by assumption) ?rest19L3
        case hy19L3=>(intro w hSw;(try dsimp only at hSw);go_simp;(try with_reducible rfl))
        simp only[Act.put,aP]
        refine wpAnyH_ready (rs:=[20]) (by kernel_rfl) aS ?_
        refine AllReadyH.cons (o:=_) rfl (fun K hK=>?_) AllReadyH.nil
        go_simp
        refine hK.out _ _ zq25 (fun hHeld=>?_)
        clear hK K
        (try simp only[Act.put,aP])
        refine wpAnyH_done (by kernel_rfl) ?_ _
        go_wp2
        go_meet
        case rel=>exact⟨by rw[HX2.out],by rw[HX1.out,HX3.out,HV.out];exact H1.out.putV HLT.out y⟩
      ·(go_simp;refine hK.out _ _ zq11 (fun hHeld=>?_);clear hK K;(try simp only[Act.put,aP]))
       refine wpAnyH_ready (rs:=[7]) (by kernel_rfl) aS ?_
       refine AllReadyH.cons (o:=_) rfl (fun K hK=>?_) AllReadyH.nil
       ·(go_simp;refine hK.out _ _ zq11 (fun hHeld=>?_);clear hK K;(try simp only[Act.put,aP]))
        refine wpAnyH_ready (rs:=[18]) (by kernel_rfl) aS ?_
        refine AllReadyH.cons (o:=_) rfl (fun K hK=>?_) AllReadyH.nil
        (go_simp;go_at_call 31;refine(HC.out _ ?_).mono ?_;(focus(first|with_reducible exact Below.refl _ _|with_reducible exact aB.drew|with_reducible exact aB.drew.drew));rintro e w1 ⟨rfl,h1⟩;have H1:Hid (LvB w w1 C V D n k q o ⟨0,0,o.k,o.n⟩):=zq21;have v5_0:w1.cell? ⟨D,0,none⟩=some (.int .i64 o.kind):=zA H1.out.b11 0;have v5_1:w1.cell? ⟨D,1,none⟩=some (.int .i64 o.w):=zA H1.out.b11 1;have v5_2:w1.cell? ⟨D,2,none⟩=some (.int .i64 o.a):=zA H1.out.b11 2;have v5_3:w1.cell? ⟨D,3,none⟩=some (.int .i64 o.b):=zA H1.out.b11 3;have v5_4:w1.cell? ⟨D,4,none⟩=some (.int .i64 o.c):=zA H1.out.b11 4;have v5_5:w1.cell? ⟨D,5,none⟩=some (.int .u32 o.k):=zA H1.out.b11 5;have v5_6:w1.cell? ⟨D,6,none⟩=some (.int .i64 o.n):=zA H1.out.b11 6;have yj:=H1.out.a.r.cv j HLT.out;have yjf:=H1.out.a.r.fv.fr j;clear h1;(try dsimp only);refine hK.out _ _ zq30 (fun hHeld=>?_);clear hK K;(try simp only[Act.put,aP]))
        refine wpAnyH_take (i:=19) (oi:=_) (v:=?v19L4) rfl (by kernel_rfl) (by kernel_rfl) (by kernel_rfl) (fun _ _ _ h=>h) (Or.inl ⟨by rfl,?hy19L4⟩) (by assumption) ?rest19L4
        case hy19L4=>(intro w hSw;(try dsimp only at hSw);go_simp;(try with_reducible rfl))
        simp only[Act.put,aP]
        refine wpAnyH_ready (rs:=[20]) (by kernel_rfl) aS ?_
        refine AllReadyH.cons (o:=_) rfl (fun K hK=>?_) AllReadyH.nil
        go_simp
        refine hK.out _ _ zq25 (fun hHeld=>?_)
        clear hK K
        (try simp only[Act.put,aP])
        refine wpAnyH_done (by kernel_rfl) ?_ _
        go_wp2
        go_meet
        case rel=>exact⟨by rw[HX2.out],by rw[HX1.out,HX3.out,HV.out];exact H1.out.putV HLT.out y⟩
     ·(go_simp;refine hK.out _ _ zq11 (fun hHeld=>?_);clear hK K;(try simp only[Act.put,aP]))
      refine wpAnyH_ready (rs:=[7,12]) (by kernel_rfl) aS ?_
      refine AllReadyH.cons (o:=_) rfl (fun K hK=>?_) (AllReadyH.cons (o:=_) rfl (fun K hK=>?_) AllReadyH.nil)
      ·(go_simp;refine hK.out _ _ zq11 (fun hHeld=>?_);clear hK K;(try simp only[Act.put,aP]))
       refine wpAnyH_ready (rs:=[12]) (by kernel_rfl) aS ?_
       refine AllReadyH.cons (o:=_) rfl (fun K hK=>?_) AllReadyH.nil
       ·(go_simp;refine hK.out _ _ zq11 (fun hHeld=>?_);clear hK K;(try simp only[Act.put,aP]))
        refine wpAnyH_ready (rs:=[18]) (by kernel_rfl) aS ?_
        refine AllReadyH.cons (o:=_) rfl (fun K hK=>?_) AllReadyH.nil
        (go_simp;go_at_call 31;refine(HC.out _ ?_).mono ?_;(focus(first|with_reducible exact Below.refl _ _|with_reducible exact aB.drew|with_reducible exact aB.drew.drew));rintro e w1 ⟨rfl,h1⟩;have H1:Hid (LvB w w1 C V D n k q o ⟨0,0,o.k,o.n⟩):=zq21;have v5_0:w1.cell? ⟨D,0,none⟩=some (.int .i64 o.kind):=zA H1.out.b11 0;have v5_1:w1.cell? ⟨D,1,none⟩=some (.int .i64 o.w):=zA H1.out.b11 1;have v5_2:w1.cell? ⟨D,2,none⟩=some (.int .i64 o.a):=zA H1.out.b11 2;have v5_3:w1.cell? ⟨D,3,none⟩=some (.int .i64 o.b):=zA H1.out.b11 3;have v5_4:w1.cell? ⟨D,4,none⟩=some (.int .i64 o.c):=zA H1.out.b11 4;have v5_5:w1.cell? ⟨D,5,none⟩=some (.int .u32 o.k):=zA H1.out.b11 5;have v5_6:w1.cell? ⟨D,6,none⟩=some (.int .i64 o.n):=zA H1.out.b11 6;have yj:=H1.out.a.r.cv j HLT.out;have yjf:=H1.out.a.r.fv.fr j;clear h1;(try dsimp only);refine hK.out _ _ zq30 (fun hHeld=>?_);clear hK K;(try simp only[Act.put,aP]))
        refine wpAnyH_take (i:=19) (oi:=_) (v:=?v19L5) rfl (by kernel_rfl) (by kernel_rfl) (by kernel_rfl) (fun _ _ _ h=>h) (Or.inl ⟨by rfl,?hy19L5⟩) (by assumption) ?rest19L5
        case hy19L5=>(intro w hSw;(try dsimp only at hSw);go_simp;(try with_reducible rfl))
        simp only[Act.put,aP]
        refine wpAnyH_ready (rs:=[20]) (by kernel_rfl) aS ?_
        refine AllReadyH.cons (o:=_) rfl (fun K hK=>?_) AllReadyH.nil
        go_simp
        refine hK.out _ _ zq25 (fun hHeld=>?_)
        clear hK K
        (try simp only[Act.put,aP])
        refine wpAnyH_done (by kernel_rfl) ?_ _
        go_wp2
        go_meet
        case rel=>exact⟨by rw[HX2.out],by rw[HX1.out,HX3.out,HV.out];exact H1.out.putV HLT.out y⟩
      ·(go_simp;refine hK.out _ _ zq11 (fun hHeld=>?_);clear hK K;(try simp only[Act.put,aP]))
       refine wpAnyH_ready (rs:=[7]) (by kernel_rfl) aS ?_
       refine AllReadyH.cons (o:=_) rfl (fun K hK=>?_) AllReadyH.nil
       ·(go_simp;refine hK.out _ _ zq11 (fun hHeld=>?_);clear hK K;(try simp only[Act.put,aP]))
        refine wpAnyH_ready (rs:=[18]) (by kernel_rfl) aS ?_
        refine AllReadyH.cons (o:=_) rfl (fun K hK=>?_) AllReadyH.nil
        (go_simp;go_at_call 31;refine(HC.out _ ?_).mono ?_;(focus(first|with_reducible exact Below.refl _ _|with_reducible exact aB.drew|with_reducible exact aB.drew.drew));rintro e w1 ⟨rfl,h1⟩;have H1:Hid (LvB w w1 C V D n k q o ⟨0,0,o.k,o.n⟩):=zq21;have v5_0:w1.cell? ⟨D,0,none⟩=some (.int .i64 o.kind):=zA H1.out.b11 0;have v5_1:w1.cell? ⟨D,1,none⟩=some (.int .i64 o.w):=zA H1.out.b11 1;have v5_2:w1.cell? ⟨D,2,none⟩=some (.int .i64 o.a):=zA H1.out.b11 2;have v5_3:w1.cell? ⟨D,3,none⟩=some (.int .i64 o.b):=zA H1.out.b11 3;have v5_4:w1.cell? ⟨D,4,none⟩=some (.int .i64 o.c):=zA H1.out.b11 4;have v5_5:w1.cell? ⟨D,5,none⟩=some (.int .u32 o.k):=zA H1.out.b11 5;have v5_6:w1.cell? ⟨D,6,none⟩=some (.int .i64 o.n):=zA H1.out.b11 6;have yj:=H1.out.a.r.cv j HLT.out;have yjf:=H1.out.a.r.fv.fr j;clear h1;(try dsimp only);refine hK.out _ _ zq30 (fun hHeld=>?_);clear hK K;(try simp only[Act.put,aP]))
        refine wpAnyH_take (i:=19) (oi:=_) (v:=?v19L6) rfl (by kernel_rfl) (by kernel_rfl) (by kernel_rfl) (fun _ _ _ h=>h) (Or.inl ⟨by rfl,?hy19L6⟩) (by assumption) ?rest19L6
        case hy19L6=>(intro w hSw;(try dsimp only at hSw);go_simp;(try with_reducible rfl))
        simp only[Act.put,aP]
        refine wpAnyH_ready (rs:=[20]) (by kernel_rfl) aS ?_
        refine AllReadyH.cons (o:=_) rfl (fun K hK=>?_) AllReadyH.nil
        go_simp
        refine hK.out _ _ zq25 (fun hHeld=>?_)
        clear hK K
        (try simp only[Act.put,aP])
        refine wpAnyH_done (by kernel_rfl) ?_ _
        go_wp2
        go_meet
        case rel=>exact⟨by rw[HX2.out],by rw[HX1.out,HX3.out,HV.out];exact H1.out.putV HLT.out y⟩
    ·have HX1:Hid (exO o q=⟨0,0,o.k,o.n⟩):=show exO o q=⟨0,0,o.k,o.n⟩ by unfold exO;rw[if_neg aO,if_neg aO,if_neg aO,if_neg aO,if_neg aO]
     have HX2:Hid (yC o q=false):=show yC o q=false by unfold yC;rw[if_neg aO,if_neg aO,if_neg aO,if_neg aO];exact aF
     have HX3:Hid (zP o j q=⟨q.c,q.s,zBm q.v j (zBg o q).toNat⟩):=show zP o j q=⟨q.c,q.s,zBm q.v j (zBg o q).toNat⟩ by unfold zP;rw[if_neg aO,if_neg aO,if_neg aO,if_pos (by unfold isV;omega)]
     have kb2:(o.kind==2)=true:=by simp[e]
     have HV:Hid ((zBg o q).toNat=q.c o.w.toNat):=show(zBg o q).toNat=q.c o.w.toNat by unfold zBg zAZ;rw[if_pos e,Int.toNat_natCast]
     have HWW:Hid (0≤o.w∧o.w≤11):=show 0≤o.w∧o.w≤11 by have h1:=HGO.out.lo;have h2:=HGO.out.hi;rw[e] at h1 h2;exact⟨h1,h2⟩
     obtain⟨w0,w1⟩:=HWW.out
     have z5_0:W0.cell? ⟨D,0,none⟩=some (.int .i64 o.kind):=zA H0.out.b11 0
     have z5_1:W0.cell? ⟨D,1,none⟩=some (.int .i64 o.w):=zA H0.out.b11 1
     have z5_2:W0.cell? ⟨D,2,none⟩=some (.int .i64 o.a):=zA H0.out.b11 2
     have z5_3:W0.cell? ⟨D,3,none⟩=some (.int .i64 o.b):=zA H0.out.b11 3
     have z5_4:W0.cell? ⟨D,4,none⟩=some (.int .i64 o.c):=zA H0.out.b11 4
     have z5_5:W0.cell? ⟨D,5,none⟩=some (.int .u32 o.k):=zA H0.out.b11 5
     have z5_6:W0.cell? ⟨D,6,none⟩=some (.int .i64 o.n):=zA H0.out.b11 6
     have lCV:=H0.out.a.lV
     have lVD:=H0.out.lD
     have nCV:C≠V:=aO
     have nVD:V≠D:=aO
     have nVD1:V≠D+1:=aO
     have nCD:C≠D:=aO
     have nCD1:C≠D+1:=aO
     have xj:=H0.out.a.r.cv j HLT.out
     have xjf:=H0.out.a.r.fv.fr j
     have w12:o.w < 12:=aO
     have xw:W0.cell? ⟨C,o.w.toNat,none⟩=some (.int .u32 (q.c o.w.toNat)):=(zA H0.out.a.r.cb _).trans (zIb _ _ aO)
     clear e
     go_wp2
     go_meet
     case rel=>exact⟨by rw[HX2.out],by rw[HX1.out,HX3.out,HV.out];exact H0.out.putV HLT.out _⟩
    ·have HX1:Hid (exO o q=⟨0,0,o.k,o.n⟩):=show exO o q=⟨0,0,o.k,o.n⟩ by unfold exO;rw[if_neg aO,if_neg aO,if_neg aO,if_neg aO,if_neg aO]
     have HX2:Hid (yC o q=false):=show yC o q=false by unfold yC;rw[if_neg aO,if_neg aO,if_neg aO,if_neg aO];exact aF
     have HX3:Hid (zP o j q=⟨zBm q.c o.w.toNat (q.v o.a.toNat),q.s,q.v⟩):=show zP o j q=⟨zBm q.c o.w.toNat (q.v o.a.toNat),q.s,q.v⟩ by unfold zP;rw[if_pos aO]
     have kb2:(o.kind==2)=false:=by simp;omega
     have kb3:(o.kind==3)=true:=by simp[e]
     have HWW:Hid (0≤o.w∧o.w≤11):=show 0≤o.w∧o.w≤11 by have h1:=HGO.out.lo;have h2:=HGO.out.hi;rw[e] at h1 h2;exact⟨h1,h2⟩
     obtain⟨w0,w1⟩:=HWW.out
     have z5_0:W0.cell? ⟨D,0,none⟩=some (.int .i64 o.kind):=zA H0.out.b11 0
     have z5_1:W0.cell? ⟨D,1,none⟩=some (.int .i64 o.w):=zA H0.out.b11 1
     have z5_2:W0.cell? ⟨D,2,none⟩=some (.int .i64 o.a):=zA H0.out.b11 2
     have z5_3:W0.cell? ⟨D,3,none⟩=some (.int .i64 o.b):=zA H0.out.b11 3
     have z5_4:W0.cell? ⟨D,4,none⟩=some (.int .i64 o.c):=zA H0.out.b11 4
     have z5_5:W0.cell? ⟨D,5,none⟩=some (.int .u32 o.k):=zA H0.out.b11 5
     have z5_6:W0.cell? ⟨D,6,none⟩=some (.int .i64 o.n):=zA H0.out.b11 6
     have lCV:=H0.out.a.lV
     have lVD:=H0.out.lD
     have nCV:C≠V:=aO
     have nVD:V≠D:=aO
     have nVD1:V≠D+1:=aO
     have nCD:C≠D:=aO
     have nCD1:C≠D+1:=aO
     have ga:=HGO.out.a
     obtain⟨a0,a1⟩:=ga
     have xa:=H0.out.a.r.cv o.a.toNat aO
     have w12:o.w < 12:=aO
     have HW12:Hid (o.w.toNat < 12):=show o.w.toNat < 12 by omega
     have xw:W0.cell? ⟨C,o.w.toNat,none⟩=some (.int .u32 (q.c o.w.toNat)):=(zA H0.out.a.r.cb _).trans (zIb _ _ aO)
     have xcf:=zD H0.out.a.r.cb
     clear e
     go_upto_region 12 with fail
     go_region_held3 (fun W'=>W'.cell? ⟨D,1,none⟩=some (.int .i64 o.w)∧W'.cell? ⟨D,2,none⟩=some (.int .i64 o.a)∧W'.cell? ⟨V,o.a.toNat,none⟩=some (.int .u32 (q.v o.a.toNat))) ((simp[go_sem,z5_1,z5_2,xa,nCV,nVD,nVD1,nCD,nCD1,nCV.symm,nCD.symm];done)) (fail)
     go_wp2
     go_meet
     case rel=>exact⟨by rw[HX2.out],by rw[HX1.out,HX3.out];exact(H0.out.drew).putC HW12.out _⟩
    ·have HX1:Hid (exO o q=⟨0,0,o.k,o.n⟩):=show exO o q=⟨0,0,o.k,o.n⟩ by unfold exO;rw[if_neg aO,if_neg aO,if_neg aO,if_neg aO,if_neg aO]
     have HX2:Hid (yC o q=false):=show yC o q=false by unfold yC;rw[if_neg aO,if_neg aO,if_neg aO,if_neg aO];exact aF
     have HX3:Hid (zP o j q=⟨q.c,q.s,zBm q.v j (zBg o q).toNat⟩):=show zP o j q=⟨q.c,q.s,zBm q.v j (zBg o q).toNat⟩ by unfold zP;rw[if_neg aO,if_neg aO,if_neg aO,if_pos (by unfold isV;omega)]
     have kb2:(o.kind==2)=false:=by simp;omega
     have kb3:(o.kind==3)=false:=by simp;omega
     have kb17:(o.kind==17)=true:=by simp[e]
     obtain⟨F,HF⟩:∃ F:Nat,Hid (cxF q.c=(F:Int)):=⟨(cxF q.c).toNat,show cxF q.c=_ from(Int.toNat_of_nonneg (zCP _ _ _ _).1).symm⟩
     have HV:Hid ((zBg o q).toNat=F):=show(zBg o q).toNat=F by unfold zBg zAZ;rw[if_neg aO,if_pos e,HF.out,Int.toNat_natCast]
     have lCV:=H0.out.a.lV
     have lVD:=H0.out.lD
     have nCV:C≠V:=aO
     have nVD:V≠D:=aO
     have nVD1:V≠D+1:=aO
     have nCD:C≠D:=aO
     have nCD1:C≠D+1:=aO
     have xj:=H0.out.a.r.cv j HLT.out
     have xjf:=H0.out.a.r.fv.fr j
     have c_0:W0.cell? ⟨C,0,none⟩=some (.int .u32 (q.c 0)):=zA H0.out.a.r.cb 0
     have c_1:W0.cell? ⟨C,1,none⟩=some (.int .u32 (q.c 1)):=zA H0.out.a.r.cb 1
     have c_2:W0.cell? ⟨C,2,none⟩=some (.int .u32 (q.c 2)):=zA H0.out.a.r.cb 2
     have c_3:W0.cell? ⟨C,3,none⟩=some (.int .u32 (q.c 3)):=zA H0.out.a.r.cb 3
     have c_4:W0.cell? ⟨C,4,none⟩=some (.int .u32 (q.c 4)):=zA H0.out.a.r.cb 4
     have c_5:W0.cell? ⟨C,5,none⟩=some (.int .u32 (q.c 5)):=zA H0.out.a.r.cb 5
     have c_6:W0.cell? ⟨C,6,none⟩=some (.int .u32 (q.c 6)):=zA H0.out.a.r.cb 6
     have c_7:W0.cell? ⟨C,7,none⟩=some (.int .u32 (q.c 7)):=zA H0.out.a.r.cb 7
     have c_8:W0.cell? ⟨C,8,none⟩=some (.int .u32 (q.c 8)):=zA H0.out.a.r.cb 8
     have c_9:W0.cell? ⟨C,9,none⟩=some (.int .u32 (q.c 9)):=zA H0.out.a.r.cb 9
     have c_10:W0.cell? ⟨C,10,none⟩=some (.int .u32 (q.c 10)):=zA H0.out.a.r.cb 10
     have c_11:W0.cell? ⟨C,11,none⟩=some (.int .u32 (q.c 11)):=zA H0.out.a.r.cb 11
     have yR:=zRe q.c 0 (F:Int)
     clear e
     go_wp2_with (go_at_call 27;refine(zEQ q.c 0 _ HQ'.out.c).mono ?_;rintro e w1 ⟨rfl,h1⟩;rw[HF.out];have H1:Hid _:=H0.out.below h1;have yj:=H1.out.a.r.cv j HLT.out;have yjf:=H1.out.a.r.fv.fr j;clear h1)
     go_meet
     case rel=>exact⟨by rw[HX2.out],by rw[HX1.out,HX3.out,HV.out];exact H1.out.putV HLT.out _⟩
    ·have HX1:Hid (exO o q=⟨stK 5 (ldO o q),stA (ldO o q),o.k,o.n⟩):=show exO o q=⟨stK 5 (ldO o q),stA (ldO o q),o.k,o.n⟩ by unfold exO;rw[if_pos aO]
     have HX2:Hid (yC o q=(stK 5 (ldO o q) !=0)):=show yC o q=(stK 5 (ldO o q) !=0) by unfold yC;rw[if_pos aO]
     have HX3:Hid (zP o j q=⟨q.c,q.s,zBm q.v j (zBL q.s o.w (q.v o.a.toNat))⟩):=show zP o j q=⟨q.c,q.s,zBm q.v j (zBL q.s o.w (q.v o.a.toNat))⟩ by unfold zP;rw[if_neg aO,if_pos aO]
     have kb2:(o.kind==2)=false:=by simp;omega
     have kb3:(o.kind==3)=false:=by simp;omega
     have kb17:(o.kind==17)=false:=by simp;omega
     have kb9:(o.kind==9)=true:=by simp[e]
     have HWW:Hid (0≤o.w∧o.w≤4):=show 0≤o.w∧o.w≤4 by have h1:=HGO.out.lo;have h2:=HGO.out.hi;rw[e] at h1 h2;exact⟨h1,h2⟩
     obtain⟨w0,w1⟩:=HWW.out
     obtain⟨y,HY⟩:∃ y,Hid (zBL q.s o.w (q.v o.a.toNat)=y):=⟨_,rfl⟩
     obtain⟨kk,HKK⟩:∃ kk,Hid (stK 5 (ldO o q)=kk):=⟨_,rfl⟩
     obtain⟨aa,HAA⟩:∃ aa,Hid (stA (ldO o q)=aa):=⟨_,rfl⟩
     have HC:Hid (∀ W,Below W0.heap.size W0 W→Calls Try.prog 28 #[.pointer (some ⟨k.y,0,none⟩),.int .i64 o.w,.int .u32 (q.v o.a.toNat)] W fun e w'=>e=.returned (.tuple #[.int .u32 y,.agg #[.int .i64 kk,.int .u32 aa]])∧Below W.heap.size W w'):=show ∀ W,_ from fun W hW=>by
      have:=zIp k (q.v o.a.toNat) o.w q.s W (HQ'.out.v _) HQ'.out.s (H0.out.a.r.m.below hW aL) HWW.out
      rw[HY.out,show stK 5 (vA q.s 1 (q.v o.a.toNat) (zAX o.w).toNat)=kk from HKK.out,show stA (vA q.s 1 (q.v o.a.toNat) (zAX o.w).toNat)=aa from HAA.out] at this
      exact this
     have lCV:=H0.out.a.lV
     have lVD:=H0.out.lD
     have nCV:C≠V:=aO
     have nVD:V≠D:=aO
     have nVD1:V≠D+1:=aO
     have nCD:C≠D:=aO
     have nCD1:C≠D+1:=aO
     have z5_0:W0.cell? ⟨D,0,none⟩=some (.int .i64 o.kind):=zA H0.out.b11 0
     have z5_1:W0.cell? ⟨D,1,none⟩=some (.int .i64 o.w):=zA H0.out.b11 1
     have z5_2:W0.cell? ⟨D,2,none⟩=some (.int .i64 o.a):=zA H0.out.b11 2
     have z5_3:W0.cell? ⟨D,3,none⟩=some (.int .i64 o.b):=zA H0.out.b11 3
     have z5_4:W0.cell? ⟨D,4,none⟩=some (.int .i64 o.c):=zA H0.out.b11 4
     have z5_5:W0.cell? ⟨D,5,none⟩=some (.int .u32 o.k):=zA H0.out.b11 5
     have z5_6:W0.cell? ⟨D,6,none⟩=some (.int .i64 o.n):=zA H0.out.b11 6
     have ga:=HGO.out.a
     obtain⟨a0,a1⟩:=ga
     have xa:=H0.out.a.r.cv o.a.toNat aO
     have nAJ:o.a.toNat≠j:=by have:=HLO.out e;omega
     have nAJ':j≠o.a.toNat:=Ne.symm nAJ
     clear e
     go_upto_region 16 with fail
     go_region_held3 (fun W'=>W'.cell? ⟨D,1,none⟩=some (.int .i64 o.w)∧W'.cell? ⟨D,2,none⟩=some (.int .i64 o.a)∧W'.cell? ⟨V,o.a.toNat,none⟩=some (.int .u32 (q.v o.a.toNat))) (first|(simp[go_sem,v5_1,v5_2,ya,nAJ,nAJ',nCV,nVD,nVD1,nCD,nCD1,nCV.symm,nCD.symm];done)|(simp[go_sem,z5_1,z5_2,xa];done))
      (first|(go_at_call 28;refine(HC.out _ ?_).mono ?_;(focus(first|with_reducible exact Below.refl _ _|with_reducible exact aB.drew|with_reducible exact aB.drew.drew));rintro e w1 ⟨rfl,h1⟩;have H1:Hid (LvB w w1 C V D n k q o ⟨0,0,o.k,o.n⟩):=zq21;have y0:w1.cell? ⟨D+1,0,none⟩=some (.int .i64 0):=zA H1.out.b12 0;have y1:w1.cell? ⟨D+1,1,none⟩=some (.int .u32 0):=zA H1.out.b12 1;have y2:w1.cell? ⟨D+1,2,none⟩=some (.int .u32 o.k):=zA H1.out.b12 2;have y3:w1.cell? ⟨D+1,3,none⟩=some (.int .i64 o.n):=zA H1.out.b12 3;have yf:=zD H1.out.b12;have v5_0:w1.cell? ⟨D,0,none⟩=some (.int .i64 o.kind):=zA H1.out.b11 0;have v5_1:w1.cell? ⟨D,1,none⟩=some (.int .i64 o.w):=zA H1.out.b11 1;have v5_2:w1.cell? ⟨D,2,none⟩=some (.int .i64 o.a):=zA H1.out.b11 2;have v5_3:w1.cell? ⟨D,3,none⟩=some (.int .i64 o.b):=zA H1.out.b11 3;have v5_4:w1.cell? ⟨D,4,none⟩=some (.int .i64 o.c):=zA H1.out.b11 4;have v5_5:w1.cell? ⟨D,5,none⟩=some (.int .u32 o.k):=zA H1.out.b11 5;have v5_6:w1.cell? ⟨D,6,none⟩=some (.int .i64 o.n):=zA H1.out.b11 6;have ya:=H1.out.a.r.cv o.a.toNat aO;have yj:=H1.out.a.r.cv j HLT.out;have yjf:=H1.out.a.r.fv.fr j;clear h1))
     go_wp2
     go_meet
     case rel=>exact⟨by rw[HX2.out,HKK.out],by rw[HX1.out,HX3.out,HY.out,HKK.out,HAA.out];exact((H1.out.putV HLT.out y).ex0 kk).ex1 aa⟩
    ·have HX1:Hid (exO o q=⟨stK 6 (stO o q),stA (stO o q),o.k,o.n⟩):=show exO o q=⟨stK 6 (stO o q),stA (stO o q),o.k,o.n⟩ by unfold exO;rw[if_neg aO,if_pos aO]
     have HX2:Hid (yC o q=(stK 6 (stO o q) !=0)):=show yC o q=(stK 6 (stO o q) !=0) by unfold yC;rw[if_neg aO,if_pos aO]
     have HX3:Hid (zP o j q=⟨q.c,storeT q.s (q.v o.a.toNat) (stN o.w) (q.v o.b.toNat),q.v⟩):=show zP o j q=⟨q.c,storeT q.s (q.v o.a.toNat) (stN o.w) (q.v o.b.toNat),q.v⟩ by unfold zP;rw[if_neg aO,if_neg aO,if_pos aO]
     have kb2:(o.kind==2)=false:=by simp;omega
     have kb3:(o.kind==3)=false:=by simp;omega
     have kb17:(o.kind==17)=false:=by simp;omega
     have kb9:(o.kind==9)=false:=by simp;omega
     have kb10:(o.kind==10)=true:=by simp[e]
     have HWW:Hid (0≤o.w∧o.w≤2):=show 0≤o.w∧o.w≤2 by have h1:=HGO.out.lo;have h2:=HGO.out.hi;rw[e] at h1 h2;exact⟨h1,h2⟩
     obtain⟨w0,w1⟩:=HWW.out
     obtain⟨s',HY⟩:∃ s',Hid (storeT q.s (q.v o.a.toNat) (stN o.w) (q.v o.b.toNat)=s'):=⟨_,rfl⟩
     obtain⟨kk,HKK⟩:∃ kk,Hid (stK 6 (stO o q)=kk):=⟨_,rfl⟩
     obtain⟨aa,HAA⟩:∃ aa,Hid (stA (stO o q)=aa):=⟨_,rfl⟩
     have HC:Hid (∀ W,Below W0.heap.size W0 W→Calls Try.prog 29 #[.pointer (some ⟨k.y,0,none⟩),.int .i64 o.w,.int .u32 (q.v o.a.toNat),.int .u32 (q.v o.b.toNat)] W fun e w'=>e=.returned (.agg #[.int .i64 kk,.int .u32 aa])∧RM w' k s'∧zJ k.all W w'):=show ∀ W,_ from fun W hW=>by
      have:=zIr k (q.v o.a.toNat) (q.v o.b.toNat) o.w q.s W (HQ'.out.v _) (HQ'.out.v _) HQ'.out.s (H0.out.a.r.m.below hW aL) HWW.out
      rw[HY.out,show stK 6 (sto q.s (q.v o.a.toNat) (stN o.w))=kk from HKK.out,show stA (sto q.s (q.v o.a.toNat) (stN o.w))=aa from HAA.out] at this
      exact this
     have lCV:=H0.out.a.lV
     have lVD:=H0.out.lD
     have nCV:C≠V:=aO
     have nVD:V≠D:=aO
     have nVD1:V≠D+1:=aO
     have nCD:C≠D:=aO
     have nCD1:C≠D+1:=aO
     have z5_0:W0.cell? ⟨D,0,none⟩=some (.int .i64 o.kind):=zA H0.out.b11 0
     have z5_1:W0.cell? ⟨D,1,none⟩=some (.int .i64 o.w):=zA H0.out.b11 1
     have z5_2:W0.cell? ⟨D,2,none⟩=some (.int .i64 o.a):=zA H0.out.b11 2
     have z5_3:W0.cell? ⟨D,3,none⟩=some (.int .i64 o.b):=zA H0.out.b11 3
     have z5_4:W0.cell? ⟨D,4,none⟩=some (.int .i64 o.c):=zA H0.out.b11 4
     have z5_5:W0.cell? ⟨D,5,none⟩=some (.int .u32 o.k):=zA H0.out.b11 5
     have z5_6:W0.cell? ⟨D,6,none⟩=some (.int .i64 o.n):=zA H0.out.b11 6
     have ga:=HGO.out.a
     obtain⟨a0,a1⟩:=ga
     have xa:=H0.out.a.r.cv o.a.toNat aO
     have gb:=HGO.out.b aO
     obtain⟨b0,b1⟩:=gb
     have xb:=H0.out.a.r.cv o.b.toNat aO
     clear e
     go_upto_region 19 with fail
     go_region_held3 (fun W'=>W'.cell? ⟨D,1,none⟩=some (.int .i64 o.w)∧W'.cell? ⟨D,2,none⟩=some (.int .i64 o.a)∧W'.cell? ⟨D,3,none⟩=some (.int .i64 o.b)∧W'.cell? ⟨V,o.a.toNat,none⟩=some (.int .u32 (q.v o.a.toNat))∧W'.cell? ⟨V,o.b.toNat,none⟩=some (.int .u32 (q.v o.b.toNat))) (first|(simp[go_sem,v5_1,v5_2,v5_3,ya,yb,nCV,nVD,nVD1,nCD,nCD1,nCV.symm,nCD.symm];done)|(simp[go_sem,z5_1,z5_2,z5_3,xa,xb];done))
      (first|(go_at_call 29;refine(HC.out _ ?_).mono ?_;(focus(first|with_reducible exact Below.refl _ _|with_reducible exact aB.drew|with_reducible exact aB.drew.drew));rintro e w1 ⟨rfl,hm,h1⟩;have H1:Hid (LvB w w1 C V D n k ⟨q.c,s',q.v⟩ o ⟨0,0,o.k,o.n⟩):=(by first|exact H0.out.stored h1 hm|exact H0.out.drew.stored h1 hm|exact H0.out.drew.drew.stored h1 hm);have y0:w1.cell? ⟨D+1,0,none⟩=some (.int .i64 0):=zA H1.out.b12 0;have y1:w1.cell? ⟨D+1,1,none⟩=some (.int .u32 0):=zA H1.out.b12 1;have y2:w1.cell? ⟨D+1,2,none⟩=some (.int .u32 o.k):=zA H1.out.b12 2;have y3:w1.cell? ⟨D+1,3,none⟩=some (.int .i64 o.n):=zA H1.out.b12 3;have yf:=zD H1.out.b12;have v5_0:w1.cell? ⟨D,0,none⟩=some (.int .i64 o.kind):=zA H1.out.b11 0;have v5_1:w1.cell? ⟨D,1,none⟩=some (.int .i64 o.w):=zA H1.out.b11 1;have v5_2:w1.cell? ⟨D,2,none⟩=some (.int .i64 o.a):=zA H1.out.b11 2;have v5_3:w1.cell? ⟨D,3,none⟩=some (.int .i64 o.b):=zA H1.out.b11 3;have v5_4:w1.cell? ⟨D,4,none⟩=some (.int .i64 o.c):=zA H1.out.b11 4;have v5_5:w1.cell? ⟨D,5,none⟩=some (.int .u32 o.k):=zA H1.out.b11 5;have v5_6:w1.cell? ⟨D,6,none⟩=some (.int .i64 o.n):=zA H1.out.b11 6;have ya:w1.cell? ⟨V,o.a.toNat,none⟩=some (.int .u32 (q.v o.a.toNat)):=H1.out.a.r.cv o.a.toNat aO;have yb:w1.cell? ⟨V,o.b.toNat,none⟩=some (.int .u32 (q.v o.b.toNat)):=H1.out.a.r.cv o.b.toNat aO;clear h1 hm))
     go_wp2
     go_meet
     case rel=>exact⟨by rw[HX2.out,HKK.out],by rw[HX1.out,HX3.out,HY.out,HKK.out,HAA.out];exact(H1.out.ex0 kk).ex1 aa⟩
    ·have HX1:Hid (exO o q=⟨0,0,o.k,o.n⟩):=show exO o q=⟨0,0,o.k,o.n⟩ by unfold exO;rw[if_neg aO,if_neg aO,if_neg aO,if_neg aO,if_neg aO]
     have HX2:Hid (yC o q=zAi q.s):=show yC o q=zAi q.s by unfold yC;rw[if_neg aO,if_neg aO,if_pos aO]
     have HX3:Hid (zP o j q=q):=show zP o j q=q by unfold zP;rw[if_neg aO,if_neg aO,if_neg aO,if_neg (by unfold isV;omega)]
     have kb2:(o.kind==2)=false:=by simp;omega
     have kb3:(o.kind==3)=false:=by simp;omega
     have kb17:(o.kind==17)=false:=by simp;omega
     have kb9:(o.kind==9)=false:=by simp;omega
     have kb10:(o.kind==10)=false:=by simp;omega
     have kb11:(o.kind==11)=true:=by simp[e]
     clear e
     go_wp2_with (go_at_call 30;refine(zBC k q.s _ H0.out.a.r.m).mono ?_;rintro e w1 ⟨rfl,rfl⟩)
     go_meet
     case rel=>exact⟨by rw[HX2.out],by rw[HX1.out,HX3.out];exact H0.out⟩
    ·have HX1:Hid (exO o q=⟨0,0,o.k,o.n⟩):=show exO o q=⟨0,0,o.k,o.n⟩ by unfold exO;rw[if_neg aO,if_neg aO,if_neg aO,if_neg aO,if_neg aO]
     have HX2:Hid (yC o q=((q.v o.a.toNat:Int) !=0)):=show yC o q=((q.v o.a.toNat:Int) !=0) by unfold yC;rw[if_neg aO,if_neg aO,if_neg aO,if_pos aO]
     have HX3:Hid (zP o j q=q):=show zP o j q=q by unfold zP;rw[if_neg aO,if_neg aO,if_neg aO,if_neg (by unfold isV;omega)]
     have kb2:(o.kind==2)=false:=by simp;omega
     have kb3:(o.kind==3)=false:=by simp;omega
     have kb17:(o.kind==17)=false:=by simp;omega
     have kb9:(o.kind==9)=false:=by simp;omega
     have kb10:(o.kind==10)=false:=by simp;omega
     have kb11:(o.kind==11)=false:=by simp;omega
     have kb12:(o.kind==12)=true:=by simp[e]
     have z5_0:W0.cell? ⟨D,0,none⟩=some (.int .i64 o.kind):=zA H0.out.b11 0
     have z5_1:W0.cell? ⟨D,1,none⟩=some (.int .i64 o.w):=zA H0.out.b11 1
     have z5_2:W0.cell? ⟨D,2,none⟩=some (.int .i64 o.a):=zA H0.out.b11 2
     have z5_3:W0.cell? ⟨D,3,none⟩=some (.int .i64 o.b):=zA H0.out.b11 3
     have z5_4:W0.cell? ⟨D,4,none⟩=some (.int .i64 o.c):=zA H0.out.b11 4
     have z5_5:W0.cell? ⟨D,5,none⟩=some (.int .u32 o.k):=zA H0.out.b11 5
     have z5_6:W0.cell? ⟨D,6,none⟩=some (.int .i64 o.n):=zA H0.out.b11 6
     have ga:=HGO.out.a
     obtain⟨a0,a1⟩:=ga
     have xa:=H0.out.a.r.cv o.a.toNat aO
     clear e
     go_wp2
     go_meet
     case rel=>exact⟨by rw[HX2.out],by rw[HX1.out,HX3.out];exact H0.out⟩
    ·have HX1:Hid (exO o q=⟨o.w,0,o.k,o.n⟩):=show exO o q=⟨o.w,0,o.k,o.n⟩ by unfold exO;rw[if_neg aO,if_neg aO,if_pos aO]
     have HX2:Hid (yC o q=((q.v o.a.toNat:Int) !=0)):=show yC o q=((q.v o.a.toNat:Int) !=0) by unfold yC;rw[if_neg aO,if_neg aO,if_neg aO,if_pos aO]
     have HX3:Hid (zP o j q=q):=show zP o j q=q by unfold zP;rw[if_neg aO,if_neg aO,if_neg aO,if_neg (by unfold isV;omega)]
     have kb2:(o.kind==2)=false:=by simp;omega
     have kb3:(o.kind==3)=false:=by simp;omega
     have kb17:(o.kind==17)=false:=by simp;omega
     have kb9:(o.kind==9)=false:=by simp;omega
     have kb10:(o.kind==10)=false:=by simp;omega
     have kb11:(o.kind==11)=false:=by simp;omega
     have kb12:(o.kind==12)=false:=by simp;omega
     have kb13:(o.kind==13)=true:=by simp[e]
     have lCV:=H0.out.a.lV
     have lVD:=H0.out.lD
     have nCV:C≠V:=aO
     have nVD:V≠D:=aO
     have nVD1:V≠D+1:=aO
     have nCD:C≠D:=aO
     have nCD1:C≠D+1:=aO
     have z5_0:W0.cell? ⟨D,0,none⟩=some (.int .i64 o.kind):=zA H0.out.b11 0
     have z5_1:W0.cell? ⟨D,1,none⟩=some (.int .i64 o.w):=zA H0.out.b11 1
     have z5_2:W0.cell? ⟨D,2,none⟩=some (.int .i64 o.a):=zA H0.out.b11 2
     have z5_3:W0.cell? ⟨D,3,none⟩=some (.int .i64 o.b):=zA H0.out.b11 3
     have z5_4:W0.cell? ⟨D,4,none⟩=some (.int .i64 o.c):=zA H0.out.b11 4
     have z5_5:W0.cell? ⟨D,5,none⟩=some (.int .u32 o.k):=zA H0.out.b11 5
     have z5_6:W0.cell? ⟨D,6,none⟩=some (.int .i64 o.n):=zA H0.out.b11 6
     have x0:W0.cell? ⟨D+1,0,none⟩=some (.int .i64 0):=zA H0.out.b12 0
     have x1:W0.cell? ⟨D+1,1,none⟩=some (.int .u32 0):=zA H0.out.b12 1
     have x2:W0.cell? ⟨D+1,2,none⟩=some (.int .u32 o.k):=zA H0.out.b12 2
     have x3:W0.cell? ⟨D+1,3,none⟩=some (.int .i64 o.n):=zA H0.out.b12 3
     have xf:=zD H0.out.b12
     have ga:=HGO.out.a
     obtain⟨a0,a1⟩:=ga
     have xa:=H0.out.a.r.cv o.a.toNat aO
     clear e
     go_wp2
     go_meet
     case rel=>exact⟨by rw[HX2.out],by rw[HX1.out,HX3.out];exact H0.out.ex0 o.w⟩
    ·have HX1:Hid (exO o q=⟨o.w,o.b,o.k,o.n⟩):=show exO o q=⟨o.w,o.b,o.k,o.n⟩ by unfold exO;rw[if_neg aO,if_neg aO,if_neg aO,if_pos aO]
     have HX2:Hid (yC o q=true):=show yC o q=true by unfold yC;rw[if_neg aO,if_neg aO,if_neg aO,if_neg aO];exact aT
     have HX3:Hid (zP o j q=q):=show zP o j q=q by unfold zP;rw[if_neg aO,if_neg aO,if_neg aO,if_neg (by unfold isV;omega)]
     have kb2:(o.kind==2)=false:=by simp;omega
     have kb3:(o.kind==3)=false:=by simp;omega
     have kb17:(o.kind==17)=false:=by simp;omega
     have kb9:(o.kind==9)=false:=by simp;omega
     have kb10:(o.kind==10)=false:=by simp;omega
     have kb11:(o.kind==11)=false:=by simp;omega
     have kb12:(o.kind==12)=false:=by simp;omega
     have kb13:(o.kind==13)=false:=by simp;omega
     have kb14:(o.kind==14)=true:=by simp[e]
     have lCV:=H0.out.a.lV
     have lVD:=H0.out.lD
     have nCV:C≠V:=aO
     have nVD:V≠D:=aO
     have nVD1:V≠D+1:=aO
     have nCD:C≠D:=aO
     have nCD1:C≠D+1:=aO
     have z5_0:W0.cell? ⟨D,0,none⟩=some (.int .i64 o.kind):=zA H0.out.b11 0
     have z5_1:W0.cell? ⟨D,1,none⟩=some (.int .i64 o.w):=zA H0.out.b11 1
     have z5_2:W0.cell? ⟨D,2,none⟩=some (.int .i64 o.a):=zA H0.out.b11 2
     have z5_3:W0.cell? ⟨D,3,none⟩=some (.int .i64 o.b):=zA H0.out.b11 3
     have z5_4:W0.cell? ⟨D,4,none⟩=some (.int .i64 o.c):=zA H0.out.b11 4
     have z5_5:W0.cell? ⟨D,5,none⟩=some (.int .u32 o.k):=zA H0.out.b11 5
     have z5_6:W0.cell? ⟨D,6,none⟩=some (.int .i64 o.n):=zA H0.out.b11 6
     have x0:W0.cell? ⟨D+1,0,none⟩=some (.int .i64 0):=zA H0.out.b12 0
     have x1:W0.cell? ⟨D+1,1,none⟩=some (.int .u32 0):=zA H0.out.b12 1
     have x2:W0.cell? ⟨D+1,2,none⟩=some (.int .u32 o.k):=zA H0.out.b12 2
     have x3:W0.cell? ⟨D+1,3,none⟩=some (.int .i64 o.n):=zA H0.out.b12 3
     have xf:=zD H0.out.b12
     obtain⟨g0,g1⟩:=HGO.out.b14 e
     clear e
     go_wp2
     go_meet
     case rel=>exact⟨by rw[HX2.out],by rw[HX1.out,HX3.out];exact(H0.out.ex0 o.w).ex1 o.b⟩
    ·have HX1:Hid (exO o q=⟨0,0,o.k,o.n⟩):=show exO o q=⟨0,0,o.k,o.n⟩ by unfold exO;rw[if_neg aO,if_neg aO,if_neg aO,if_neg aO,if_neg aO]
     have HX2:Hid (yC o q=true):=show yC o q=true by unfold yC;rw[if_neg aO,if_neg aO,if_neg aO,if_neg aO];exact aT
     have HX3:Hid (zP o j q=q):=show zP o j q=q by unfold zP;rw[if_neg aO,if_neg aO,if_neg aO,if_neg (by unfold isV;omega)]
     have kb2:(o.kind==2)=false:=by simp;omega
     have kb3:(o.kind==3)=false:=by simp;omega
     have kb17:(o.kind==17)=false:=by simp;omega
     have kb9:(o.kind==9)=false:=by simp;omega
     have kb10:(o.kind==10)=false:=by simp;omega
     have kb11:(o.kind==11)=false:=by simp;omega
     have kb12:(o.kind==12)=false:=by simp;omega
     have kb13:(o.kind==13)=false:=by simp;omega
     have kb14:(o.kind==14)=false:=by simp;omega
     have kb15:(o.kind==15)=true:=by simp[e]
     clear e
     go_wp2
     go_meet
     case rel=>exact⟨by rw[HX2.out],by rw[HX1.out,HX3.out];exact H0.out⟩
    ·have HX1:Hid (exO o q=⟨0,0,q.v o.a.toNat,o.n⟩):=show exO o q=⟨0,0,q.v o.a.toNat,o.n⟩ by unfold exO;rw[if_neg aO,if_neg aO,if_neg aO,if_neg aO,if_pos aO]
     have HX2:Hid (yC o q=true):=show yC o q=true by unfold yC;rw[if_neg aO,if_neg aO,if_neg aO,if_neg aO];exact aT
     have HX3:Hid (zP o j q=q):=show zP o j q=q by unfold zP;rw[if_neg aO,if_neg aO,if_neg aO,if_neg (by unfold isV;omega)]
     have kb2:(o.kind==2)=false:=by simp;omega
     have kb3:(o.kind==3)=false:=by simp;omega
     have kb17:(o.kind==17)=false:=by simp;omega
     have kb9:(o.kind==9)=false:=by simp;omega
     have kb10:(o.kind==10)=false:=by simp;omega
     have kb11:(o.kind==11)=false:=by simp;omega
     have kb12:(o.kind==12)=false:=by simp;omega
     have kb13:(o.kind==13)=false:=by simp;omega
     have kb14:(o.kind==14)=false:=by simp;omega
     have kb15:(o.kind==15)=false:=by simp;omega
     have kb16:(o.kind==16)=true:=by simp[e]
     have lCV:=H0.out.a.lV
     have lVD:=H0.out.lD
     have nCV:C≠V:=aO
     have nVD:V≠D:=aO
     have nVD1:V≠D+1:=aO
     have nCD:C≠D:=aO
     have nCD1:C≠D+1:=aO
     have z5_0:W0.cell? ⟨D,0,none⟩=some (.int .i64 o.kind):=zA H0.out.b11 0
     have z5_1:W0.cell? ⟨D,1,none⟩=some (.int .i64 o.w):=zA H0.out.b11 1
     have z5_2:W0.cell? ⟨D,2,none⟩=some (.int .i64 o.a):=zA H0.out.b11 2
     have z5_3:W0.cell? ⟨D,3,none⟩=some (.int .i64 o.b):=zA H0.out.b11 3
     have z5_4:W0.cell? ⟨D,4,none⟩=some (.int .i64 o.c):=zA H0.out.b11 4
     have z5_5:W0.cell? ⟨D,5,none⟩=some (.int .u32 o.k):=zA H0.out.b11 5
     have z5_6:W0.cell? ⟨D,6,none⟩=some (.int .i64 o.n):=zA H0.out.b11 6
     have x0:W0.cell? ⟨D+1,0,none⟩=some (.int .i64 0):=zA H0.out.b12 0
     have x1:W0.cell? ⟨D+1,1,none⟩=some (.int .u32 0):=zA H0.out.b12 1
     have x2:W0.cell? ⟨D+1,2,none⟩=some (.int .u32 o.k):=zA H0.out.b12 2
     have x3:W0.cell? ⟨D+1,3,none⟩=some (.int .i64 o.n):=zA H0.out.b12 3
     have xf:=zD H0.out.b12
     have ga:=HGO.out.a
     obtain⟨a0,a1⟩:=ga
     have xa:=H0.out.a.r.cv o.a.toNat aO
     clear e
     go_wp2
     go_meet
     case rel=>exact⟨by rw[HX2.out],by rw[HX1.out,HX3.out];exact H0.out.ex2 (q.v o.a.toNat)⟩
   case rest=>
    obtain⟨hu,hM⟩:=hcut
    subst hu
    have HM:Hid _:=hM
    clear HWr H0
    generalize HLL:yC o q=L at *
    have HST2:Hid ((if L=true then(zP o j q,exO o q,(j:Int)) else zBx f (n - (j+1)) (j+1) (zP o j q))=R):=HLL▸HST.out
    generalize exO o q=x at *
    generalize hqq:zP o j q=q2 at *
    cases L with
    | true=>
     have hR:=HST2.out
     rw[if_pos rfl] at hR
     have c_0:wc.cell? ⟨C,0,none⟩=some (.int .u32 (q2.c 0)):=zA hM.a.r.cb 0
     have c_1:wc.cell? ⟨C,1,none⟩=some (.int .u32 (q2.c 1)):=zA hM.a.r.cb 1
     have c_2:wc.cell? ⟨C,2,none⟩=some (.int .u32 (q2.c 2)):=zA hM.a.r.cb 2
     have c_3:wc.cell? ⟨C,3,none⟩=some (.int .u32 (q2.c 3)):=zA hM.a.r.cb 3
     have c_4:wc.cell? ⟨C,4,none⟩=some (.int .u32 (q2.c 4)):=zA hM.a.r.cb 4
     have c_5:wc.cell? ⟨C,5,none⟩=some (.int .u32 (q2.c 5)):=zA hM.a.r.cb 5
     have c_6:wc.cell? ⟨C,6,none⟩=some (.int .u32 (q2.c 6)):=zA hM.a.r.cb 6
     have c_7:wc.cell? ⟨C,7,none⟩=some (.int .u32 (q2.c 7)):=zA hM.a.r.cb 7
     have c_8:wc.cell? ⟨C,8,none⟩=some (.int .u32 (q2.c 8)):=zA hM.a.r.cb 8
     have c_9:wc.cell? ⟨C,9,none⟩=some (.int .u32 (q2.c 9)):=zA hM.a.r.cb 9
     have c_10:wc.cell? ⟨C,10,none⟩=some (.int .u32 (q2.c 10)):=zA hM.a.r.cb 10
     have c_11:wc.cell? ⟨C,11,none⟩=some (.int .u32 (q2.c 11)):=zA hM.a.r.cb 11
     have x0:wc.cell? ⟨D+1,0,none⟩=some (.int .i64 x.k):=zA hM.b12 0
     have x1:wc.cell? ⟨D+1,1,none⟩=some (.int .u32 x.a):=zA hM.b12 1
     have x2:wc.cell? ⟨D+1,2,none⟩=some (.int .u32 x.pc):=zA hM.b12 2
     have x3:wc.cell? ⟨D+1,3,none⟩=some (.int .i64 x.n):=zA hM.b12 3
     have y0:wc.cell? ⟨C+1,0,none⟩=some (.int .u32 0):=zA hM.a.b6 0
     have y1:wc.cell? ⟨C+1,1,none⟩=some (.int .u32 0):=zA hM.a.b6 1
     have y2:wc.cell? ⟨C+1,2,none⟩=some (.int .u32 0):=zA hM.a.b6 2
     have y3:wc.cell? ⟨C+1,3,none⟩=some (.int .u32 0):=zA hM.a.b6 3
     have y4:wc.cell? ⟨C+1,4,none⟩=some (.int .u32 0):=zA hM.a.b6 4
     have y5:wc.cell? ⟨C+1,5,none⟩=some (.int .u32 0):=zA hM.a.b6 5
     have y6:wc.cell? ⟨C+1,6,none⟩=some (.int .u32 0):=zA hM.a.b6 6
     have y7:wc.cell? ⟨C+1,7,none⟩=some (.int .u32 0):=zA hM.a.b6 7
     have y8:wc.cell? ⟨C+1,8,none⟩=some (.int .u32 0):=zA hM.a.b6 8
     have y9:wc.cell? ⟨C+1,9,none⟩=some (.int .u32 0):=zA hM.a.b6 9
     have y10:wc.cell? ⟨C+1,10,none⟩=some (.int .u32 0):=zA hM.a.b6 10
     have y11:wc.cell? ⟨C+1,11,none⟩=some (.int .u32 0):=zA hM.a.b6 11
     have y6f:=zD hM.a.b6
     have w0:wc.cell? ⟨C+1+1,0,none⟩=some (.int .i64 0):=zA hM.a.b7 0
     have w1:wc.cell? ⟨C+1+1,1,none⟩=some (.int .u32 0):=zA hM.a.b7 1
     have w2:wc.cell? ⟨C+1+1,2,none⟩=some (.int .u32 0):=zA hM.a.b7 2
     have w3:wc.cell? ⟨C+1+1,3,none⟩=some (.int .i64 0):=zA hM.a.b7 3
     have w7f:=zD hM.a.b7
     have lm6:=zE hM.a.b6
     have lm7:=zE hM.a.b7
     have lCV:=hM.a.lV
     have lVD:=hM.lD
     have n1:D+1≠C+1:=aO
     have n2:D+1≠C+1+1:=aO
     subst hR
     clear hM
     go_wp2
     go_region
     all_goals go_wp2
     all_goals exact bodyPost_ret (v:=.tuple #[cxV q2.c,exR x,.int .i64 j]) (by simp[results,Try.results8,go_sem,y0,y1,y2,y3,y4,y5,y6,y7,y8,y9,y10,y11,w0,w1,w2,w3,y6f,w7f,lm6,lm7]) rfl ⟨rfl,by
      have hB:=HM.out.a.r.m
      have lC:=HM.out.a.lC
      have hk1:=HM.out.a.k_ne (B:=C+1) aO
      have hk2:=HM.out.a.k_ne (B:=C+1+1) aO
      (repeat first|with_reducible exact hB|with_reducible refine RM.drew ?_|with_reducible refine RM.setN ?_ (by first|exact hk1|exact hk2) _),by
      have hC:=HM.out.a.chg
      have lC:=HM.out.a.lC
      (repeat first|with_reducible exact hC|with_reducible refine zJ.drewC ?_|with_reducible refine zJ.setN ?_ aO)⟩
    | false=>
     have hR:=HST2.out
     rw[if_neg aS] at hR
     have HRR:Hid _:=hR
     clear hR hM
     have e1:=HVV.out
     have e2:=HCC.out
     subst e1
     subst e2
     go_wp2
     go_round
     case rel=>exact⟨j+1,q2,by go_num,HLT.out,HRR.out,hqq▸HNX.out,HM.out.a⟩
     case measure=>have:=HLT.out;simp[intOf];omega
  ·obtain rfl:j=n:=aO
   have dj:decide ((j:Int) < (j:Int))=false:=aF
   have HST:Hid ((q,(⟨0,0,0,0⟩:ExR),(-1:Int))=R):=by
    show _=_
    have:=HSC.out
    rw[Nat.sub_self] at this
    exact this
   have hM:=HWr.out
   have c_0:wr.cell? ⟨w.heap.size+1,0,none⟩=some (.int .u32 (q.c 0)):=zA hM.r.cb 0
   have c_1:wr.cell? ⟨w.heap.size+1,1,none⟩=some (.int .u32 (q.c 1)):=zA hM.r.cb 1
   have c_2:wr.cell? ⟨w.heap.size+1,2,none⟩=some (.int .u32 (q.c 2)):=zA hM.r.cb 2
   have c_3:wr.cell? ⟨w.heap.size+1,3,none⟩=some (.int .u32 (q.c 3)):=zA hM.r.cb 3
   have c_4:wr.cell? ⟨w.heap.size+1,4,none⟩=some (.int .u32 (q.c 4)):=zA hM.r.cb 4
   have c_5:wr.cell? ⟨w.heap.size+1,5,none⟩=some (.int .u32 (q.c 5)):=zA hM.r.cb 5
   have c_6:wr.cell? ⟨w.heap.size+1,6,none⟩=some (.int .u32 (q.c 6)):=zA hM.r.cb 6
   have c_7:wr.cell? ⟨w.heap.size+1,7,none⟩=some (.int .u32 (q.c 7)):=zA hM.r.cb 7
   have c_8:wr.cell? ⟨w.heap.size+1,8,none⟩=some (.int .u32 (q.c 8)):=zA hM.r.cb 8
   have c_9:wr.cell? ⟨w.heap.size+1,9,none⟩=some (.int .u32 (q.c 9)):=zA hM.r.cb 9
   have c_10:wr.cell? ⟨w.heap.size+1,10,none⟩=some (.int .u32 (q.c 10)):=zA hM.r.cb 10
   have c_11:wr.cell? ⟨w.heap.size+1,11,none⟩=some (.int .u32 (q.c 11)):=zA hM.r.cb 11
   have y0:wr.cell? ⟨w.heap.size+1+1,0,none⟩=some (.int .u32 0):=zA hM.b6 0
   have y1:wr.cell? ⟨w.heap.size+1+1,1,none⟩=some (.int .u32 0):=zA hM.b6 1
   have y2:wr.cell? ⟨w.heap.size+1+1,2,none⟩=some (.int .u32 0):=zA hM.b6 2
   have y3:wr.cell? ⟨w.heap.size+1+1,3,none⟩=some (.int .u32 0):=zA hM.b6 3
   have y4:wr.cell? ⟨w.heap.size+1+1,4,none⟩=some (.int .u32 0):=zA hM.b6 4
   have y5:wr.cell? ⟨w.heap.size+1+1,5,none⟩=some (.int .u32 0):=zA hM.b6 5
   have y6:wr.cell? ⟨w.heap.size+1+1,6,none⟩=some (.int .u32 0):=zA hM.b6 6
   have y7:wr.cell? ⟨w.heap.size+1+1,7,none⟩=some (.int .u32 0):=zA hM.b6 7
   have y8:wr.cell? ⟨w.heap.size+1+1,8,none⟩=some (.int .u32 0):=zA hM.b6 8
   have y9:wr.cell? ⟨w.heap.size+1+1,9,none⟩=some (.int .u32 0):=zA hM.b6 9
   have y10:wr.cell? ⟨w.heap.size+1+1,10,none⟩=some (.int .u32 0):=zA hM.b6 10
   have y11:wr.cell? ⟨w.heap.size+1+1,11,none⟩=some (.int .u32 0):=zA hM.b6 11
   have y6f:=zD hM.b6
   have w0:wr.cell? ⟨w.heap.size+1+1+1,0,none⟩=some (.int .i64 0):=zA hM.b7 0
   have w1:wr.cell? ⟨w.heap.size+1+1+1,1,none⟩=some (.int .u32 0):=zA hM.b7 1
   have w2:wr.cell? ⟨w.heap.size+1+1+1,2,none⟩=some (.int .u32 0):=zA hM.b7 2
   have w3:wr.cell? ⟨w.heap.size+1+1+1,3,none⟩=some (.int .i64 0):=zA hM.b7 3
   have w7f:=zD hM.b7
   have lm6:=zE hM.b6
   have lm7:=zE hM.b7
   clear hlt hj hM
   go_wp2
   have hR:=HST.out
   subst hR
   exact bodyPost_ret (v:=.tuple #[cxV q.c,exR ⟨0,0,0,0⟩,.int .i64 (-1)]) (by simp[results,Try.results8,go_sem,y0,y1,y2,y3,y4,y5,y6,y7,y8,y9,y10,y11,w0,w1,w2,w3,y6f,w7f,lm6,lm7]) rfl ⟨rfl,by
    have hB:=HWr.out.r.m
    have hk1:=HWr.out.k_ne (B:=w.heap.size+1+1) aO
    have hk2:=HWr.out.k_ne (B:=w.heap.size+1+1+1) aO
    (repeat first|with_reducible exact hB|with_reducible refine RM.drew ?_|with_reducible refine RM.setN ?_ (by first|exact hk1|exact hk2) _),by
    have hC:=HWr.out.chg
    (repeat first|with_reducible exact hC|with_reducible refine zJ.drewC ?_|with_reducible refine zJ.setN ?_ aO)⟩
end Go.Proofs.Ytkmjenjahbicpaa.Va
