import Derived.Test.YtfokgedjocnnmaaGreatNG
set_option linter.unusedVariables false
set_option linter.unusedSimpArgs false
namespace Go.Proofs.YtfokgedjocnnmaaGreat
open Go.RowKit
set_option maxRecDepth 100000
theorem sim24{m:MS}{c:Nat→Nat}{pc:Nat}{i:IR}{done M:Nat}{v:Nat→Nat}(h:SimIn m c pc i done)(hop:i.op=24):Sim m c pc i done M v:=by
 have hD:=h.ok.D1
 have hS:=h.ok.S1
 have hcf:=cxF_bd h.hc
 have hcD:=h.hc i.D
 have hcS:=h.hc i.S
 have hc0:=h.hc 0
 have him:=h.ok.im
 have n8:¬8=i.D:=zo
 have n9:¬9=i.D:=zo
 have n10:¬10=i.D:=zo
 have n11:¬11=i.D:=zo
 have e1:(xiOf i pc done).op.toNat=24:=by show i.op.toNat=24;omega
 cases hb:badN m 1 ((c i.S+i.imm)%4294967296) 4 with
 | some x=>
  have e:stepF m (csG c pc)=⟨csG c pc,5,x,m⟩:=by
   unfold stepF memF
   simp only[csG_f h.hc,show(csG c pc).pc=pc from rfl,h.hi,h.hk,hop,w32_nat]
   simp[ldG,stG,swG,swV,swT,hop,GS.setPC,cs_R hD,cs_R hS,cs_R (show 7≤7 by decide),cs_R (show 0≤7 by decide),show(csG c pc).f=(cxF c).toNat from rfl,w32_4,w32_nat,hb,ldN,GS.setR,GS.setF]
  unfold Sim leftX
  rw[e]
  simp only[liftF,e1]
  simp[runL,leftO,nextO,exO,isV,valV,pvalF,valF,unF,binF,aluOf,xiOf,endsF,stOp,hop,ldO,ldNo,ldWo,stO,stN,stK,stA,rx0,rx2,pcN,hb,n8,n9,n10,n11,tnm]
  simp[updC,runL,leftO,nextO,exO,isV,valV,pvalF,valF,unF,binF,aluOf,xiOf,endsF,stOp,hop,ldO,ldNo,ldWo,stO,stN,stK,stA,rx0,rx2,pcN,hb,n8,n9,n10,n11,tnm]
  first|done|(refine gs_ext ?_ rfl ?_<;>first|rfl|(intro j;simp only[csG,updC,upd,GS.setR,GS.setPC,GS.setF];(repeat' split)<;>first|rfl|omega)|(simp[csG,cxF,updC,Fl.flagsF,GS.setR,GS.setPC,GS.setF,n8,n9,n10,n11,tnm];done))
 | none=>
  obtain⟨y,hy,hyl⟩:=ldX_nat m ((c i.S+i.imm)%4294967296) 4 h.hm (by decide)
  cases hs:sto m ((c i.S+i.imm)%4294967296) 4 with
  | some x=>
   have e:stepF m (csG c pc)=⟨csG c pc,6,x,m⟩:=by
    unfold stepF memF
    simp only[csG_f h.hc,show(csG c pc).pc=pc from rfl,h.hi,h.hk,hop,w32_nat]
    simp[ldG,stG,swG,swV,swT,hop,GS.setPC,cs_R hD,cs_R hS,cs_R (show 7≤7 by decide),cs_R (show 0≤7 by decide),show(csG c pc).f=(cxF c).toNat from rfl,w32_4,w32_nat,hb,ldN,GS.setR,GS.setF,hy,hs]
   unfold Sim leftX
   rw[e]
   simp only[liftF,e1]
   simp[runL,leftO,nextO,exO,isV,valV,pvalF,valF,unF,binF,aluOf,xiOf,endsF,stOp,hop,ldO,ldNo,ldWo,stO,stN,stK,stA,rx0,rx2,pcN,hb,n8,n9,n10,n11,tnm,hy,hs]
   simp[updC,runL,leftO,nextO,exO,isV,valV,pvalF,valF,unF,binF,aluOf,xiOf,endsF,stOp,hop,ldO,ldNo,ldWo,stO,stN,stK,stA,rx0,rx2,pcN,hb,n8,n9,n10,n11,tnm,hy,hs]
   exact⟨st_no hs,rfl⟩
  | none=>
   have e:stepF m (csG c pc)=⟨(⟨upd ((csG c pc).R) (i.D) (y),((pc+i.n)%4294967296),(cxF c).toNat⟩:GS),0,0,storeT m ((c i.S+i.imm)%4294967296) 4 (c i.D)⟩:=by
    unfold stepF memF
    simp only[csG_f h.hc,show(csG c pc).pc=pc from rfl,h.hi,h.hk,hop,w32_nat]
    simp[ldG,stG,swG,swV,swT,hop,GS.setPC,cs_R hD,cs_R hS,cs_R (show 7≤7 by decide),cs_R (show 0≤7 by decide),show(csG c pc).f=(cxF c).toNat from rfl,w32_4,w32_nat,hb,ldN,GS.setR,GS.setF,hy,hs]
   cases ht:touchB (storeT m ((c i.S+i.imm)%4294967296) 4 (c i.D)) with
   | false=>
    unfold Sim leftX
    rw[e]
    simp only[liftF,e1]
    simp[runL,leftO,nextO,exO,isV,valV,pvalF,valF,unF,binF,aluOf,xiOf,endsF,stOp,hop,ldO,ldNo,ldWo,stO,stN,stK,stA,rx0,rx2,pcN,hb,n8,n9,n10,n11,tnm,hy,hs,ht]
    simp[updC,runL,leftO,nextO,exO,isV,valV,pvalF,valF,unF,binF,aluOf,xiOf,endsF,stOp,hop,ldO,ldNo,ldWo,stO,stN,stK,stA,rx0,rx2,pcN,hb,n8,n9,n10,n11,tnm,hy,hs,ht]
    first|done|(refine gs_ext ?_ rfl ?_<;>first|rfl|(intro j;simp only[csG,updC,upd,GS.setR,GS.setPC,GS.setF];(repeat' split)<;>first|rfl|omega)|(simp[csG,cxF,updC,Fl.flagsF,GS.setR,GS.setPC,GS.setF,n8,n9,n10,n11,tnm];done))
   | true=>
    unfold Sim leftX
    rw[e]
    simp only[liftF,e1]
    simp[runL,leftO,nextO,exO,isV,valV,pvalF,valF,unF,binF,aluOf,xiOf,endsF,stOp,hop,ldO,ldNo,ldWo,stO,stN,stK,stA,rx0,rx2,pcN,hb,n8,n9,n10,n11,tnm,hy,hs,ht]
    simp[updC,runL,leftO,nextO,exO,isV,valV,pvalF,valF,unF,binF,aluOf,xiOf,endsF,stOp,hop,ldO,ldNo,ldWo,stO,stN,stK,stA,rx0,rx2,pcN,hb,n8,n9,n10,n11,tnm,hy,hs,ht]
    first|done|(refine gs_ext ?_ rfl ?_<;>first|rfl|(intro j;simp only[csG,updC,upd,GS.setR,GS.setPC,GS.setF];(repeat' split)<;>first|rfl|omega)|(simp[csG,cxF,updC,Fl.flagsF,GS.setR,GS.setPC,GS.setF,n8,n9,n10,n11,tnm];done))
theorem sim25{m:MS}{c:Nat→Nat}{pc:Nat}{i:IR}{done M:Nat}{v:Nat→Nat}(h:SimIn m c pc i done)(hop:i.op=25):Sim m c pc i done M v:=by
 have hD:=h.ok.D1
 have hS:=h.ok.S1
 have hcf:=cxF_bd h.hc
 have hcD:=h.hc i.D
 have hcS:=h.hc i.S
 have hc0:=h.hc 0
 have him:=h.ok.im
 have n8:¬8=i.D:=zo
 have n9:¬9=i.D:=zo
 have n10:¬10=i.D:=zo
 have n11:¬11=i.D:=zo
 have e1:(xiOf i pc done).op.toNat=25:=by show i.op.toNat=25;omega
 cases hb:badN m 1 ((c i.S+i.imm)%4294967296) 4 with
 | some x=>
  have e:stepF m (csG c pc)=⟨csG c pc,5,x,m⟩:=by
   unfold stepF memF
   simp only[csG_f h.hc,show(csG c pc).pc=pc from rfl,h.hi,h.hk,hop,w32_nat]
   simp[ldG,stG,swG,swV,swT,hop,GS.setPC,cs_R hD,cs_R hS,cs_R (show 7≤7 by decide),cs_R (show 0≤7 by decide),show(csG c pc).f=(cxF c).toNat from rfl,w32_4,w32_nat,hb,ldN,GS.setR,GS.setF]
  unfold Sim leftX
  rw[e]
  simp only[liftF,e1]
  simp[runL,leftO,nextO,exO,isV,valV,pvalF,valF,unF,binF,aluOf,xiOf,endsF,stOp,hop,ldO,ldNo,ldWo,stO,stN,stK,stA,rx0,rx2,pcN,hb,n8,n9,n10,n11,tnm]
  simp[updC,runL,leftO,nextO,exO,isV,valV,pvalF,valF,unF,binF,aluOf,xiOf,endsF,stOp,hop,ldO,ldNo,ldWo,stO,stN,stK,stA,rx0,rx2,pcN,hb,n8,n9,n10,n11,tnm]
  first|done|(refine gs_ext ?_ rfl ?_<;>first|rfl|(intro j;simp only[csG,updC,upd,GS.setR,GS.setPC,GS.setF];(repeat' split)<;>first|rfl|omega)|(simp[csG,cxF,updC,Fl.flagsF,GS.setR,GS.setPC,GS.setF,n8,n9,n10,n11,tnm];done))
 | none=>
  obtain⟨y,hy,hyl⟩:=ldX_nat m ((c i.S+i.imm)%4294967296) 4 h.hm (by decide)
  cases hs:sto m ((c i.S+i.imm)%4294967296) 4 with
  | some x=>
   have e:stepF m (csG c pc)=⟨csG c pc,6,x,m⟩:=by
    unfold stepF memF
    simp only[csG_f h.hc,show(csG c pc).pc=pc from rfl,h.hi,h.hk,hop,w32_nat]
    simp[ldG,stG,swG,swV,swT,hop,GS.setPC,cs_R hD,cs_R hS,cs_R (show 7≤7 by decide),cs_R (show 0≤7 by decide),show(csG c pc).f=(cxF c).toNat from rfl,w32_4,w32_nat,hb,ldN,GS.setR,GS.setF,hy,hs]
   unfold Sim leftX
   rw[e]
   simp only[liftF,e1]
   simp[runL,leftO,nextO,exO,isV,valV,pvalF,valF,unF,binF,aluOf,xiOf,endsF,stOp,hop,ldO,ldNo,ldWo,stO,stN,stK,stA,rx0,rx2,pcN,hb,n8,n9,n10,n11,tnm,hy,hs]
   simp[updC,runL,leftO,nextO,exO,isV,valV,pvalF,valF,unF,binF,aluOf,xiOf,endsF,stOp,hop,ldO,ldNo,ldWo,stO,stN,stK,stA,rx0,rx2,pcN,hb,n8,n9,n10,n11,tnm,hy,hs]
   exact⟨st_no hs,rfl⟩
  | none=>
   have e:stepF m (csG c pc)=⟨(⟨upd ((csG c pc).R) (i.D) (y),((pc+i.n)%4294967296),(Fl.flagsF 1 y (c i.D) (cxF c).toNat).toNat⟩:GS),0,0,storeT m ((c i.S+i.imm)%4294967296) 4 ((y+c i.D)%4294967296)⟩:=by
    unfold stepF memF
    simp only[csG_f h.hc,show(csG c pc).pc=pc from rfl,h.hi,h.hk,hop,w32_nat]
    simp[ldG,stG,swG,swV,swT,hop,GS.setPC,cs_R hD,cs_R hS,cs_R (show 7≤7 by decide),cs_R (show 0≤7 by decide),show(csG c pc).f=(cxF c).toNat from rfl,w32_4,w32_nat,hb,ldN,GS.setR,GS.setF,hy,hs]
   cases ht:touchB (storeT m ((c i.S+i.imm)%4294967296) 4 ((y+c i.D)%4294967296)) with
   | false=>
    unfold Sim leftX
    rw[e]
    simp only[liftF,e1]
    simp[runL,leftO,nextO,exO,isV,valV,pvalF,valF,unF,binF,aluOf,xiOf,endsF,stOp,hop,ldO,ldNo,ldWo,stO,stN,stK,stA,rx0,rx2,pcN,hb,n8,n9,n10,n11,tnm,hy,hs,ht]
    simp[updC,runL,leftO,nextO,exO,isV,valV,pvalF,valF,unF,binF,aluOf,xiOf,endsF,stOp,hop,ldO,ldNo,ldWo,stO,stN,stK,stA,rx0,rx2,pcN,hb,n8,n9,n10,n11,tnm,hy,hs,ht]
    first|done|(refine gs_ext ?_ rfl ?_<;>first|rfl|(intro j;simp only[csG,updC,upd,GS.setR,GS.setPC,GS.setF];(repeat' split)<;>first|rfl|omega)|(simp[csG,cxF,updC,Fl.flagsF,GS.setR,GS.setPC,GS.setF,n8,n9,n10,n11,tnm];done))
   | true=>
    unfold Sim leftX
    rw[e]
    simp only[liftF,e1]
    simp[runL,leftO,nextO,exO,isV,valV,pvalF,valF,unF,binF,aluOf,xiOf,endsF,stOp,hop,ldO,ldNo,ldWo,stO,stN,stK,stA,rx0,rx2,pcN,hb,n8,n9,n10,n11,tnm,hy,hs,ht]
    simp[updC,runL,leftO,nextO,exO,isV,valV,pvalF,valF,unF,binF,aluOf,xiOf,endsF,stOp,hop,ldO,ldNo,ldWo,stO,stN,stK,stA,rx0,rx2,pcN,hb,n8,n9,n10,n11,tnm,hy,hs,ht]
    first|done|(refine gs_ext ?_ rfl ?_<;>first|rfl|(intro j;simp only[csG,updC,upd,GS.setR,GS.setPC,GS.setF];(repeat' split)<;>first|rfl|omega)|(simp[csG,cxF,updC,Fl.flagsF,GS.setR,GS.setPC,GS.setF,n8,n9,n10,n11,tnm];done))
theorem sim26a{m:MS}{c:Nat→Nat}{pc:Nat}{i:IR}{done M:Nat}{v:Nat→Nat}(h:SimIn m c pc i done)(hop:i.op=26)(hq0:ldX m ((c i.S+i.imm)%4294967296) 4=c 0):Sim m c pc i done M v:=by
 have hD:=h.ok.D1
 have hS:=h.ok.S1
 have hcf:=cxF_bd h.hc
 have hcD:=h.hc i.D
 have hcS:=h.hc i.S
 have hc0:=h.hc 0
 have him:=h.ok.im
 have n8:¬8=i.D:=zo
 have n9:¬9=i.D:=zo
 have n10:¬10=i.D:=zo
 have n11:¬11=i.D:=zo
 have e1:(xiOf i pc done).op.toNat=26:=by show i.op.toNat=26;omega
 cases hb:badN m 1 ((c i.S+i.imm)%4294967296) 4 with
 | some x=>
  have e:stepF m (csG c pc)=⟨csG c pc,5,x,m⟩:=by
   unfold stepF memF
   simp only[csG_f h.hc,show(csG c pc).pc=pc from rfl,h.hi,h.hk,hop,w32_nat]
   simp[ldG,stG,swG,swV,swT,hop,GS.setPC,cs_R hD,cs_R hS,cs_R (show 7≤7 by decide),cs_R (show 0≤7 by decide),show(csG c pc).f=(cxF c).toNat from rfl,w32_4,w32_nat,hb,ldN,GS.setR,GS.setF]
  unfold Sim leftX
  rw[e]
  simp only[liftF,e1]
  simp[runL,leftO,nextO,exO,isV,valV,pvalF,valF,unF,binF,aluOf,xiOf,endsF,stOp,hop,ldO,ldNo,ldWo,stO,stN,stK,stA,rx0,rx2,pcN,hb,n8,n9,n10,n11,tnm,Fl.isF]
  simp[updC,runL,leftO,nextO,exO,isV,valV,pvalF,valF,unF,binF,aluOf,xiOf,endsF,stOp,hop,ldO,ldNo,ldWo,stO,stN,stK,stA,rx0,rx2,pcN,hb,n8,n9,n10,n11,tnm,Fl.isF]
  first|done|rfl|(refine gs_ext ?_ rfl ?_<;>first|rfl|(intro j;simp only[csG,updC,upd];(repeat' split)<;>first|rfl|omega|(subst_vars;first|rfl|omega)|(simp_all;done))|(simp[csG,cxF,updC,Fl.flagsF,hq];done))
 | none=>
  obtain⟨y,hy,hyl⟩:=ldX_nat m ((c i.S+i.imm)%4294967296) 4 h.hm (by decide)
  have hq:y=c 0:=zo
  cases hs:sto m ((c i.S+i.imm)%4294967296) 4 with
  | some x=>
   have e:stepF m (csG c pc)=⟨csG c pc,6,x,m⟩:=by
    unfold stepF memF
    simp only[csG_f h.hc,show(csG c pc).pc=pc from rfl,h.hi,h.hk,hop,w32_nat]
    simp[ldG,stG,swG,swV,swT,hop,GS.setPC,cs_R hD,cs_R hS,cs_R (show 7≤7 by decide),cs_R (show 0≤7 by decide),show(csG c pc).f=(cxF c).toNat from rfl,w32_4,w32_nat,hb,ldN,GS.setR,GS.setF,hy,hs,hq]
   unfold Sim leftX
   rw[e]
   simp only[liftF,e1]
   simp[runL,leftO,nextO,exO,isV,valV,pvalF,valF,unF,binF,aluOf,xiOf,endsF,stOp,hop,ldO,ldNo,ldWo,stO,stN,stK,stA,rx0,rx2,pcN,hb,n8,n9,n10,n11,tnm,Fl.isF,hy,hs,hq]
   simp[updC,runL,leftO,nextO,exO,isV,valV,pvalF,valF,unF,binF,aluOf,xiOf,endsF,stOp,hop,ldO,ldNo,ldWo,stO,stN,stK,stA,rx0,rx2,pcN,hb,n8,n9,n10,n11,tnm,Fl.isF,hy,hs,hq]
   exact⟨st_no hs,rfl⟩
  | none=>
   have e:stepF m (csG c pc)=⟨(⟨(csG c pc).R,((pc+i.n)%4294967296),(Fl.flagsF 3 (c 0) y (cxF c).toNat).toNat⟩:GS),0,0,storeT m ((c i.S+i.imm)%4294967296) 4 (c i.D)⟩:=by
    unfold stepF memF
    simp only[csG_f h.hc,show(csG c pc).pc=pc from rfl,h.hi,h.hk,hop,w32_nat]
    simp[ldG,stG,swG,swV,swT,hop,GS.setPC,cs_R hD,cs_R hS,cs_R (show 7≤7 by decide),cs_R (show 0≤7 by decide),show(csG c pc).f=(cxF c).toNat from rfl,w32_4,w32_nat,hb,ldN,GS.setR,GS.setF,hy,hs,hq]
   cases ht:touchB (storeT m ((c i.S+i.imm)%4294967296) 4 (c i.D)) with
   | false=>
    unfold Sim leftX
    rw[e]
    simp only[liftF,e1]
    simp[runL,leftO,nextO,exO,isV,valV,pvalF,valF,unF,binF,aluOf,xiOf,endsF,stOp,hop,ldO,ldNo,ldWo,stO,stN,stK,stA,rx0,rx2,pcN,hb,n8,n9,n10,n11,tnm,Fl.isF,hy,hs,ht,hq]
    simp[updC,runL,leftO,nextO,exO,isV,valV,pvalF,valF,unF,binF,aluOf,xiOf,endsF,stOp,hop,ldO,ldNo,ldWo,stO,stN,stK,stA,rx0,rx2,pcN,hb,n8,n9,n10,n11,tnm,Fl.isF,hy,hs,ht,hq]
    first|done|rfl|(refine gs_ext ?_ rfl ?_<;>first|rfl|(intro j;simp only[csG,updC,upd];(repeat' split)<;>first|rfl|omega|(subst_vars;first|rfl|omega)|(simp_all;done))|(simp[csG,cxF,updC,Fl.flagsF,hq];done))
   | true=>
    unfold Sim leftX
    rw[e]
    simp only[liftF,e1]
    simp[runL,leftO,nextO,exO,isV,valV,pvalF,valF,unF,binF,aluOf,xiOf,endsF,stOp,hop,ldO,ldNo,ldWo,stO,stN,stK,stA,rx0,rx2,pcN,hb,n8,n9,n10,n11,tnm,Fl.isF,hy,hs,ht,hq]
    simp[updC,runL,leftO,nextO,exO,isV,valV,pvalF,valF,unF,binF,aluOf,xiOf,endsF,stOp,hop,ldO,ldNo,ldWo,stO,stN,stK,stA,rx0,rx2,pcN,hb,n8,n9,n10,n11,tnm,Fl.isF,hy,hs,ht,hq]
    first|done|rfl|(refine gs_ext ?_ rfl ?_<;>first|rfl|(intro j;simp only[csG,updC,upd];(repeat' split)<;>first|rfl|omega|(subst_vars;first|rfl|omega)|(simp_all;done))|(simp[csG,cxF,updC,Fl.flagsF,hq];done))
theorem sim26b{m:MS}{c:Nat→Nat}{pc:Nat}{i:IR}{done M:Nat}{v:Nat→Nat}(h:SimIn m c pc i done)(hop:i.op=26)(hq0:¬ldX m ((c i.S+i.imm)%4294967296) 4=c 0):Sim m c pc i done M v:=by
 have hD:=h.ok.D1
 have hS:=h.ok.S1
 have hcf:=cxF_bd h.hc
 have hcD:=h.hc i.D
 have hcS:=h.hc i.S
 have hc0:=h.hc 0
 have him:=h.ok.im
 have n8:¬8=i.D:=zo
 have n9:¬9=i.D:=zo
 have n10:¬10=i.D:=zo
 have n11:¬11=i.D:=zo
 have e1:(xiOf i pc done).op.toNat=26:=by show i.op.toNat=26;omega
 cases hb:badN m 1 ((c i.S+i.imm)%4294967296) 4 with
 | some x=>
  have e:stepF m (csG c pc)=⟨csG c pc,5,x,m⟩:=by
   unfold stepF memF
   simp only[csG_f h.hc,show(csG c pc).pc=pc from rfl,h.hi,h.hk,hop,w32_nat]
   simp[ldG,stG,swG,swV,swT,hop,GS.setPC,cs_R hD,cs_R hS,cs_R (show 7≤7 by decide),cs_R (show 0≤7 by decide),show(csG c pc).f=(cxF c).toNat from rfl,w32_4,w32_nat,hb,ldN,GS.setR,GS.setF]
  unfold Sim leftX
  rw[e]
  simp only[liftF,e1]
  simp[runL,leftO,nextO,exO,isV,valV,pvalF,valF,unF,binF,aluOf,xiOf,endsF,stOp,hop,ldO,ldNo,ldWo,stO,stN,stK,stA,rx0,rx2,pcN,hb,n8,n9,n10,n11,tnm,Fl.isF]
  simp[updC,runL,leftO,nextO,exO,isV,valV,pvalF,valF,unF,binF,aluOf,xiOf,endsF,stOp,hop,ldO,ldNo,ldWo,stO,stN,stK,stA,rx0,rx2,pcN,hb,n8,n9,n10,n11,tnm,Fl.isF]
  first|done|(refine gs_ext ?_ rfl ?_<;>first|rfl|(intro j;simp only[csG,updC,upd,GS.setR,GS.setPC,GS.setF];(repeat' split)<;>first|rfl|omega)|(simp[csG,cxF,updC,Fl.flagsF,GS.setR,GS.setPC,GS.setF,n8,n9,n10,n11,tnm];done))
 | none=>
  obtain⟨y,hy,hyl⟩:=ldX_nat m ((c i.S+i.imm)%4294967296) 4 h.hm (by decide)
  have hq:¬y=c 0:=zo
  have hq2:¬c 0=y:=zo
  have hq3:¬((c 0:Nat):Int)=(y:Int):=zo
  cases hs:sto m ((c i.S+i.imm)%4294967296) 4 with
  | some x=>
   have e:stepF m (csG c pc)=⟨csG c pc,6,x,m⟩:=by
    unfold stepF memF
    simp only[csG_f h.hc,show(csG c pc).pc=pc from rfl,h.hi,h.hk,hop,w32_nat]
    simp[ldG,stG,swG,swV,swT,hop,GS.setPC,cs_R hD,cs_R hS,cs_R (show 7≤7 by decide),cs_R (show 0≤7 by decide),show(csG c pc).f=(cxF c).toNat from rfl,w32_4,w32_nat,hb,ldN,GS.setR,GS.setF,hy,hs,hq,hq2]
   unfold Sim leftX
   rw[e]
   simp only[liftF,e1]
   simp[runL,leftO,nextO,exO,isV,valV,pvalF,valF,unF,binF,aluOf,xiOf,endsF,stOp,hop,ldO,ldNo,ldWo,stO,stN,stK,stA,rx0,rx2,pcN,hb,n8,n9,n10,n11,tnm,Fl.isF,hy,hs,hq,hq2,hq3]
   simp[updC,runL,leftO,nextO,exO,isV,valV,pvalF,valF,unF,binF,aluOf,xiOf,endsF,stOp,hop,ldO,ldNo,ldWo,stO,stN,stK,stA,rx0,rx2,pcN,hb,n8,n9,n10,n11,tnm,Fl.isF,hy,hs,hq,hq2,hq3]
   exact⟨st_no hs,rfl⟩
  | none=>
   have e:stepF m (csG c pc)=⟨(⟨upd ((csG c pc).R) (0) (y),((pc+i.n)%4294967296),(Fl.flagsF 3 (c 0) y (cxF c).toNat).toNat⟩:GS),0,0,storeT m ((c i.S+i.imm)%4294967296) 4 (y)⟩:=by
    unfold stepF memF
    simp only[csG_f h.hc,show(csG c pc).pc=pc from rfl,h.hi,h.hk,hop,w32_nat]
    simp[ldG,stG,swG,swV,swT,hop,GS.setPC,cs_R hD,cs_R hS,cs_R (show 7≤7 by decide),cs_R (show 0≤7 by decide),show(csG c pc).f=(cxF c).toNat from rfl,w32_4,w32_nat,hb,ldN,GS.setR,GS.setF,hy,hs,hq,hq2]
   cases ht:touchB (storeT m ((c i.S+i.imm)%4294967296) 4 (y)) with
   | false=>
    unfold Sim leftX
    rw[e]
    simp only[liftF,e1]
    simp[runL,leftO,nextO,exO,isV,valV,pvalF,valF,unF,binF,aluOf,xiOf,endsF,stOp,hop,ldO,ldNo,ldWo,stO,stN,stK,stA,rx0,rx2,pcN,hb,n8,n9,n10,n11,tnm,Fl.isF,hy,hs,ht,hq,hq2,hq3]
    simp[updC,runL,leftO,nextO,exO,isV,valV,pvalF,valF,unF,binF,aluOf,xiOf,endsF,stOp,hop,ldO,ldNo,ldWo,stO,stN,stK,stA,rx0,rx2,pcN,hb,n8,n9,n10,n11,tnm,Fl.isF,hy,hs,ht,hq,hq2,hq3]
    first|done|(refine gs_ext ?_ rfl ?_<;>first|rfl|(intro j;simp only[csG,updC,upd,GS.setR,GS.setPC,GS.setF];(repeat' split)<;>first|rfl|omega)|(simp[csG,cxF,updC,Fl.flagsF,GS.setR,GS.setPC,GS.setF,n8,n9,n10,n11,tnm];done))
   | true=>
    unfold Sim leftX
    rw[e]
    simp only[liftF,e1]
    simp[runL,leftO,nextO,exO,isV,valV,pvalF,valF,unF,binF,aluOf,xiOf,endsF,stOp,hop,ldO,ldNo,ldWo,stO,stN,stK,stA,rx0,rx2,pcN,hb,n8,n9,n10,n11,tnm,Fl.isF,hy,hs,ht,hq,hq2,hq3]
    simp[updC,runL,leftO,nextO,exO,isV,valV,pvalF,valF,unF,binF,aluOf,xiOf,endsF,stOp,hop,ldO,ldNo,ldWo,stO,stN,stK,stA,rx0,rx2,pcN,hb,n8,n9,n10,n11,tnm,Fl.isF,hy,hs,ht,hq,hq2,hq3]
    first|done|(refine gs_ext ?_ rfl ?_<;>first|rfl|(intro j;simp only[csG,updC,upd,GS.setR,GS.setPC,GS.setF];(repeat' split)<;>first|rfl|omega)|(simp[csG,cxF,updC,Fl.flagsF,GS.setR,GS.setPC,GS.setF,n8,n9,n10,n11,tnm];done))
theorem sim26{m:MS}{c:Nat→Nat}{pc:Nat}{i:IR}{done M:Nat}{v:Nat→Nat}(h:SimIn m c pc i done)(hop:i.op=26):Sim m c pc i done M v:=by
 by_cases hq:ldX m ((c i.S+i.imm)%4294967296) 4=c 0
 ·exact sim26a h hop hq
 ·exact sim26b h hop hq
theorem sim30{m:MS}{c:Nat→Nat}{pc:Nat}{i:IR}{done M:Nat}{v:Nat→Nat}(h:SimIn m c pc i done)(hop:i.op=30):Sim m c pc i done M v:=by
 have h0:=h.ok.O0
 have h1:=h.ok.ld hop
 have:i.O=0∨i.O=1∨i.O=2∨i.O=3∨i.O=4:=zo
 rcases this with e|e|e|e|e
 ·exact sim30_0 h hop e
 ·exact sim30_1 h hop e
 ·exact sim30_2 h hop e
 ·exact sim30_3 h hop e
 ·exact sim30_4 h hop e
theorem sim31{m:MS}{c:Nat→Nat}{pc:Nat}{i:IR}{done M:Nat}{v:Nat→Nat}(h:SimIn m c pc i done)(hop:i.op=31):Sim m c pc i done M v:=by
 have h0:=h.ok.O0
 have h1:=h.ok.st hop
 have:i.O=0∨i.O=1∨i.O=2:=zo
 rcases this with e|e|e
 ·exact sim31_0 h hop e
 ·exact sim31_1 h hop e
 ·exact sim31_2 h hop e
theorem sim_any{m:MS}{c:Nat→Nat}{pc:Nat}{i:IR}{done M:Nat}{v:Nat→Nat}(h:SimIn m c pc i done):Sim m c pc i done M v:=by
 have h0:=h.ok.op0
 have h1:=h.ok.op1
 obtain⟨t,ht⟩:∃ t:Nat,i.op=t:=⟨i.op.toNat,by omega⟩
 have hlt:t < 32:=zo
 match t,hlt,ht with
 | 0,_,ht=>exact sim0 h ht
 | 1,_,ht=>exact sim1 h ht
 | 2,_,ht=>exact sim2 h ht
 | 3,_,ht=>exact sim3 h ht
 | 4,_,ht=>exact sim4 h ht
 | 5,_,ht=>exact sim5 h ht
 | 6,_,ht=>exact sim6 h ht
 | 7,_,ht=>exact sim7 h ht
 | 8,_,ht=>exact sim8 h ht
 | 9,_,ht=>exact sim9 h ht
 | 10,_,ht=>exact sim10 h ht
 | 11,_,ht=>exact sim11 h ht
 | 12,_,ht=>exact sim12 h ht
 | 13,_,ht=>exact sim13 h ht
 | 14,_,ht=>exact sim14 h ht
 | 15,_,ht=>exact sim15 h ht
 | 16,_,ht=>exact sim16 h ht
 | 17,_,ht=>exact sim17 h ht
 | 18,_,ht=>exact sim18 h ht
 | 19,_,ht=>exact sim19 h ht
 | 20,_,ht=>exact sim20 h ht
 | 21,_,ht=>exact sim21 h ht
 | 22,_,ht=>exact sim22 h ht
 | 23,_,ht=>exact sim23 h ht
 | 24,_,ht=>exact sim24 h ht
 | 25,_,ht=>exact sim25 h ht
 | 26,_,ht=>exact sim26 h ht
 | 27,_,ht=>exact sim27 h ht
 | 28,_,ht=>exact sim28 h ht
 | 29,_,ht=>exact sim29 h ht
 | 30,_,ht=>exact sim30 h ht
 | 31,_,ht=>exact sim31 h ht
 | n+32,h,_=>exact absurd h zo
end Go.Proofs.YtfokgedjocnnmaaGreat
