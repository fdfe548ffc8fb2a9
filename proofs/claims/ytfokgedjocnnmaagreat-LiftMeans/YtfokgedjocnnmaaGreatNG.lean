import Derived.Test.YtfokgedjocnnmaaGreatND
set_option linter.unusedVariables false
set_option linter.unusedSimpArgs false
namespace Go.Proofs.YtfokgedjocnnmaaGreat
open Go.RowKit
set_option maxRecDepth 100000
theorem sim14{m:MS}{c:Nat→Nat}{pc:Nat}{i:IR}{done M:Nat}{v:Nat→Nat}(h:SimIn m c pc i done)(hop:i.op=14):Sim m c pc i done M v:=by
 have hD:=h.ok.D1
 have hS:=h.ok.S1
 have hcf:=cxF_bd h.hc
 have hcD:=h.hc i.D
 have hcS:=h.hc i.S
 have hc7:=h.hc 7
 have him:=h.ok.im
 have n8:¬8=i.D:=zo
 have n9:¬9=i.D:=zo
 have n10:¬10=i.D:=zo
 have n11:¬11=i.D:=zo
 have e1:(xiOf i pc done).op.toNat=14:=by show i.op.toNat=14;omega
 cases hb:sto m (w32 ((c 7:Int) - 4)) 4 with
 | some x=>
  have e:stepF m (csG c pc)=⟨csG c pc,6,x,m⟩:=by
   unfold stepF memF
   simp only[csG_f h.hc,show(csG c pc).pc=pc from rfl,h.hi,h.hk,hop,w32_nat]
   simp[ldG,stG,swG,GS.setPC,cs_R hD,cs_R hS,cs_R (show 7≤7 by decide),cs_R (show 0≤7 by decide),show(csG c pc).f=(cxF c).toNat from rfl,w32_4,hb,ldN,GS.setR,GS.setF]
  unfold Sim leftX
  rw[e]
  simp only[liftF,e1]
  simp[runL,leftO,nextO,exO,isV,valV,pvalF,valF,unF,binF,aluOf,xiOf,endsF,stOp,hop,ldO,ldNo,ldWo,stO,stN,stK,stA,rx0,rx2,pcN,hb,n8,n9,n10,n11,tnm]
  simp[updC,runL,leftO,nextO,exO,isV,valV,pvalF,valF,unF,binF,aluOf,xiOf,endsF,stOp,hop,ldO,ldNo,ldWo,stO,stN,stK,stA,rx0,rx2,pcN,hb,n8,n9,n10,n11,tnm]
  exact⟨st_no hb,rfl⟩
 | none=>
  have e:stepF m (csG c pc)=⟨(⟨upd ((csG c pc).R) (7) (w32 ((c 7:Int) - 4)),((pc+i.n)%4294967296),(cxF c).toNat⟩:GS),0,0,storeT m (w32 ((c 7:Int) - 4)) 4 (c i.S)⟩:=by
   unfold stepF memF
   simp only[csG_f h.hc,show(csG c pc).pc=pc from rfl,h.hi,h.hk,hop,w32_nat]
   simp[ldG,stG,swG,GS.setPC,cs_R hD,cs_R hS,cs_R (show 7≤7 by decide),cs_R (show 0≤7 by decide),show(csG c pc).f=(cxF c).toNat from rfl,w32_4,hb,ldN,GS.setR,GS.setF]
  cases ht:touchB (storeT m (w32 ((c 7:Int) - 4)) 4 (c i.S)) with
  | false=>
   unfold Sim leftX
   rw[e]
   simp only[liftF,e1]
   simp[runL,leftO,nextO,exO,isV,valV,pvalF,valF,unF,binF,aluOf,xiOf,endsF,stOp,hop,ldO,ldNo,ldWo,stO,stN,stK,stA,rx0,rx2,pcN,hb,n8,n9,n10,n11,tnm,ht]
   simp[updC,runL,leftO,nextO,exO,isV,valV,pvalF,valF,unF,binF,aluOf,xiOf,endsF,stOp,hop,ldO,ldNo,ldWo,stO,stN,stK,stA,rx0,rx2,pcN,hb,n8,n9,n10,n11,tnm,ht]
   first|done|(refine gs_ext ?_ rfl ?_<;>first|rfl|(intro j;simp only[csG,updC,upd,GS.setR,GS.setPC,GS.setF];(repeat' split)<;>first|rfl|omega)|(simp[csG,cxF,updC,Fl.flagsF,GS.setR,GS.setPC,GS.setF,n8,n9,n10,n11,tnm];done))
  | true=>
   unfold Sim leftX
   rw[e]
   simp only[liftF,e1]
   simp[runL,leftO,nextO,exO,isV,valV,pvalF,valF,unF,binF,aluOf,xiOf,endsF,stOp,hop,ldO,ldNo,ldWo,stO,stN,stK,stA,rx0,rx2,pcN,hb,n8,n9,n10,n11,tnm,ht]
   simp[updC,runL,leftO,nextO,exO,isV,valV,pvalF,valF,unF,binF,aluOf,xiOf,endsF,stOp,hop,ldO,ldNo,ldWo,stO,stN,stK,stA,rx0,rx2,pcN,hb,n8,n9,n10,n11,tnm,ht]
   first|done|(refine gs_ext ?_ rfl ?_<;>first|rfl|(intro j;simp only[csG,updC,upd,GS.setR,GS.setPC,GS.setF];(repeat' split)<;>first|rfl|omega)|(simp[csG,cxF,updC,Fl.flagsF,GS.setR,GS.setPC,GS.setF,n8,n9,n10,n11,tnm];done))
theorem sim3{m:MS}{c:Nat→Nat}{pc:Nat}{i:IR}{done M:Nat}{v:Nat→Nat}(h:SimIn m c pc i done)(hop:i.op=3):Sim m c pc i done M v:=by
 have hD:=h.ok.D1
 have hS:=h.ok.S1
 have hcf:=cxF_bd h.hc
 have hcD:=h.hc i.D
 have hcS:=h.hc i.S
 have hc7:=h.hc 7
 have him:=h.ok.im
 have n8:¬8=i.D:=zo
 have n9:¬9=i.D:=zo
 have n10:¬10=i.D:=zo
 have n11:¬11=i.D:=zo
 have e1:(xiOf i pc done).op.toNat=3:=by show i.op.toNat=3;omega
 cases hb:sto m (w32 ((c 7:Int) - 4)) 4 with
 | some x=>
  have e:stepF m (csG c pc)=⟨csG c pc,6,x,m⟩:=by
   unfold stepF memF
   simp only[csG_f h.hc,show(csG c pc).pc=pc from rfl,h.hi,h.hk,hop,w32_nat]
   simp[ldG,stG,swG,GS.setPC,cs_R hD,cs_R hS,cs_R (show 7≤7 by decide),cs_R (show 0≤7 by decide),show(csG c pc).f=(cxF c).toNat from rfl,w32_4,hb,ldN,GS.setR,GS.setF]
  unfold Sim leftX
  rw[e]
  simp only[liftF,e1]
  simp[runL,leftO,nextO,exO,isV,valV,pvalF,valF,unF,binF,aluOf,xiOf,endsF,stOp,hop,ldO,ldNo,ldWo,stO,stN,stK,stA,rx0,rx2,pcN,hb,n8,n9,n10,n11,tnm]
  simp[updC,runL,leftO,nextO,exO,isV,valV,pvalF,valF,unF,binF,aluOf,xiOf,endsF,stOp,hop,ldO,ldNo,ldWo,stO,stN,stK,stA,rx0,rx2,pcN,hb,n8,n9,n10,n11,tnm]
  exact⟨st_no hb,rfl⟩
 | none=>
  have e:stepF m (csG c pc)=⟨(⟨upd ((csG c pc).R) (7) (w32 ((c 7:Int) - 4)),((pc+i.n)%4294967296),(cxF c).toNat⟩:GS),0,0,storeT m (w32 ((c 7:Int) - 4)) 4 ((cxF c).toNat)⟩:=by
   unfold stepF memF
   simp only[csG_f h.hc,show(csG c pc).pc=pc from rfl,h.hi,h.hk,hop,w32_nat]
   simp[ldG,stG,swG,GS.setPC,cs_R hD,cs_R hS,cs_R (show 7≤7 by decide),cs_R (show 0≤7 by decide),show(csG c pc).f=(cxF c).toNat from rfl,w32_4,hb,ldN,GS.setR,GS.setF]
  cases ht:touchB (storeT m (w32 ((c 7:Int) - 4)) 4 ((cxF c).toNat)) with
  | false=>
   unfold Sim leftX
   rw[e]
   simp only[liftF,e1]
   simp[runL,leftO,nextO,exO,isV,valV,pvalF,valF,unF,binF,aluOf,xiOf,endsF,stOp,hop,ldO,ldNo,ldWo,stO,stN,stK,stA,rx0,rx2,pcN,hb,n8,n9,n10,n11,tnm,ht]
   simp[updC,runL,leftO,nextO,exO,isV,valV,pvalF,valF,unF,binF,aluOf,xiOf,endsF,stOp,hop,ldO,ldNo,ldWo,stO,stN,stK,stA,rx0,rx2,pcN,hb,n8,n9,n10,n11,tnm,ht]
   first|done|(refine gs_ext ?_ rfl ?_<;>first|rfl|(intro j;simp only[csG,updC,upd,GS.setR,GS.setPC,GS.setF];(repeat' split)<;>first|rfl|omega)|(simp[csG,cxF,updC,Fl.flagsF,GS.setR,GS.setPC,GS.setF,n8,n9,n10,n11,tnm];done))
  | true=>
   unfold Sim leftX
   rw[e]
   simp only[liftF,e1]
   simp[runL,leftO,nextO,exO,isV,valV,pvalF,valF,unF,binF,aluOf,xiOf,endsF,stOp,hop,ldO,ldNo,ldWo,stO,stN,stK,stA,rx0,rx2,pcN,hb,n8,n9,n10,n11,tnm,ht]
   simp[updC,runL,leftO,nextO,exO,isV,valV,pvalF,valF,unF,binF,aluOf,xiOf,endsF,stOp,hop,ldO,ldNo,ldWo,stO,stN,stK,stA,rx0,rx2,pcN,hb,n8,n9,n10,n11,tnm,ht]
   first|done|(refine gs_ext ?_ rfl ?_<;>first|rfl|(intro j;simp only[csG,updC,upd,GS.setR,GS.setPC,GS.setF];(repeat' split)<;>first|rfl|omega)|(simp[csG,cxF,updC,Fl.flagsF,GS.setR,GS.setPC,GS.setF,n8,n9,n10,n11,tnm];done))
theorem sim8{m:MS}{c:Nat→Nat}{pc:Nat}{i:IR}{done M:Nat}{v:Nat→Nat}(h:SimIn m c pc i done)(hop:i.op=8):Sim m c pc i done M v:=by
 have hD:=h.ok.D1
 have hS:=h.ok.S1
 have hcf:=cxF_bd h.hc
 have hcD:=h.hc i.D
 have hcS:=h.hc i.S
 have hc7:=h.hc 7
 have him:=h.ok.im
 have n8:¬8=i.D:=zo
 have n9:¬9=i.D:=zo
 have n10:¬10=i.D:=zo
 have n11:¬11=i.D:=zo
 have e1:(xiOf i pc done).op.toNat=8:=by show i.op.toNat=8;omega
 cases hb:sto m (w32 ((c 7:Int) - 4)) 4 with
 | some x=>
  have e:stepF m (csG c pc)=⟨csG c pc,6,x,m⟩:=by
   unfold stepF memF
   simp only[csG_f h.hc,show(csG c pc).pc=pc from rfl,h.hi,h.hk,hop,w32_nat]
   simp[ldG,stG,swG,GS.setPC,cs_R hD,cs_R hS,cs_R (show 7≤7 by decide),cs_R (show 0≤7 by decide),show(csG c pc).f=(cxF c).toNat from rfl,w32_4,hb,ldN,GS.setR,GS.setF]
  unfold Sim leftX
  rw[e]
  simp only[liftF,e1]
  simp[runL,leftO,nextO,exO,isV,valV,pvalF,valF,unF,binF,aluOf,xiOf,endsF,stOp,hop,ldO,ldNo,ldWo,stO,stN,stK,stA,rx0,rx2,pcN,hb,n8,n9,n10,n11,tnm]
  simp[updC,runL,leftO,nextO,exO,isV,valV,pvalF,valF,unF,binF,aluOf,xiOf,endsF,stOp,hop,ldO,ldNo,ldWo,stO,stN,stK,stA,rx0,rx2,pcN,hb,n8,n9,n10,n11,tnm]
  exact⟨st_no hb,rfl⟩
 | none=>
  have e:stepF m (csG c pc)=⟨(⟨upd ((csG c pc).R) (7) (w32 ((c 7:Int) - 4)),(((pc+i.n)%4294967296)+i.imm)%4294967296,(cxF c).toNat⟩:GS),0,0,storeT m (w32 ((c 7:Int) - 4)) 4 (((pc+i.n)%4294967296))⟩:=by
   unfold stepF memF
   simp only[csG_f h.hc,show(csG c pc).pc=pc from rfl,h.hi,h.hk,hop,w32_nat]
   simp[ldG,stG,swG,GS.setPC,cs_R hD,cs_R hS,cs_R (show 7≤7 by decide),cs_R (show 0≤7 by decide),show(csG c pc).f=(cxF c).toNat from rfl,w32_4,hb,ldN,GS.setR,GS.setF]
  unfold Sim leftX
  rw[e]
  simp only[liftF,e1]
  simp[runL,leftO,nextO,exO,isV,valV,pvalF,valF,unF,binF,aluOf,xiOf,endsF,stOp,hop,ldO,ldNo,ldWo,stO,stN,stK,stA,rx0,rx2,pcN,hb,n8,n9,n10,n11,tnm]
  simp[updC,runL,leftO,nextO,exO,isV,valV,pvalF,valF,unF,binF,aluOf,xiOf,endsF,stOp,hop,ldO,ldNo,ldWo,stO,stN,stK,stA,rx0,rx2,pcN,hb,n8,n9,n10,n11,tnm]
  first|done|(refine gs_ext ?_ rfl ?_<;>first|rfl|(intro j;simp only[csG,updC,upd,GS.setR,GS.setPC,GS.setF];(repeat' split)<;>first|rfl|omega)|(simp[csG,cxF,updC,Fl.flagsF,GS.setR,GS.setPC,GS.setF,n8,n9,n10,n11,tnm];done))
theorem sim10{m:MS}{c:Nat→Nat}{pc:Nat}{i:IR}{done M:Nat}{v:Nat→Nat}(h:SimIn m c pc i done)(hop:i.op=10):Sim m c pc i done M v:=by
 have hD:=h.ok.D1
 have hS:=h.ok.S1
 have hcf:=cxF_bd h.hc
 have hcD:=h.hc i.D
 have hcS:=h.hc i.S
 have hc7:=h.hc 7
 have him:=h.ok.im
 have n8:¬8=i.D:=zo
 have n9:¬9=i.D:=zo
 have n10:¬10=i.D:=zo
 have n11:¬11=i.D:=zo
 have e1:(xiOf i pc done).op.toNat=10:=by show i.op.toNat=10;omega
 cases hb:sto m (w32 ((c 7:Int) - 4)) 4 with
 | some x=>
  have e:stepF m (csG c pc)=⟨csG c pc,6,x,m⟩:=by
   unfold stepF memF
   simp only[csG_f h.hc,show(csG c pc).pc=pc from rfl,h.hi,h.hk,hop,w32_nat]
   simp[ldG,stG,swG,GS.setPC,cs_R hD,cs_R hS,cs_R (show 7≤7 by decide),cs_R (show 0≤7 by decide),show(csG c pc).f=(cxF c).toNat from rfl,w32_4,hb,ldN,GS.setR,GS.setF]
  unfold Sim leftX
  rw[e]
  simp only[liftF,e1]
  simp[runL,leftO,nextO,exO,isV,valV,pvalF,valF,unF,binF,aluOf,xiOf,endsF,stOp,hop,ldO,ldNo,ldWo,stO,stN,stK,stA,rx0,rx2,pcN,hb,n8,n9,n10,n11,tnm]
  simp[updC,runL,leftO,nextO,exO,isV,valV,pvalF,valF,unF,binF,aluOf,xiOf,endsF,stOp,hop,ldO,ldNo,ldWo,stO,stN,stK,stA,rx0,rx2,pcN,hb,n8,n9,n10,n11,tnm]
  exact⟨st_no hb,rfl⟩
 | none=>
  have e:stepF m (csG c pc)=⟨(⟨upd ((csG c pc).R) (7) (w32 ((c 7:Int) - 4)),c i.S,(cxF c).toNat⟩:GS),0,0,storeT m (w32 ((c 7:Int) - 4)) 4 (((pc+i.n)%4294967296))⟩:=by
   unfold stepF memF
   simp only[csG_f h.hc,show(csG c pc).pc=pc from rfl,h.hi,h.hk,hop,w32_nat]
   simp[ldG,stG,swG,GS.setPC,cs_R hD,cs_R hS,cs_R (show 7≤7 by decide),cs_R (show 0≤7 by decide),show(csG c pc).f=(cxF c).toNat from rfl,w32_4,hb,ldN,GS.setR,GS.setF]
  unfold Sim leftX
  rw[e]
  simp only[liftF,e1]
  simp[runL,leftO,nextO,exO,isV,valV,pvalF,valF,unF,binF,aluOf,xiOf,endsF,stOp,hop,ldO,ldNo,ldWo,stO,stN,stK,stA,rx0,rx2,pcN,hb,n8,n9,n10,n11,tnm]
  simp[updC,runL,leftO,nextO,exO,isV,valV,pvalF,valF,unF,binF,aluOf,xiOf,endsF,stOp,hop,ldO,ldNo,ldWo,stO,stN,stK,stA,rx0,rx2,pcN,hb,n8,n9,n10,n11,tnm]
  first|done|(refine gs_ext ?_ rfl ?_<;>first|rfl|(intro j;simp only[csG,updC,upd,GS.setR,GS.setPC,GS.setF];(repeat' split)<;>first|rfl|omega)|(simp[csG,cxF,updC,Fl.flagsF,GS.setR,GS.setPC,GS.setF,n8,n9,n10,n11,tnm];done))
theorem sim31_0{m:MS}{c:Nat→Nat}{pc:Nat}{i:IR}{done M:Nat}{v:Nat→Nat}(h:SimIn m c pc i done)(hop:i.op=31)(hO:i.O=0):Sim m c pc i done M v:=by
 have hD:=h.ok.D1
 have hS:=h.ok.S1
 have hcf:=cxF_bd h.hc
 have hcD:=h.hc i.D
 have hcS:=h.hc i.S
 have hc7:=h.hc 7
 have him:=h.ok.im
 have n8:¬8=i.D:=zo
 have n9:¬9=i.D:=zo
 have n10:¬10=i.D:=zo
 have n11:¬11=i.D:=zo
 have e1:(xiOf i pc done).op.toNat=31:=by show i.op.toNat=31;omega
 cases hb:sto m ((c i.S+i.imm)%4294967296) 1 with
 | some x=>
  have e:stepF m (csG c pc)=⟨csG c pc,6,x,m⟩:=by
   unfold stepF memF
   simp only[csG_f h.hc,show(csG c pc).pc=pc from rfl,h.hi,h.hk,hop,w32_nat]
   simp[ldG,stG,swG,GS.setPC,cs_R hD,cs_R hS,cs_R (show 7≤7 by decide),cs_R (show 0≤7 by decide),show(csG c pc).f=(cxF c).toNat from rfl,w32_4,hb,ldN,GS.setR,GS.setF,stW,hO]
  unfold Sim leftX
  rw[e]
  simp only[liftF,e1]
  simp[runL,leftO,nextO,exO,isV,valV,pvalF,valF,unF,binF,aluOf,xiOf,endsF,stOp,hop,ldO,ldNo,ldWo,stO,stN,stK,stA,rx0,rx2,pcN,hb,n8,n9,n10,n11,tnm,hO]
  simp[updC,runL,leftO,nextO,exO,isV,valV,pvalF,valF,unF,binF,aluOf,xiOf,endsF,stOp,hop,ldO,ldNo,ldWo,stO,stN,stK,stA,rx0,rx2,pcN,hb,n8,n9,n10,n11,tnm,hO]
  exact⟨st_no hb,rfl⟩
 | none=>
  have e:stepF m (csG c pc)=⟨(⟨(csG c pc).R,((pc+i.n)%4294967296),(cxF c).toNat⟩:GS),0,0,storeT m ((c i.S+i.imm)%4294967296) 1 (c i.D)⟩:=by
   unfold stepF memF
   simp only[csG_f h.hc,show(csG c pc).pc=pc from rfl,h.hi,h.hk,hop,w32_nat]
   simp[ldG,stG,swG,GS.setPC,cs_R hD,cs_R hS,cs_R (show 7≤7 by decide),cs_R (show 0≤7 by decide),show(csG c pc).f=(cxF c).toNat from rfl,w32_4,hb,ldN,GS.setR,GS.setF,stW,hO]
  cases ht:touchB (storeT m ((c i.S+i.imm)%4294967296) 1 (c i.D)) with
  | false=>
   unfold Sim leftX
   rw[e]
   simp only[liftF,e1]
   simp[runL,leftO,nextO,exO,isV,valV,pvalF,valF,unF,binF,aluOf,xiOf,endsF,stOp,hop,ldO,ldNo,ldWo,stO,stN,stK,stA,rx0,rx2,pcN,hb,n8,n9,n10,n11,tnm,hO,ht]
   simp[updC,runL,leftO,nextO,exO,isV,valV,pvalF,valF,unF,binF,aluOf,xiOf,endsF,stOp,hop,ldO,ldNo,ldWo,stO,stN,stK,stA,rx0,rx2,pcN,hb,n8,n9,n10,n11,tnm,hO,ht]
   first|done|(refine gs_ext ?_ rfl ?_<;>first|rfl|(intro j;simp only[csG,updC,upd,GS.setR,GS.setPC,GS.setF];(repeat' split)<;>first|rfl|omega)|(simp[csG,cxF,updC,Fl.flagsF,GS.setR,GS.setPC,GS.setF,n8,n9,n10,n11,tnm];done))
  | true=>
   unfold Sim leftX
   rw[e]
   simp only[liftF,e1]
   simp[runL,leftO,nextO,exO,isV,valV,pvalF,valF,unF,binF,aluOf,xiOf,endsF,stOp,hop,ldO,ldNo,ldWo,stO,stN,stK,stA,rx0,rx2,pcN,hb,n8,n9,n10,n11,tnm,hO,ht]
   simp[updC,runL,leftO,nextO,exO,isV,valV,pvalF,valF,unF,binF,aluOf,xiOf,endsF,stOp,hop,ldO,ldNo,ldWo,stO,stN,stK,stA,rx0,rx2,pcN,hb,n8,n9,n10,n11,tnm,hO,ht]
   first|done|(refine gs_ext ?_ rfl ?_<;>first|rfl|(intro j;simp only[csG,updC,upd,GS.setR,GS.setPC,GS.setF];(repeat' split)<;>first|rfl|omega)|(simp[csG,cxF,updC,Fl.flagsF,GS.setR,GS.setPC,GS.setF,n8,n9,n10,n11,tnm];done))
theorem sim31_1{m:MS}{c:Nat→Nat}{pc:Nat}{i:IR}{done M:Nat}{v:Nat→Nat}(h:SimIn m c pc i done)(hop:i.op=31)(hO:i.O=1):Sim m c pc i done M v:=by
 have hD:=h.ok.D1
 have hS:=h.ok.S1
 have hcf:=cxF_bd h.hc
 have hcD:=h.hc i.D
 have hcS:=h.hc i.S
 have hc7:=h.hc 7
 have him:=h.ok.im
 have n8:¬8=i.D:=zo
 have n9:¬9=i.D:=zo
 have n10:¬10=i.D:=zo
 have n11:¬11=i.D:=zo
 have e1:(xiOf i pc done).op.toNat=31:=by show i.op.toNat=31;omega
 cases hb:sto m ((c i.S+i.imm)%4294967296) 2 with
 | some x=>
  have e:stepF m (csG c pc)=⟨csG c pc,6,x,m⟩:=by
   unfold stepF memF
   simp only[csG_f h.hc,show(csG c pc).pc=pc from rfl,h.hi,h.hk,hop,w32_nat]
   simp[ldG,stG,swG,GS.setPC,cs_R hD,cs_R hS,cs_R (show 7≤7 by decide),cs_R (show 0≤7 by decide),show(csG c pc).f=(cxF c).toNat from rfl,w32_4,hb,ldN,GS.setR,GS.setF,stW,hO]
  unfold Sim leftX
  rw[e]
  simp only[liftF,e1]
  simp[runL,leftO,nextO,exO,isV,valV,pvalF,valF,unF,binF,aluOf,xiOf,endsF,stOp,hop,ldO,ldNo,ldWo,stO,stN,stK,stA,rx0,rx2,pcN,hb,n8,n9,n10,n11,tnm,hO]
  simp[updC,runL,leftO,nextO,exO,isV,valV,pvalF,valF,unF,binF,aluOf,xiOf,endsF,stOp,hop,ldO,ldNo,ldWo,stO,stN,stK,stA,rx0,rx2,pcN,hb,n8,n9,n10,n11,tnm,hO]
  exact⟨st_no hb,rfl⟩
 | none=>
  have e:stepF m (csG c pc)=⟨(⟨(csG c pc).R,((pc+i.n)%4294967296),(cxF c).toNat⟩:GS),0,0,storeT m ((c i.S+i.imm)%4294967296) 2 (c i.D)⟩:=by
   unfold stepF memF
   simp only[csG_f h.hc,show(csG c pc).pc=pc from rfl,h.hi,h.hk,hop,w32_nat]
   simp[ldG,stG,swG,GS.setPC,cs_R hD,cs_R hS,cs_R (show 7≤7 by decide),cs_R (show 0≤7 by decide),show(csG c pc).f=(cxF c).toNat from rfl,w32_4,hb,ldN,GS.setR,GS.setF,stW,hO]
  cases ht:touchB (storeT m ((c i.S+i.imm)%4294967296) 2 (c i.D)) with
  | false=>
   unfold Sim leftX
   rw[e]
   simp only[liftF,e1]
   simp[runL,leftO,nextO,exO,isV,valV,pvalF,valF,unF,binF,aluOf,xiOf,endsF,stOp,hop,ldO,ldNo,ldWo,stO,stN,stK,stA,rx0,rx2,pcN,hb,n8,n9,n10,n11,tnm,hO,ht]
   simp[updC,runL,leftO,nextO,exO,isV,valV,pvalF,valF,unF,binF,aluOf,xiOf,endsF,stOp,hop,ldO,ldNo,ldWo,stO,stN,stK,stA,rx0,rx2,pcN,hb,n8,n9,n10,n11,tnm,hO,ht]
   first|done|(refine gs_ext ?_ rfl ?_<;>first|rfl|(intro j;simp only[csG,updC,upd,GS.setR,GS.setPC,GS.setF];(repeat' split)<;>first|rfl|omega)|(simp[csG,cxF,updC,Fl.flagsF,GS.setR,GS.setPC,GS.setF,n8,n9,n10,n11,tnm];done))
  | true=>
   unfold Sim leftX
   rw[e]
   simp only[liftF,e1]
   simp[runL,leftO,nextO,exO,isV,valV,pvalF,valF,unF,binF,aluOf,xiOf,endsF,stOp,hop,ldO,ldNo,ldWo,stO,stN,stK,stA,rx0,rx2,pcN,hb,n8,n9,n10,n11,tnm,hO,ht]
   simp[updC,runL,leftO,nextO,exO,isV,valV,pvalF,valF,unF,binF,aluOf,xiOf,endsF,stOp,hop,ldO,ldNo,ldWo,stO,stN,stK,stA,rx0,rx2,pcN,hb,n8,n9,n10,n11,tnm,hO,ht]
   first|done|(refine gs_ext ?_ rfl ?_<;>first|rfl|(intro j;simp only[csG,updC,upd,GS.setR,GS.setPC,GS.setF];(repeat' split)<;>first|rfl|omega)|(simp[csG,cxF,updC,Fl.flagsF,GS.setR,GS.setPC,GS.setF,n8,n9,n10,n11,tnm];done))
theorem sim31_2{m:MS}{c:Nat→Nat}{pc:Nat}{i:IR}{done M:Nat}{v:Nat→Nat}(h:SimIn m c pc i done)(hop:i.op=31)(hO:i.O=2):Sim m c pc i done M v:=by
 have hD:=h.ok.D1
 have hS:=h.ok.S1
 have hcf:=cxF_bd h.hc
 have hcD:=h.hc i.D
 have hcS:=h.hc i.S
 have hc7:=h.hc 7
 have him:=h.ok.im
 have n8:¬8=i.D:=zo
 have n9:¬9=i.D:=zo
 have n10:¬10=i.D:=zo
 have n11:¬11=i.D:=zo
 have e1:(xiOf i pc done).op.toNat=31:=by show i.op.toNat=31;omega
 cases hb:sto m ((c i.S+i.imm)%4294967296) 4 with
 | some x=>
  have e:stepF m (csG c pc)=⟨csG c pc,6,x,m⟩:=by
   unfold stepF memF
   simp only[csG_f h.hc,show(csG c pc).pc=pc from rfl,h.hi,h.hk,hop,w32_nat]
   simp[ldG,stG,swG,GS.setPC,cs_R hD,cs_R hS,cs_R (show 7≤7 by decide),cs_R (show 0≤7 by decide),show(csG c pc).f=(cxF c).toNat from rfl,w32_4,hb,ldN,GS.setR,GS.setF,stW,hO]
  unfold Sim leftX
  rw[e]
  simp only[liftF,e1]
  simp[runL,leftO,nextO,exO,isV,valV,pvalF,valF,unF,binF,aluOf,xiOf,endsF,stOp,hop,ldO,ldNo,ldWo,stO,stN,stK,stA,rx0,rx2,pcN,hb,n8,n9,n10,n11,tnm,hO]
  simp[updC,runL,leftO,nextO,exO,isV,valV,pvalF,valF,unF,binF,aluOf,xiOf,endsF,stOp,hop,ldO,ldNo,ldWo,stO,stN,stK,stA,rx0,rx2,pcN,hb,n8,n9,n10,n11,tnm,hO]
  exact⟨st_no hb,rfl⟩
 | none=>
  have e:stepF m (csG c pc)=⟨(⟨(csG c pc).R,((pc+i.n)%4294967296),(cxF c).toNat⟩:GS),0,0,storeT m ((c i.S+i.imm)%4294967296) 4 (c i.D)⟩:=by
   unfold stepF memF
   simp only[csG_f h.hc,show(csG c pc).pc=pc from rfl,h.hi,h.hk,hop,w32_nat]
   simp[ldG,stG,swG,GS.setPC,cs_R hD,cs_R hS,cs_R (show 7≤7 by decide),cs_R (show 0≤7 by decide),show(csG c pc).f=(cxF c).toNat from rfl,w32_4,hb,ldN,GS.setR,GS.setF,stW,hO]
  cases ht:touchB (storeT m ((c i.S+i.imm)%4294967296) 4 (c i.D)) with
  | false=>
   unfold Sim leftX
   rw[e]
   simp only[liftF,e1]
   simp[runL,leftO,nextO,exO,isV,valV,pvalF,valF,unF,binF,aluOf,xiOf,endsF,stOp,hop,ldO,ldNo,ldWo,stO,stN,stK,stA,rx0,rx2,pcN,hb,n8,n9,n10,n11,tnm,hO,ht]
   simp[updC,runL,leftO,nextO,exO,isV,valV,pvalF,valF,unF,binF,aluOf,xiOf,endsF,stOp,hop,ldO,ldNo,ldWo,stO,stN,stK,stA,rx0,rx2,pcN,hb,n8,n9,n10,n11,tnm,hO,ht]
   first|done|(refine gs_ext ?_ rfl ?_<;>first|rfl|(intro j;simp only[csG,updC,upd,GS.setR,GS.setPC,GS.setF];(repeat' split)<;>first|rfl|omega)|(simp[csG,cxF,updC,Fl.flagsF,GS.setR,GS.setPC,GS.setF,n8,n9,n10,n11,tnm];done))
  | true=>
   unfold Sim leftX
   rw[e]
   simp only[liftF,e1]
   simp[runL,leftO,nextO,exO,isV,valV,pvalF,valF,unF,binF,aluOf,xiOf,endsF,stOp,hop,ldO,ldNo,ldWo,stO,stN,stK,stA,rx0,rx2,pcN,hb,n8,n9,n10,n11,tnm,hO,ht]
   simp[updC,runL,leftO,nextO,exO,isV,valV,pvalF,valF,unF,binF,aluOf,xiOf,endsF,stOp,hop,ldO,ldNo,ldWo,stO,stN,stK,stA,rx0,rx2,pcN,hb,n8,n9,n10,n11,tnm,hO,ht]
   first|done|(refine gs_ext ?_ rfl ?_<;>first|rfl|(intro j;simp only[csG,updC,upd,GS.setR,GS.setPC,GS.setF];(repeat' split)<;>first|rfl|omega)|(simp[csG,cxF,updC,Fl.flagsF,GS.setR,GS.setPC,GS.setF,n8,n9,n10,n11,tnm];done))
theorem ldX_256{m:MS}(hm:m.Ok)(a:Nat)(n:Int):∃ y:Nat,ldX m a n=y∧y < 256 ^ n.toNat:=by
 have h:=ldv_bd m.B a hm.by_ n.toNat
 unfold ldX
 split
 ·exact⟨(ldv m.B a n.toNat).toNat,by omega,by rw[Int.toNat_lt h.1];push_cast;exact h.2⟩
 ·exact⟨0,rfl,Nat.pow_pos (by decide)⟩
theorem sim30_0{m:MS}{c:Nat→Nat}{pc:Nat}{i:IR}{done M:Nat}{v:Nat→Nat}(h:SimIn m c pc i done)(hop:i.op=30)(hO:i.O=0):Sim m c pc i done M v:=by
 have hD:=h.ok.D1
 have hS:=h.ok.S1
 have hcf:=cxF_bd h.hc
 have hcD:=h.hc i.D
 have hcS:=h.hc i.S
 have hc7:=h.hc 7
 have him:=h.ok.im
 have n8:¬8=i.D:=zo
 have n9:¬9=i.D:=zo
 have n10:¬10=i.D:=zo
 have n11:¬11=i.D:=zo
 have e1:(xiOf i pc done).op.toNat=30:=by show i.op.toNat=30;omega
 cases hb:badN m 1 ((c i.S+i.imm)%4294967296) 1 with
 | some x=>
  have e:stepF m (csG c pc)=⟨csG c pc,5,x,m⟩:=by
   unfold stepF memF
   simp only[csG_f h.hc,show(csG c pc).pc=pc from rfl,h.hi,h.hk,hop,w32_nat]
   simp[ldG,stG,swG,GS.setPC,cs_R hD,cs_R hS,cs_R (show 7≤7 by decide),cs_R (show 0≤7 by decide),show(csG c pc).f=(cxF c).toNat from rfl,w32_4,hb,ldN,GS.setR,GS.setF,ldW,sx,hO]
  unfold Sim leftX
  rw[e]
  simp only[liftF,e1]
  simp[runL,leftO,nextO,exO,isV,valV,pvalF,valF,unF,binF,aluOf,xiOf,endsF,stOp,hop,ldO,ldNo,ldWo,stO,stN,stK,stA,rx0,rx2,pcN,hb,n8,n9,n10,n11,tnm,hO]
  simp[updC,runL,leftO,nextO,exO,isV,valV,pvalF,valF,unF,binF,aluOf,xiOf,endsF,stOp,hop,ldO,ldNo,ldWo,stO,stN,stK,stA,rx0,rx2,pcN,hb,n8,n9,n10,n11,tnm,hO]
  first|done|(refine gs_ext ?_ rfl ?_<;>first|rfl|(intro j;simp only[csG,updC,upd,GS.setR,GS.setPC,GS.setF];(repeat' split)<;>first|rfl|omega)|(simp[csG,cxF,updC,Fl.flagsF,GS.setR,GS.setPC,GS.setF,n8,n9,n10,n11,tnm];done))
 | none=>
  obtain⟨y,hy,hyl⟩:=ldX_256 h.hm ((c i.S+i.imm)%4294967296) 1
  simp at hyl
  have e:stepF m (csG c pc)=⟨(⟨upd ((csG c pc).R) (i.D) (y),((pc+i.n)%4294967296),(cxF c).toNat⟩:GS),0,0,m⟩:=by
   unfold stepF memF
   simp only[csG_f h.hc,show(csG c pc).pc=pc from rfl,h.hi,h.hk,hop,w32_nat]
   simp[ldG,stG,swG,GS.setPC,cs_R hD,cs_R hS,cs_R (show 7≤7 by decide),cs_R (show 0≤7 by decide),show(csG c pc).f=(cxF c).toNat from rfl,w32_4,hb,ldN,GS.setR,GS.setF,hy,ldW,sx,hO]
  unfold Sim leftX
  rw[e]
  simp only[liftF,e1]
  simp[runL,leftO,nextO,exO,isV,valV,pvalF,valF,unF,binF,aluOf,xiOf,endsF,stOp,hop,ldO,ldNo,ldWo,stO,stN,stK,stA,rx0,rx2,pcN,hb,n8,n9,n10,n11,tnm,hy,hO]
  simp[updC,runL,leftO,nextO,exO,isV,valV,pvalF,valF,unF,binF,aluOf,xiOf,endsF,stOp,hop,ldO,ldNo,ldWo,stO,stN,stK,stA,rx0,rx2,pcN,hb,n8,n9,n10,n11,tnm,hy,hO]
  first|done|(refine gs_ext ?_ rfl ?_<;>first|rfl|(intro j;simp only[csG,updC,upd,GS.setR,GS.setPC,GS.setF];(repeat' split)<;>first|rfl|omega)|(simp[csG,cxF,updC,Fl.flagsF,GS.setR,GS.setPC,GS.setF,n8,n9,n10,n11,tnm];done))
theorem sim30_1{m:MS}{c:Nat→Nat}{pc:Nat}{i:IR}{done M:Nat}{v:Nat→Nat}(h:SimIn m c pc i done)(hop:i.op=30)(hO:i.O=1):Sim m c pc i done M v:=by
 have hD:=h.ok.D1
 have hS:=h.ok.S1
 have hcf:=cxF_bd h.hc
 have hcD:=h.hc i.D
 have hcS:=h.hc i.S
 have hc7:=h.hc 7
 have him:=h.ok.im
 have n8:¬8=i.D:=zo
 have n9:¬9=i.D:=zo
 have n10:¬10=i.D:=zo
 have n11:¬11=i.D:=zo
 have e1:(xiOf i pc done).op.toNat=30:=by show i.op.toNat=30;omega
 cases hb:badN m 1 ((c i.S+i.imm)%4294967296) 1 with
 | some x=>
  have e:stepF m (csG c pc)=⟨csG c pc,5,x,m⟩:=by
   unfold stepF memF
   simp only[csG_f h.hc,show(csG c pc).pc=pc from rfl,h.hi,h.hk,hop,w32_nat]
   simp[ldG,stG,swG,GS.setPC,cs_R hD,cs_R hS,cs_R (show 7≤7 by decide),cs_R (show 0≤7 by decide),show(csG c pc).f=(cxF c).toNat from rfl,w32_4,hb,ldN,GS.setR,GS.setF,ldW,sx,hO]
  unfold Sim leftX
  rw[e]
  simp only[liftF,e1]
  simp[runL,leftO,nextO,exO,isV,valV,pvalF,valF,unF,binF,aluOf,xiOf,endsF,stOp,hop,ldO,ldNo,ldWo,stO,stN,stK,stA,rx0,rx2,pcN,hb,n8,n9,n10,n11,tnm,hO]
  simp[updC,runL,leftO,nextO,exO,isV,valV,pvalF,valF,unF,binF,aluOf,xiOf,endsF,stOp,hop,ldO,ldNo,ldWo,stO,stN,stK,stA,rx0,rx2,pcN,hb,n8,n9,n10,n11,tnm,hO]
  first|done|(refine gs_ext ?_ rfl ?_<;>first|rfl|(intro j;simp only[csG,updC,upd,GS.setR,GS.setPC,GS.setF];(repeat' split)<;>first|rfl|omega)|(simp[csG,cxF,updC,Fl.flagsF,GS.setR,GS.setPC,GS.setF,n8,n9,n10,n11,tnm];done))
 | none=>
  obtain⟨y,hy,hyl⟩:=ldX_256 h.hm ((c i.S+i.imm)%4294967296) 1
  simp at hyl
  have hym:y%256=y:=Nat.mod_eq_of_lt hyl
  have e:stepF m (csG c pc)=⟨(⟨upd ((csG c pc).R) (i.D) (if 128≤y then y+4294967040 else y),((pc+i.n)%4294967296),(cxF c).toNat⟩:GS),0,0,m⟩:=by
   unfold stepF memF
   simp only[csG_f h.hc,show(csG c pc).pc=pc from rfl,h.hi,h.hk,hop,w32_nat]
   simp[ldG,stG,swG,GS.setPC,cs_R hD,cs_R hS,cs_R (show 7≤7 by decide),cs_R (show 0≤7 by decide),show(csG c pc).f=(cxF c).toNat from rfl,w32_4,hb,ldN,GS.setR,GS.setF,hy,ldW,sx,hO]
  unfold Sim leftX
  rw[e]
  simp only[liftF,e1]
  simp[runL,leftO,nextO,exO,isV,valV,pvalF,valF,unF,binF,aluOf,xiOf,endsF,stOp,hop,ldO,ldNo,ldWo,stO,stN,stK,stA,rx0,rx2,pcN,hb,n8,n9,n10,n11,tnm,hy,hym,hO]
  simp[updC,runL,leftO,nextO,exO,isV,valV,pvalF,valF,unF,binF,aluOf,xiOf,endsF,stOp,hop,ldO,ldNo,ldWo,stO,stN,stK,stA,rx0,rx2,pcN,hb,n8,n9,n10,n11,tnm,hy,hym,hO]
  first|done|(refine gs_ext ?_ rfl ?_<;>first|rfl|(intro j;simp only[csG,updC,upd,GS.setR,GS.setPC,GS.setF];(repeat' split)<;>first|rfl|omega)|(simp[csG,cxF,updC,Fl.flagsF,GS.setR,GS.setPC,GS.setF,n8,n9,n10,n11,tnm];done))
theorem sim30_2{m:MS}{c:Nat→Nat}{pc:Nat}{i:IR}{done M:Nat}{v:Nat→Nat}(h:SimIn m c pc i done)(hop:i.op=30)(hO:i.O=2):Sim m c pc i done M v:=by
 have hD:=h.ok.D1
 have hS:=h.ok.S1
 have hcf:=cxF_bd h.hc
 have hcD:=h.hc i.D
 have hcS:=h.hc i.S
 have hc7:=h.hc 7
 have him:=h.ok.im
 have n8:¬8=i.D:=zo
 have n9:¬9=i.D:=zo
 have n10:¬10=i.D:=zo
 have n11:¬11=i.D:=zo
 have e1:(xiOf i pc done).op.toNat=30:=by show i.op.toNat=30;omega
 cases hb:badN m 1 ((c i.S+i.imm)%4294967296) 2 with
 | some x=>
  have e:stepF m (csG c pc)=⟨csG c pc,5,x,m⟩:=by
   unfold stepF memF
   simp only[csG_f h.hc,show(csG c pc).pc=pc from rfl,h.hi,h.hk,hop,w32_nat]
   simp[ldG,stG,swG,GS.setPC,cs_R hD,cs_R hS,cs_R (show 7≤7 by decide),cs_R (show 0≤7 by decide),show(csG c pc).f=(cxF c).toNat from rfl,w32_4,hb,ldN,GS.setR,GS.setF,ldW,sx,hO]
  unfold Sim leftX
  rw[e]
  simp only[liftF,e1]
  simp[runL,leftO,nextO,exO,isV,valV,pvalF,valF,unF,binF,aluOf,xiOf,endsF,stOp,hop,ldO,ldNo,ldWo,stO,stN,stK,stA,rx0,rx2,pcN,hb,n8,n9,n10,n11,tnm,hO]
  simp[updC,runL,leftO,nextO,exO,isV,valV,pvalF,valF,unF,binF,aluOf,xiOf,endsF,stOp,hop,ldO,ldNo,ldWo,stO,stN,stK,stA,rx0,rx2,pcN,hb,n8,n9,n10,n11,tnm,hO]
  first|done|(refine gs_ext ?_ rfl ?_<;>first|rfl|(intro j;simp only[csG,updC,upd,GS.setR,GS.setPC,GS.setF];(repeat' split)<;>first|rfl|omega)|(simp[csG,cxF,updC,Fl.flagsF,GS.setR,GS.setPC,GS.setF,n8,n9,n10,n11,tnm];done))
 | none=>
  obtain⟨y,hy,hyl⟩:=ldX_256 h.hm ((c i.S+i.imm)%4294967296) 2
  simp at hyl
  have e:stepF m (csG c pc)=⟨(⟨upd ((csG c pc).R) (i.D) (y),((pc+i.n)%4294967296),(cxF c).toNat⟩:GS),0,0,m⟩:=by
   unfold stepF memF
   simp only[csG_f h.hc,show(csG c pc).pc=pc from rfl,h.hi,h.hk,hop,w32_nat]
   simp[ldG,stG,swG,GS.setPC,cs_R hD,cs_R hS,cs_R (show 7≤7 by decide),cs_R (show 0≤7 by decide),show(csG c pc).f=(cxF c).toNat from rfl,w32_4,hb,ldN,GS.setR,GS.setF,hy,ldW,sx,hO]
  unfold Sim leftX
  rw[e]
  simp only[liftF,e1]
  simp[runL,leftO,nextO,exO,isV,valV,pvalF,valF,unF,binF,aluOf,xiOf,endsF,stOp,hop,ldO,ldNo,ldWo,stO,stN,stK,stA,rx0,rx2,pcN,hb,n8,n9,n10,n11,tnm,hy,hO]
  simp[updC,runL,leftO,nextO,exO,isV,valV,pvalF,valF,unF,binF,aluOf,xiOf,endsF,stOp,hop,ldO,ldNo,ldWo,stO,stN,stK,stA,rx0,rx2,pcN,hb,n8,n9,n10,n11,tnm,hy,hO]
  first|done|(refine gs_ext ?_ rfl ?_<;>first|rfl|(intro j;simp only[csG,updC,upd,GS.setR,GS.setPC,GS.setF];(repeat' split)<;>first|rfl|omega)|(simp[csG,cxF,updC,Fl.flagsF,GS.setR,GS.setPC,GS.setF,n8,n9,n10,n11,tnm];done))
theorem sim30_3{m:MS}{c:Nat→Nat}{pc:Nat}{i:IR}{done M:Nat}{v:Nat→Nat}(h:SimIn m c pc i done)(hop:i.op=30)(hO:i.O=3):Sim m c pc i done M v:=by
 have hD:=h.ok.D1
 have hS:=h.ok.S1
 have hcf:=cxF_bd h.hc
 have hcD:=h.hc i.D
 have hcS:=h.hc i.S
 have hc7:=h.hc 7
 have him:=h.ok.im
 have n8:¬8=i.D:=zo
 have n9:¬9=i.D:=zo
 have n10:¬10=i.D:=zo
 have n11:¬11=i.D:=zo
 have e1:(xiOf i pc done).op.toNat=30:=by show i.op.toNat=30;omega
 cases hb:badN m 1 ((c i.S+i.imm)%4294967296) 2 with
 | some x=>
  have e:stepF m (csG c pc)=⟨csG c pc,5,x,m⟩:=by
   unfold stepF memF
   simp only[csG_f h.hc,show(csG c pc).pc=pc from rfl,h.hi,h.hk,hop,w32_nat]
   simp[ldG,stG,swG,GS.setPC,cs_R hD,cs_R hS,cs_R (show 7≤7 by decide),cs_R (show 0≤7 by decide),show(csG c pc).f=(cxF c).toNat from rfl,w32_4,hb,ldN,GS.setR,GS.setF,ldW,sx,hO]
  unfold Sim leftX
  rw[e]
  simp only[liftF,e1]
  simp[runL,leftO,nextO,exO,isV,valV,pvalF,valF,unF,binF,aluOf,xiOf,endsF,stOp,hop,ldO,ldNo,ldWo,stO,stN,stK,stA,rx0,rx2,pcN,hb,n8,n9,n10,n11,tnm,hO]
  simp[updC,runL,leftO,nextO,exO,isV,valV,pvalF,valF,unF,binF,aluOf,xiOf,endsF,stOp,hop,ldO,ldNo,ldWo,stO,stN,stK,stA,rx0,rx2,pcN,hb,n8,n9,n10,n11,tnm,hO]
  first|done|(refine gs_ext ?_ rfl ?_<;>first|rfl|(intro j;simp only[csG,updC,upd,GS.setR,GS.setPC,GS.setF];(repeat' split)<;>first|rfl|omega)|(simp[csG,cxF,updC,Fl.flagsF,GS.setR,GS.setPC,GS.setF,n8,n9,n10,n11,tnm];done))
 | none=>
  obtain⟨y,hy,hyl⟩:=ldX_256 h.hm ((c i.S+i.imm)%4294967296) 2
  simp at hyl
  have hym:y%65536=y:=Nat.mod_eq_of_lt hyl
  have e:stepF m (csG c pc)=⟨(⟨upd ((csG c pc).R) (i.D) (if 32768≤y then y+4294901760 else y),((pc+i.n)%4294967296),(cxF c).toNat⟩:GS),0,0,m⟩:=by
   unfold stepF memF
   simp only[csG_f h.hc,show(csG c pc).pc=pc from rfl,h.hi,h.hk,hop,w32_nat]
   simp[ldG,stG,swG,GS.setPC,cs_R hD,cs_R hS,cs_R (show 7≤7 by decide),cs_R (show 0≤7 by decide),show(csG c pc).f=(cxF c).toNat from rfl,w32_4,hb,ldN,GS.setR,GS.setF,hy,ldW,sx,hO]
  unfold Sim leftX
  rw[e]
  simp only[liftF,e1]
  simp[runL,leftO,nextO,exO,isV,valV,pvalF,valF,unF,binF,aluOf,xiOf,endsF,stOp,hop,ldO,ldNo,ldWo,stO,stN,stK,stA,rx0,rx2,pcN,hb,n8,n9,n10,n11,tnm,hy,hym,hO]
  simp[updC,runL,leftO,nextO,exO,isV,valV,pvalF,valF,unF,binF,aluOf,xiOf,endsF,stOp,hop,ldO,ldNo,ldWo,stO,stN,stK,stA,rx0,rx2,pcN,hb,n8,n9,n10,n11,tnm,hy,hym,hO]
  first|done|(refine gs_ext ?_ rfl ?_<;>first|rfl|(intro j;simp only[csG,updC,upd,GS.setR,GS.setPC,GS.setF];(repeat' split)<;>first|rfl|omega)|(simp[csG,cxF,updC,Fl.flagsF,GS.setR,GS.setPC,GS.setF,n8,n9,n10,n11,tnm];done))
theorem sim30_4{m:MS}{c:Nat→Nat}{pc:Nat}{i:IR}{done M:Nat}{v:Nat→Nat}(h:SimIn m c pc i done)(hop:i.op=30)(hO:i.O=4):Sim m c pc i done M v:=by
 have hD:=h.ok.D1
 have hS:=h.ok.S1
 have hcf:=cxF_bd h.hc
 have hcD:=h.hc i.D
 have hcS:=h.hc i.S
 have hc7:=h.hc 7
 have him:=h.ok.im
 have n8:¬8=i.D:=zo
 have n9:¬9=i.D:=zo
 have n10:¬10=i.D:=zo
 have n11:¬11=i.D:=zo
 have e1:(xiOf i pc done).op.toNat=30:=by show i.op.toNat=30;omega
 cases hb:badN m 1 ((c i.S+i.imm)%4294967296) 4 with
 | some x=>
  have e:stepF m (csG c pc)=⟨csG c pc,5,x,m⟩:=by
   unfold stepF memF
   simp only[csG_f h.hc,show(csG c pc).pc=pc from rfl,h.hi,h.hk,hop,w32_nat]
   simp[ldG,stG,swG,GS.setPC,cs_R hD,cs_R hS,cs_R (show 7≤7 by decide),cs_R (show 0≤7 by decide),show(csG c pc).f=(cxF c).toNat from rfl,w32_4,hb,ldN,GS.setR,GS.setF,ldW,sx,hO]
  unfold Sim leftX
  rw[e]
  simp only[liftF,e1]
  simp[runL,leftO,nextO,exO,isV,valV,pvalF,valF,unF,binF,aluOf,xiOf,endsF,stOp,hop,ldO,ldNo,ldWo,stO,stN,stK,stA,rx0,rx2,pcN,hb,n8,n9,n10,n11,tnm,hO]
  simp[updC,runL,leftO,nextO,exO,isV,valV,pvalF,valF,unF,binF,aluOf,xiOf,endsF,stOp,hop,ldO,ldNo,ldWo,stO,stN,stK,stA,rx0,rx2,pcN,hb,n8,n9,n10,n11,tnm,hO]
  first|done|(refine gs_ext ?_ rfl ?_<;>first|rfl|(intro j;simp only[csG,updC,upd,GS.setR,GS.setPC,GS.setF];(repeat' split)<;>first|rfl|omega)|(simp[csG,cxF,updC,Fl.flagsF,GS.setR,GS.setPC,GS.setF,n8,n9,n10,n11,tnm];done))
 | none=>
  obtain⟨y,hy,hyl⟩:=ldX_256 h.hm ((c i.S+i.imm)%4294967296) 4
  simp at hyl
  have e:stepF m (csG c pc)=⟨(⟨upd ((csG c pc).R) (i.D) (y),((pc+i.n)%4294967296),(cxF c).toNat⟩:GS),0,0,m⟩:=by
   unfold stepF memF
   simp only[csG_f h.hc,show(csG c pc).pc=pc from rfl,h.hi,h.hk,hop,w32_nat]
   simp[ldG,stG,swG,GS.setPC,cs_R hD,cs_R hS,cs_R (show 7≤7 by decide),cs_R (show 0≤7 by decide),show(csG c pc).f=(cxF c).toNat from rfl,w32_4,hb,ldN,GS.setR,GS.setF,hy,ldW,sx,hO]
  unfold Sim leftX
  rw[e]
  simp only[liftF,e1]
  simp[runL,leftO,nextO,exO,isV,valV,pvalF,valF,unF,binF,aluOf,xiOf,endsF,stOp,hop,ldO,ldNo,ldWo,stO,stN,stK,stA,rx0,rx2,pcN,hb,n8,n9,n10,n11,tnm,hy,hO]
  simp[updC,runL,leftO,nextO,exO,isV,valV,pvalF,valF,unF,binF,aluOf,xiOf,endsF,stOp,hop,ldO,ldNo,ldWo,stO,stN,stK,stA,rx0,rx2,pcN,hb,n8,n9,n10,n11,tnm,hy,hO]
  first|done|(refine gs_ext ?_ rfl ?_<;>first|rfl|(intro j;simp only[csG,updC,upd,GS.setR,GS.setPC,GS.setF];(repeat' split)<;>first|rfl|omega)|(simp[csG,cxF,updC,Fl.flagsF,GS.setR,GS.setPC,GS.setF,n8,n9,n10,n11,tnm];done))
end Go.Proofs.YtfokgedjocnnmaaGreat
