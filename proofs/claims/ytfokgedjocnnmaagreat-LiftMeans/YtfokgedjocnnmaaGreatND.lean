import Derived.Test.YtfokgedjocnnmaaGreatEE
set_option linter.unusedVariables false
set_option linter.unusedSimpArgs false
namespace Go.Proofs.YtfokgedjocnnmaaGreat
open Go.RowKit
set_option maxRecDepth 100000
theorem car_holds:∀ f:_root_.Fin 16,Fl.carF f.val=Fl.isF (Fl.holdsF 2 f.val) 1:=by decide
theorem car_eq{c:Nat→Nat}(hc:cxOk c):Fl.carF (cxF c).toNat=Fl.isF (Fl.holdsF 2 (cxF c).toNat) 1:=by
 have h:=cxF_bd hc
 exact car_holds ⟨(cxF c).toNat,by omega⟩
theorem simR0{m:MS}{c:Nat→Nat}{pc:Nat}{i:IR}{done M bv:Nat}{v:Nat→Nat}(h:SimIn m c pc i done)(hb:bv < 4294967296) :
  (runL (reckOps 0 i.D M pc done (M+1)) (M+1) ⟨c,m,updC v M bv⟩).1.s=m∧
  csG (runL (reckOps 0 i.D M pc done (M+1)) (M+1) ⟨c,m,updC v M bv⟩).1.c ((pc+i.n)%4294967296)=(({ csG c pc with pc:=(pc+i.n)%4294967296 }:GS).setR i.D (Fl.recX 0 (c i.D) bv (cxF c).toNat).toNat).setF (Fl.recFl 0 (c i.D) bv (cxF c).toNat).toNat∧
  (runL (reckOps 0 i.D M pc done (M+1)) (M+1) ⟨c,m,updC v M bv⟩).2=none:=by
 have hD:=h.ok.D1
 have hcf:=cxF_bd h.hc
 have hcD:=h.hc i.D
 have n8:¬8=i.D:=zo
 have n9:¬9=i.D:=zo
 have n10:¬10=i.D:=zo
 have n11:¬11=i.D:=zo
 simp only[reckOps]
 simp[runL,leftO,nextO,exO,isV,valV,pvalF,valF,unF,binF,aluOf,updC,GS.setR,GS.setF,n8,n9,n10,n11,tnm,Fl.recX]
 refine gs_ext ?_ rfl ?_
 ·intro j;simp only[csG,updC,upd];(repeat' split)<;>first|rfl|omega|(simp_all;done)
 ·simp[csG,cxF,updC,Fl.flagsF,Fl.recFl,n8,n9,n10,n11,tnm]
theorem simR2{m:MS}{c:Nat→Nat}{pc:Nat}{i:IR}{done M bv:Nat}{v:Nat→Nat}(h:SimIn m c pc i done)(hb:bv < 4294967296) :
  (runL (reckOps 2 i.D M pc done (M+1)) (M+1) ⟨c,m,updC v M bv⟩).1.s=m∧
  csG (runL (reckOps 2 i.D M pc done (M+1)) (M+1) ⟨c,m,updC v M bv⟩).1.c ((pc+i.n)%4294967296)=(({ csG c pc with pc:=(pc+i.n)%4294967296 }:GS).setR i.D (Fl.recX 2 (c i.D) bv (cxF c).toNat).toNat).setF (Fl.recFl 2 (c i.D) bv (cxF c).toNat).toNat∧
  (runL (reckOps 2 i.D M pc done (M+1)) (M+1) ⟨c,m,updC v M bv⟩).2=none:=by
 have hD:=h.ok.D1
 have hcf:=cxF_bd h.hc
 have hcD:=h.hc i.D
 have n8:¬8=i.D:=zo
 have n9:¬9=i.D:=zo
 have n10:¬10=i.D:=zo
 have n11:¬11=i.D:=zo
 simp only[reckOps]
 simp[runL,leftO,nextO,exO,isV,valV,pvalF,valF,unF,binF,aluOf,updC,GS.setR,GS.setF,n8,n9,n10,n11,tnm,Fl.recX]
 refine gs_ext ?_ rfl ?_
 ·intro j;simp only[csG,updC,upd];(repeat' split)<;>first|rfl|omega|(simp_all;done)
 ·simp[csG,cxF,updC,Fl.flagsF,Fl.recFl,n8,n9,n10,n11,tnm]
theorem simR4{m:MS}{c:Nat→Nat}{pc:Nat}{i:IR}{done M bv:Nat}{v:Nat→Nat}(h:SimIn m c pc i done)(hb:bv < 4294967296) :
  (runL (reckOps 4 i.D M pc done (M+1)) (M+1) ⟨c,m,updC v M bv⟩).1.s=m∧
  csG (runL (reckOps 4 i.D M pc done (M+1)) (M+1) ⟨c,m,updC v M bv⟩).1.c ((pc+i.n)%4294967296)=(({ csG c pc with pc:=(pc+i.n)%4294967296 }:GS).setR i.D (Fl.recX 4 (c i.D) bv (cxF c).toNat).toNat).setF (Fl.recFl 4 (c i.D) bv (cxF c).toNat).toNat∧
  (runL (reckOps 4 i.D M pc done (M+1)) (M+1) ⟨c,m,updC v M bv⟩).2=none:=by
 have hD:=h.ok.D1
 have hcf:=cxF_bd h.hc
 have hcD:=h.hc i.D
 have n8:¬8=i.D:=zo
 have n9:¬9=i.D:=zo
 have n10:¬10=i.D:=zo
 have n11:¬11=i.D:=zo
 simp only[reckOps]
 simp[runL,leftO,nextO,exO,isV,valV,pvalF,valF,unF,binF,aluOf,updC,GS.setR,GS.setF,n8,n9,n10,n11,tnm,Fl.recX]
 refine gs_ext ?_ rfl ?_
 ·intro j;simp only[csG,updC,upd];(repeat' split)<;>first|rfl|omega|(simp_all;done)
 ·simp[csG,cxF,updC,Fl.flagsF,Fl.recFl,n8,n9,n10,n11,tnm]
theorem simR5{m:MS}{c:Nat→Nat}{pc:Nat}{i:IR}{done M bv:Nat}{v:Nat→Nat}(h:SimIn m c pc i done)(hb:bv < 4294967296) :
  (runL (reckOps 5 i.D M pc done (M+1)) (M+1) ⟨c,m,updC v M bv⟩).1.s=m∧
  csG (runL (reckOps 5 i.D M pc done (M+1)) (M+1) ⟨c,m,updC v M bv⟩).1.c ((pc+i.n)%4294967296)=(({ csG c pc with pc:=(pc+i.n)%4294967296 }:GS).setR i.D (Fl.recX 5 (c i.D) bv (cxF c).toNat).toNat).setF (Fl.recFl 5 (c i.D) bv (cxF c).toNat).toNat∧
  (runL (reckOps 5 i.D M pc done (M+1)) (M+1) ⟨c,m,updC v M bv⟩).2=none:=by
 have hD:=h.ok.D1
 have hcf:=cxF_bd h.hc
 have hcD:=h.hc i.D
 have n8:¬8=i.D:=zo
 have n9:¬9=i.D:=zo
 have n10:¬10=i.D:=zo
 have n11:¬11=i.D:=zo
 simp only[reckOps]
 simp[runL,leftO,nextO,exO,isV,valV,pvalF,valF,unF,binF,aluOf,updC,GS.setR,GS.setF,n8,n9,n10,n11,tnm,Fl.recX]
 refine gs_ext ?_ rfl ?_
 ·intro j;simp only[csG,updC,upd];(repeat' split)<;>first|rfl|omega|(simp_all;done)
 ·simp[csG,cxF,updC,Fl.flagsF,Fl.recFl,n8,n9,n10,n11,tnm]
theorem simR6{m:MS}{c:Nat→Nat}{pc:Nat}{i:IR}{done M bv:Nat}{v:Nat→Nat}(h:SimIn m c pc i done)(hb:bv < 4294967296) :
  (runL (reckOps 6 i.D M pc done (M+1)) (M+1) ⟨c,m,updC v M bv⟩).1.s=m∧
  csG (runL (reckOps 6 i.D M pc done (M+1)) (M+1) ⟨c,m,updC v M bv⟩).1.c ((pc+i.n)%4294967296)=(({ csG c pc with pc:=(pc+i.n)%4294967296 }:GS).setR i.D (Fl.recX 6 (c i.D) bv (cxF c).toNat).toNat).setF (Fl.recFl 6 (c i.D) bv (cxF c).toNat).toNat∧
  (runL (reckOps 6 i.D M pc done (M+1)) (M+1) ⟨c,m,updC v M bv⟩).2=none:=by
 have hD:=h.ok.D1
 have hcf:=cxF_bd h.hc
 have hcD:=h.hc i.D
 have n8:¬8=i.D:=zo
 have n9:¬9=i.D:=zo
 have n10:¬10=i.D:=zo
 have n11:¬11=i.D:=zo
 simp only[reckOps]
 simp[runL,leftO,nextO,exO,isV,valV,pvalF,valF,unF,binF,aluOf,updC,GS.setR,GS.setF,n8,n9,n10,n11,tnm,Fl.recX]
 refine gs_ext ?_ rfl ?_
 ·intro j;simp only[csG,updC,upd];(repeat' split)<;>first|rfl|omega|(simp_all;done)
 ·simp[csG,cxF,updC,Fl.flagsF,Fl.recFl,n8,n9,n10,n11,tnm]
theorem simR7{m:MS}{c:Nat→Nat}{pc:Nat}{i:IR}{done M bv:Nat}{v:Nat→Nat}(h:SimIn m c pc i done)(hb:bv < 4294967296) :
  (runL (reckOps 7 i.D M pc done (M+1)) (M+1) ⟨c,m,updC v M bv⟩).1.s=m∧
  csG (runL (reckOps 7 i.D M pc done (M+1)) (M+1) ⟨c,m,updC v M bv⟩).1.c ((pc+i.n)%4294967296)=(({ csG c pc with pc:=(pc+i.n)%4294967296 }:GS).setR i.D (Fl.recX 7 (c i.D) bv (cxF c).toNat).toNat).setF (Fl.recFl 7 (c i.D) bv (cxF c).toNat).toNat∧
  (runL (reckOps 7 i.D M pc done (M+1)) (M+1) ⟨c,m,updC v M bv⟩).2=none:=by
 have hD:=h.ok.D1
 have hcf:=cxF_bd h.hc
 have hcD:=h.hc i.D
 have n8:¬8=i.D:=zo
 have n9:¬9=i.D:=zo
 have n10:¬10=i.D:=zo
 have n11:¬11=i.D:=zo
 simp only[reckOps]
 simp[runL,leftO,nextO,exO,isV,valV,pvalF,valF,unF,binF,aluOf,updC,GS.setR,GS.setF,n8,n9,n10,n11,tnm,Fl.recX]
 refine gs_ext ?_ rfl ?_
 ·intro j;simp only[csG,updC,upd];(repeat' split)<;>first|rfl|omega|(simp_all;done)
 ·simp[csG,cxF,updC,Fl.flagsF,Fl.recFl,n8,n9,n10,n11,tnm]
theorem simR8{m:MS}{c:Nat→Nat}{pc:Nat}{i:IR}{done M bv:Nat}{v:Nat→Nat}(h:SimIn m c pc i done)(hb:bv < 4294967296) :
  (runL (reckOps 8 i.D M pc done (M+1)) (M+1) ⟨c,m,updC v M bv⟩).1.s=m∧
  csG (runL (reckOps 8 i.D M pc done (M+1)) (M+1) ⟨c,m,updC v M bv⟩).1.c ((pc+i.n)%4294967296)=(({ csG c pc with pc:=(pc+i.n)%4294967296 }:GS).setR i.D (Fl.recX 8 (c i.D) bv (cxF c).toNat).toNat).setF (Fl.recFl 8 (c i.D) bv (cxF c).toNat).toNat∧
  (runL (reckOps 8 i.D M pc done (M+1)) (M+1) ⟨c,m,updC v M bv⟩).2=none:=by
 have hD:=h.ok.D1
 have hcf:=cxF_bd h.hc
 have hcD:=h.hc i.D
 have n8:¬8=i.D:=zo
 have n9:¬9=i.D:=zo
 have n10:¬10=i.D:=zo
 have n11:¬11=i.D:=zo
 simp only[reckOps]
 simp[runL,leftO,nextO,exO,isV,valV,pvalF,valF,unF,binF,aluOf,updC,GS.setR,GS.setF,n8,n9,n10,n11,tnm,Fl.recX]
 refine gs_ext ?_ rfl ?_
 ·intro j;simp only[csG,updC,upd];(repeat' split)<;>first|rfl|omega|(simp_all;done)
 ·simp[csG,cxF,updC,Fl.flagsF,Fl.recFl,n8,n9,n10,n11,tnm]
theorem simR9{m:MS}{c:Nat→Nat}{pc:Nat}{i:IR}{done M bv:Nat}{v:Nat→Nat}(h:SimIn m c pc i done)(hb:bv < 4294967296) :
  (runL (reckOps 9 i.D M pc done (M+1)) (M+1) ⟨c,m,updC v M bv⟩).1.s=m∧
  csG (runL (reckOps 9 i.D M pc done (M+1)) (M+1) ⟨c,m,updC v M bv⟩).1.c ((pc+i.n)%4294967296)=(({ csG c pc with pc:=(pc+i.n)%4294967296 }:GS).setR i.D (Fl.recX 9 (c i.D) bv (cxF c).toNat).toNat).setF (Fl.recFl 9 (c i.D) bv (cxF c).toNat).toNat∧
  (runL (reckOps 9 i.D M pc done (M+1)) (M+1) ⟨c,m,updC v M bv⟩).2=none:=by
 have hD:=h.ok.D1
 have hcf:=cxF_bd h.hc
 have hcD:=h.hc i.D
 have n8:¬8=i.D:=zo
 have n9:¬9=i.D:=zo
 have n10:¬10=i.D:=zo
 have n11:¬11=i.D:=zo
 simp only[reckOps]
 simp[runL,leftO,nextO,exO,isV,valV,pvalF,valF,unF,binF,aluOf,updC,GS.setR,GS.setF,n8,n9,n10,n11,tnm,Fl.recX]
 refine gs_ext ?_ rfl ?_
 ·intro j;simp only[csG,updC,upd];(repeat' split)<;>first|rfl|omega|(simp_all;done)
 ·simp[csG,cxF,updC,Fl.flagsF,Fl.recFl,n8,n9,n10,n11,tnm]
theorem simR10{m:MS}{c:Nat→Nat}{pc:Nat}{i:IR}{done M bv:Nat}{v:Nat→Nat}(h:SimIn m c pc i done)(hb:bv < 4294967296) :
  (runL (reckOps 10 i.D M pc done (M+1)) (M+1) ⟨c,m,updC v M bv⟩).1.s=m∧
  csG (runL (reckOps 10 i.D M pc done (M+1)) (M+1) ⟨c,m,updC v M bv⟩).1.c ((pc+i.n)%4294967296)=(({ csG c pc with pc:=(pc+i.n)%4294967296 }:GS).setR i.D (Fl.recX 10 (c i.D) bv (cxF c).toNat).toNat).setF (Fl.recFl 10 (c i.D) bv (cxF c).toNat).toNat∧
  (runL (reckOps 10 i.D M pc done (M+1)) (M+1) ⟨c,m,updC v M bv⟩).2=none:=by
 have hD:=h.ok.D1
 have hcf:=cxF_bd h.hc
 have hcD:=h.hc i.D
 have n8:¬8=i.D:=zo
 have n9:¬9=i.D:=zo
 have n10:¬10=i.D:=zo
 have n11:¬11=i.D:=zo
 simp only[reckOps]
 simp[runL,leftO,nextO,exO,isV,valV,pvalF,valF,unF,binF,aluOf,updC,GS.setR,GS.setF,n8,n9,n10,n11,tnm,Fl.recX]
 refine gs_ext ?_ rfl ?_
 ·intro j;simp only[csG,updC,upd];(repeat' split)<;>first|rfl|omega|(simp_all;done)
 ·simp[csG,cxF,updC,Fl.flagsF,Fl.recFl,n8,n9,n10,n11,tnm]
theorem simR11{m:MS}{c:Nat→Nat}{pc:Nat}{i:IR}{done M bv:Nat}{v:Nat→Nat}(h:SimIn m c pc i done)(hb:bv < 4294967296) :
  (runL (reckOps 11 i.D M pc done (M+1)) (M+1) ⟨c,m,updC v M bv⟩).1.s=m∧
  csG (runL (reckOps 11 i.D M pc done (M+1)) (M+1) ⟨c,m,updC v M bv⟩).1.c ((pc+i.n)%4294967296)=(({ csG c pc with pc:=(pc+i.n)%4294967296 }:GS).setR i.D (Fl.recX 11 (c i.D) bv (cxF c).toNat).toNat).setF (Fl.recFl 11 (c i.D) bv (cxF c).toNat).toNat∧
  (runL (reckOps 11 i.D M pc done (M+1)) (M+1) ⟨c,m,updC v M bv⟩).2=none:=by
 have hD:=h.ok.D1
 have hcf:=cxF_bd h.hc
 have hcD:=h.hc i.D
 have n8:¬8=i.D:=zo
 have n9:¬9=i.D:=zo
 have n10:¬10=i.D:=zo
 have n11:¬11=i.D:=zo
 simp only[reckOps]
 simp[runL,leftO,nextO,exO,isV,valV,pvalF,valF,unF,binF,aluOf,updC,GS.setR,GS.setF,n8,n9,n10,n11,tnm,Fl.recX]
 refine gs_ext ?_ rfl ?_
 ·intro j;simp only[csG,updC,upd];(repeat' split)<;>first|rfl|omega|(simp_all;done)
 ·simp[csG,cxF,updC,Fl.flagsF,Fl.recFl,n8,n9,n10,n11,tnm]
theorem simR12{m:MS}{c:Nat→Nat}{pc:Nat}{i:IR}{done M bv:Nat}{v:Nat→Nat}(h:SimIn m c pc i done)(hb:bv < 4294967296) :
  (runL (reckOps 12 i.D M pc done (M+1)) (M+1) ⟨c,m,updC v M bv⟩).1.s=m∧
  csG (runL (reckOps 12 i.D M pc done (M+1)) (M+1) ⟨c,m,updC v M bv⟩).1.c ((pc+i.n)%4294967296)=(({ csG c pc with pc:=(pc+i.n)%4294967296 }:GS).setR i.D (Fl.recX 12 (c i.D) bv (cxF c).toNat).toNat).setF (Fl.recFl 12 (c i.D) bv (cxF c).toNat).toNat∧
  (runL (reckOps 12 i.D M pc done (M+1)) (M+1) ⟨c,m,updC v M bv⟩).2=none:=by
 have hD:=h.ok.D1
 have hcf:=cxF_bd h.hc
 have hcD:=h.hc i.D
 have n8:¬8=i.D:=zo
 have n9:¬9=i.D:=zo
 have n10:¬10=i.D:=zo
 have n11:¬11=i.D:=zo
 simp only[reckOps]
 simp[runL,leftO,nextO,exO,isV,valV,pvalF,valF,unF,binF,aluOf,updC,GS.setR,GS.setF,n8,n9,n10,n11,tnm,Fl.recX]
 refine gs_ext ?_ rfl ?_
 ·intro j;simp only[csG,updC,upd];(repeat' split)<;>first|rfl|omega|(simp_all;done)
 ·simp[csG,cxF,updC,Fl.flagsF,Fl.recFl,n8,n9,n10,n11,tnm]
theorem simR13{m:MS}{c:Nat→Nat}{pc:Nat}{i:IR}{done M bv:Nat}{v:Nat→Nat}(h:SimIn m c pc i done)(hb:bv < 4294967296) :
  (runL (reckOps 13 i.D M pc done (M+1)) (M+1) ⟨c,m,updC v M bv⟩).1.s=m∧
  csG (runL (reckOps 13 i.D M pc done (M+1)) (M+1) ⟨c,m,updC v M bv⟩).1.c ((pc+i.n)%4294967296)=(({ csG c pc with pc:=(pc+i.n)%4294967296 }:GS).setR i.D (Fl.recX 13 (c i.D) bv (cxF c).toNat).toNat).setF (Fl.recFl 13 (c i.D) bv (cxF c).toNat).toNat∧
  (runL (reckOps 13 i.D M pc done (M+1)) (M+1) ⟨c,m,updC v M bv⟩).2=none:=by
 have hD:=h.ok.D1
 have hcf:=cxF_bd h.hc
 have hcD:=h.hc i.D
 have n8:¬8=i.D:=zo
 have n9:¬9=i.D:=zo
 have n10:¬10=i.D:=zo
 have n11:¬11=i.D:=zo
 simp only[reckOps]
 simp[runL,leftO,nextO,exO,isV,valV,pvalF,valF,unF,binF,aluOf,updC,GS.setR,GS.setF,n8,n9,n10,n11,tnm,Fl.recX]
 refine gs_ext ?_ rfl ?_
 ·intro j;simp only[csG,updC,upd];(repeat' split)<;>first|rfl|omega|(simp_all;done)
 ·simp[csG,cxF,updC,Fl.flagsF,Fl.recFl,n8,n9,n10,n11,tnm]
theorem simR1{m:MS}{c:Nat→Nat}{pc:Nat}{i:IR}{done M bv:Nat}{v:Nat→Nat}(h:SimIn m c pc i done)(hb:bv < 4294967296) :
  (runL (reckOps 1 i.D M pc done (M+1)) (M+1) ⟨c,m,updC v M bv⟩).1.s=m∧
  csG (runL (reckOps 1 i.D M pc done (M+1)) (M+1) ⟨c,m,updC v M bv⟩).1.c ((pc+i.n)%4294967296)=(({ csG c pc with pc:=(pc+i.n)%4294967296 }:GS).setR i.D (Fl.recX 1 (c i.D) bv (cxF c).toNat).toNat).setF (Fl.recFl 1 (c i.D) bv (cxF c).toNat).toNat∧
  (runL (reckOps 1 i.D M pc done (M+1)) (M+1) ⟨c,m,updC v M bv⟩).2=none:=by
 have hD:=h.ok.D1
 have hcf:=cxF_bd h.hc
 have hcD:=h.hc i.D
 have n8:¬8=i.D:=zo
 have n9:¬9=i.D:=zo
 have n10:¬10=i.D:=zo
 have n11:¬11=i.D:=zo
 simp only[reckOps]
 have hce:=car_eq h.hc
 cases hh:Fl.holdsF 2 (cxF c).toNat<;>rw[hh] at hce<;>simp only[Fl.isF,Bool.false_eq_true,if_false,if_true] at hce <;>
 simp[runL,leftO,nextO,exO,isV,valV,pvalF,valF,unF,binF,aluOf,updC,GS.setR,GS.setF,n8,n9,n10,n11,tnm,Fl.recX,Fl.isF,hh]
 all_goals
  refine gs_ext ?_ rfl ?_
  ·intro j;simp only[csG,updC,upd,hce];(repeat' split)<;>first|rfl|omega|(simp_all;done)
  ·simp[csG,cxF,updC,Fl.flagsF,Fl.recFl,n8,n9,n10,n11,tnm]
theorem simR3{m:MS}{c:Nat→Nat}{pc:Nat}{i:IR}{done M bv:Nat}{v:Nat→Nat}(h:SimIn m c pc i done)(hb:bv < 4294967296) :
  (runL (reckOps 3 i.D M pc done (M+1)) (M+1) ⟨c,m,updC v M bv⟩).1.s=m∧
  csG (runL (reckOps 3 i.D M pc done (M+1)) (M+1) ⟨c,m,updC v M bv⟩).1.c ((pc+i.n)%4294967296)=(({ csG c pc with pc:=(pc+i.n)%4294967296 }:GS).setR i.D (Fl.recX 3 (c i.D) bv (cxF c).toNat).toNat).setF (Fl.recFl 3 (c i.D) bv (cxF c).toNat).toNat∧
  (runL (reckOps 3 i.D M pc done (M+1)) (M+1) ⟨c,m,updC v M bv⟩).2=none:=by
 have hD:=h.ok.D1
 have hcf:=cxF_bd h.hc
 have hcD:=h.hc i.D
 have n8:¬8=i.D:=zo
 have n9:¬9=i.D:=zo
 have n10:¬10=i.D:=zo
 have n11:¬11=i.D:=zo
 simp only[reckOps]
 have hce:=car_eq h.hc
 cases hh:Fl.holdsF 2 (cxF c).toNat<;>rw[hh] at hce<;>simp only[Fl.isF,Bool.false_eq_true,if_false,if_true] at hce <;>
 simp[runL,leftO,nextO,exO,isV,valV,pvalF,valF,unF,binF,aluOf,updC,GS.setR,GS.setF,n8,n9,n10,n11,tnm,Fl.recX,Fl.isF,hh]
 all_goals
  refine gs_ext ?_ rfl ?_
  ·intro j;simp only[csG,updC,upd,hce];(repeat' split)<;>first|rfl|omega|(simp_all;done)
  ·simp[csG,cxF,updC,Fl.flagsF,Fl.recFl,n8,n9,n10,n11,tnm]
theorem simR14{m:MS}{c:Nat→Nat}{pc:Nat}{i:IR}{done M bv:Nat}{v:Nat→Nat}(h:SimIn m c pc i done)(hb:bv < 4294967296)(h0:0 < bv) :
  (runL (reckOps 14 i.D M pc done (M+1)) (M+1) ⟨c,m,updC v M bv⟩).1.s=m∧
  csG (runL (reckOps 14 i.D M pc done (M+1)) (M+1) ⟨c,m,updC v M bv⟩).1.c ((pc+i.n)%4294967296)=(({ csG c pc with pc:=(pc+i.n)%4294967296 }:GS).setR i.D (Fl.recX 14 (c i.D) bv (cxF c).toNat).toNat).setF (Fl.recFl 14 (c i.D) bv (cxF c).toNat).toNat∧
  (runL (reckOps 14 i.D M pc done (M+1)) (M+1) ⟨c,m,updC v M bv⟩).2=none:=by
 have hD:=h.ok.D1
 have hcf:=cxF_bd h.hc
 have hcD:=h.hc i.D
 have n8:¬8=i.D:=zo
 have n9:¬9=i.D:=zo
 have n10:¬10=i.D:=zo
 have n11:¬11=i.D:=zo
 simp only[reckOps]
 have hp:¬bv=0:=zo
 have hp2:0 < bv:=zo
 simp[runL,leftO,nextO,exO,isV,valV,pvalF,valF,unF,binF,aluOf,updC,GS.setR,GS.setF,n8,n9,n10,n11,tnm,Fl.recX,hp,hp2]
 refine gs_ext ?_ rfl ?_
 ·intro j;simp only[csG,updC,upd];(repeat' split)<;>first|rfl|omega|(simp_all;done)
 ·simp[csG,cxF,updC,Fl.flagsF,Fl.recFl,hp,hp2,n8,n9,n10,n11,tnm]
  rw[Int.max_eq_left (Int.ediv_nonneg (Int.natCast_nonneg _) (Int.natCast_nonneg _))]
theorem simR14s{m:MS}{c:Nat→Nat}{pc:Nat}{i:IR}{done M:Nat}{v:Nat→Nat}(h:SimIn m c pc i done) :
  runL (reckOps 14 i.D M pc done (M+1)) (M+1) ⟨c,m,updC v M 0⟩=(⟨c,m,updC (updC (updC v M 0) (M+1) (c i.D)) (M+1+1) 1⟩,some ⟨7,0,pc,done⟩):=by
 have hD:=h.ok.D1
 have n8:¬8=i.D:=zo
 have n9:¬9=i.D:=zo
 have n10:¬10=i.D:=zo
 have n11:¬11=i.D:=zo
 simp only[reckOps]
 simp[runL,leftO,nextO,exO,isV,valV,pvalF,valF,unF,binF,aluOf,n8,n9,n10,n11,tnm]
 simp[updC,n8,n9,n10,n11,tnm]
theorem simR15{m:MS}{c:Nat→Nat}{pc:Nat}{i:IR}{done M bv:Nat}{v:Nat→Nat}(h:SimIn m c pc i done)(hb:bv < 4294967296)(h0:0 < bv) :
  (runL (reckOps 15 i.D M pc done (M+1)) (M+1) ⟨c,m,updC v M bv⟩).1.s=m∧
  csG (runL (reckOps 15 i.D M pc done (M+1)) (M+1) ⟨c,m,updC v M bv⟩).1.c ((pc+i.n)%4294967296)=(({ csG c pc with pc:=(pc+i.n)%4294967296 }:GS).setR i.D (Fl.recX 15 (c i.D) bv (cxF c).toNat).toNat).setF (Fl.recFl 15 (c i.D) bv (cxF c).toNat).toNat∧
  (runL (reckOps 15 i.D M pc done (M+1)) (M+1) ⟨c,m,updC v M bv⟩).2=none:=by
 have hD:=h.ok.D1
 have hcf:=cxF_bd h.hc
 have hcD:=h.hc i.D
 have n8:¬8=i.D:=zo
 have n9:¬9=i.D:=zo
 have n10:¬10=i.D:=zo
 have n11:¬11=i.D:=zo
 simp only[reckOps]
 have hp:¬bv=0:=zo
 have hp2:0 < bv:=zo
 simp[runL,leftO,nextO,exO,isV,valV,pvalF,valF,unF,binF,aluOf,updC,GS.setR,GS.setF,n8,n9,n10,n11,tnm,Fl.recX,hp,hp2]
 refine gs_ext ?_ rfl ?_
 ·intro j;simp only[csG,updC,upd];(repeat' split)<;>first|rfl|omega|(simp_all;done)
 ·simp[csG,cxF,updC,Fl.flagsF,Fl.recFl,hp,hp2,n8,n9,n10,n11,tnm]
  rw[Int.max_eq_left (Int.emod_nonneg _ zo)]
theorem simR15s{m:MS}{c:Nat→Nat}{pc:Nat}{i:IR}{done M:Nat}{v:Nat→Nat}(h:SimIn m c pc i done) :
  runL (reckOps 15 i.D M pc done (M+1)) (M+1) ⟨c,m,updC v M 0⟩=(⟨c,m,updC (updC (updC v M 0) (M+1) (c i.D)) (M+1+1) 1⟩,some ⟨7,0,pc,done⟩):=by
 have hD:=h.ok.D1
 have n8:¬8=i.D:=zo
 have n9:¬9=i.D:=zo
 have n10:¬10=i.D:=zo
 have n11:¬11=i.D:=zo
 simp only[reckOps]
 simp[runL,leftO,nextO,exO,isV,valV,pvalF,valF,unF,binF,aluOf,n8,n9,n10,n11,tnm]
 simp[updC,n8,n9,n10,n11,tnm]
structure RkOk(m:MS)(c:Nat→Nat)(pc:Nat)(i:IR)(done M bv:Nat)(v:Nat→Nat)(O:Nat):Prop where
 yes:Fl.recOk O bv=true→(runL (reckOps O i.D M pc done (M+1)) (M+1) ⟨c,m,updC v M bv⟩).1.s=m∧
  csG (runL (reckOps O i.D M pc done (M+1)) (M+1) ⟨c,m,updC v M bv⟩).1.c ((pc+i.n)%4294967296)=(({ csG c pc with pc:=(pc+i.n)%4294967296 }:GS).setR i.D (Fl.recX O (c i.D) bv (cxF c).toNat).toNat).setF (Fl.recFl O (c i.D) bv (cxF c).toNat).toNat∧
  (runL (reckOps O i.D M pc done (M+1)) (M+1) ⟨c,m,updC v M bv⟩).2=none
 no:Fl.recOk O bv=false→(runL (reckOps O i.D M pc done (M+1)) (M+1) ⟨c,m,updC v M bv⟩).1.s=m∧(runL (reckOps O i.D M pc done (M+1)) (M+1) ⟨c,m,updC v M bv⟩).1.c=c∧(runL (reckOps O i.D M pc done (M+1)) (M+1) ⟨c,m,updC v M bv⟩).2=some ⟨7,0,pc,done⟩
theorem rk_any{m:MS}{c:Nat→Nat}{pc:Nat}{i:IR}{done M bv:Nat}{v:Nat→Nat}(h:SimIn m c pc i done)(hb:bv < 4294967296)(O:Nat)(hO:O < 16):RkOk m c pc i done M bv v O:=by
 match O,hO with
 | 0,_=>exact⟨fun _=>simR0 h hb,fun e=>absurd e zq39⟩
 | 1,_=>exact⟨fun _=>simR1 h hb,fun e=>absurd e zq39⟩
 | 2,_=>exact⟨fun _=>simR2 h hb,fun e=>absurd e zq39⟩
 | 3,_=>exact⟨fun _=>simR3 h hb,fun e=>absurd e zq39⟩
 | 4,_=>exact⟨fun _=>simR4 h hb,fun e=>absurd e zq39⟩
 | 5,_=>exact⟨fun _=>simR5 h hb,fun e=>absurd e zq39⟩
 | 6,_=>exact⟨fun _=>simR6 h hb,fun e=>absurd e zq39⟩
 | 7,_=>exact⟨fun _=>simR7 h hb,fun e=>absurd e zq39⟩
 | 8,_=>exact⟨fun _=>simR8 h hb,fun e=>absurd e zq39⟩
 | 9,_=>exact⟨fun _=>simR9 h hb,fun e=>absurd e zq39⟩
 | 10,_=>exact⟨fun _=>simR10 h hb,fun e=>absurd e zq39⟩
 | 11,_=>exact⟨fun _=>simR11 h hb,fun e=>absurd e zq39⟩
 | 12,_=>exact⟨fun _=>simR12 h hb,fun e=>absurd e zq39⟩
 | 13,_=>exact⟨fun _=>simR13 h hb,fun e=>absurd e zq39⟩
 | 14,_=>
  refine⟨fun e=>simR14 h hb (by simpa[Fl.recOk] using e),fun e=>?_⟩
  have e0:bv=0:=by simpa[Fl.recOk] using e
  subst e0
  rw[simR14s h]
  exact⟨rfl,rfl,rfl⟩
 | 15,_=>
  refine⟨fun e=>simR15 h hb (by simpa[Fl.recOk] using e),fun e=>?_⟩
  have e0:bv=0:=by simpa[Fl.recOk] using e
  subst e0
  rw[simR15s h]
  exact⟨rfl,rfl,rfl⟩
 | n+16,h=>exact absurd h zo
theorem sim27{m:MS}{c:Nat→Nat}{pc:Nat}{i:IR}{done M:Nat}{v:Nat→Nat}(h:SimIn m c pc i done)(hop:i.op=27):Sim m c pc i done M v:=by
 have hD:=h.ok.D1
 have hS:=h.ok.S1
 have hO0:=h.ok.O0
 have hO1:=h.ok.O1
 have hcS:=h.hc i.S
 have him:=h.ok.im
 obtain⟨O,hO⟩:∃ O:Nat,i.O=O:=⟨i.O.toNat,by omega⟩
 have e:stepF m (csG c pc)=if Fl.recOk O (c i.S)=true then⟨(({ csG c pc with pc:=(pc+i.n)%4294967296 }:GS).setR i.D (Fl.recX O (c i.D) (c i.S) (cxF c).toNat).toNat).setF (Fl.recFl O (c i.D) (c i.S) (cxF c).toNat).toNat,0,0,m⟩ else⟨csG c pc,7,0,m⟩:=by
  unfold stepF
  simp only[csG_f h.hc,show(csG c pc).pc=pc from rfl,h.hi,h.hk,hop,w32_nat,hO]
  simp[GS.setPC,cs_R hD,cs_R hS,show(csG c pc).f=(cxF c).toNat from rfl]
 have e1:(xiOf i pc done).op.toNat=27:=by show i.op.toNat=27;omega
 have e2:(xiOf i pc done).O.toNat=O:=by show i.O.toNat=O;omega
 have e3:runL (liftF (xiOf i pc done) M) M ⟨c,m,v⟩=runL (reckOps O i.D M pc done (M+1)) (M+1) ⟨c,m,updC v M (c i.S)⟩:=by
  simp only[liftF,e1,e2]
  simp[runL,leftO,nextO,isV,valV,pvalF,valF,xiOf]
 have hr:=rk_any (v:=v) (M:=M) h (bv:=c i.S) zo O zo
 unfold Sim leftX
 rw[e3,e]
 cases hk:Fl.recOk O (c i.S) with
 | true=>
  obtain⟨h1,h2,h3⟩:=hr.yes hk
  rw[if_pos rfl]
  exact⟨h1,h2,by rw[h3];simp[endsF,stOp,hop]⟩
 | false=>
  obtain⟨h1,h2,h3⟩:=hr.no hk
  rw[if_neg (by simp)]
  exact⟨h1,by rw[h2];rfl,by rw[h3];simp⟩
theorem sim28{m:MS}{c:Nat→Nat}{pc:Nat}{i:IR}{done M:Nat}{v:Nat→Nat}(h:SimIn m c pc i done)(hop:i.op=28):Sim m c pc i done M v:=by
 have hD:=h.ok.D1
 have hS:=h.ok.S1
 have hO0:=h.ok.O0
 have hO1:=h.ok.O1
 have hcS:=h.hc i.S
 have him:=h.ok.im
 obtain⟨O,hO⟩:∃ O:Nat,i.O=O:=⟨i.O.toNat,by omega⟩
 have e:stepF m (csG c pc)=if Fl.recOk O (i.imm)=true then⟨(({ csG c pc with pc:=(pc+i.n)%4294967296 }:GS).setR i.D (Fl.recX O (c i.D) (i.imm) (cxF c).toNat).toNat).setF (Fl.recFl O (c i.D) (i.imm) (cxF c).toNat).toNat,0,0,m⟩ else⟨csG c pc,7,0,m⟩:=by
  unfold stepF
  simp only[csG_f h.hc,show(csG c pc).pc=pc from rfl,h.hi,h.hk,hop,w32_nat,hO]
  simp[GS.setPC,cs_R hD,cs_R hS,show(csG c pc).f=(cxF c).toNat from rfl]
 have e1:(xiOf i pc done).op.toNat=28:=by show i.op.toNat=28;omega
 have e2:(xiOf i pc done).O.toNat=O:=by show i.O.toNat=O;omega
 have e3:runL (liftF (xiOf i pc done) M) M ⟨c,m,v⟩=runL (reckOps O i.D M pc done (M+1)) (M+1) ⟨c,m,updC v M (i.imm)⟩:=by
  simp only[liftF,e1,e2]
  simp[runL,leftO,nextO,isV,valV,pvalF,valF,xiOf]
 have hr:=rk_any (v:=v) (M:=M) h (bv:=i.imm) zo O zo
 unfold Sim leftX
 rw[e3,e]
 cases hk:Fl.recOk O (i.imm) with
 | true=>
  obtain⟨h1,h2,h3⟩:=hr.yes hk
  rw[if_pos rfl]
  exact⟨h1,h2,by rw[h3];simp[endsF,stOp,hop]⟩
 | false=>
  obtain⟨h1,h2,h3⟩:=hr.no hk
  rw[if_neg (by simp)]
  exact⟨h1,by rw[h2];rfl,by rw[h3];simp⟩
theorem sim29{m:MS}{c:Nat→Nat}{pc:Nat}{i:IR}{done M:Nat}{v:Nat→Nat}(h:SimIn m c pc i done)(hop:i.op=29):Sim m c pc i done M v:=by
 have hD:=h.ok.D1
 have hS:=h.ok.S1
 have hO0:=h.ok.O0
 have hO1:=h.ok.O1
 have hcS:=h.hc i.S
 have him:=h.ok.im
 obtain⟨O,hO⟩:∃ O:Nat,i.O=O:=⟨i.O.toNat,by omega⟩
 have e:stepF m (csG c pc)=if Fl.recOk O (i.imm)=true then⟨(({ csG c pc with pc:=(pc+i.n)%4294967296 }:GS).setR i.D (Fl.recX O (c i.D) (i.imm) (cxF c).toNat).toNat).setF (Fl.recFl O (c i.D) (i.imm) (cxF c).toNat).toNat,0,0,m⟩ else⟨csG c pc,7,0,m⟩:=by
  unfold stepF
  simp only[csG_f h.hc,show(csG c pc).pc=pc from rfl,h.hi,h.hk,hop,w32_nat,hO]
  simp[GS.setPC,cs_R hD,cs_R hS,show(csG c pc).f=(cxF c).toNat from rfl]
 have e1:(xiOf i pc done).op.toNat=29:=by show i.op.toNat=29;omega
 have e2:(xiOf i pc done).O.toNat=O:=by show i.O.toNat=O;omega
 have e3:runL (liftF (xiOf i pc done) M) M ⟨c,m,v⟩=runL (reckOps O i.D M pc done (M+1)) (M+1) ⟨c,m,updC v M (i.imm)⟩:=by
  simp only[liftF,e1,e2]
  simp[runL,leftO,nextO,isV,valV,pvalF,valF,xiOf]
 have hr:=rk_any (v:=v) (M:=M) h (bv:=i.imm) zo O zo
 unfold Sim leftX
 rw[e3,e]
 cases hk:Fl.recOk O (i.imm) with
 | true=>
  obtain⟨h1,h2,h3⟩:=hr.yes hk
  rw[if_pos rfl]
  exact⟨h1,h2,by rw[h3];simp[endsF,stOp,hop]⟩
 | false=>
  obtain⟨h1,h2,h3⟩:=hr.no hk
  rw[if_neg (by simp)]
  exact⟨h1,by rw[h2];rfl,by rw[h3];simp⟩
theorem rx0(a b:Nat):(Fl.recX 0 a b 0).toNat=(a+b)%4294967296:=by simp[Fl.recX];omega
theorem rx2(a b:Nat):(Fl.recX 2 a b 0).toNat=w32 ((a:Int) - b):=by simp[Fl.recX,w32]
theorem pcN(a b:Nat):(((a:Int)+b)%4294967296).toNat=(a+b)%4294967296:=zo
theorem w32_4(a:Nat):w32 ((a:Int)+4)=(a+4)%4294967296:=by unfold w32;omega
theorem st_no{m:MS}{a:Nat}{n:Int}{x v:Nat}(h:sto m a n=some x):storeT m a n v=m:=by
 unfold sto at h
 unfold storeT
 split at h
 ·rw[if_neg (by rw[h];simp)]
 ·cases h
theorem sim15{m:MS}{c:Nat→Nat}{pc:Nat}{i:IR}{done M:Nat}{v:Nat→Nat}(h:SimIn m c pc i done)(hop:i.op=15):Sim m c pc i done M v:=by
 have hD:=h.ok.D1
 have hS:=h.ok.S1
 have hcf:=cxF_bd h.hc
 have hcD:=h.hc i.D
 have hcS:=h.hc i.S
 have hc7:=h.hc 7
 have him:=h.ok.im
 have n8:¬8=i.D:=zo
 have n9:¬9=i.D:=zo
 have n10:¬10=i.D:=zo
 have n11:¬11=i.D:=zo
 have e1:(xiOf i pc done).op.toNat=15:=by show i.op.toNat=15;omega
 cases hb:badN m 1 (c 7) 4 with
 | some x=>
  have e:stepF m (csG c pc)=⟨csG c pc,5,x,m⟩:=by
   unfold stepF memF
   simp only[csG_f h.hc,show(csG c pc).pc=pc from rfl,h.hi,h.hk,hop,w32_nat]
   simp[ldG,stG,swG,GS.setPC,cs_R hD,cs_R hS,cs_R (show 7≤7 by decide),cs_R (show 0≤7 by decide),show(csG c pc).f=(cxF c).toNat from rfl,w32_4,hb,ldN,GS.setR,GS.setF]
  unfold Sim leftX
  rw[e]
  simp only[liftF,e1]
  simp[runL,leftO,nextO,exO,isV,valV,pvalF,valF,unF,binF,aluOf,xiOf,endsF,stOp,hop,ldO,ldNo,ldWo,stO,stN,stK,stA,rx0,rx2,pcN,hb,n8,n9,n10,n11,tnm]
  simp[updC,runL,leftO,nextO,exO,isV,valV,pvalF,valF,unF,binF,aluOf,xiOf,endsF,stOp,hop,ldO,ldNo,ldWo,stO,stN,stK,stA,rx0,rx2,pcN,hb,n8,n9,n10,n11,tnm]
  first|done|(refine gs_ext ?_ rfl ?_<;>first|rfl|(intro j;simp only[csG,updC,upd,GS.setR,GS.setPC,GS.setF];(repeat' split)<;>first|rfl|omega)|(simp[csG,cxF,updC,Fl.flagsF,GS.setR,GS.setPC,GS.setF,n8,n9,n10,n11,tnm];done))
 | none=>
  obtain⟨y,hy,hyl⟩:=ldX_nat m (c 7) 4 h.hm (by decide)
  have e:stepF m (csG c pc)=⟨(⟨upd (upd ((csG c pc).R) (7) ((c 7+4)%4294967296)) (i.D) (y),((pc+i.n)%4294967296),(cxF c).toNat⟩:GS),0,0,m⟩:=by
   unfold stepF memF
   simp only[csG_f h.hc,show(csG c pc).pc=pc from rfl,h.hi,h.hk,hop,w32_nat]
   simp[ldG,stG,swG,GS.setPC,cs_R hD,cs_R hS,cs_R (show 7≤7 by decide),cs_R (show 0≤7 by decide),show(csG c pc).f=(cxF c).toNat from rfl,w32_4,hb,ldN,GS.setR,GS.setF,hy]
  unfold Sim leftX
  rw[e]
  simp only[liftF,e1]
  simp[runL,leftO,nextO,exO,isV,valV,pvalF,valF,unF,binF,aluOf,xiOf,endsF,stOp,hop,ldO,ldNo,ldWo,stO,stN,stK,stA,rx0,rx2,pcN,hb,n8,n9,n10,n11,tnm,hy]
  simp[updC,runL,leftO,nextO,exO,isV,valV,pvalF,valF,unF,binF,aluOf,xiOf,endsF,stOp,hop,ldO,ldNo,ldWo,stO,stN,stK,stA,rx0,rx2,pcN,hb,n8,n9,n10,n11,tnm,hy]
  first|done|(refine gs_ext ?_ rfl ?_<;>first|rfl|(intro j;simp only[csG,updC,upd,GS.setR,GS.setPC,GS.setF];(repeat' split)<;>first|rfl|omega)|(simp[csG,cxF,updC,Fl.flagsF,GS.setR,GS.setPC,GS.setF,n8,n9,n10,n11,tnm];done))
theorem sim2{m:MS}{c:Nat→Nat}{pc:Nat}{i:IR}{done M:Nat}{v:Nat→Nat}(h:SimIn m c pc i done)(hop:i.op=2):Sim m c pc i done M v:=by
 have hD:=h.ok.D1
 have hS:=h.ok.S1
 have hcf:=cxF_bd h.hc
 have hcD:=h.hc i.D
 have hcS:=h.hc i.S
 have hc7:=h.hc 7
 have him:=h.ok.im
 have n8:¬8=i.D:=zo
 have n9:¬9=i.D:=zo
 have n10:¬10=i.D:=zo
 have n11:¬11=i.D:=zo
 have e1:(xiOf i pc done).op.toNat=2:=by show i.op.toNat=2;omega
 cases hb:badN m 1 (c 7) 4 with
 | some x=>
  have e:stepF m (csG c pc)=⟨csG c pc,5,x,m⟩:=by
   unfold stepF memF
   simp only[csG_f h.hc,show(csG c pc).pc=pc from rfl,h.hi,h.hk,hop,w32_nat]
   simp[ldG,stG,swG,GS.setPC,cs_R hD,cs_R hS,cs_R (show 7≤7 by decide),cs_R (show 0≤7 by decide),show(csG c pc).f=(cxF c).toNat from rfl,w32_4,hb,ldN,GS.setR,GS.setF]
  unfold Sim leftX
  rw[e]
  simp only[liftF,e1]
  simp[runL,leftO,nextO,exO,isV,valV,pvalF,valF,unF,binF,aluOf,xiOf,endsF,stOp,hop,ldO,ldNo,ldWo,stO,stN,stK,stA,rx0,rx2,pcN,hb,n8,n9,n10,n11,tnm]
  simp[updC,runL,leftO,nextO,exO,isV,valV,pvalF,valF,unF,binF,aluOf,xiOf,endsF,stOp,hop,ldO,ldNo,ldWo,stO,stN,stK,stA,rx0,rx2,pcN,hb,n8,n9,n10,n11,tnm]
  first|done|(refine gs_ext ?_ rfl ?_<;>first|rfl|(intro j;simp only[csG,updC,upd,GS.setR,GS.setPC,GS.setF];(repeat' split)<;>first|rfl|omega)|(simp[csG,cxF,updC,Fl.flagsF,GS.setR,GS.setPC,GS.setF,n8,n9,n10,n11,tnm];done))
 | none=>
  obtain⟨y,hy,hyl⟩:=ldX_nat m (c 7) 4 h.hm (by decide)
  have e:stepF m (csG c pc)=⟨(⟨upd ((csG c pc).R) (7) ((c 7+4)%4294967296),y,(cxF c).toNat⟩:GS),0,0,m⟩:=by
   unfold stepF memF
   simp only[csG_f h.hc,show(csG c pc).pc=pc from rfl,h.hi,h.hk,hop,w32_nat]
   simp[ldG,stG,swG,GS.setPC,cs_R hD,cs_R hS,cs_R (show 7≤7 by decide),cs_R (show 0≤7 by decide),show(csG c pc).f=(cxF c).toNat from rfl,w32_4,hb,ldN,GS.setR,GS.setF,hy]
  unfold Sim leftX
  rw[e]
  simp only[liftF,e1]
  simp[runL,leftO,nextO,exO,isV,valV,pvalF,valF,unF,binF,aluOf,xiOf,endsF,stOp,hop,ldO,ldNo,ldWo,stO,stN,stK,stA,rx0,rx2,pcN,hb,n8,n9,n10,n11,tnm,hy]
  simp[updC,runL,leftO,nextO,exO,isV,valV,pvalF,valF,unF,binF,aluOf,xiOf,endsF,stOp,hop,ldO,ldNo,ldWo,stO,stN,stK,stA,rx0,rx2,pcN,hb,n8,n9,n10,n11,tnm,hy]
  first|done|(refine gs_ext ?_ rfl ?_<;>first|rfl|(intro j;simp only[csG,updC,upd,GS.setR,GS.setPC,GS.setF];(repeat' split)<;>first|rfl|omega)|(simp[csG,cxF,updC,Fl.flagsF,GS.setR,GS.setPC,GS.setF,n8,n9,n10,n11,tnm];done))
theorem sim4{m:MS}{c:Nat→Nat}{pc:Nat}{i:IR}{done M:Nat}{v:Nat→Nat}(h:SimIn m c pc i done)(hop:i.op=4):Sim m c pc i done M v:=by
 have hD:=h.ok.D1
 have hS:=h.ok.S1
 have hcf:=cxF_bd h.hc
 have hcD:=h.hc i.D
 have hcS:=h.hc i.S
 have hc7:=h.hc 7
 have him:=h.ok.im
 have n8:¬8=i.D:=zo
 have n9:¬9=i.D:=zo
 have n10:¬10=i.D:=zo
 have n11:¬11=i.D:=zo
 have e1:(xiOf i pc done).op.toNat=4:=by show i.op.toNat=4;omega
 cases hb:badN m 1 (c 7) 4 with
 | some x=>
  have e:stepF m (csG c pc)=⟨csG c pc,5,x,m⟩:=by
   unfold stepF memF
   simp only[csG_f h.hc,show(csG c pc).pc=pc from rfl,h.hi,h.hk,hop,w32_nat]
   simp[ldG,stG,swG,GS.setPC,cs_R hD,cs_R hS,cs_R (show 7≤7 by decide),cs_R (show 0≤7 by decide),show(csG c pc).f=(cxF c).toNat from rfl,w32_4,hb,ldN,GS.setR,GS.setF]
  unfold Sim leftX
  rw[e]
  simp only[liftF,e1]
  simp[runL,leftO,nextO,exO,isV,valV,pvalF,valF,unF,binF,aluOf,xiOf,endsF,stOp,hop,ldO,ldNo,ldWo,stO,stN,stK,stA,rx0,rx2,pcN,hb,n8,n9,n10,n11,tnm]
  simp[updC,runL,leftO,nextO,exO,isV,valV,pvalF,valF,unF,binF,aluOf,xiOf,endsF,stOp,hop,ldO,ldNo,ldWo,stO,stN,stK,stA,rx0,rx2,pcN,hb,n8,n9,n10,n11,tnm]
  first|done|(refine gs_ext ?_ rfl ?_<;>first|rfl|(intro j;simp only[csG,updC,upd,GS.setR,GS.setPC,GS.setF];(repeat' split)<;>first|rfl|omega)|(simp[csG,cxF,updC,Fl.flagsF,GS.setR,GS.setPC,GS.setF,n8,n9,n10,n11,tnm];done))
 | none=>
  obtain⟨y,hy,hyl⟩:=ldX_nat m (c 7) 4 h.hm (by decide)
  have e:stepF m (csG c pc)=⟨(⟨upd ((csG c pc).R) (7) ((c 7+4)%4294967296),((pc+i.n)%4294967296),y%16⟩:GS),0,0,m⟩:=by
   unfold stepF memF
   simp only[csG_f h.hc,show(csG c pc).pc=pc from rfl,h.hi,h.hk,hop,w32_nat]
   simp[ldG,stG,swG,GS.setPC,cs_R hD,cs_R hS,cs_R (show 7≤7 by decide),cs_R (show 0≤7 by decide),show(csG c pc).f=(cxF c).toNat from rfl,w32_4,hb,ldN,GS.setR,GS.setF,hy]
  unfold Sim leftX
  rw[e]
  simp only[liftF,e1]
  simp[runL,leftO,nextO,exO,isV,valV,pvalF,valF,unF,binF,aluOf,xiOf,endsF,stOp,hop,ldO,ldNo,ldWo,stO,stN,stK,stA,rx0,rx2,pcN,hb,n8,n9,n10,n11,tnm,hy]
  simp[updC,runL,leftO,nextO,exO,isV,valV,pvalF,valF,unF,binF,aluOf,xiOf,endsF,stOp,hop,ldO,ldNo,ldWo,stO,stN,stK,stA,rx0,rx2,pcN,hb,n8,n9,n10,n11,tnm,hy]
  first|done|(refine gs_ext ?_ rfl ?_<;>first|rfl|(intro j;simp only[csG,updC,upd,GS.setR,GS.setPC,GS.setF];(repeat' split)<;>first|rfl|omega)|(simp[csG,cxF,updC,Fl.flagsF,GS.setR,GS.setPC,GS.setF,n8,n9,n10,n11,tnm];done))
theorem sim11{m:MS}{c:Nat→Nat}{pc:Nat}{i:IR}{done M:Nat}{v:Nat→Nat}(h:SimIn m c pc i done)(hop:i.op=11):Sim m c pc i done M v:=by
 have hD:=h.ok.D1
 have hS:=h.ok.S1
 have hcf:=cxF_bd h.hc
 have hcD:=h.hc i.D
 have hcS:=h.hc i.S
 have hc7:=h.hc 7
 have him:=h.ok.im
 have n8:¬8=i.D:=zo
 have n9:¬9=i.D:=zo
 have n10:¬10=i.D:=zo
 have n11:¬11=i.D:=zo
 have e1:(xiOf i pc done).op.toNat=11:=by show i.op.toNat=11;omega
 cases hb:badN m 1 ((c i.S+i.imm)%4294967296) 4 with
 | some x=>
  have e:stepF m (csG c pc)=⟨csG c pc,5,x,m⟩:=by
   unfold stepF memF
   simp only[csG_f h.hc,show(csG c pc).pc=pc from rfl,h.hi,h.hk,hop,w32_nat]
   simp[ldG,stG,swG,GS.setPC,cs_R hD,cs_R hS,cs_R (show 7≤7 by decide),cs_R (show 0≤7 by decide),show(csG c pc).f=(cxF c).toNat from rfl,w32_4,hb,ldN,GS.setR,GS.setF]
  unfold Sim leftX
  rw[e]
  simp only[liftF,e1]
  simp[runL,leftO,nextO,exO,isV,valV,pvalF,valF,unF,binF,aluOf,xiOf,endsF,stOp,hop,ldO,ldNo,ldWo,stO,stN,stK,stA,rx0,rx2,pcN,hb,n8,n9,n10,n11,tnm]
  simp[updC,runL,leftO,nextO,exO,isV,valV,pvalF,valF,unF,binF,aluOf,xiOf,endsF,stOp,hop,ldO,ldNo,ldWo,stO,stN,stK,stA,rx0,rx2,pcN,hb,n8,n9,n10,n11,tnm]
  first|done|(refine gs_ext ?_ rfl ?_<;>first|rfl|(intro j;simp only[csG,updC,upd,GS.setR,GS.setPC,GS.setF];(repeat' split)<;>first|rfl|omega)|(simp[csG,cxF,updC,Fl.flagsF,GS.setR,GS.setPC,GS.setF,n8,n9,n10,n11,tnm];done))
 | none=>
  obtain⟨y,hy,hyl⟩:=ldX_nat m ((c i.S+i.imm)%4294967296) 4 h.hm (by decide)
  have e:stepF m (csG c pc)=⟨(⟨(csG c pc).R,y,(cxF c).toNat⟩:GS),0,0,m⟩:=by
   unfold stepF memF
   simp only[csG_f h.hc,show(csG c pc).pc=pc from rfl,h.hi,h.hk,hop,w32_nat]
   simp[ldG,stG,swG,GS.setPC,cs_R hD,cs_R hS,cs_R (show 7≤7 by decide),cs_R (show 0≤7 by decide),show(csG c pc).f=(cxF c).toNat from rfl,w32_4,hb,ldN,GS.setR,GS.setF,hy]
  unfold Sim leftX
  rw[e]
  simp only[liftF,e1]
  simp[runL,leftO,nextO,exO,isV,valV,pvalF,valF,unF,binF,aluOf,xiOf,endsF,stOp,hop,ldO,ldNo,ldWo,stO,stN,stK,stA,rx0,rx2,pcN,hb,n8,n9,n10,n11,tnm,hy]
  simp[updC,runL,leftO,nextO,exO,isV,valV,pvalF,valF,unF,binF,aluOf,xiOf,endsF,stOp,hop,ldO,ldNo,ldWo,stO,stN,stK,stA,rx0,rx2,pcN,hb,n8,n9,n10,n11,tnm,hy]
  first|done|(refine gs_ext ?_ rfl ?_<;>first|rfl|(intro j;simp only[csG,updC,upd,GS.setR,GS.setPC,GS.setF];(repeat' split)<;>first|rfl|omega)|(simp[csG,cxF,updC,Fl.flagsF,GS.setR,GS.setPC,GS.setF,n8,n9,n10,n11,tnm];done))
end Go.Proofs.YtfokgedjocnnmaaGreat
