import Derived.Test.YtfokgedjocnnmaaGreatJ16
set_option linter.unusedVariables false
set_option linter.unusedSimpArgs false
set_option maxHeartbeats 6000000
namespace Go.Proofs.YtfokgedjocnnmaaGreat
open Go.RowKit
set_option maxRecDepth 100000
theorem rmem4a(k:RB)(m:MS)(i:IR)(s t:GS)(at':Nat)(w:World)(H:MmIn w k m i s t at')(hop:i.op=31)(hO:i.O=0) :
  Calls Tryz.prog 66 #[.pointer (some ⟨k.y,0,none⟩),insA i.op i.D i.S i.O i.imm,gsV s,gsV t,.int .u32 at'] w fun e w'=>
   e=.returned (.tuple #[gsV (memF m i s t at').t,.agg #[.int .i64 (memF m i s t at').k,.int .u32 (memF m i s t at').a]])∧RM w' k (memF m i s t at').m∧Chg k.all w w':=by
 obtain⟨op,d,e,O,im,n,ik,ia⟩:=i
 have HH:Hid _:=H
 have HB:Hid (MmB w (mmW w ⟨op,d,e,O,im,n,ik,ia⟩ s t) k m ⟨op,d,e,O,im,n,ik,ia⟩ s t 0 0):=mm_start H.rm
 have HOP:Hid (op=31):=hop
 simp only at hO
 subst hO
 clear H hop
 go_enter Tryz.func66,Tryz.ntmps66
 go_upto_block 0 with fail
 rw[← w32_cast]
 change Code.wp _ _ _ _ (mmW w ⟨op,d,e,0,im,n,ik,ia⟩ s t)
 generalize mmW w ⟨op,d,e,0,im,n,ik,ia⟩ s t=W at HB ⊢
 go_cut [14] from 16 (fun x wx=>∃ (t':GS) (kk aa:Int) (m':MS),MmB w wx k m' ⟨op,d,e,0,im,n,ik,ia⟩ s t' kk aa∧memF m ⟨op,d,e,0,im,n,ik,ia⟩ s t at'=⟨if kk=0 then t' else s,kk,aa,m'⟩)
 case first=>
  have hd:d < 8:=Nat.lt_succ_of_le HH.out.iok.D1
  have he:e < 8:=Nat.lt_succ_of_le HH.out.iok.S1
  have hd0:(0:Int)≤d:=zo
  have hd1:(d:Int) < 8:=zo
  have he0:(0:Int)≤e:=zo
  have he1:(e:Int) < 8:=zo
  obtain⟨i0,i1,i2,i3,i4⟩:=Gu.ins_cells HB.out.b0
  have aS:=gs_reg HB.out.b1 e he
  have aD:=gs_reg HB.out.b1 d hd
  have a7:=gs_reg HB.out.b1 7 (by decide)
  have a9:=gs_f HB.out.b1
  obtain rfl:=HOP.out
  have hW0:=lt_of_block HB.out.b0
  have hW1:=lt_of_block HB.out.b1
  clear a7 a9 aS i0 i2 i4
  ·go_wp2
   go_region_with (go_at_call 98;refine(rstore_tot k at' (s.R d) 1 m _ HH.out.a (HH.out.sok.r d) HH.out.mok (HB.out.below ((Below.refl _ _).alloc (Nat.le_refl _) _)).drew.rm).mono ?_;rintro e1 w1 ⟨rfl,hR1,hC1⟩;have HM1:Hid _:=(HB.out.below ((Below.refl _ _).alloc (Nat.le_refl _) _)).drew.after hR1 hC1;have t7:=gs_reg HM1.out.b2 7 (by decide);have tD:=gs_reg HM1.out.b2 d hd;have t8:=gs_pc HM1.out.b2;have t9:=gs_f HM1.out.b2;have tf:=gs_fr HM1.out.b2;obtain⟨q0,q1,qf0,qf1⟩:=stop_cells HM1.out.b5;obtain⟨i0,i1,i2,i3,i4⟩:=Gu.ins_cells HM1.out.b0;have aS:=gs_reg HM1.out.b1 e he;have aD:=gs_reg HM1.out.b1 d hd;have a7:=gs_reg HM1.out.b1 7 (by decide);have a9:=gs_f HM1.out.b1;clear hR1 hC1)
   all_goals
    go_wp2
    go_meet
    case rel=>exact⟨_,_,_,_,(HM1.out.putQ _ _),stG_eq ..⟩
 case rest=>
  obtain⟨t',kk,aa,m',hM,hF⟩:=hcut
  by_cases hk:kk=0
  ·subst hk
   have HF:Hid (memF m ⟨op,d,e,0,im,n,ik,ia⟩ s t at'=⟨t',0,aa,m'⟩):=hF.trans (by rw[if_pos rfl])
   clear hF
   obtain⟨x0,x1,x2,x3,x4,x5,x6,x7,x8,x9⟩:=gs_all hM.b2
   obtain⟨z0,z1,z2,z3,z4,z5,z6,z7,z8,z9⟩:=gs_all hM.b3
   have zf:=gs_fr hM.b3
   obtain⟨p0,p1,pf0,pf1⟩:=stop_cells hM.b4
   obtain⟨y0,y1,yf0,yf1⟩:=stop_cells hM.b5
   have HM:Hid _:=hM
   clear hM HB HH HOP
   go_wp2
   go_region
   all_goals
    go_wp2
    exact bodyPost_ret (v:=.tuple #[gsV t',.agg #[.int .i64 0,.int .u32 aa]]) zq7 rfl ⟨by rw[HF.out],by
     rw[HF.out]
     have hB:=HM.out.rm
     have hl:=HM.out.lk
     repeat first
      | with_reducible exact hB
      | with_reducible refine RM.drew ?_
      | with_reducible refine RM.setOff' ?_ hl zo _ _,by
     have hB:=HM.out.chg
     repeat first
      | with_reducible exact hB
      | with_reducible refine Chg.drew ?_
      | with_reducible refine Chg.setNew ?_ zo _ _⟩
  ·have hk2:(kk==0)=false:=by simpa using hk
   have HF:Hid (memF m ⟨op,d,e,0,im,n,ik,ia⟩ s t at'=⟨s,kk,aa,m'⟩):=hF.trans (by rw[if_neg hk])
   clear hF
   obtain⟨x0,x1,x2,x3,x4,x5,x6,x7,x8,x9⟩:=gs_all hM.b1
   obtain⟨z0,z1,z2,z3,z4,z5,z6,z7,z8,z9⟩:=gs_all hM.b3
   have zf:=gs_fr hM.b3
   obtain⟨p0,p1,pf0,pf1⟩:=stop_cells hM.b4
   obtain⟨y0,y1,yf0,yf1⟩:=stop_cells hM.b5
   have HM:Hid _:=hM
   clear hM HB HH HOP
   go_wp2
   go_region
   all_goals
    go_wp2
    exact bodyPost_ret (v:=.tuple #[gsV s,.agg #[.int .i64 kk,.int .u32 aa]]) zq7 rfl ⟨by rw[HF.out],by
     rw[HF.out]
     have hB:=HM.out.rm
     have hl:=HM.out.lk
     repeat first
      | with_reducible exact hB
      | with_reducible refine RM.drew ?_
      | with_reducible refine RM.setOff' ?_ hl zo _ _,by
     have hB:=HM.out.chg
     repeat first
      | with_reducible exact hB
      | with_reducible refine Chg.drew ?_
      | with_reducible refine Chg.setNew ?_ zo _ _⟩
end Go.Proofs.YtfokgedjocnnmaaGreat
