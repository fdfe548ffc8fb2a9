import Derived.Test.YtfokgedjocnnmaaGreatJ16
set_option linter.unusedVariables false
set_option linter.unusedSimpArgs false
set_option maxHeartbeats 2000000
namespace Go.Proofs.YtfokgedjocnnmaaGreat
open Go.RowKit
set_option maxRecDepth 100000
theorem rmem1(k:RB)(m:MS)(i:IR)(s t:GS)(at':Nat)(w:World)(H:MmIn w k m i s t at')(hop:i.op=11∨i.op=14∨i.op=3∨i.op=8∨i.op=10) :
  Calls Tryz.prog 66 #[.pointer (some ⟨k.y,0,none⟩),insA i.op i.D i.S i.O i.imm,gsV s,gsV t,.int .u32 at'] w fun e w'=>
   e=.returned (.tuple #[gsV (memF m i s t at').t,.agg #[.int .i64 (memF m i s t at').k,.int .u32 (memF m i s t at').a]])∧RM w' k (memF m i s t at').m∧Chg k.all w w':=by
 obtain⟨op,d,e,O,im,n,ik,ia⟩:=i
 have HH:Hid _:=H
 have HB:Hid (MmB w (mmW w ⟨op,d,e,O,im,n,ik,ia⟩ s t) k m ⟨op,d,e,O,im,n,ik,ia⟩ s t 0 0):=mm_start H.rm
 have HOP:Hid (op=11∨op=14∨op=3∨op=8∨op=10):=hop
 clear H hop
 go_enter Tryz.func66,Tryz.ntmps66
 go_upto_block 0 with fail
 rw[← w32_cast]
 change Code.wp _ _ _ _ (mmW w ⟨op,d,e,O,im,n,ik,ia⟩ s t)
 generalize mmW w ⟨op,d,e,O,im,n,ik,ia⟩ s t=W at HB ⊢
 go_cut [14] from 16 (fun x wx=>∃ (t':GS) (kk aa:Int) (m':MS),MmB w wx k m' ⟨op,d,e,O,im,n,ik,ia⟩ s t' kk aa∧memF m ⟨op,d,e,O,im,n,ik,ia⟩ s t at'=⟨if kk=0 then t' else s,kk,aa,m'⟩)
 case first=>
  have hd:d < 8:=Nat.lt_succ_of_le HH.out.iok.D1
  have he:e < 8:=Nat.lt_succ_of_le HH.out.iok.S1
  have hd0:(0:Int)≤d:=zo
  have hd1:(d:Int) < 8:=zo
  have he0:(0:Int)≤e:=zo
  have he1:(e:Int) < 8:=zo
  obtain⟨i0,i1,i2,i3,i4⟩:=Gu.ins_cells HB.out.b0
  have aS:=gs_reg HB.out.b1 e he
  have aD:=gs_reg HB.out.b1 d hd
  have a7:=gs_reg HB.out.b1 7 (by decide)
  have a9:=gs_f HB.out.b1
  rcases HOP.out with rfl|rfl|rfl|rfl|rfl
  ·go_wp2_with (go_at_call 97;refine(rload_l k at' 4 m _ HH.out.a HH.out.mok HB.out.rm).mono ?_;rintro e1 w1 ⟨rfl,hb1⟩;have HM1:Hid _:=HB.out.below hb1;have t7:=gs_reg HM1.out.b2 7 (by decide);have tD:=gs_reg HM1.out.b2 d hd;have t8:=gs_pc HM1.out.b2;have t9:=gs_f HM1.out.b2;have tf:=gs_fr HM1.out.b2;obtain⟨q0,q1,qf0,qf1⟩:=stop_cells HM1.out.b5;obtain⟨i0,i1,i2,i3,i4⟩:=Gu.ins_cells HM1.out.b0;have aS:=gs_reg HM1.out.b1 e he;have aD:=gs_reg HM1.out.b1 d hd;have a7:=gs_reg HM1.out.b1 7 (by decide);have a9:=gs_f HM1.out.b1;clear hb1)
   go_meet
   case rel=>exact⟨_,_,_,m,(HM1.out.putT ((Only.refl _ _).setCell _ _) (gs_setPC HM1.out.b2 _ (Int.natCast_nonneg _))).putQ _ _,by rw[Int.toNat_natCast];exact ldG_eq ..⟩
  ·go_wp2_with (go_at_call 98;refine(rstore_tot k (w32 ((s.R 7:Int) - 4)) (s.R e) 4 m _ (w32_lt _) (HH.out.sok.r e) HH.out.mok HB.out.rm).mono ?_;rintro e1 w1 ⟨rfl,hR1,hC1⟩;have HM1:Hid _:=HB.out.after hR1 hC1;have t7:=gs_reg HM1.out.b2 7 (by decide);have tD:=gs_reg HM1.out.b2 d hd;have t8:=gs_pc HM1.out.b2;have t9:=gs_f HM1.out.b2;have tf:=gs_fr HM1.out.b2;obtain⟨q0,q1,qf0,qf1⟩:=stop_cells HM1.out.b5;obtain⟨i0,i1,i2,i3,i4⟩:=Gu.ins_cells HM1.out.b0;have aS:=gs_reg HM1.out.b1 e he;have aD:=gs_reg HM1.out.b1 d hd;have a7:=gs_reg HM1.out.b1 7 (by decide);have a9:=gs_f HM1.out.b1;clear hR1 hC1)
   go_meet
   case rel=>exact⟨_,_,_,_,(HM1.out.putQ _ _).putT ((Only.refl _ _).setCell _ _) (gs_setR (HM1.out.putQ _ _).b2 7 (by decide) _ (Int.natCast_nonneg _)),by rw[Int.toNat_natCast];exact stG_eq ..⟩
  ·go_wp2_with (go_at_call 98;refine(rstore_tot k (w32 ((s.R 7:Int) - 4)) s.f 4 m _ (w32_lt _) HH.out.sok.f HH.out.mok HB.out.rm).mono ?_;rintro e1 w1 ⟨rfl,hR1,hC1⟩;have HM1:Hid _:=HB.out.after hR1 hC1;have t7:=gs_reg HM1.out.b2 7 (by decide);have tD:=gs_reg HM1.out.b2 d hd;have t8:=gs_pc HM1.out.b2;have t9:=gs_f HM1.out.b2;have tf:=gs_fr HM1.out.b2;obtain⟨q0,q1,qf0,qf1⟩:=stop_cells HM1.out.b5;obtain⟨i0,i1,i2,i3,i4⟩:=Gu.ins_cells HM1.out.b0;have aS:=gs_reg HM1.out.b1 e he;have aD:=gs_reg HM1.out.b1 d hd;have a7:=gs_reg HM1.out.b1 7 (by decide);have a9:=gs_f HM1.out.b1;clear hR1 hC1)
   go_meet
   case rel=>exact⟨_,_,_,_,(HM1.out.putQ _ _).putT ((Only.refl _ _).setCell _ _) (gs_setR (HM1.out.putQ _ _).b2 7 (by decide) _ (Int.natCast_nonneg _)),by rw[Int.toNat_natCast];exact stG_eq ..⟩
  ·go_wp2_with (go_at_call 98;refine(rstore_tot k (w32 ((s.R 7:Int) - 4)) t.pc 4 m _ (w32_lt _) HH.out.tok.p HH.out.mok HB.out.rm).mono ?_;rintro e1 w1 ⟨rfl,hR1,hC1⟩;have HM1:Hid _:=HB.out.after hR1 hC1;have t7:=gs_reg HM1.out.b2 7 (by decide);have tD:=gs_reg HM1.out.b2 d hd;have t8:=gs_pc HM1.out.b2;have t9:=gs_f HM1.out.b2;have tf:=gs_fr HM1.out.b2;obtain⟨q0,q1,qf0,qf1⟩:=stop_cells HM1.out.b5;obtain⟨i0,i1,i2,i3,i4⟩:=Gu.ins_cells HM1.out.b0;have aS:=gs_reg HM1.out.b1 e he;have aD:=gs_reg HM1.out.b1 d hd;have a7:=gs_reg HM1.out.b1 7 (by decide);have a9:=gs_f HM1.out.b1;clear hR1 hC1)
   go_meet
   case rel=>exact⟨_,_,_,_,(HM1.out.putQ _ _).putT (((Only.refl _ _).setCell _ _).setCell _ _) (gs_setPC (gs_setR (HM1.out.putQ _ _).b2 7 (by decide) _ (Int.natCast_nonneg _)) _ (Int.emod_nonneg _ (by decide))),by rw[Int.toNat_natCast];exact stG_eq ..⟩
  ·go_wp2_with (go_at_call 98;refine(rstore_tot k (w32 ((s.R 7:Int) - 4)) t.pc 4 m _ (w32_lt _) HH.out.tok.p HH.out.mok HB.out.rm).mono ?_;rintro e1 w1 ⟨rfl,hR1,hC1⟩;have HM1:Hid _:=HB.out.after hR1 hC1;have t7:=gs_reg HM1.out.b2 7 (by decide);have tD:=gs_reg HM1.out.b2 d hd;have t8:=gs_pc HM1.out.b2;have t9:=gs_f HM1.out.b2;have tf:=gs_fr HM1.out.b2;obtain⟨q0,q1,qf0,qf1⟩:=stop_cells HM1.out.b5;obtain⟨i0,i1,i2,i3,i4⟩:=Gu.ins_cells HM1.out.b0;have aS:=gs_reg HM1.out.b1 e he;have aD:=gs_reg HM1.out.b1 d hd;have a7:=gs_reg HM1.out.b1 7 (by decide);have a9:=gs_f HM1.out.b1;clear hR1 hC1)
   go_meet
   case rel=>exact⟨_,_,_,_,(HM1.out.putQ _ _).putT (((Only.refl _ _).setCell _ _).setCell _ _) (gs_setPC (gs_setR (HM1.out.putQ _ _).b2 7 (by decide) _ (Int.natCast_nonneg _)) _ (Int.natCast_nonneg _)),by rw[Int.toNat_natCast,Int.toNat_natCast];exact stG_eq ..⟩
 case rest=>
  obtain⟨t',kk,aa,m',hM,hF⟩:=hcut
  by_cases hk:kk=0
  ·subst hk
   have HF:Hid (memF m ⟨op,d,e,O,im,n,ik,ia⟩ s t at'=⟨t',0,aa,m'⟩):=hF.trans (by rw[if_pos rfl])
   clear hF
   obtain⟨x0,x1,x2,x3,x4,x5,x6,x7,x8,x9⟩:=gs_all hM.b2
   obtain⟨z0,z1,z2,z3,z4,z5,z6,z7,z8,z9⟩:=gs_all hM.b3
   have zf:=gs_fr hM.b3
   obtain⟨p0,p1,pf0,pf1⟩:=stop_cells hM.b4
   obtain⟨y0,y1,yf0,yf1⟩:=stop_cells hM.b5
   have HM:Hid _:=hM
   clear hM HB HH HOP
   go_wp2
   go_region
   all_goals
    go_wp2
    exact bodyPost_ret (v:=.tuple #[gsV t',.agg #[.int .i64 0,.int .u32 aa]]) zq7 rfl ⟨by rw[HF.out],by
     rw[HF.out]
     have hB:=HM.out.rm
     have hl:=HM.out.lk
     repeat first
      | with_reducible exact hB
      | with_reducible refine RM.drew ?_
      | with_reducible refine RM.setOff' ?_ hl zo _ _,by
     have hB:=HM.out.chg
     repeat first
      | with_reducible exact hB
      | with_reducible refine Chg.drew ?_
      | with_reducible refine Chg.setNew ?_ zo _ _⟩
  ·have hk2:(kk==0)=false:=by simpa using hk
   have HF:Hid (memF m ⟨op,d,e,O,im,n,ik,ia⟩ s t at'=⟨s,kk,aa,m'⟩):=hF.trans (by rw[if_neg hk])
   clear hF
   obtain⟨x0,x1,x2,x3,x4,x5,x6,x7,x8,x9⟩:=gs_all hM.b1
   obtain⟨z0,z1,z2,z3,z4,z5,z6,z7,z8,z9⟩:=gs_all hM.b3
   have zf:=gs_fr hM.b3
   obtain⟨p0,p1,pf0,pf1⟩:=stop_cells hM.b4
   obtain⟨y0,y1,yf0,yf1⟩:=stop_cells hM.b5
   have HM:Hid _:=hM
   clear hM HB HH HOP
   go_wp2
   go_region
   all_goals
    go_wp2
    exact bodyPost_ret (v:=.tuple #[gsV s,.agg #[.int .i64 kk,.int .u32 aa]]) zq7 rfl ⟨by rw[HF.out],by
     rw[HF.out]
     have hB:=HM.out.rm
     have hl:=HM.out.lk
     repeat first
      | with_reducible exact hB
      | with_reducible refine RM.drew ?_
      | with_reducible refine RM.setOff' ?_ hl zo _ _,by
     have hB:=HM.out.chg
     repeat first
      | with_reducible exact hB
      | with_reducible refine Chg.drew ?_
      | with_reducible refine Chg.setNew ?_ zo _ _⟩
theorem rmem2(k:RB)(m:MS)(i:IR)(s t:GS)(at':Nat)(w:World)(H:MmIn w k m i s t at')(hop:i.op=15∨i.op=4∨i.op=2) :
  Calls Tryz.prog 66 #[.pointer (some ⟨k.y,0,none⟩),insA i.op i.D i.S i.O i.imm,gsV s,gsV t,.int .u32 at'] w fun e w'=>
   e=.returned (.tuple #[gsV (memF m i s t at').t,.agg #[.int .i64 (memF m i s t at').k,.int .u32 (memF m i s t at').a]])∧RM w' k (memF m i s t at').m∧Chg k.all w w':=by
 obtain⟨op,d,e,O,im,n,ik,ia⟩:=i
 have HH:Hid _:=H
 have HB:Hid (MmB w (mmW w ⟨op,d,e,O,im,n,ik,ia⟩ s t) k m ⟨op,d,e,O,im,n,ik,ia⟩ s t 0 0):=mm_start H.rm
 have HOP:Hid (op=15∨op=4∨op=2):=hop
 clear H hop
 go_enter Tryz.func66,Tryz.ntmps66
 go_upto_block 0 with fail
 rw[← w32_cast]
 change Code.wp _ _ _ _ (mmW w ⟨op,d,e,O,im,n,ik,ia⟩ s t)
 generalize mmW w ⟨op,d,e,O,im,n,ik,ia⟩ s t=W at HB ⊢
 go_cut [14] from 16 (fun x wx=>∃ (t':GS) (kk aa:Int) (m':MS),MmB w wx k m' ⟨op,d,e,O,im,n,ik,ia⟩ s t' kk aa∧memF m ⟨op,d,e,O,im,n,ik,ia⟩ s t at'=⟨if kk=0 then t' else s,kk,aa,m'⟩)
 case first=>
  have hd:d < 8:=Nat.lt_succ_of_le HH.out.iok.D1
  have he:e < 8:=Nat.lt_succ_of_le HH.out.iok.S1
  have hd0:(0:Int)≤d:=zo
  have hd1:(d:Int) < 8:=zo
  have he0:(0:Int)≤e:=zo
  have he1:(e:Int) < 8:=zo
  obtain⟨i0,i1,i2,i3,i4⟩:=Gu.ins_cells HB.out.b0
  have aS:=gs_reg HB.out.b1 e he
  have aD:=gs_reg HB.out.b1 d hd
  have a7:=gs_reg HB.out.b1 7 (by decide)
  have a9:=gs_f HB.out.b1
  rcases HOP.out with rfl|rfl|rfl
  ·by_cases hd7:d=7
   ·subst hd7
    go_wp2_with (go_at_call 97;refine(rload_l k (s.R 7) 4 m _ (HH.out.sok.r 7) HH.out.mok HB.out.rm).mono ?_;rintro e1 w1 ⟨rfl,hb1⟩;have HM1:Hid _:=HB.out.below hb1;have t7:=gs_reg HM1.out.b2 7 (by decide);have tD:=gs_reg HM1.out.b2 7 (by decide);have t8:=gs_pc HM1.out.b2;have t9:=gs_f HM1.out.b2;have tf:=gs_fr HM1.out.b2;obtain⟨q0,q1,qf0,qf1⟩:=stop_cells HM1.out.b5;obtain⟨i0,i1,i2,i3,i4⟩:=Gu.ins_cells HM1.out.b0;have aS:=gs_reg HM1.out.b1 e he;have aD:=gs_reg HM1.out.b1 7 (by decide);have a7:=gs_reg HM1.out.b1 7 (by decide);have a9:=gs_f HM1.out.b1;clear hb1)
    go_meet
    case rel=>exact⟨_,_,_,m,(HM1.out.putQ _ _).putT (((Only.refl _ _).setCell _ _).setCell _ _) (gs_setR (gs_setR (HM1.out.putQ _ _).b2 7 (by decide) _ (Int.emod_nonneg _ (by decide))) 7 (by decide) _ (Int.natCast_nonneg _)),by rw[Int.toNat_natCast];exact ldG_eq ..⟩
   ·have hd7':¬7=d:=fun h=>hd7 h.symm
    go_wp2_with (go_at_call 97;refine(rload_l k (s.R 7) 4 m _ (HH.out.sok.r 7) HH.out.mok HB.out.rm).mono ?_;rintro e1 w1 ⟨rfl,hb1⟩;have HM1:Hid _:=HB.out.below hb1;have t7:=gs_reg HM1.out.b2 7 (by decide);have tD:=gs_reg HM1.out.b2 d hd;have t8:=gs_pc HM1.out.b2;have t9:=gs_f HM1.out.b2;have tf:=gs_fr HM1.out.b2;obtain⟨q0,q1,qf0,qf1⟩:=stop_cells HM1.out.b5;obtain⟨i0,i1,i2,i3,i4⟩:=Gu.ins_cells HM1.out.b0;have aS:=gs_reg HM1.out.b1 e he;have aD:=gs_reg HM1.out.b1 d hd;have a7:=gs_reg HM1.out.b1 7 (by decide);have a9:=gs_f HM1.out.b1;clear hb1)
    go_meet
    case rel=>exact⟨_,_,_,m,(HM1.out.putQ _ _).putT (((Only.refl _ _).setCell _ _).setCell _ _) (gs_setR (gs_setR (HM1.out.putQ _ _).b2 7 (by decide) _ (Int.emod_nonneg _ (by decide))) d hd _ (Int.natCast_nonneg _)),by rw[Int.toNat_natCast];exact ldG_eq ..⟩
  ·go_wp2_with (go_at_call 97;refine(rload_l k (s.R 7) 4 m _ (HH.out.sok.r 7) HH.out.mok HB.out.rm).mono ?_;rintro e1 w1 ⟨rfl,hb1⟩;have HM1:Hid _:=HB.out.below hb1;have t7:=gs_reg HM1.out.b2 7 (by decide);have tD:=gs_reg HM1.out.b2 d hd;have t8:=gs_pc HM1.out.b2;have t9:=gs_f HM1.out.b2;have tf:=gs_fr HM1.out.b2;obtain⟨q0,q1,qf0,qf1⟩:=stop_cells HM1.out.b5;obtain⟨i0,i1,i2,i3,i4⟩:=Gu.ins_cells HM1.out.b0;have aS:=gs_reg HM1.out.b1 e he;have aD:=gs_reg HM1.out.b1 d hd;have a7:=gs_reg HM1.out.b1 7 (by decide);have a9:=gs_f HM1.out.b1;clear hb1)
   go_meet
   case rel=>exact⟨_,_,_,m,(HM1.out.putQ _ _).putT (((Only.refl _ _).setCell _ _).setCell _ _) (gs_setF (gs_setR (HM1.out.putQ _ _).b2 7 (by decide) _ (Int.emod_nonneg _ (by decide))) _ (Int.emod_nonneg _ (by decide))),by rw[show((ldN m (s.R 7) 4:Int)%16).toNat=ldN m (s.R 7) 4%16 from by omega];exact ldG_eq m s (s.R 7) 4 (fun v=>(t.setR 7 (w32 ((s.R 7:Int)+4))).setF (v%16))⟩
  ·go_wp2_with (go_at_call 97;refine(rload_l k (s.R 7) 4 m _ (HH.out.sok.r 7) HH.out.mok HB.out.rm).mono ?_;rintro e1 w1 ⟨rfl,hb1⟩;have HM1:Hid _:=HB.out.below hb1;have t7:=gs_reg HM1.out.b2 7 (by decide);have tD:=gs_reg HM1.out.b2 d hd;have t8:=gs_pc HM1.out.b2;have t9:=gs_f HM1.out.b2;have tf:=gs_fr HM1.out.b2;obtain⟨q0,q1,qf0,qf1⟩:=stop_cells HM1.out.b5;obtain⟨i0,i1,i2,i3,i4⟩:=Gu.ins_cells HM1.out.b0;have aS:=gs_reg HM1.out.b1 e he;have aD:=gs_reg HM1.out.b1 d hd;have a7:=gs_reg HM1.out.b1 7 (by decide);have a9:=gs_f HM1.out.b1;clear hb1)
   go_meet
   case rel=>exact⟨_,_,_,m,(HM1.out.putQ _ _).putT (((Only.refl _ _).setCell _ _).setCell _ _) (gs_setPC (gs_setR (HM1.out.putQ _ _).b2 7 (by decide) _ (Int.emod_nonneg _ (by decide))) _ (Int.natCast_nonneg _)),by rw[Int.toNat_natCast];exact ldG_eq ..⟩
 case rest=>
  obtain⟨t',kk,aa,m',hM,hF⟩:=hcut
  by_cases hk:kk=0
  ·subst hk
   have HF:Hid (memF m ⟨op,d,e,O,im,n,ik,ia⟩ s t at'=⟨t',0,aa,m'⟩):=hF.trans (by rw[if_pos rfl])
   clear hF
   obtain⟨x0,x1,x2,x3,x4,x5,x6,x7,x8,x9⟩:=gs_all hM.b2
   obtain⟨z0,z1,z2,z3,z4,z5,z6,z7,z8,z9⟩:=gs_all hM.b3
   have zf:=gs_fr hM.b3
   obtain⟨p0,p1,pf0,pf1⟩:=stop_cells hM.b4
   obtain⟨y0,y1,yf0,yf1⟩:=stop_cells hM.b5
   have HM:Hid _:=hM
   clear hM HB HH HOP
   go_wp2
   go_region
   all_goals
    go_wp2
    exact bodyPost_ret (v:=.tuple #[gsV t',.agg #[.int .i64 0,.int .u32 aa]]) zq7 rfl ⟨by rw[HF.out],by
     rw[HF.out]
     have hB:=HM.out.rm
     have hl:=HM.out.lk
     repeat first
      | with_reducible exact hB
      | with_reducible refine RM.drew ?_
      | with_reducible refine RM.setOff' ?_ hl zo _ _,by
     have hB:=HM.out.chg
     repeat first
      | with_reducible exact hB
      | with_reducible refine Chg.drew ?_
      | with_reducible refine Chg.setNew ?_ zo _ _⟩
  ·have hk2:(kk==0)=false:=by simpa using hk
   have HF:Hid (memF m ⟨op,d,e,O,im,n,ik,ia⟩ s t at'=⟨s,kk,aa,m'⟩):=hF.trans (by rw[if_neg hk])
   clear hF
   obtain⟨x0,x1,x2,x3,x4,x5,x6,x7,x8,x9⟩:=gs_all hM.b1
   obtain⟨z0,z1,z2,z3,z4,z5,z6,z7,z8,z9⟩:=gs_all hM.b3
   have zf:=gs_fr hM.b3
   obtain⟨p0,p1,pf0,pf1⟩:=stop_cells hM.b4
   obtain⟨y0,y1,yf0,yf1⟩:=stop_cells hM.b5
   have HM:Hid _:=hM
   clear hM HB HH HOP
   go_wp2
   go_region
   all_goals
    go_wp2
    exact bodyPost_ret (v:=.tuple #[gsV s,.agg #[.int .i64 kk,.int .u32 aa]]) zq7 rfl ⟨by rw[HF.out],by
     rw[HF.out]
     have hB:=HM.out.rm
     have hl:=HM.out.lk
     repeat first
      | with_reducible exact hB
      | with_reducible refine RM.drew ?_
      | with_reducible refine RM.setOff' ?_ hl zo _ _,by
     have hB:=HM.out.chg
     repeat first
      | with_reducible exact hB
      | with_reducible refine Chg.drew ?_
      | with_reducible refine Chg.setNew ?_ zo _ _⟩
end Go.Proofs.YtfokgedjocnnmaaGreat
