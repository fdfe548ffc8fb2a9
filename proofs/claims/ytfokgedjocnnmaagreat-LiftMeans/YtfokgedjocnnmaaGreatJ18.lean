import Derived.Test.YtfokgedjocnnmaaGreatJ16
set_option linter.unusedVariables false
set_option linter.unusedSimpArgs false
set_option maxHeartbeats 2000000
namespace Go.Proofs.YtfokgedjocnnmaaGreat
open Go.RowKit
set_option maxRecDepth 100000
theorem rmem3(k:RB)(m:MS)(i:IR)(s t:GS)(at':Nat)(w:World)(H:MmIn w k m i s t at')(hop:i.op=30) :
  Calls Tryz.prog 66 #[.pointer (some ⟨k.y,0,none⟩),insA i.op i.D i.S i.O i.imm,gsV s,gsV t,.int .u32 at'] w fun e w'=>
   e=.returned (.tuple #[gsV (memF m i s t at').t,.agg #[.int .i64 (memF m i s t at').k,.int .u32 (memF m i s t at').a]])∧RM w' k (memF m i s t at').m∧Chg k.all w w':=by
 obtain⟨op,d,e,O,im,n,ik,ia⟩:=i
 have HH:Hid _:=H
 have HB:Hid (MmB w (mmW w ⟨op,d,e,O,im,n,ik,ia⟩ s t) k m ⟨op,d,e,O,im,n,ik,ia⟩ s t 0 0):=mm_start H.rm
 have HOP:Hid (op=30):=hop
 clear H hop
 go_enter Tryz.func66,Tryz.ntmps66
 go_upto_block 0 with fail
 rw[← w32_cast]
 change Code.wp _ _ _ _ (mmW w ⟨op,d,e,O,im,n,ik,ia⟩ s t)
 generalize mmW w ⟨op,d,e,O,im,n,ik,ia⟩ s t=W at HB ⊢
 go_cut [14] from 16 (fun x wx=>∃ (t':GS) (kk aa:Int) (m':MS),MmB w wx k m' ⟨op,d,e,O,im,n,ik,ia⟩ s t' kk aa∧memF m ⟨op,d,e,O,im,n,ik,ia⟩ s t at'=⟨if kk=0 then t' else s,kk,aa,m'⟩)
 case first=>
  have hd:d < 8:=Nat.lt_succ_of_le HH.out.iok.D1
  have he:e < 8:=Nat.lt_succ_of_le HH.out.iok.S1
  have hd0:(0:Int)≤d:=zo
  have hd1:(d:Int) < 8:=zo
  have he0:(0:Int)≤e:=zo
  have he1:(e:Int) < 8:=zo
  obtain⟨i0,i1,i2,i3,i4⟩:=Gu.ins_cells HB.out.b0
  have aS:=gs_reg HB.out.b1 e he
  have aD:=gs_reg HB.out.b1 d hd
  have a7:=gs_reg HB.out.b1 7 (by decide)
  have a9:=gs_f HB.out.b1
  obtain rfl:=HOP.out
  ·have hO:O=0∨O=1∨O=2∨O=3∨O=4:=by have:=HH.out.iok.ld rfl;have:=HH.out.iok.O0;simp only at *;omega
   have hW0:=lt_of_block HB.out.b0
   rcases hO with rfl|rfl|rfl|rfl|rfl
   ·go_wp2_with (go_at_call 97;refine(rload_l k at' 1 m _ HH.out.a HH.out.mok (HB.out.below ((Below.refl _ _).alloc (Nat.le_refl _) _)).rm).mono ?_;rintro e1 w1 ⟨rfl,hb1⟩;have HM1:Hid _:=(HB.out.below ((Below.refl _ _).alloc (Nat.le_refl _) _)).below hb1;have t7:=gs_reg HM1.out.b2 7 (by decide);have tD:=gs_reg HM1.out.b2 d hd;have t8:=gs_pc HM1.out.b2;have t9:=gs_f HM1.out.b2;have tf:=gs_fr HM1.out.b2;obtain⟨q0,q1,qf0,qf1⟩:=stop_cells HM1.out.b5;obtain⟨i0,i1,i2,i3,i4⟩:=Gu.ins_cells HM1.out.b0;have aS:=gs_reg HM1.out.b1 e he;have aD:=gs_reg HM1.out.b1 d hd;have a7:=gs_reg HM1.out.b1 7 (by decide);have a9:=gs_f HM1.out.b1;clear hb1)
    go_meet
    case rel=>exact⟨_,_,_,m,(HM1.out.putQ _ _).putT ((Only.refl _ _).setCell _ _) (gs_setR (HM1.out.putQ _ _).b2 d hd _ (Int.natCast_nonneg _)),by rw[Int.toNat_natCast];exact ldG_eq m s at' 1 (fun v=>t.setR d v)⟩
   ·have hbd:=ldN_1 HH.out.mok at'
    by_cases hv:128≤ldN m at' 1
    ·have d1:decide (128≤ldN m at' 1)=true:=decide_eq_true hv
     have d2:decide ((128:Int)≤(ldN m at' 1:Int))=true:=decide_eq_true zo
     have hx:((ldN m at' 1:Int)+4294967040).toNat=sx 1 (ldN m at' 1):=by unfold sx;rw[if_pos ⟨rfl,hv⟩];omega
     go_wp2_with (go_at_call 97;refine(rload_l k at' 1 m _ HH.out.a HH.out.mok (HB.out.below ((Below.refl _ _).alloc (Nat.le_refl _) _)).rm).mono ?_;rintro e1 w1 ⟨rfl,hb1⟩;have HM1:Hid _:=(HB.out.below ((Below.refl _ _).alloc (Nat.le_refl _) _)).below hb1;have t7:=gs_reg HM1.out.b2 7 (by decide);have tD:=gs_reg HM1.out.b2 d hd;have t8:=gs_pc HM1.out.b2;have t9:=gs_f HM1.out.b2;have tf:=gs_fr HM1.out.b2;obtain⟨q0,q1,qf0,qf1⟩:=stop_cells HM1.out.b5;obtain⟨i0,i1,i2,i3,i4⟩:=Gu.ins_cells HM1.out.b0;have aS:=gs_reg HM1.out.b1 e he;have aD:=gs_reg HM1.out.b1 d hd;have a7:=gs_reg HM1.out.b1 7 (by decide);have a9:=gs_f HM1.out.b1;clear hb1)
     go_meet
     case rel=>exact⟨_,_,_,m,(HM1.out.putQ _ _).putT ((Only.refl _ _).setCell _ _) (gs_setR (HM1.out.putQ _ _).b2 d hd _ zo),by rw[hx];exact ldG_eq m s at' 1 (fun v=>t.setR d (sx 1 v))⟩
    ·have d1:decide (128≤ldN m at' 1)=false:=decide_eq_false hv
     have d2:decide ((128:Int)≤(ldN m at' 1:Int))=false:=decide_eq_false zo
     have hx:sx 1 (ldN m at' 1)=ldN m at' 1:=by unfold sx;rw[if_neg zo,if_neg zo]
     go_wp2_with (go_at_call 97;refine(rload_l k at' 1 m _ HH.out.a HH.out.mok (HB.out.below ((Below.refl _ _).alloc (Nat.le_refl _) _)).rm).mono ?_;rintro e1 w1 ⟨rfl,hb1⟩;have HM1:Hid _:=(HB.out.below ((Below.refl _ _).alloc (Nat.le_refl _) _)).below hb1;have t7:=gs_reg HM1.out.b2 7 (by decide);have tD:=gs_reg HM1.out.b2 d hd;have t8:=gs_pc HM1.out.b2;have t9:=gs_f HM1.out.b2;have tf:=gs_fr HM1.out.b2;obtain⟨q0,q1,qf0,qf1⟩:=stop_cells HM1.out.b5;obtain⟨i0,i1,i2,i3,i4⟩:=Gu.ins_cells HM1.out.b0;have aS:=gs_reg HM1.out.b1 e he;have aD:=gs_reg HM1.out.b1 d hd;have a7:=gs_reg HM1.out.b1 7 (by decide);have a9:=gs_f HM1.out.b1;clear hb1)
     go_meet
     case rel=>exact⟨_,_,_,m,(HM1.out.putQ _ _).putT ((Only.refl _ _).setCell _ _) (gs_setR (HM1.out.putQ _ _).b2 d hd _ (Int.natCast_nonneg _)),by rw[Int.toNat_natCast,← hx];exact ldG_eq m s at' 1 (fun v=>t.setR d (sx 1 v))⟩
   ·go_wp2_with (go_at_call 97;refine(rload_l k at' 2 m _ HH.out.a HH.out.mok (HB.out.below ((Below.refl _ _).alloc (Nat.le_refl _) _)).rm).mono ?_;rintro e1 w1 ⟨rfl,hb1⟩;have HM1:Hid _:=(HB.out.below ((Below.refl _ _).alloc (Nat.le_refl _) _)).below hb1;have t7:=gs_reg HM1.out.b2 7 (by decide);have tD:=gs_reg HM1.out.b2 d hd;have t8:=gs_pc HM1.out.b2;have t9:=gs_f HM1.out.b2;have tf:=gs_fr HM1.out.b2;obtain⟨q0,q1,qf0,qf1⟩:=stop_cells HM1.out.b5;obtain⟨i0,i1,i2,i3,i4⟩:=Gu.ins_cells HM1.out.b0;have aS:=gs_reg HM1.out.b1 e he;have aD:=gs_reg HM1.out.b1 d hd;have a7:=gs_reg HM1.out.b1 7 (by decide);have a9:=gs_f HM1.out.b1;clear hb1)
    go_meet
    case rel=>exact⟨_,_,_,m,(HM1.out.putQ _ _).putT ((Only.refl _ _).setCell _ _) (gs_setR (HM1.out.putQ _ _).b2 d hd _ (Int.natCast_nonneg _)),by rw[Int.toNat_natCast];exact ldG_eq m s at' 2 (fun v=>t.setR d v)⟩
   ·have hbd:=ldN_2 HH.out.mok at'
    by_cases hv:32768≤ldN m at' 2
    ·have d1:decide (32768≤ldN m at' 2)=true:=decide_eq_true hv
     have d2:decide ((32768:Int)≤(ldN m at' 2:Int))=true:=decide_eq_true zo
     have hx:((ldN m at' 2:Int)+4294901760).toNat=sx 3 (ldN m at' 2):=by unfold sx;rw[if_neg zo,if_pos ⟨rfl,hv⟩];omega
     go_wp2_with (go_at_call 97;refine(rload_l k at' 2 m _ HH.out.a HH.out.mok (HB.out.below ((Below.refl _ _).alloc (Nat.le_refl _) _)).rm).mono ?_;rintro e1 w1 ⟨rfl,hb1⟩;have HM1:Hid _:=(HB.out.below ((Below.refl _ _).alloc (Nat.le_refl _) _)).below hb1;have t7:=gs_reg HM1.out.b2 7 (by decide);have tD:=gs_reg HM1.out.b2 d hd;have t8:=gs_pc HM1.out.b2;have t9:=gs_f HM1.out.b2;have tf:=gs_fr HM1.out.b2;obtain⟨q0,q1,qf0,qf1⟩:=stop_cells HM1.out.b5;obtain⟨i0,i1,i2,i3,i4⟩:=Gu.ins_cells HM1.out.b0;have aS:=gs_reg HM1.out.b1 e he;have aD:=gs_reg HM1.out.b1 d hd;have a7:=gs_reg HM1.out.b1 7 (by decide);have a9:=gs_f HM1.out.b1;clear hb1)
     go_meet
     case rel=>exact⟨_,_,_,m,(HM1.out.putQ _ _).putT ((Only.refl _ _).setCell _ _) (gs_setR (HM1.out.putQ _ _).b2 d hd _ zo),by rw[hx];exact ldG_eq m s at' 2 (fun v=>t.setR d (sx 3 v))⟩
    ·have d1:decide (32768≤ldN m at' 2)=false:=decide_eq_false hv
     have d2:decide ((32768:Int)≤(ldN m at' 2:Int))=false:=decide_eq_false zo
     have hx:sx 3 (ldN m at' 2)=ldN m at' 2:=by unfold sx;rw[if_neg zo,if_neg zo]
     go_wp2_with (go_at_call 97;refine(rload_l k at' 2 m _ HH.out.a HH.out.mok (HB.out.below ((Below.refl _ _).alloc (Nat.le_refl _) _)).rm).mono ?_;rintro e1 w1 ⟨rfl,hb1⟩;have HM1:Hid _:=(HB.out.below ((Below.refl _ _).alloc (Nat.le_refl _) _)).below hb1;have t7:=gs_reg HM1.out.b2 7 (by decide);have tD:=gs_reg HM1.out.b2 d hd;have t8:=gs_pc HM1.out.b2;have t9:=gs_f HM1.out.b2;have tf:=gs_fr HM1.out.b2;obtain⟨q0,q1,qf0,qf1⟩:=stop_cells HM1.out.b5;obtain⟨i0,i1,i2,i3,i4⟩:=Gu.ins_cells HM1.out.b0;have aS:=gs_reg HM1.out.b1 e he;have aD:=gs_reg HM1.out.b1 d hd;have a7:=gs_reg HM1.out.b1 7 (by decide);have a9:=gs_f HM1.out.b1;clear hb1)
     go_meet
     case rel=>exact⟨_,_,_,m,(HM1.out.putQ _ _).putT ((Only.refl _ _).setCell _ _) (gs_setR (HM1.out.putQ _ _).b2 d hd _ (Int.natCast_nonneg _)),by rw[Int.toNat_natCast,← hx];exact ldG_eq m s at' 2 (fun v=>t.setR d (sx 3 v))⟩
   ·go_wp2_with (go_at_call 97;refine(rload_l k at' 4 m _ HH.out.a HH.out.mok (HB.out.below ((Below.refl _ _).alloc (Nat.le_refl _) _)).rm).mono ?_;rintro e1 w1 ⟨rfl,hb1⟩;have HM1:Hid _:=(HB.out.below ((Below.refl _ _).alloc (Nat.le_refl _) _)).below hb1;have t7:=gs_reg HM1.out.b2 7 (by decide);have tD:=gs_reg HM1.out.b2 d hd;have t8:=gs_pc HM1.out.b2;have t9:=gs_f HM1.out.b2;have tf:=gs_fr HM1.out.b2;obtain⟨q0,q1,qf0,qf1⟩:=stop_cells HM1.out.b5;obtain⟨i0,i1,i2,i3,i4⟩:=Gu.ins_cells HM1.out.b0;have aS:=gs_reg HM1.out.b1 e he;have aD:=gs_reg HM1.out.b1 d hd;have a7:=gs_reg HM1.out.b1 7 (by decide);have a9:=gs_f HM1.out.b1;clear hb1)
    go_meet
    case rel=>exact⟨_,_,_,m,(HM1.out.putQ _ _).putT ((Only.refl _ _).setCell _ _) (gs_setR (HM1.out.putQ _ _).b2 d hd _ (Int.natCast_nonneg _)),by rw[Int.toNat_natCast];exact ldG_eq m s at' 4 (fun v=>t.setR d v)⟩
 case rest=>
  obtain⟨t',kk,aa,m',hM,hF⟩:=hcut
  by_cases hk:kk=0
  ·subst hk
   have HF:Hid (memF m ⟨op,d,e,O,im,n,ik,ia⟩ s t at'=⟨t',0,aa,m'⟩):=hF.trans (by rw[if_pos rfl])
   clear hF
   obtain⟨x0,x1,x2,x3,x4,x5,x6,x7,x8,x9⟩:=gs_all hM.b2
   obtain⟨z0,z1,z2,z3,z4,z5,z6,z7,z8,z9⟩:=gs_all hM.b3
   have zf:=gs_fr hM.b3
   obtain⟨p0,p1,pf0,pf1⟩:=stop_cells hM.b4
   obtain⟨y0,y1,yf0,yf1⟩:=stop_cells hM.b5
   have HM:Hid _:=hM
   clear hM HB HH HOP
   go_wp2
   go_region
   all_goals
    go_wp2
    exact bodyPost_ret (v:=.tuple #[gsV t',.agg #[.int .i64 0,.int .u32 aa]]) zq7 rfl ⟨by rw[HF.out],by
     rw[HF.out]
     have hB:=HM.out.rm
     have hl:=HM.out.lk
     repeat first
      | with_reducible exact hB
      | with_reducible refine RM.drew ?_
      | with_reducible refine RM.setOff' ?_ hl zo _ _,by
     have hB:=HM.out.chg
     repeat first
      | with_reducible exact hB
      | with_reducible refine Chg.drew ?_
      | with_reducible refine Chg.setNew ?_ zo _ _⟩
  ·have hk2:(kk==0)=false:=by simpa using hk
   have HF:Hid (memF m ⟨op,d,e,O,im,n,ik,ia⟩ s t at'=⟨s,kk,aa,m'⟩):=hF.trans (by rw[if_neg hk])
   clear hF
   obtain⟨x0,x1,x2,x3,x4,x5,x6,x7,x8,x9⟩:=gs_all hM.b1
   obtain⟨z0,z1,z2,z3,z4,z5,z6,z7,z8,z9⟩:=gs_all hM.b3
   have zf:=gs_fr hM.b3
   obtain⟨p0,p1,pf0,pf1⟩:=stop_cells hM.b4
   obtain⟨y0,y1,yf0,yf1⟩:=stop_cells hM.b5
   have HM:Hid _:=hM
   clear hM HB HH HOP
   go_wp2
   go_region
   all_goals
    go_wp2
    exact bodyPost_ret (v:=.tuple #[gsV s,.agg #[.int .i64 kk,.int .u32 aa]]) zq7 rfl ⟨by rw[HF.out],by
     rw[HF.out]
     have hB:=HM.out.rm
     have hl:=HM.out.lk
     repeat first
      | with_reducible exact hB
      | with_reducible refine RM.drew ?_
      | with_reducible refine RM.setOff' ?_ hl zo _ _,by
     have hB:=HM.out.chg
     repeat first
      | with_reducible exact hB
      | with_reducible refine Chg.drew ?_
      | with_reducible refine Chg.setNew ?_ zo _ _⟩
theorem rload_b(k:RB)(a x:Nat)(n:Int)(m:MS)(w:World)(ha:a < 4294967296)(hm:m.Ok)(h:RM w k m)(hx:badN m 1 a n.toNat=some x) :
  Calls Tryz.prog 97 #[.pointer (some ⟨k.y,0,none⟩),.int .u32 a,.int .i64 n] w fun e w'=>e=.returned (.tuple #[.int .u32 (ldN m a n),.agg #[.int .i64 5,.int .u32 x]])∧Below w.heap.size w w':=
 (rload_l k a n m w ha hm h).mono fun e w' ⟨he,hb⟩=>⟨by rw[he,hx];rfl,hb⟩
theorem rload_n(k:RB)(a:Nat)(n:Int)(m:MS)(w:World)(ha:a < 4294967296)(hm:m.Ok)(h:RM w k m)(hx:badN m 1 a n.toNat=none) :
  Calls Tryz.prog 97 #[.pointer (some ⟨k.y,0,none⟩),.int .u32 a,.int .i64 n] w fun e w'=>e=.returned (.tuple #[.int .u32 (ldN m a n),.agg #[.int .i64 0,.int .u32 0]])∧Below w.heap.size w w':=
 (rload_l k a n m w ha hm h).mono fun e w' ⟨he,hb⟩=>⟨by rw[he,hx];rfl,hb⟩
theorem MmB.nT{w0 w:World}{k:RB}{m:MS}{i:IR}{s t:GS}{kk aa:Int}(h:MmB w0 w k m i s t kk aa):w0.heap.size+1+1∉k.y :: k.all:=fun hm=>by have:=h.lk _ hm;omega
theorem MmB.swin{w0 w:World}{k:RB}{m:MS}{i:IR}{s t:GS}{kk aa:Int}{at':Nat}(h:MmB w0 w k m i s t kk aa)(H:MmIn w0 k m i s t at'):SwIn w k m s t (w0.heap.size+1+1) i.D at' (ldN m at' 4):=
 ⟨h.rm,H.mok,H.sok,h.b2,h.nT,Nat.lt_succ_of_le H.iok.D1,H.a,ldN_lt H.mok _ _⟩
theorem MmB.afterT{w0 w w':World}{k:RB}{m m':MS}{i:IR}{s t t':GS}{kk aa:Int}(h:MmB w0 w k m i s t kk aa)(hb:w'.heap[w0.heap.size+1+1]?=some (gsB t'))(hR:RM w' k m')(hc:Chg ((w0.heap.size+1+1) :: k.all) w w'):MmB w0 w' k m' i s t' kk aa:=by
 have hn:∀ b,w0.heap.size≤b→b≠w0.heap.size+1+1→b∉(w0.heap.size+1+1) :: k.all:=fun b hb hne hm=>by
  rcases List.mem_cons.1 hm with e|e
  ·exact hne e
  ·have:=h.lk b (List.mem_cons_of_mem _ e);omega
 have hz:=h.chg.size
 refine⟨hR,?_,(hc.block _ (lt_of_block h.b0) (hn _ zo zo)).trans h.b0,(hc.block _ (lt_of_block h.b1) (hn _ zo zo)).trans h.b1,hb,(hc.block _ (lt_of_block h.b3) (hn _ zo zo)).trans h.b3,(hc.block _ (lt_of_block h.b4) (hn _ zo zo)).trans h.b4,(hc.block _ (lt_of_block h.b5) (hn _ zo zo)).trans h.b5,h.lk⟩
 exact⟨hc.os.trans h.chg.os,hc.tape.trans h.chg.tape,hc.output.trans h.chg.output,Nat.le_trans hz hc.size,fun b hb hs=>(hc.block b zo (fun hm=>by
  rcases List.mem_cons.1 hm with e|e
  ·omega
  ·exact hs e)).trans (h.chg.block b hb hs)⟩
theorem rmem5(k:RB)(m:MS)(i:IR)(s t:GS)(at':Nat)(w:World)(H:MmIn w k m i s t at')(hop:i.op=24∨i.op=25∨i.op=26) :
  Calls Tryz.prog 66 #[.pointer (some ⟨k.y,0,none⟩),insA i.op i.D i.S i.O i.imm,gsV s,gsV t,.int .u32 at'] w fun e w'=>
   e=.returned (.tuple #[gsV (memF m i s t at').t,.agg #[.int .i64 (memF m i s t at').k,.int .u32 (memF m i s t at').a]])∧RM w' k (memF m i s t at').m∧Chg k.all w w':=by
 obtain⟨op,d,e,O,im,n,ik,ia⟩:=i
 have HH:Hid _:=H
 have HB:Hid (MmB w (mmW w ⟨op,d,e,O,im,n,ik,ia⟩ s t) k m ⟨op,d,e,O,im,n,ik,ia⟩ s t 0 0):=mm_start H.rm
 have HOP:Hid (op=24∨op=25∨op=26):=hop
 clear H hop
 go_enter Tryz.func66,Tryz.ntmps66
 go_upto_block 0 with fail
 rw[← w32_cast]
 change Code.wp _ _ _ _ (mmW w ⟨op,d,e,O,im,n,ik,ia⟩ s t)
 generalize mmW w ⟨op,d,e,O,im,n,ik,ia⟩ s t=W at HB ⊢
 go_cut [14] from 16 (fun x wx=>∃ (t':GS) (kk aa:Int) (m':MS),MmB w wx k m' ⟨op,d,e,O,im,n,ik,ia⟩ s t' kk aa∧memF m ⟨op,d,e,O,im,n,ik,ia⟩ s t at'=⟨if kk=0 then t' else s,kk,aa,m'⟩)
 case first=>
  have hd:d < 8:=Nat.lt_succ_of_le HH.out.iok.D1
  have he:e < 8:=Nat.lt_succ_of_le HH.out.iok.S1
  have hd0:(0:Int)≤d:=zo
  have hd1:(d:Int) < 8:=zo
  have he0:(0:Int)≤e:=zo
  have he1:(e:Int) < 8:=zo
  obtain⟨i0,i1,i2,i3,i4⟩:=Gu.ins_cells HB.out.b0
  have aS:=gs_reg HB.out.b1 e he
  have aD:=gs_reg HB.out.b1 d hd
  have a7:=gs_reg HB.out.b1 7 (by decide)
  have a9:=gs_f HB.out.b1
  have hcase:∀ o,badN m 1 at' (4:Int).toNat=o→badN m 1 at' 4=o:=fun o h=>h
  have c11:(op==11)=false:=by have:=HOP.out;simp;omega
  have c14:(op==14)=false:=by have:=HOP.out;simp;omega
  have c3:(op==3)=false:=by have:=HOP.out;simp;omega
  have c8:(op==8)=false:=by have:=HOP.out;simp;omega
  have c10:(op==10)=false:=by have:=HOP.out;simp;omega
  have c15:(op==15)=false:=by have:=HOP.out;simp;omega
  have c4:(op==4)=false:=by have:=HOP.out;simp;omega
  have c2:(op==2)=false:=by have:=HOP.out;simp;omega
  have c30:(op==30)=false:=by have:=HOP.out;simp;omega
  have c31:(op==31)=false:=by have:=HOP.out;simp;omega
  have HE:Hid (memF m ⟨op,d,e,O,im,n,ik,ia⟩ s t at'=match badN m 1 at' 4 with
   | some x=>⟨s,5,x,m⟩
   | none=>swG m ⟨op,d,e,O,im,n,ik,ia⟩ s t at' (ldN m at' 4)):=by
    have:=HOP.out
    show memF _ _ _ _ _=_
    unfold memF
    simp only
    rw[if_neg zo,if_neg zo,if_neg zo,if_neg zo,if_neg zo,if_neg zo,if_neg zo,if_neg zo,if_neg zo,if_neg zo]
    cases badN m 1 at' 4<;>rfl
  cases hb:badN m 1 at' (4:Int).toNat with
  | some x=>
   have HX:Hid (badN m 1 at' (4:Int).toNat=some x):=hb
   have HE2:Hid (memF m ⟨op,d,e,O,im,n,ik,ia⟩ s t at'=⟨s,5,x,m⟩):=HE.out.trans (by rw[hcase _ hb])
   clear hb hcase HE
   go_wp2_with (go_at_call 97;refine(rload_b k at' x 4 m _ HH.out.a HH.out.mok HB.out.rm HX.out).mono ?_;rintro e1 w1 ⟨rfl,hb1⟩;have HM1:Hid _:=HB.out.below hb1;obtain⟨q0,q1,qf0,qf1⟩:=stop_cells HM1.out.b5;clear hb1)
   go_meet
   case rel=>exact⟨_,_,_,m,HM1.out.putQ _ _,HE2.out⟩
  | none=>
   have HX:Hid (badN m 1 at' (4:Int).toNat=none):=hb
   have HE2:Hid (memF m ⟨op,d,e,O,im,n,ik,ia⟩ s t at'=swG m ⟨op,d,e,O,im,n,ik,ia⟩ s t at' (ldN m at' 4)):=HE.out.trans (by rw[hcase _ hb])
   clear hb hcase HE
   go_wp2_with (first
    | (go_at_call 97;refine(rload_n k at' 4 m _ HH.out.a HH.out.mok HB.out.rm HX.out).mono ?_;rintro e1 w1 ⟨rfl,hb1⟩;have HM1:Hid _:=HB.out.below hb1;obtain⟨x0,x1,x2,x3,x4,x5,x6,x7,x8,x9⟩:=gs_all HM1.out.b1;obtain⟨q0,q1,qf0,qf1⟩:=stop_cells HM1.out.b5;obtain⟨i0,i1,i2,i3,i4⟩:=Gu.ins_cells HM1.out.b0;clear hb1)
    | (go_at_call 99;refine(rswap_any k m ⟨op,d,e,O,im,n,ik,ia⟩ s t _ at' (ldN m at' 4) _ ((HM1.out.putQ 0 0).swin HH.out) HOP.out).mono ?_;rintro e2 w2 ⟨rfl,hT2,hR2,hC2⟩;have HM2:Hid _:=(HM1.out.putQ 0 0).afterT hT2 hR2 hC2;obtain⟨p0,p1,pf0,pf1⟩:=stop_cells HM2.out.b5;clear hT2 hR2 hC2))
   go_meet
   case rel=>exact⟨_,_,_,_,HM2.out.putQ _ _,HE2.out.trans (stG_eq ..)⟩
 case rest=>
  obtain⟨t',kk,aa,m',hM,hF⟩:=hcut
  by_cases hk:kk=0
  ·subst hk
   have HF:Hid (memF m ⟨op,d,e,O,im,n,ik,ia⟩ s t at'=⟨t',0,aa,m'⟩):=hF.trans (by rw[if_pos rfl])
   clear hF
   obtain⟨x0,x1,x2,x3,x4,x5,x6,x7,x8,x9⟩:=gs_all hM.b2
   obtain⟨z0,z1,z2,z3,z4,z5,z6,z7,z8,z9⟩:=gs_all hM.b3
   have zf:=gs_fr hM.b3
   obtain⟨p0,p1,pf0,pf1⟩:=stop_cells hM.b4
   obtain⟨y0,y1,yf0,yf1⟩:=stop_cells hM.b5
   have HM:Hid _:=hM
   clear hM HB HH HOP
   go_wp2
   go_region
   all_goals
    go_wp2
    exact bodyPost_ret (v:=.tuple #[gsV t',.agg #[.int .i64 0,.int .u32 aa]]) zq7 rfl ⟨by rw[HF.out],by
     rw[HF.out]
     have hB:=HM.out.rm
     have hl:=HM.out.lk
     repeat first
      | with_reducible exact hB
      | with_reducible refine RM.drew ?_
      | with_reducible refine RM.setOff' ?_ hl zo _ _,by
     have hB:=HM.out.chg
     repeat first
      | with_reducible exact hB
      | with_reducible refine Chg.drew ?_
      | with_reducible refine Chg.setNew ?_ zo _ _⟩
  ·have hk2:(kk==0)=false:=by simpa using hk
   have HF:Hid (memF m ⟨op,d,e,O,im,n,ik,ia⟩ s t at'=⟨s,kk,aa,m'⟩):=hF.trans (by rw[if_neg hk])
   clear hF
   obtain⟨x0,x1,x2,x3,x4,x5,x6,x7,x8,x9⟩:=gs_all hM.b1
   obtain⟨z0,z1,z2,z3,z4,z5,z6,z7,z8,z9⟩:=gs_all hM.b3
   have zf:=gs_fr hM.b3
   obtain⟨p0,p1,pf0,pf1⟩:=stop_cells hM.b4
   obtain⟨y0,y1,yf0,yf1⟩:=stop_cells hM.b5
   have HM:Hid _:=hM
   clear hM HB HH HOP
   go_wp2
   go_region
   all_goals
    go_wp2
    exact bodyPost_ret (v:=.tuple #[gsV s,.agg #[.int .i64 kk,.int .u32 aa]]) zq7 rfl ⟨by rw[HF.out],by
     rw[HF.out]
     have hB:=HM.out.rm
     have hl:=HM.out.lk
     repeat first
      | with_reducible exact hB
      | with_reducible refine RM.drew ?_
      | with_reducible refine RM.setOff' ?_ hl zo _ _,by
     have hB:=HM.out.chg
     repeat first
      | with_reducible exact hB
      | with_reducible refine Chg.drew ?_
      | with_reducible refine Chg.setNew ?_ zo _ _⟩
end Go.Proofs.YtfokgedjocnnmaaGreat
