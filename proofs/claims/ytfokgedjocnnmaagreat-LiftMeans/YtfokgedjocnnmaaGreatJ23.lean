import Derived.Test.YtfokgedjocnnmaaGreatJ22
set_option linter.unusedVariables false
set_option linter.unusedSimpArgs false
set_option maxHeartbeats 4000000
namespace Go.Proofs.YtfokgedjocnnmaaGreat
open Go.RowKit
set_option maxRecDepth 100000
theorem rstep3(k:RB)(m:MS)(s0 s:GS)(i:IR)(w:World)(hrm:RM w k m)(hs0:s0.Ok)(hs:s0.setF (s0.f%16)=s)
  (hins:∀ w1,RM w1 k m→Calls Tryz.prog 23 #[.pointer (some ⟨k.y,0,none⟩),.int .u32 s.pc] w1 fun e w'=>e=.returned (insV i)∧Below w1.heap.size w1 w') (hk:i.k=0) (hok:InsOk i) (hop:i.op=12∨i.op=13) :
  Calls Tryz.prog 32 #[.pointer (some ⟨k.y,0,none⟩),gsV s0] w fun e w'=>
   e=.returned (.tuple #[gsV (stepH m s i).t,.agg #[.int .i64 (stepH m s i).k,.int .u32 (stepH m s i).a]])∧RM w' k (stepH m s i).m∧Chg k.all w w':=by
 obtain⟨op,d,e,O,im,n,ik,ia⟩:=i
 have HA:Hid (StA w (stW0 w (s0.setF (s0.f%16))) k m (s0.setF (s0.f%16))):=st_start hrm
 have HF16:Hid ((s0.f:Int)%16=((s0.f%16:Nat):Int)):=(Int.natCast_emod s0.f 16).symm
 have HI:Hid _:=hins
 have HS:Hid (s0.setF (s0.f%16)=s):=hs
 have HSO:Hid s.Ok:=hs▸hs0.setF _ zo
 simp only at hk
 subst hk
 have HOP:Hid (op=12∨op=13):=hop
 have HOK:Hid _:=hok
 have hd:d < 8:=Nat.lt_succ_of_le hok.D1
 have he:e < 8:=Nat.lt_succ_of_le hok.S1
 have hd0:(0:Int)≤d:=Int.natCast_nonneg _
 have hd1:(d:Int) < 8:=zo
 have he0:(0:Int)≤e:=Int.natCast_nonneg _
 have he1:(e:Int) < 8:=zo
 have hn0:(0:Int)≤n:=Int.natCast_nonneg _
 have hn1:(n:Int) < 4294967296:=by have h9:n≤9:=hok.n1;omega
 clear hop hok
 clear hrm hins hs hs0
 go_enter Tryz.func32,Tryz.ntmps32
 go_upto_region 2 with fail
 rw[HF16.out]
 change Code.wp _ _ _ _ (stW0 w (s0.setF (s0.f%16)))
 have HA':=HA.out
 rw[HS.out] at HA' ⊢
 clear HA
 have HA:Hid _:=HA'
 clear HA'
 generalize stW0 w s=W at HA ⊢
 have c8:=gs_pc HA.out.b0
 have aS0:=gs_reg HA.out.b0 e he
 clear aS0
 go_upto_block 0 with (go_at_call 23;refine(HI.out _ HA.out.rm).mono ?_;rintro e1 w1 ⟨rfl,hb1⟩;have HA1:Hid (StA w w1 k m s):=HA.out.below hb1;clear hb1;obtain⟨x0,x1,x2,x3,x4,x5,x6,x7,x8,x9⟩:=gs_all HA1.out.b0;have l0:=lt_of_block HA1.out.b0;have l1:=lt_of_block HA1.out.b1;have l2:=lt_of_block HA1.out.b2;have xD:=gs_reg HA1.out.b0 d hd;have xE:=gs_reg HA1.out.b0 e he;have l01:=Nat.lt_succ_of_lt l0;have l02:=Nat.lt_succ_of_lt l01)
 rw[← w32_cast ((s.pc:Int)+n),← w32_cast ((s.R e:Int)+im)]
 change Code.wp _ _ _ _ (((w1.alloc (Gu.insB op d e O im)).alloc (stopB 0 ia)).alloc (gsB (s.setPC (w32 ((s.pc:Int)+n)))))
 have HB:Hid (StB w (((w1.alloc (Gu.insB op d e O im)).alloc (stopB 0 ia)).alloc (gsB (s.setPC (w32 ((s.pc:Int)+n))))) k m s ⟨op,d,e,O,im,n,0,ia⟩ (s.setPC (w32 ((s.pc:Int)+n))) w1.heap.size):=stB_start (i:=⟨op,d,e,O,im,n,0,ia⟩) HA1.out 0 ia
 clear x0 x1 x2 x3 x4 x5 x6 x7 x8 x9 l0 l1 l2 l01 l02 xD xE HA1 HA c8 HI
 generalize (((w1.alloc (Gu.insB op d e O im)).alloc (stopB 0 ia)).alloc (gsB (s.setPC (w32 ((s.pc:Int)+n)))))=W2 at HB ⊢
 generalize w1.heap.size=q at HB ⊢
 have HNL:Hid (w32 ((s.pc:Int)+n) < 4294967296):=w32_lt _
 have ci:=Gu.ins_cells HB.out.b3
 obtain⟨i0,i1,i2,i3,i4⟩:=ci
 have aS:=gs_reg HB.out.a.b0 e he
 have aD:=gs_reg HB.out.a.b0 d hd
 have a9:=gs_f HB.out.a.b0
 have tD:=gs_reg HB.out.b5 d hd
 have t8:=gs_pc HB.out.b5
 have t9:=gs_f HB.out.b5
 have tf:=gs_fr HB.out.b5
 have hq0:=HB.out.hq
 have hd8:¬d=9:=zo
 have hd8':¬9=d:=zo
 have hne:¬(w.heap.size=q+1+1):=zo
 have hne1:¬(q+1+1=w.heap.size):=zo
 go_cut [] from 14 (fun wx=>∃ t':GS,StB w wx k m s ⟨op,d,e,O,im,n,0,ia⟩ t' q∧stepH m s ⟨op,d,e,O,im,n,0,ia⟩=⟨t',0,0,m⟩)
 case first=>
  rcases HOP.out with rfl|rfl
  ·have HE:Hid (stepH m s ⟨12,d,e,O,im,n,0,ia⟩=⟨if Fl.holdsF O s.f then(s.setPC (w32 ((s.pc:Int)+n))).setPC (w32 ((w32 ((s.pc:Int)+n):Int)+im)) else(s.setPC (w32 ((s.pc:Int)+n))),0,0,m⟩):=rfl
   by_cases hh:Fl.holdsF O s.f=true
   ·have HHH:Hid (Fl.holdsF O s.f=true):=hh
    clear hh
    go_wp2_with (go_at_call 63;refine(Fl.holds_any O s.f _ HSO.out.f).mono ?_;rintro e2 w2 ⟨rfl,hb2⟩;have HB2:Hid _:=HB.out.below hb2;obtain⟨i0,i1,i2,i3,i4⟩:=Gu.ins_cells HB2.out.b3;have tD:=gs_reg HB2.out.b5 d hd;have t8:=gs_pc HB2.out.b5;have t9:=gs_f HB2.out.b5;have tf:=gs_fr HB2.out.b5;have a9:=gs_f HB2.out.a.b0;rw[HHH.out];clear hb2)
    go_meet
    case rel=>exact⟨_,HB2.out.putT ((Only.refl _ _).setCell _ _) (gs_setPC HB2.out.b5 _ (Int.emod_nonneg _ (by decide))),HE.out.trans (by rw[HHH.out];rfl)⟩
   ·have HHH:Hid (Fl.holdsF O s.f=false):=Bool.eq_false_iff.2 hh
    clear hh
    go_wp2_with (go_at_call 63;refine(Fl.holds_any O s.f _ HSO.out.f).mono ?_;rintro e2 w2 ⟨rfl,hb2⟩;have HB2:Hid _:=HB.out.below hb2;obtain⟨i0,i1,i2,i3,i4⟩:=Gu.ins_cells HB2.out.b3;have tD:=gs_reg HB2.out.b5 d hd;have t8:=gs_pc HB2.out.b5;have t9:=gs_f HB2.out.b5;have tf:=gs_fr HB2.out.b5;have a9:=gs_f HB2.out.a.b0;rw[HHH.out];clear hb2)
    go_meet
    case rel=>exact⟨_,HB2.out,HE.out.trans (by rw[HHH.out];rfl)⟩
  ·have HE:Hid (stepH m s ⟨13,d,e,O,im,n,0,ia⟩=⟨if Fl.holdsF O s.f then(s.setPC (w32 ((s.pc:Int)+n))).setPC (w32 ((w32 ((s.pc:Int)+n):Int)+im)) else(s.setPC (w32 ((s.pc:Int)+n))),0,0,m⟩):=rfl
   by_cases hh:Fl.holdsF O s.f=true
   ·have HHH:Hid (Fl.holdsF O s.f=true):=hh
    clear hh
    go_wp2_with (go_at_call 63;refine(Fl.holds_any O s.f _ HSO.out.f).mono ?_;rintro e2 w2 ⟨rfl,hb2⟩;have HB2:Hid _:=HB.out.below hb2;obtain⟨i0,i1,i2,i3,i4⟩:=Gu.ins_cells HB2.out.b3;have tD:=gs_reg HB2.out.b5 d hd;have t8:=gs_pc HB2.out.b5;have t9:=gs_f HB2.out.b5;have tf:=gs_fr HB2.out.b5;have a9:=gs_f HB2.out.a.b0;rw[HHH.out];clear hb2)
    go_meet
    case rel=>exact⟨_,HB2.out.putT ((Only.refl _ _).setCell _ _) (gs_setPC HB2.out.b5 _ (Int.emod_nonneg _ (by decide))),HE.out.trans (by rw[HHH.out];rfl)⟩
   ·have HHH:Hid (Fl.holdsF O s.f=false):=Bool.eq_false_iff.2 hh
    clear hh
    go_wp2_with (go_at_call 63;refine(Fl.holds_any O s.f _ HSO.out.f).mono ?_;rintro e2 w2 ⟨rfl,hb2⟩;have HB2:Hid _:=HB.out.below hb2;obtain⟨i0,i1,i2,i3,i4⟩:=Gu.ins_cells HB2.out.b3;have tD:=gs_reg HB2.out.b5 d hd;have t8:=gs_pc HB2.out.b5;have t9:=gs_f HB2.out.b5;have tf:=gs_fr HB2.out.b5;have a9:=gs_f HB2.out.a.b0;rw[HHH.out];clear hb2)
    go_meet
    case rel=>exact⟨_,HB2.out,HE.out.trans (by rw[HHH.out];rfl)⟩
 case rest=>
  obtain⟨t',hM,hF⟩:=hcut
  have HF:Hid (stepH m s ⟨op,d,e,O,im,n,0,ia⟩=⟨t',0,0,m⟩):=hF
  obtain⟨x0,x1,x2,x3,x4,x5,x6,x7,x8,x9⟩:=gs_all hM.b5
  obtain⟨z0,z1,z2,z3,z4,z5,z6,z7,z8,z9⟩:=gs_all hM.a.b1
  have zf:=gs_fr hM.a.b1
  obtain⟨p0,p1,pf0,pf1⟩:=stop_cells hM.a.b2
  have l0:=lt_of_block hM.a.b0
  have l1:=lt_of_block hM.a.b1
  have l2:=lt_of_block hM.a.b2
  have HM:Hid _:=hM
  clear hM hF i0 i1 i2 i3 i4 aS aD a9 tD t8 t9 tf HB
  go_wp2
  exact bodyPost_ret (v:=.tuple #[gsV t',.agg #[.int .i64 0,.int .u32 0]]) zq8 rfl ⟨by rw[HF.out],by
   rw[HF.out]
   have hB:=HM.out.a.rm
   have hl:=HM.out.a.lk
   repeat first
    | with_reducible exact hB
    | with_reducible refine RM.drew ?_
    | with_reducible refine RM.setOff' ?_ hl zo _ _
    | with_reducible refine RM.alloc ?_ _,by
   have hB:=HM.out.a.chg
   repeat first
    | with_reducible exact hB
    | with_reducible refine Chg.drew ?_
    | with_reducible refine Chg.setNew ?_ zo _ _
    | with_reducible refine Chg.alloc ?_ _⟩
theorem rstep5(k:RB)(m:MS)(s0 s:GS)(i:IR)(w:World)(hrm:RM w k m)(hs0:s0.Ok)(hs:s0.setF (s0.f%16)=s)
  (hins:∀ w1,RM w1 k m→Calls Tryz.prog 23 #[.pointer (some ⟨k.y,0,none⟩),.int .u32 s.pc] w1 fun e w'=>e=.returned (insV i)∧Below w1.heap.size w1 w') (hk:i.k=0) (hok:InsOk i) (hop:i.op=27∨i.op=28∨i.op=29) :
  Calls Tryz.prog 32 #[.pointer (some ⟨k.y,0,none⟩),gsV s0] w fun e w'=>
   e=.returned (.tuple #[gsV (stepH m s i).t,.agg #[.int .i64 (stepH m s i).k,.int .u32 (stepH m s i).a]])∧RM w' k (stepH m s i).m∧Chg k.all w w':=by
 obtain⟨op,d,e,O,im,n,ik,ia⟩:=i
 have HA:Hid (StA w (stW0 w (s0.setF (s0.f%16))) k m (s0.setF (s0.f%16))):=st_start hrm
 have HF16:Hid ((s0.f:Int)%16=((s0.f%16:Nat):Int)):=(Int.natCast_emod s0.f 16).symm
 have HI:Hid _:=hins
 have HS:Hid (s0.setF (s0.f%16)=s):=hs
 have HSO:Hid s.Ok:=hs▸hs0.setF _ zo
 simp only at hk
 subst hk
 have HOP:Hid (op=27∨op=28∨op=29):=hop
 have HOK:Hid _:=hok
 have hd:d < 8:=Nat.lt_succ_of_le hok.D1
 have he:e < 8:=Nat.lt_succ_of_le hok.S1
 have hd0:(0:Int)≤d:=Int.natCast_nonneg _
 have hd1:(d:Int) < 8:=zo
 have he0:(0:Int)≤e:=Int.natCast_nonneg _
 have he1:(e:Int) < 8:=zo
 have hn0:(0:Int)≤n:=Int.natCast_nonneg _
 have hn1:(n:Int) < 4294967296:=by have h9:n≤9:=hok.n1;omega
 clear hop hok
 clear hrm hins hs hs0
 go_enter Tryz.func32,Tryz.ntmps32
 go_upto_region 2 with fail
 rw[HF16.out]
 change Code.wp _ _ _ _ (stW0 w (s0.setF (s0.f%16)))
 have HA':=HA.out
 rw[HS.out] at HA' ⊢
 clear HA
 have HA:Hid _:=HA'
 clear HA'
 generalize stW0 w s=W at HA ⊢
 have c8:=gs_pc HA.out.b0
 have aS0:=gs_reg HA.out.b0 e he
 clear aS0
 go_upto_block 0 with (go_at_call 23;refine(HI.out _ HA.out.rm).mono ?_;rintro e1 w1 ⟨rfl,hb1⟩;have HA1:Hid (StA w w1 k m s):=HA.out.below hb1;clear hb1;obtain⟨x0,x1,x2,x3,x4,x5,x6,x7,x8,x9⟩:=gs_all HA1.out.b0;have l0:=lt_of_block HA1.out.b0;have l1:=lt_of_block HA1.out.b1;have l2:=lt_of_block HA1.out.b2;have xD:=gs_reg HA1.out.b0 d hd;have xE:=gs_reg HA1.out.b0 e he;have l01:=Nat.lt_succ_of_lt l0;have l02:=Nat.lt_succ_of_lt l01)
 rw[← w32_cast ((s.pc:Int)+n),← w32_cast ((s.R e:Int)+im)]
 change Code.wp _ _ _ _ (((w1.alloc (Gu.insB op d e O im)).alloc (stopB 0 ia)).alloc (gsB (s.setPC (w32 ((s.pc:Int)+n)))))
 have HB:Hid (StB w (((w1.alloc (Gu.insB op d e O im)).alloc (stopB 0 ia)).alloc (gsB (s.setPC (w32 ((s.pc:Int)+n))))) k m s ⟨op,d,e,O,im,n,0,ia⟩ (s.setPC (w32 ((s.pc:Int)+n))) w1.heap.size):=stB_start (i:=⟨op,d,e,O,im,n,0,ia⟩) HA1.out 0 ia
 clear x0 x1 x2 x3 x4 x5 x6 x7 x8 x9 l0 l1 l2 l01 l02 xD xE HA1 HA c8 HI
 generalize (((w1.alloc (Gu.insB op d e O im)).alloc (stopB 0 ia)).alloc (gsB (s.setPC (w32 ((s.pc:Int)+n)))))=W2 at HB ⊢
 generalize w1.heap.size=q at HB ⊢
 have HNL:Hid (w32 ((s.pc:Int)+n) < 4294967296):=w32_lt _
 have ci:=Gu.ins_cells HB.out.b3
 obtain⟨i0,i1,i2,i3,i4⟩:=ci
 have aS:=gs_reg HB.out.a.b0 e he
 have aD:=gs_reg HB.out.a.b0 d hd
 have a9:=gs_f HB.out.a.b0
 have tD:=gs_reg HB.out.b5 d hd
 have t8:=gs_pc HB.out.b5
 have t9:=gs_f HB.out.b5
 have tf:=gs_fr HB.out.b5
 have hq0:=HB.out.hq
 have hd8:¬d=9:=zo
 have hd8':¬9=d:=zo
 have hne:¬(w.heap.size=q+1+1):=zo
 have hne1:¬(q+1+1=w.heap.size):=zo
 go_cut [] from 14 (fun wx=>∃ t':GS,StB w wx k m s ⟨op,d,e,O,im,n,0,ia⟩ t' q∧stepH m s ⟨op,d,e,O,im,n,0,ia⟩=⟨t',0,0,m⟩)
 case first=>
  rcases HOP.out with rfl|rfl|rfl
  ·have HE:Hid (stepH m s ⟨27,d,e,O,im,n,0,ia⟩=if Fl.recOk O (s.R e) then⟨((s.setPC (w32 ((s.pc:Int)+n))).setR d (Fl.recX O (s.R d) (s.R e) s.f).toNat).setF (Fl.recFl O (s.R d) (s.R e) s.f).toNat,0,0,m⟩ else⟨s,7,0,m⟩):=rfl
   by_cases hh:Fl.recOk O (s.R e)=true
   ·have HRK:Hid (Fl.recOk O (s.R e)=true):=hh
    clear hh
    go_wp2_with (go_at_call 65;refine(Fl.reck_any O (s.R d) (s.R e) s.f _ (HSO.out.r d) (HSO.out.r e) HSO.out.f).mono ?_;rintro e2 w2 ⟨rfl,rfl⟩;rw[HRK.out])
    go_meet
    case rel=>exact⟨_,HB.out.putT (((Only.refl _ _).setCell _ _).setCell _ _) (gs_setF (gs_setR HB.out.b5 d hd _ (recX_bd O (s.R d) (s.R e) s.f (HSO.out.r d) (HSO.out.r e)).1) _ (recFl_bd _ _ _ _).1),HE.out.trans (by rw[HRK.out];rfl)⟩
   ·have HRK:Hid (Fl.recOk O (s.R e)=false):=Bool.eq_false_iff.2 hh
    clear hh
    have HF:Hid (stepH m s ⟨27,d,e,O,im,n,0,ia⟩=⟨s,7,0,m⟩):=HE.out.trans (by rw[HRK.out];rfl)
    obtain⟨x0,x1,x2,x3,x4,x5,x6,x7,x8,x9⟩:=gs_all HB.out.a.b0
    obtain⟨z0,z1,z2,z3,z4,z5,z6,z7,z8,z9⟩:=gs_all HB.out.a.b1
    have zf:=gs_fr HB.out.a.b1
    obtain⟨p0,p1,pf0,pf1⟩:=stop_cells HB.out.a.b2
    have l0:=lt_of_block HB.out.a.b0
    have l1:=lt_of_block HB.out.a.b1
    have l2:=lt_of_block HB.out.a.b2
    go_wp2_with (go_at_call 65;refine(Fl.reck_any O (s.R d) (s.R e) s.f _ (HSO.out.r d) (HSO.out.r e) HSO.out.f).mono ?_;rintro e2 w2 ⟨rfl,rfl⟩;rw[HRK.out])
    exact bodyPost_ret (v:=.tuple #[gsV s,.agg #[.int .i64 7,.int .u32 0]]) zq8 rfl ⟨by rw[HF.out],by
     rw[HF.out]
     have hB:=HB.out.a.rm
     have hl:=HB.out.a.lk
     repeat first
      | with_reducible exact hB
      | with_reducible refine RM.drew ?_
      | with_reducible refine RM.setOff' ?_ hl zo _ _
      | with_reducible refine RM.alloc ?_ _,by
     have hB:=HB.out.a.chg
     repeat first
      | with_reducible exact hB
      | with_reducible refine Chg.drew ?_
      | with_reducible refine Chg.setNew ?_ zo _ _
      | with_reducible refine Chg.alloc ?_ _⟩
  ·have HE:Hid (stepH m s ⟨28,d,e,O,im,n,0,ia⟩=if Fl.recOk O im then⟨((s.setPC (w32 ((s.pc:Int)+n))).setR d (Fl.recX O (s.R d) im s.f).toNat).setF (Fl.recFl O (s.R d) im s.f).toNat,0,0,m⟩ else⟨s,7,0,m⟩):=rfl
   by_cases hh:Fl.recOk O im=true
   ·have HRK:Hid (Fl.recOk O im=true):=hh
    clear hh
    go_wp2_with (go_at_call 65;refine(Fl.reck_any O (s.R d) im s.f _ (HSO.out.r d) HOK.out.im HSO.out.f).mono ?_;rintro e2 w2 ⟨rfl,rfl⟩;rw[HRK.out])
    go_meet
    case rel=>exact⟨_,HB.out.putT (((Only.refl _ _).setCell _ _).setCell _ _) (gs_setF (gs_setR HB.out.b5 d hd _ (recX_bd O (s.R d) im s.f (HSO.out.r d) HOK.out.im).1) _ (recFl_bd _ _ _ _).1),HE.out.trans (by rw[HRK.out];rfl)⟩
   ·have HRK:Hid (Fl.recOk O im=false):=Bool.eq_false_iff.2 hh
    clear hh
    have HF:Hid (stepH m s ⟨28,d,e,O,im,n,0,ia⟩=⟨s,7,0,m⟩):=HE.out.trans (by rw[HRK.out];rfl)
    obtain⟨x0,x1,x2,x3,x4,x5,x6,x7,x8,x9⟩:=gs_all HB.out.a.b0
    obtain⟨z0,z1,z2,z3,z4,z5,z6,z7,z8,z9⟩:=gs_all HB.out.a.b1
    have zf:=gs_fr HB.out.a.b1
    obtain⟨p0,p1,pf0,pf1⟩:=stop_cells HB.out.a.b2
    have l0:=lt_of_block HB.out.a.b0
    have l1:=lt_of_block HB.out.a.b1
    have l2:=lt_of_block HB.out.a.b2
    go_wp2_with (go_at_call 65;refine(Fl.reck_any O (s.R d) im s.f _ (HSO.out.r d) HOK.out.im HSO.out.f).mono ?_;rintro e2 w2 ⟨rfl,rfl⟩;rw[HRK.out])
    exact bodyPost_ret (v:=.tuple #[gsV s,.agg #[.int .i64 7,.int .u32 0]]) zq8 rfl ⟨by rw[HF.out],by
     rw[HF.out]
     have hB:=HB.out.a.rm
     have hl:=HB.out.a.lk
     repeat first
      | with_reducible exact hB
      | with_reducible refine RM.drew ?_
      | with_reducible refine RM.setOff' ?_ hl zo _ _
      | with_reducible refine RM.alloc ?_ _,by
     have hB:=HB.out.a.chg
     repeat first
      | with_reducible exact hB
      | with_reducible refine Chg.drew ?_
      | with_reducible refine Chg.setNew ?_ zo _ _
      | with_reducible refine Chg.alloc ?_ _⟩
  ·have HE:Hid (stepH m s ⟨29,d,e,O,im,n,0,ia⟩=if Fl.recOk O im then⟨((s.setPC (w32 ((s.pc:Int)+n))).setR d (Fl.recX O (s.R d) im s.f).toNat).setF (Fl.recFl O (s.R d) im s.f).toNat,0,0,m⟩ else⟨s,7,0,m⟩):=rfl
   by_cases hh:Fl.recOk O im=true
   ·have HRK:Hid (Fl.recOk O im=true):=hh
    clear hh
    go_wp2_with (go_at_call 65;refine(Fl.reck_any O (s.R d) im s.f _ (HSO.out.r d) HOK.out.im HSO.out.f).mono ?_;rintro e2 w2 ⟨rfl,rfl⟩;rw[HRK.out])
    go_meet
    case rel=>exact⟨_,HB.out.putT (((Only.refl _ _).setCell _ _).setCell _ _) (gs_setF (gs_setR HB.out.b5 d hd _ (recX_bd O (s.R d) im s.f (HSO.out.r d) HOK.out.im).1) _ (recFl_bd _ _ _ _).1),HE.out.trans (by rw[HRK.out];rfl)⟩
   ·have HRK:Hid (Fl.recOk O im=false):=Bool.eq_false_iff.2 hh
    clear hh
    have HF:Hid (stepH m s ⟨29,d,e,O,im,n,0,ia⟩=⟨s,7,0,m⟩):=HE.out.trans (by rw[HRK.out];rfl)
    obtain⟨x0,x1,x2,x3,x4,x5,x6,x7,x8,x9⟩:=gs_all HB.out.a.b0
    obtain⟨z0,z1,z2,z3,z4,z5,z6,z7,z8,z9⟩:=gs_all HB.out.a.b1
    have zf:=gs_fr HB.out.a.b1
    obtain⟨p0,p1,pf0,pf1⟩:=stop_cells HB.out.a.b2
    have l0:=lt_of_block HB.out.a.b0
    have l1:=lt_of_block HB.out.a.b1
    have l2:=lt_of_block HB.out.a.b2
    go_wp2_with (go_at_call 65;refine(Fl.reck_any O (s.R d) im s.f _ (HSO.out.r d) HOK.out.im HSO.out.f).mono ?_;rintro e2 w2 ⟨rfl,rfl⟩;rw[HRK.out])
    exact bodyPost_ret (v:=.tuple #[gsV s,.agg #[.int .i64 7,.int .u32 0]]) zq8 rfl ⟨by rw[HF.out],by
     rw[HF.out]
     have hB:=HB.out.a.rm
     have hl:=HB.out.a.lk
     repeat first
      | with_reducible exact hB
      | with_reducible refine RM.drew ?_
      | with_reducible refine RM.setOff' ?_ hl zo _ _
      | with_reducible refine RM.alloc ?_ _,by
     have hB:=HB.out.a.chg
     repeat first
      | with_reducible exact hB
      | with_reducible refine Chg.drew ?_
      | with_reducible refine Chg.setNew ?_ zo _ _
      | with_reducible refine Chg.alloc ?_ _⟩
 case rest=>
  obtain⟨t',hM,hF⟩:=hcut
  have HF:Hid (stepH m s ⟨op,d,e,O,im,n,0,ia⟩=⟨t',0,0,m⟩):=hF
  obtain⟨x0,x1,x2,x3,x4,x5,x6,x7,x8,x9⟩:=gs_all hM.b5
  obtain⟨z0,z1,z2,z3,z4,z5,z6,z7,z8,z9⟩:=gs_all hM.a.b1
  have zf:=gs_fr hM.a.b1
  obtain⟨p0,p1,pf0,pf1⟩:=stop_cells hM.a.b2
  have l0:=lt_of_block hM.a.b0
  have l1:=lt_of_block hM.a.b1
  have l2:=lt_of_block hM.a.b2
  have HM:Hid _:=hM
  clear hM hF i0 i1 i2 i3 i4 aS aD a9 tD t8 t9 tf HB
  go_wp2
  exact bodyPost_ret (v:=.tuple #[gsV t',.agg #[.int .i64 0,.int .u32 0]]) zq8 rfl ⟨by rw[HF.out],by
   rw[HF.out]
   have hB:=HM.out.a.rm
   have hl:=HM.out.a.lk
   repeat first
    | with_reducible exact hB
    | with_reducible refine RM.drew ?_
    | with_reducible refine RM.setOff' ?_ hl zo _ _
    | with_reducible refine RM.alloc ?_ _,by
   have hB:=HM.out.a.chg
   repeat first
    | with_reducible exact hB
    | with_reducible refine Chg.drew ?_
    | with_reducible refine Chg.setNew ?_ zo _ _
    | with_reducible refine Chg.alloc ?_ _⟩
theorem rstep6(k:RB)(m:MS)(s0 s:GS)(i:IR)(w:World)(hrm:RM w k m)(hs0:s0.Ok)(hs:s0.setF (s0.f%16)=s)
  (hins:∀ w1,RM w1 k m→Calls Tryz.prog 23 #[.pointer (some ⟨k.y,0,none⟩),.int .u32 s.pc] w1 fun e w'=>e=.returned (insV i)∧Below w1.heap.size w1 w') (hk:i.k=0) (hok:InsOk i) (hop:i.op=1∨i.op=5) :
  Calls Tryz.prog 32 #[.pointer (some ⟨k.y,0,none⟩),gsV s0] w fun e w'=>
   e=.returned (.tuple #[gsV (stepH m s i).t,.agg #[.int .i64 (stepH m s i).k,.int .u32 (stepH m s i).a]])∧RM w' k (stepH m s i).m∧Chg k.all w w':=by
 obtain⟨op,d,e,O,im,n,ik,ia⟩:=i
 have HA:Hid (StA w (stW0 w (s0.setF (s0.f%16))) k m (s0.setF (s0.f%16))):=st_start hrm
 have HF16:Hid ((s0.f:Int)%16=((s0.f%16:Nat):Int)):=(Int.natCast_emod s0.f 16).symm
 have HI:Hid _:=hins
 have HS:Hid (s0.setF (s0.f%16)=s):=hs
 have HSO:Hid s.Ok:=hs▸hs0.setF _ zo
 simp only at hk
 subst hk
 have HOP:Hid (op=1∨op=5):=hop
 have HOK:Hid _:=hok
 have hd:d < 8:=Nat.lt_succ_of_le hok.D1
 have he:e < 8:=Nat.lt_succ_of_le hok.S1
 have hd0:(0:Int)≤d:=Int.natCast_nonneg _
 have hd1:(d:Int) < 8:=zo
 have he0:(0:Int)≤e:=Int.natCast_nonneg _
 have he1:(e:Int) < 8:=zo
 have hn0:(0:Int)≤n:=Int.natCast_nonneg _
 have hn1:(n:Int) < 4294967296:=by have h9:n≤9:=hok.n1;omega
 clear hop hok
 clear hrm hins hs hs0
 go_enter Tryz.func32,Tryz.ntmps32
 go_upto_region 2 with fail
 rw[HF16.out]
 change Code.wp _ _ _ _ (stW0 w (s0.setF (s0.f%16)))
 have HA':=HA.out
 rw[HS.out] at HA' ⊢
 clear HA
 have HA:Hid _:=HA'
 clear HA'
 generalize stW0 w s=W at HA ⊢
 have c8:=gs_pc HA.out.b0
 have aS0:=gs_reg HA.out.b0 e he
 clear aS0
 go_upto_block 0 with (go_at_call 23;refine(HI.out _ HA.out.rm).mono ?_;rintro e1 w1 ⟨rfl,hb1⟩;have HA1:Hid (StA w w1 k m s):=HA.out.below hb1;clear hb1;obtain⟨x0,x1,x2,x3,x4,x5,x6,x7,x8,x9⟩:=gs_all HA1.out.b0;have l0:=lt_of_block HA1.out.b0;have l1:=lt_of_block HA1.out.b1;have l2:=lt_of_block HA1.out.b2;have xD:=gs_reg HA1.out.b0 d hd;have xE:=gs_reg HA1.out.b0 e he;have l01:=Nat.lt_succ_of_lt l0;have l02:=Nat.lt_succ_of_lt l01)
 rw[← w32_cast ((s.pc:Int)+n),← w32_cast ((s.R e:Int)+im)]
 change Code.wp _ _ _ _ (((w1.alloc (Gu.insB op d e O im)).alloc (stopB 0 ia)).alloc (gsB (s.setPC (w32 ((s.pc:Int)+n)))))
 have HB:Hid (StB w (((w1.alloc (Gu.insB op d e O im)).alloc (stopB 0 ia)).alloc (gsB (s.setPC (w32 ((s.pc:Int)+n))))) k m s ⟨op,d,e,O,im,n,0,ia⟩ (s.setPC (w32 ((s.pc:Int)+n))) w1.heap.size):=stB_start (i:=⟨op,d,e,O,im,n,0,ia⟩) HA1.out 0 ia
 clear x0 x1 x2 x3 x4 x5 x6 x7 x8 x9 l0 l1 l2 l01 l02 xD xE HA1 HA c8 HI
 generalize (((w1.alloc (Gu.insB op d e O im)).alloc (stopB 0 ia)).alloc (gsB (s.setPC (w32 ((s.pc:Int)+n)))))=W2 at HB ⊢
 generalize w1.heap.size=q at HB ⊢
 have HNL:Hid (w32 ((s.pc:Int)+n) < 4294967296):=w32_lt _
 have ci:=Gu.ins_cells HB.out.b3
 obtain⟨i0,i1,i2,i3,i4⟩:=ci
 have aS:=gs_reg HB.out.a.b0 e he
 have aD:=gs_reg HB.out.a.b0 d hd
 have a9:=gs_f HB.out.a.b0
 have tD:=gs_reg HB.out.b5 d hd
 have t8:=gs_pc HB.out.b5
 have t9:=gs_f HB.out.b5
 have tf:=gs_fr HB.out.b5
 have hq0:=HB.out.hq
 have hd8:¬d=9:=zo
 have hd8':¬9=d:=zo
 have hne:¬(w.heap.size=q+1+1):=zo
 have hne1:¬(q+1+1=w.heap.size):=zo
 rcases HOP.out with rfl|rfl
 ·have HF:Hid (stepH m s ⟨1,d,e,O,im,n,0,ia⟩=⟨s,2,0,m⟩):=rfl
  obtain⟨x0,x1,x2,x3,x4,x5,x6,x7,x8,x9⟩:=gs_all HB.out.a.b0
  obtain⟨z0,z1,z2,z3,z4,z5,z6,z7,z8,z9⟩:=gs_all HB.out.a.b1
  have zf:=gs_fr HB.out.a.b1
  obtain⟨p0,p1,pf0,pf1⟩:=stop_cells HB.out.a.b2
  have l0:=lt_of_block HB.out.a.b0
  have l1:=lt_of_block HB.out.a.b1
  have l2:=lt_of_block HB.out.a.b2
  go_wp2
  exact bodyPost_ret (v:=.tuple #[gsV s,.agg #[.int .i64 2,.int .u32 0]]) zq8 rfl ⟨by rw[HF.out],by
   rw[HF.out]
   have hB:=HB.out.a.rm
   have hl:=HB.out.a.lk
   repeat first
    | with_reducible exact hB
    | with_reducible refine RM.drew ?_
    | with_reducible refine RM.setOff' ?_ hl zo _ _
    | with_reducible refine RM.alloc ?_ _,by
   have hB:=HB.out.a.chg
   repeat first
    | with_reducible exact hB
    | with_reducible refine Chg.drew ?_
    | with_reducible refine Chg.setNew ?_ zo _ _
    | with_reducible refine Chg.alloc ?_ _⟩
 ·have HF:Hid (stepH m s ⟨5,d,e,O,im,n,0,ia⟩=⟨s.setPC (w32 ((s.pc:Int)+n)),1,im,m⟩):=rfl
  obtain⟨x0,x1,x2,x3,x4,x5,x6,x7,x8,x9⟩:=gs_all HB.out.b5
  obtain⟨z0,z1,z2,z3,z4,z5,z6,z7,z8,z9⟩:=gs_all HB.out.a.b1
  have zf:=gs_fr HB.out.a.b1
  obtain⟨p0,p1,pf0,pf1⟩:=stop_cells HB.out.a.b2
  have l0:=lt_of_block HB.out.a.b0
  have l1:=lt_of_block HB.out.a.b1
  have l2:=lt_of_block HB.out.a.b2
  go_wp2
  go_region
  all_goals
   go_wp2
   exact bodyPost_ret (v:=.tuple #[gsV (s.setPC (w32 ((s.pc:Int)+n))),.agg #[.int .i64 1,.int .u32 im]]) zq8 rfl ⟨by rw[HF.out],by
    rw[HF.out]
    have hB:=HB.out.a.rm
    have hl:=HB.out.a.lk
    repeat first
     | with_reducible exact hB
     | with_reducible refine RM.drew ?_
     | with_reducible refine RM.setOff' ?_ hl zo _ _
     | with_reducible refine RM.alloc ?_ _,by
    have hB:=HB.out.a.chg
    repeat first
     | with_reducible exact hB
     | with_reducible refine Chg.drew ?_
     | with_reducible refine Chg.setNew ?_ zo _ _
     | with_reducible refine Chg.alloc ?_ _⟩
end Go.Proofs.YtfokgedjocnnmaaGreat
