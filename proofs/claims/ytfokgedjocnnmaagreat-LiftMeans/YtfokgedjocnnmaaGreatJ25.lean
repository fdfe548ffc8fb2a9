import Derived.Test.YtfokgedjocnnmaaGreatJ17
import Derived.Test.YtfokgedjocnnmaaGreatJ18
import Derived.Test.YtfokgedjocnnmaaGreatJ19
import Derived.Test.YtfokgedjocnnmaaGreatJ20
import Derived.Test.YtfokgedjocnnmaaGreatJ21
import Derived.Test.YtfokgedjocnnmaaGreatJ22
import Derived.Test.YtfokgedjocnnmaaGreatJ03
import Derived.Test.YtfokgedjocnnmaaGreatJ23
import Derived.Test.YtfokgedjocnnmaaGreatJ24
import Derived.Test.YtfokgedjocnnmaaGreatNH
import Derived.Test.YtfokgedjocnnmaaGreatEE
set_option maxRecDepth 100000
set_option linter.unusedVariables false
set_option linter.unusedSimpArgs false
set_option maxHeartbeats 4000000
namespace Go.Proofs.YtfokgedjocnnmaaGreat
open Go.RowKit
theorem rmem_any(k:RB)(m:MS)(i:IR)(s t:GS)(at':Nat)(w:World)(H:MmIn w k m i s t at')(hop:memOp i.op) :
  Calls Tryz.prog 66 #[.pointer (some ⟨k.y,0,none⟩),insA i.op i.D i.S i.O i.imm,gsV s,gsV t,.int .u32 at'] w fun e w'=>
   e=.returned (.tuple #[gsV (memF m i s t at').t,.agg #[.int .i64 (memF m i s t at').k,.int .u32 (memF m i s t at').a]])∧RM w' k (memF m i s t at').m∧Chg k.all w w':=by
 rcases hop with h|h|h|h|h|h|h|h|h|h|h
 ·exact rmem1 k m i s t at' w H (.inl h)
 ·exact rmem1 k m i s t at' w H (.inr (.inl h))
 ·exact rmem1 k m i s t at' w H (.inr (.inr (.inl h)))
 ·exact rmem1 k m i s t at' w H (.inr (.inr (.inr (.inl h))))
 ·exact rmem1 k m i s t at' w H (.inr (.inr (.inr (.inr h))))
 ·exact rmem2 k m i s t at' w H (.inl h)
 ·exact rmem2 k m i s t at' w H (.inr (.inl h))
 ·exact rmem2 k m i s t at' w H (.inr (.inr h))
 ·exact rmem3 k m i s t at' w H h
 ·have h0:=H.iok.O0
  have h1:=H.iok.st h
  by_cases e0:i.O=0
  ·exact rmem4a k m i s t at' w H h e0
  by_cases e1:i.O=1
  ·exact rmem4b k m i s t at' w H h e1
  ·exact rmem4c k m i s t at' w H h zo
 ·exact rmem5 k m i s t at' w H h
theorem rstep7(k:RB)(m:MS)(s0 s:GS)(i:IR)(w:World)(hrm:RM w k m)(hs0:s0.Ok)(hs:s0.setF (s0.f%16)=s)
  (hins:∀ w1,RM w1 k m→Calls Tryz.prog 23 #[.pointer (some ⟨k.y,0,none⟩),.int .u32 s.pc] w1 fun e w'=>e=.returned (insV i)∧Below w1.heap.size w1 w') (hk:i.k=0) (hok:InsOk i) (hop:memOp i.op) (hmok:m.Ok) :
  Calls Tryz.prog 32 #[.pointer (some ⟨k.y,0,none⟩),gsV s0] w fun e w'=>
   e=.returned (.tuple #[gsV (stepH m s i).t,.agg #[.int .i64 (stepH m s i).k,.int .u32 (stepH m s i).a]])∧RM w' k (stepH m s i).m∧Chg k.all w w':=by
 obtain⟨op,d,e,O,im,n,ik,ia⟩:=i
 have HA:Hid (StA w (stW0 w (s0.setF (s0.f%16))) k m (s0.setF (s0.f%16))):=st_start hrm
 have HF16:Hid ((s0.f:Int)%16=((s0.f%16:Nat):Int)):=(Int.natCast_emod s0.f 16).symm
 have HI:Hid _:=hins
 have HS:Hid (s0.setF (s0.f%16)=s):=hs
 have HSO:Hid s.Ok:=hs▸hs0.setF _ zo
 simp only at hk
 subst hk
 have HOP:Hid (memOp op):=hop
 have HOK:Hid _:=hok
 have hd:d < 8:=Nat.lt_succ_of_le hok.D1
 have he:e < 8:=Nat.lt_succ_of_le hok.S1
 have hd0:(0:Int)≤d:=Int.natCast_nonneg _
 have hd1:(d:Int) < 8:=zo
 have he0:(0:Int)≤e:=Int.natCast_nonneg _
 have he1:(e:Int) < 8:=zo
 have hn0:(0:Int)≤n:=Int.natCast_nonneg _
 have hn1:(n:Int) < 4294967296:=by have h9:n≤9:=hok.n1;omega
 have HMK:Hid m.Ok:=hmok
 clear hop hok hmok
 clear hrm hins hs hs0
 go_enter Tryz.func32,Tryz.ntmps32
 go_upto_region 2 with fail
 rw[HF16.out]
 change Code.wp _ _ _ _ (stW0 w (s0.setF (s0.f%16)))
 have HA':=HA.out
 rw[HS.out] at HA' ⊢
 clear HA
 have HA:Hid _:=HA'
 clear HA'
 generalize stW0 w s=W at HA ⊢
 have c8:=gs_pc HA.out.b0
 have aS0:=gs_reg HA.out.b0 e he
 clear aS0
 go_upto_block 0 with (go_at_call 23;refine(HI.out _ HA.out.rm).mono ?_;rintro e1 w1 ⟨rfl,hb1⟩;have HA1:Hid (StA w w1 k m s):=HA.out.below hb1;clear hb1;obtain⟨x0,x1,x2,x3,x4,x5,x6,x7,x8,x9⟩:=gs_all HA1.out.b0;have l0:=lt_of_block HA1.out.b0;have l1:=lt_of_block HA1.out.b1;have l2:=lt_of_block HA1.out.b2;have xD:=gs_reg HA1.out.b0 d hd;have xE:=gs_reg HA1.out.b0 e he;have l01:=Nat.lt_succ_of_lt l0;have l02:=Nat.lt_succ_of_lt l01)
 rw[← w32_cast ((s.pc:Int)+n),← w32_cast ((s.R e:Int)+im)]
 change Code.wp _ _ _ _ (((w1.alloc (Gu.insB op d e O im)).alloc (stopB 0 ia)).alloc (gsB (s.setPC (w32 ((s.pc:Int)+n)))))
 have HB:Hid (StB w (((w1.alloc (Gu.insB op d e O im)).alloc (stopB 0 ia)).alloc (gsB (s.setPC (w32 ((s.pc:Int)+n))))) k m s ⟨op,d,e,O,im,n,0,ia⟩ (s.setPC (w32 ((s.pc:Int)+n))) w1.heap.size):=stB_start (i:=⟨op,d,e,O,im,n,0,ia⟩) HA1.out 0 ia
 clear x0 x1 x2 x3 x4 x5 x6 x7 x8 x9 l0 l1 l2 l01 l02 xD xE HA1 HA c8 HI
 generalize (((w1.alloc (Gu.insB op d e O im)).alloc (stopB 0 ia)).alloc (gsB (s.setPC (w32 ((s.pc:Int)+n)))))=W2 at HB ⊢
 generalize w1.heap.size=q at HB ⊢
 have HNL:Hid (w32 ((s.pc:Int)+n) < 4294967296):=w32_lt _
 have ci:=Gu.ins_cells HB.out.b3
 obtain⟨i0,i1,i2,i3,i4⟩:=ci
 have aS:=gs_reg HB.out.a.b0 e he
 have aD:=gs_reg HB.out.a.b0 d hd
 have a9:=gs_f HB.out.a.b0
 have tD:=gs_reg HB.out.b5 d hd
 have t8:=gs_pc HB.out.b5
 have t9:=gs_f HB.out.b5
 have tf:=gs_fr HB.out.b5
 have hq0:=HB.out.hq
 have hd8:¬d=9:=zo
 have hd8':¬9=d:=zo
 have hne:¬(w.heap.size=q+1+1):=zo
 have hne1:¬(q+1+1=w.heap.size):=zo
 have c1:(op==1)=false:=by have:=HOP.out;unfold memOp at this;simp;omega
 have c5:(op==5)=false:=by have:=HOP.out;unfold memOp at this;simp;omega
 have c6:(op==6)=false:=by have:=HOP.out;unfold memOp at this;simp;omega
 have c7:(op==7)=false:=by have:=HOP.out;unfold memOp at this;simp;omega
 have c12:(op==12)=false:=by have:=HOP.out;unfold memOp at this;simp;omega
 have c13:(op==13)=false:=by have:=HOP.out;unfold memOp at this;simp;omega
 have c9:(op==9)=false:=by have:=HOP.out;unfold memOp at this;simp;omega
 have c16:(op==16)=false:=by have:=HOP.out;unfold memOp at this;simp;omega
 have c22:(op==22)=false:=by have:=HOP.out;unfold memOp at this;simp;omega
 have c23:(op==23)=false:=by have:=HOP.out;unfold memOp at this;simp;omega
 have c20:(op==20)=false:=by have:=HOP.out;unfold memOp at this;simp;omega
 have c17:(op==17)=false:=by have:=HOP.out;unfold memOp at this;simp;omega
 have c18:(op==18)=false:=by have:=HOP.out;unfold memOp at this;simp;omega
 have c19:(op==19)=false:=by have:=HOP.out;unfold memOp at this;simp;omega
 have c21:(op==21)=false:=by have:=HOP.out;unfold memOp at this;simp;omega
 have c27:(op==27)=false:=by have:=HOP.out;unfold memOp at this;simp;omega
 have c28:(op==28)=false:=by have:=HOP.out;unfold memOp at this;simp;omega
 have c29:(op==29)=false:=by have:=HOP.out;unfold memOp at this;simp;omega
 have c0:(op==0)=false:=by have:=HOP.out;unfold memOp at this;simp;omega
 have HF0:Hid (stepH m s ⟨op,d,e,O,im,n,0,ia⟩=memF m ⟨op,d,e,O,im,n,0,ia⟩ s (s.setPC (w32 ((s.pc:Int)+n))) (w32 ((s.R e:Int)+im))):=by
  have:=HOP.out
  unfold memOp at this
  show stepH _ _ _=_
  unfold stepH
  simp only
  rw[if_neg (by simp)]
  repeat rw[if_neg zo]
 obtain⟨R,HF⟩:∃ R:SO,Hid (memF m ⟨op,d,e,O,im,n,0,ia⟩ s (s.setPC (w32 ((s.pc:Int)+n))) (w32 ((s.R e:Int)+im))=R∧stepH m s ⟨op,d,e,O,im,n,0,ia⟩=R):=⟨_,rfl,HF0.out⟩
 clear HF0
 obtain⟨x0,x1,x2,x3,x4,x5,x6,x7,x8,x9⟩:=gs_all HB.out.a.b0
 obtain⟨y0,y1,y2,y3,y4,y5,y6,y7,y8,y9⟩:=gs_all HB.out.b5
 go_wp2_with (go_at_call 66;refine(rmem_any k m ⟨op,d,e,O,im,n,0,ia⟩ s (s.setPC (w32 ((s.pc:Int)+n))) (w32 ((s.R e:Int)+im)) _ ⟨HB.out.a.rm,HMK.out,HSO.out,HSO.out.setPC _ (w32_lt _),HOK.out,w32_lt _⟩ HOP.out).mono ?_;rintro e2 w2 ⟨rfl,hR2,hC2⟩;rw[HF.out.1] at hR2;rw[HF.out.1];have HA2:Hid (StA w w2 k R.m s):=HB.out.a.after hR2 hC2;obtain⟨z0,z1,z2,z3,z4,z5,z6,z7,z8,z9⟩:=gs_all HA2.out.b1;have zf:=gs_fr HA2.out.b1;obtain⟨p0,p1,pf0,pf1⟩:=stop_cells HA2.out.b2;clear hR2 hC2)
 exact bodyPost_ret (v:=.tuple #[gsV R.t,.agg #[.int .i64 R.k,.int .u32 R.a]]) (by simp[results,Tryz.results32,go_sem,x0,x1,x2,x3,x4,x5,x6,x7,x8,x9,z0,z1,z2,z3,z4,z5,z6,z7,z8,z9,p0,p1]) rfl ⟨by rw[HF.out.2],by
  rw[HF.out.2]
  have hB:=HA2.out.rm
  have hl:=HA2.out.lk
  repeat first
   | with_reducible exact hB
   | with_reducible refine RM.drew ?_
   | with_reducible refine RM.setOff' ?_ hl zo _ _
   | with_reducible refine RM.alloc ?_ _,by
  have hB:=HA2.out.chg
  repeat first
   | with_reducible exact hB
   | with_reducible refine Chg.drew ?_
   | with_reducible refine Chg.setNew ?_ zo _ _
   | with_reducible refine Chg.alloc ?_ _⟩
abbrev soV(o:SO):Value:=.tuple #[gsV o.t,.agg #[.int .i64 o.k,.int .u32 o.a]]
theorem rstep_any(k:RB)(m:MS)(s0:GS)(w:World)(hrm:RM w k m)(hm:m.Ok)(hs:s0.Ok) :
  Calls Tryz.prog 32 #[.pointer (some ⟨k.y,0,none⟩),gsV s0] w fun e w'=>e=.returned (soV (stepF m s0))∧RM w' k (stepF m s0).m∧Chg k.all w w':=by
 rw[stepF_eq]
 have hins:∀ w1,RM w1 k m→Calls Tryz.prog 23 #[.pointer (some ⟨k.y,0,none⟩),.int .u32 (s0.setF (s0.f%16)).pc] w1 fun e w'=>e=.returned (insV (insOf m s0.pc))∧Below w1.heap.size w1 w':=
  fun w1 h1=>rins_any k s0.pc m w1 hs.p hm h1
 by_cases hk:(insOf m s0.pc).k=0
 ·have hok:=insOf_ok m s0.pc hm hk
  have h0:=hok.op0
  have h1:=hok.op1
  by_cases g1:(insOf m s0.pc).op=6∨(insOf m s0.pc).op=7∨(insOf m s0.pc).op=9∨(insOf m s0.pc).op=16∨(insOf m s0.pc).op=22∨(insOf m s0.pc).op=23∨(insOf m s0.pc).op=20∨(insOf m s0.pc).op=0
  ·exact rstep1 k m s0 _ _ w hrm hs rfl hins hk hok g1
  by_cases g2:(insOf m s0.pc).op=17∨(insOf m s0.pc).op=18∨(insOf m s0.pc).op=19
  ·exact rstep2 k m s0 _ _ w hrm hs rfl hins hk hok g2
  by_cases g3:(insOf m s0.pc).op=12∨(insOf m s0.pc).op=13
  ·exact rstep3 k m s0 _ _ w hrm hs rfl hins hk hok g3
  by_cases g4:(insOf m s0.pc).op=21
  ·exact rstep4 k m s0 _ _ w hrm hs rfl hins hk hok g4
  by_cases g5:(insOf m s0.pc).op=27∨(insOf m s0.pc).op=28∨(insOf m s0.pc).op=29
  ·exact rstep5 k m s0 _ _ w hrm hs rfl hins hk hok g5
  by_cases g6:(insOf m s0.pc).op=1∨(insOf m s0.pc).op=5
  ·exact rstep6 k m s0 _ _ w hrm hs rfl hins hk hok g6
  exact rstep7 k m s0 _ _ w hrm hs rfl hins hk hok (by unfold memOp;omega) hm
 ·exact rstep_bad k m s0 _ _ w hrm hs rfl hins hk
structure SO.Ok(o:SO):Prop where
 t:o.t.Ok
 m:o.m.Ok
theorem ldG_ok{m:MS}{s:GS}(hm:m.Ok)(hs:s.Ok)(a:Nat)(n:Int)(g:Nat→GS)(hg:∀ v,v < 4294967296→(g v).Ok):(ldG m s a n g).Ok:=by
 unfold ldG
 cases badN m 1 a n.toNat with
 | some x=>exact⟨hs,hm⟩
 | none=>exact⟨hg _ (ldN_lt hm _ _),hm⟩
theorem stG_ok{m:MS}{s:GS}(hm:m.Ok)(hs:s.Ok)(a:Nat)(n:Int)(v:Nat)(t:GS)(ht:t.Ok):(stG m s a n v t).Ok:=by
 unfold stG
 cases sto m a n with
 | some x=>exact⟨hs,hm⟩
 | none=>exact⟨ht,ok_storeT hm _ _ _⟩
theorem fl_lt(k:Int)(a b old:Nat):(Fl.flagsF k a b old).toNat < 4294967296:=by have:=flagsF_bd k a b old;omega
theorem swT_ok{i:IR}{s t:GS}(ht:t.Ok){v:Nat}(hv:v < 4294967296):(swT i s t v).Ok:=by
 unfold swT
 by_cases h1:i.op=24
 ·rw[if_pos h1];exact ht.setR _ _ hv
 rw[if_neg h1]
 by_cases h2:i.op=25
 ·rw[if_pos h2];exact(ht.setR _ _ hv).setF _ (fl_lt ..)
 rw[if_neg h2]
 by_cases h3:v=s.R 0
 ·rw[if_pos h3];exact ht.setF _ (fl_lt ..)
 rw[if_neg h3];exact(ht.setF _ (fl_lt ..)).setR _ _ hv
theorem sx_lt(O:Int)(v:Nat)(hv:v < 4294967296)(h1:O=1→v≤255)(h3:O=3→v≤65535):sx O v < 4294967296:=by
 unfold sx
 by_cases g1:O=1∧128≤v
 ·rw[if_pos g1];have:=h1 g1.1;omega
 rw[if_neg g1]
 by_cases g2:O=3∧32768≤v
 ·rw[if_pos g2];have:=h3 g2.1;omega
 rw[if_neg g2];exact hv
theorem memF_ok{m:MS}{i:IR}{s t:GS}(hm:m.Ok)(hs:s.Ok)(ht:t.Ok)(at':Nat):(memF m i s t at').Ok:=by
 have hdn:=w32_lt ((s.R 7:Int) - 4)
 have hup:=w32_lt ((s.R 7:Int)+4)
 unfold memF
 simp only
 by_cases h1:i.op=11
 ·rw[if_pos h1];exact ldG_ok hm hs _ _ _ fun v hv=>ht.setPC _ hv
 rw[if_neg h1]
 by_cases h2:i.op=14
 ·rw[if_pos h2];exact stG_ok hm hs _ _ _ _ (ht.setR _ _ hdn)
 rw[if_neg h2]
 by_cases h3:i.op=3
 ·rw[if_pos h3];exact stG_ok hm hs _ _ _ _ (ht.setR _ _ hdn)
 rw[if_neg h3]
 by_cases h4:i.op=8
 ·rw[if_pos h4];exact stG_ok hm hs _ _ _ _ ((ht.setR _ _ hdn).setPC _ (w32_lt _))
 rw[if_neg h4]
 by_cases h5:i.op=10
 ·rw[if_pos h5];exact stG_ok hm hs _ _ _ _ ((ht.setR _ _ hdn).setPC _ (hs.r _))
 rw[if_neg h5]
 by_cases h6:i.op=15
 ·rw[if_pos h6];exact ldG_ok hm hs _ _ _ fun v hv=>(ht.setR _ _ hup).setR _ _ hv
 rw[if_neg h6]
 by_cases h7:i.op=4
 ·rw[if_pos h7];exact ldG_ok hm hs _ _ _ fun v hv=>(ht.setR _ _ hup).setF _ zo
 rw[if_neg h7]
 by_cases h8:i.op=2
 ·rw[if_pos h8];exact ldG_ok hm hs _ _ _ fun v hv=>(ht.setR _ _ hup).setPC _ hv
 rw[if_neg h8]
 by_cases h9:i.op=30
 ·rw[if_pos h9]
  unfold ldG
  cases badN m 1 at' (ldW i.O).toNat with
  | some x=>exact⟨hs,hm⟩
  | none=>
   refine⟨ht.setR _ _ (sx_lt _ _ (ldN_lt hm _ _) (fun h=>?_) (fun h=>?_)),hm⟩
   ·rw[h];exact ldN_1 hm at'
   ·rw[h];exact ldN_2 hm at'
 rw[if_neg h9]
 by_cases h10:i.op=31
 ·rw[if_pos h10];exact stG_ok hm hs _ _ _ _ ht
 rw[if_neg h10]
 cases badN m 1 at' 4 with
 | some x=>exact⟨hs,hm⟩
 | none=>exact stG_ok hm hs _ _ _ _ (swT_ok ht (ldN_lt hm _ _))
theorem stepH_ok{m:MS}{s:GS}{i:IR}(hm:m.Ok)(hs:s.Ok)(hi:i.k=0→InsOk i):(stepH m s i).Ok:=by
 unfold stepH
 by_cases h0:i.k≠0
 ·rw[if_pos h0];exact⟨hs,hm⟩
 rw[if_neg h0]
 have hio:=hi zo
 have hn:=w32_lt ((s.pc:Int)+i.n)
 have ht:(s.setPC (w32 ((s.pc:Int)+i.n))).Ok:=hs.setPC _ hn
 have hj:=w32_lt (((w32 ((s.pc:Int)+i.n):Nat):Int)+i.imm)
 simp only
 by_cases h1:i.op=1
 ·rw[if_pos h1];exact⟨hs,hm⟩
 rw[if_neg h1]
 by_cases h2:i.op=5
 ·rw[if_pos h2];exact⟨ht,hm⟩
 rw[if_neg h2]
 by_cases h3:i.op=6∨i.op=7
 ·rw[if_pos h3];exact⟨ht.setPC _ hj,hm⟩
 rw[if_neg h3]
 by_cases h4:i.op=12∨i.op=13
 ·rw[if_pos h4]
  refine⟨?_,hm⟩
  by_cases hh:Fl.holdsF i.O s.f=true
  ·rw[if_pos hh];exact ht.setPC _ hj
  ·rw[if_neg hh];exact ht
 rw[if_neg h4]
 by_cases h5:i.op=9
 ·rw[if_pos h5];exact⟨ht.setPC _ (hs.r _),hm⟩
 rw[if_neg h5]
 by_cases h6:i.op=16
 ·rw[if_pos h6];exact⟨ht.setR _ _ hio.im,hm⟩
 rw[if_neg h6]
 by_cases h7:i.op=22
 ·rw[if_pos h7];exact⟨ht.setR _ _ (hs.r _),hm⟩
 rw[if_neg h7]
 by_cases h8:i.op=23
 ·rw[if_pos h8];exact⟨ht.setR _ _ (w32_lt _),hm⟩
 rw[if_neg h8]
 by_cases h9:i.op=20
 ·rw[if_pos h9];exact⟨ht.setR _ _ (w32_lt _),hm⟩
 rw[if_neg h9]
 by_cases h10:i.op=17
 ·rw[if_pos h10];exact⟨(ht.setR _ _ (w32_lt _)).setF _ (fl_lt ..),hm⟩
 rw[if_neg h10]
 by_cases h11:i.op=18
 ·rw[if_pos h11];exact⟨(ht.setR _ _ (w32_lt _)).setF _ (fl_lt ..),hm⟩
 rw[if_neg h11]
 by_cases h12:i.op=19
 ·rw[if_pos h12];exact⟨(ht.setR _ _ (w32_lt _)).setF _ (fl_lt ..),hm⟩
 rw[if_neg h12]
 by_cases h13:i.op=21
 ·rw[if_pos h13]
  refine⟨ht.setR _ _ ?_,hm⟩
  by_cases hh:Fl.holdsF i.O s.f=true
  ·rw[if_pos hh];omega
  ·rw[if_neg hh];omega
 rw[if_neg h13]
 by_cases h14:i.op=27∨i.op=28∨i.op=29
 ·rw[if_pos h14]
  have hb:(if i.op=27 then s.R i.S else i.imm) < 4294967296:=by
   by_cases g:i.op=27
   ·rw[if_pos g];exact hs.r _
   ·rw[if_neg g];exact hio.im
  generalize (if i.op=27 then s.R i.S else i.imm)=b at hb
  by_cases hh:Fl.recOk i.O b=true
  ·rw[if_pos hh]
   have hx:=recX_bd i.O (s.R i.D) b s.f (hs.r _) hb
   have hf:=recFl_bd i.O (s.R i.D) b s.f
   exact⟨(ht.setR _ _ zo).setF _ zo,hm⟩
  ·rw[if_neg hh];exact⟨hs,hm⟩
 rw[if_neg h14]
 by_cases h15:i.op=0
 ·rw[if_pos h15];exact⟨ht,hm⟩
 rw[if_neg h15]
 exact memF_ok hm hs ht _
theorem stepF_ok{m:MS}{s:GS}(hm:m.Ok)(hs:s.Ok):(stepF m s).Ok:=by
 rw[stepF_eq]
 exact stepH_ok hm (hs.setF _ zo) fun h=>insOf_ok m s.pc hm h
theorem badN_not{m:MS}{r:Int}:∀ {n a x:Nat},badN m r a n=some x→¬(x < 65536∧m.R (x / 256) / r%2=1)
 | 0,_,_,h=>by simp[badN] at h
 | n+1,a,x,h=>by
  unfold badN at h
  split at h
  ·exact badN_not h
  ·rename_i hn
   cases h
   exact hn
def rightOf(k:Int):Int:=if k=5 then 1 else if k=6 then 2 else 4
def StopWhy(m:MS)(k a:Int):Prop:=k=2∨k=3∨k=7∨((k=4∨k=5∨k=6)∧∃ x:Nat,a=x∧¬(x < 65536∧m.R (x / 256) / rightOf k%2=1))
structure Stopped(m:MS)(s:GS)(o:SO):Prop where
 t:o.t=s
 mm:o.m=m
 why:StopWhy m o.k o.a
def Ended(m:MS)(s:GS)(o:SO):Prop:=(o.k=0∨o.k=1)∨Stopped m s o
theorem ldG_end(m:MS)(s:GS)(a:Nat)(n:Int)(g:Nat→GS):Ended m s (ldG m s a n g):=by
 unfold ldG
 cases h:badN m 1 a n.toNat with
 | some x=>exact .inr ⟨rfl,rfl,.inr (.inr (.inr ⟨.inr (.inl rfl),x,rfl,badN_not h⟩))⟩
 | none=>exact .inl (.inl rfl)
theorem stG_end(m:MS)(s:GS)(a:Nat)(n:Int)(v:Nat)(t:GS):Ended m s (stG m s a n v t):=by
 unfold stG
 cases h:sto m a n with
 | some x=>
  unfold sto at h
  by_cases hw:wid n
  ·rw[if_pos hw] at h
   exact .inr ⟨rfl,rfl,.inr (.inr (.inr ⟨.inr (.inr rfl),x,rfl,badN_not h⟩))⟩
  ·rw[if_neg hw] at h;cases h
 | none=>exact .inl (.inl rfl)
theorem memF_end(m:MS)(i:IR)(s t:GS)(at':Nat):Ended m s (memF m i s t at'):=by
 unfold memF
 simp only
 by_cases h1:i.op=11
 ·rw[if_pos h1];exact ldG_end ..
 rw[if_neg h1]
 by_cases h2:i.op=14
 ·rw[if_pos h2];exact stG_end ..
 rw[if_neg h2]
 by_cases h3:i.op=3
 ·rw[if_pos h3];exact stG_end ..
 rw[if_neg h3]
 by_cases h4:i.op=8
 ·rw[if_pos h4];exact stG_end ..
 rw[if_neg h4]
 by_cases h5:i.op=10
 ·rw[if_pos h5];exact stG_end ..
 rw[if_neg h5]
 by_cases h6:i.op=15
 ·rw[if_pos h6];exact ldG_end ..
 rw[if_neg h6]
 by_cases h7:i.op=4
 ·rw[if_pos h7];exact ldG_end ..
 rw[if_neg h7]
 by_cases h8:i.op=2
 ·rw[if_pos h8];exact ldG_end ..
 rw[if_neg h8]
 by_cases h9:i.op=30
 ·rw[if_pos h9];exact ldG_end ..
 rw[if_neg h9]
 by_cases h10:i.op=31
 ·rw[if_pos h10];exact stG_end ..
 rw[if_neg h10]
 cases h:badN m 1 at' 4 with
 | some x=>exact .inr ⟨rfl,rfl,.inr (.inr (.inr ⟨.inr (.inl rfl),x,rfl,badN_not h⟩))⟩
 | none=>exact stG_end ..
theorem stepH_end(m:MS)(s:GS)(i:IR)(hi:i.k≠0→StopWhy m i.k i.a):Ended m s (stepH m s i):=by
 unfold stepH
 by_cases h0:i.k≠0
 ·rw[if_pos h0];exact .inr ⟨rfl,rfl,hi h0⟩
 rw[if_neg h0]
 simp only
 by_cases h1:i.op=1
 ·rw[if_pos h1];exact .inr ⟨rfl,rfl,.inl rfl⟩
 rw[if_neg h1]
 by_cases h2:i.op=5
 ·rw[if_pos h2];exact .inl (.inr rfl)
 rw[if_neg h2]
 by_cases h3:i.op=6∨i.op=7
 ·rw[if_pos h3];exact .inl (.inl rfl)
 rw[if_neg h3]
 by_cases h4:i.op=12∨i.op=13
 ·rw[if_pos h4];exact .inl (.inl rfl)
 rw[if_neg h4]
 by_cases h5:i.op=9
 ·rw[if_pos h5];exact .inl (.inl rfl)
 rw[if_neg h5]
 by_cases h6:i.op=16
 ·rw[if_pos h6];exact .inl (.inl rfl)
 rw[if_neg h6]
 by_cases h7:i.op=22
 ·rw[if_pos h7];exact .inl (.inl rfl)
 rw[if_neg h7]
 by_cases h8:i.op=23
 ·rw[if_pos h8];exact .inl (.inl rfl)
 rw[if_neg h8]
 by_cases h9:i.op=20
 ·rw[if_pos h9];exact .inl (.inl rfl)
 rw[if_neg h9]
 by_cases h10:i.op=17
 ·rw[if_pos h10];exact .inl (.inl rfl)
 rw[if_neg h10]
 by_cases h11:i.op=18
 ·rw[if_pos h11];exact .inl (.inl rfl)
 rw[if_neg h11]
 by_cases h12:i.op=19
 ·rw[if_pos h12];exact .inl (.inl rfl)
 rw[if_neg h12]
 by_cases h13:i.op=21
 ·rw[if_pos h13];exact .inl (.inl rfl)
 rw[if_neg h13]
 by_cases h14:i.op=27∨i.op=28∨i.op=29
 ·rw[if_pos h14]
  generalize (if i.op=27 then s.R i.S else i.imm)=b
  by_cases hh:Fl.recOk i.O b=true
  ·rw[if_pos hh];exact .inl (.inl rfl)
  ·rw[if_neg hh];exact .inr ⟨rfl,rfl,.inr (.inr (.inl rfl))⟩
 rw[if_neg h14]
 by_cases h15:i.op=0
 ·rw[if_pos h15];exact .inl (.inl rfl)
 rw[if_neg h15]
 exact memF_end ..
theorem insOf_why(m:MS)(pc:Nat)(h:(insOf m pc).k≠0):StopWhy m (insOf m pc).k (insOf m pc).a:=by
 unfold insOf at h ⊢
 cases hb:badN m 4 pc 1 with
 | some x=>exact .inr (.inr (.inr ⟨.inl rfl,x,rfl,badN_not hb⟩))
 | none=>
  rw[hb] at h
  simp only at h ⊢
  cases hb2:fet m pc (Gu.sizeF (m.B pc)) with
  | some x=>
   unfold fet at hb2
   split at hb2
   ·exact .inr (.inr (.inr ⟨.inl rfl,x,rfl,badN_not hb2⟩))
   ·cases hb2
  | none=>
   rw[hb2] at h
   simp only at h ⊢
   split at h
   ·exact absurd rfl h
   ·rename_i he
    rw[if_neg he]
    exact .inr (.inl rfl)
theorem stepF_end(m:MS)(s:GS):Ended m (s.setF (s.f%16)) (stepF m s):=by
 rw[stepF_eq]
 exact stepH_end m _ _ (insOf_why m s.pc)
theorem runO_runL(L:List OpR):∀ (l pre:List OpR) (q:Sq),L=pre++l→
  (runO (fun j=>L.getD j opD) l.length pre.length q).1=(runL l pre.length q).1∧
  ∀ x,(runL l pre.length q).2=some x→(runO (fun j=>L.getD j opD) l.length pre.length q).2.1=x
 | [],pre,q,_=>⟨rfl,fun x h=>by cases h⟩
 | o :: l,pre,q,hL=>by
  have e:L.getD pre.length opD=o:=by rw[hL,List.getD_eq_getElem?_getD,List.getElem?_append_right (Nat.le_refl _),Nat.sub_self];rfl
  have ih:=runO_runL L l (pre++[o]) (nextO o pre.length q) (by rw[hL];simp)
  rw[List.length_append,List.length_cons,List.length_nil] at ih
  simp only[List.length_cons,runO,runL,e]
  by_cases hl:leftO o q=true
  ·simp only[hl,if_true]
   exact⟨trivial,fun x h=>by cases h;rfl⟩
  ·simp only[hl,if_false]
   exact ih
theorem touch_no{m:MS}(h:touchB m=false)(p:Nat)(hp:p < 256):m.T p=false:=by
 cases ht:m.T p with
 | false=>rfl
 | true=>
  have:=cnt_pos m.T 256 p hp ht
  unfold touchB at h
  simp at h
  omega
theorem store_BM(m:MS)(a:Nat)(n:Int)(v:Nat):(storeT m a n v).M=m.M∧(storeT m a n v).R=m.R:=by
 unfold storeT
 split
 ·unfold pokeS tellB
  split<;>exact⟨rfl,rfl⟩
 ·exact⟨rfl,rfl⟩
theorem store_keep{m:MS}{a:Nat}{n:Int}{v:Nat}(ht:touchB (storeT m a n v)=false){i:Nat}(hi:i < 65536)(hM:m.M (i / 256)=true):(storeT m a n v).B i=m.B i:=by
 have h0:=touch_no ht (i / 256) zo
 unfold storeT at h0 ⊢
 split at h0
 ·rename_i hw
  rw[if_pos hw]
  unfold pokeS tellB at h0 ⊢
  split at h0
  ·rename_i hn
   rw[if_pos hn]
   show ovr m.B a n.toNat (zv v) i=m.B i
   unfold ovr
   rw[if_neg zo]
  ·rename_i hn
   rw[if_neg hn]
   show ovr m.B a n.toNat (zv v) i=m.B i
   unfold ovr
   refine if_neg (fun hh=>?_)
   simp only[tellR,hM,Bool.true_and,Bool.or_eq_false_iff,decide_eq_false_iff_not] at h0
   exact h0.2 zo
 ·rename_i hw
  rw[if_neg hw]
theorem badN_congr{m m':MS}(hR:m'.R=m.R)(r:Int):∀ (n x:Nat),badN m' r x n=badN m r x n
 | 0,x=>rfl
 | n+1,x=>by
  unfold badN
  rw[hR,badN_congr hR r n]
theorem fet_congr{m m':MS}(hR:m'.R=m.R)(a:Nat)(n:Int):fet m' a n=fet m a n∧fetM m' a n=fetM m a n:=by
 unfold fet fetM
 rw[badN_congr hR]
 exact⟨rfl,rfl⟩
theorem insOf_congr{m m':MS}{pc:Nat}(hR:m'.R=m.R)(h0:m'.B pc=m.B pc)(hB:∀ j,j < fetM m pc (Gu.sizeF (m.B pc))→m'.B (pc+j)=m.B (pc+j)):insOf m' pc=insOf m pc:=by
 have e:byL m' pc (fetM m pc (Gu.sizeF (m.B pc)))=byL m pc (fetM m pc (Gu.sizeF (m.B pc))):=by
  unfold byL
  apply List.map_congr_left
  intro j hj
  exact hB j (List.mem_range.1 hj)
 unfold insOf
 rw[badN_congr hR,h0,(fet_congr hR pc _).1,(fet_congr hR pc _).2,e]
theorem ins_len{m:MS}(hm:m.Ok){pc:Nat}(hk:(insOf m pc).k=0):1≤(insOf m pc).n∧fetM m pc (Gu.sizeF (m.B pc))≤(insOf m pc).n∧pc+(insOf m pc).n≤65536:=by
 unfold insOf at hk ⊢
 cases hb:badN m 4 pc 1 with
 | some x=>rw[hb] at hk;exact absurd (show(4:Int)=0 from hk) (by decide)
 | none=>
  rw[hb] at hk
  simp only at hk ⊢
  cases hb2:fet m pc (Gu.sizeF (m.B pc)) with
  | some x=>rw[hb2] at hk;exact absurd (show(4:Int)=0 from hk) (by decide)
  | none=>
   rw[hb2] at hk
   simp only at hk ⊢
   split at hk
   ·rename_i he
    rw[if_pos he]
    generalize hF:fetM m pc (Gu.sizeF (m.B pc))=F at he ⊢
    show 1≤(Gu.refDec (byL m pc F) F).n.toNat∧F≤(Gu.refDec (byL m pc F) F).n.toNat∧pc+(Gu.refDec (byL m pc F) F).n.toNat≤65536
    have hF0:F≠0:=fun e0=>by rw[e0] at he;simp[Gu.refDec,Gu.decErr] at he
    have hz:(byL m pc F).getD 0 0=m.B pc:=by
     unfold byL
     rw[List.getD_eq_getElem?_getD,List.getElem?_map,List.getElem?_range zo]
     simp
    have hf:(0 < Gu.sizeF (m.B pc)∧Gu.sizeF (m.B pc)≤8)∧badN m 4 pc (Gu.sizeF (m.B pc)).toNat=none:=by
     unfold fetM at hF
     split at hF
     ·assumption
     ·omega
    have hF2:F=(Gu.sizeF (m.B pc)).toNat:=by rw[← hF];unfold fetM;rw[if_pos hf]
    have hn:(Gu.refDec (byL m pc F) F).n=Gu.sizeF (m.B pc):=by
     unfold Gu.refDec at he ⊢
     rw[if_neg hF0] at he ⊢
     rw[hz] at he ⊢
     unfold Gu.sizeF
     cases hh:Gu.hitF (m.B pc) with
     | none=>rw[hh] at he;simp[Gu.decErr] at he
     | some k=>
      rw[hh] at he
      simp only at he ⊢
      split at he
      ·simp[Gu.decErr] at he
      ·rename_i h1
       split at he
       ·simp[Gu.decErr] at he
       ·rename_i h2
        rw[if_neg h1,if_neg h2]
    have hl:=badN_lt hf.2 zo
    rw[hn]
    omega
   ·exact absurd (show(3:Int)=0 from hk) (by decide)
def tailF(s:MS)(pc:Nat):Nat→Nat→Nat→Nat→List OpR
 | 0,next,count,_=>[gotoO next count]
 | f+1,next,count,M=>
  if(insOf s next).k≠0 then
   if count=0 then [⟨14,(insOf s next).k,0,(insOf s next).a,0,pc,0⟩] else [gotoO next count]
  else if endsF (insOf s next).op=true then liftF (xiOf (insOf s next) next count) M
  else liftF (xiOf (insOf s next) next count) M++tailF s pc f ((next+(insOf s next).n)%4294967296) (count+1) (M+(liftF (xiOf (insOf s next) next count) M).length)
theorem blk_tail(s:MS)(pc:Nat):∀ (f next count bytes:Nat) (l:List OpR),(blkF s pc f next count bytes l).l=l++tailF s pc f next count l.length
 | 0,next,count,bytes,l=>rfl
 | f+1,next,count,bytes,l=>by
  rw[blkF,tailF]
  by_cases hk:(insOf s next).k≠0
  ·rw[if_pos hk,if_pos hk]
   by_cases hc:count=0
   ·rw[if_pos hc,if_pos hc]
   ·rw[if_neg hc,if_neg hc]
  ·rw[if_neg hk,if_neg hk]
   by_cases he:endsF (insOf s next).op=true
   ·rw[if_pos he,if_pos he]
   ·rw[if_neg he,if_neg he,blk_tail s pc f,List.append_assoc,List.length_append]
def goF(xk xa:Int):Nat→MS→GS→Option (MS × GS)
 | 0,m,t=>some (m,t)
 | n+1,m,t=>
  if(stepF m t).k=1∧n=0∧xk=1∧xa=(stepF m t).a then some ((stepF m t).m,(stepF m t).t)
  else if(stepF m t).k≠0 then none
  else if stOp (insOf m t.pc).op=true∧touchB (stepF m t).m=true∧0 < n then none
  else goF xk xa n (stepF m t).m (stepF m t).t
structure Going(m:MS)(i:IR)(nx:Nat)(o:SO):Prop where
 pc:o.t.pc=nx
 mem:o.m=m∨(stOp i.op=true∧∃ a n v,o.m=storeT m a n v)
theorem ldG_go{m:MS}{s:GS}{a:Nat}{n:Int}{g:Nat→GS}{i:IR}{nx:Nat}(h:∀ v,(g v).pc=nx)(hk:(ldG m s a n g).k=0):Going m i nx (ldG m s a n g):=by
 unfold ldG at hk ⊢
 split at hk
 ·exact absurd hk (by simp)
 ·exact⟨h _,Or.inl rfl⟩
theorem stG_go{m:MS}{s t:GS}{a:Nat}{n:Int}{v:Nat}{i:IR}{nx:Nat}(h:t.pc=nx)(ho:stOp i.op=true)(hk:(stG m s a n v t).k=0):Going m i nx (stG m s a n v t):=by
 unfold stG at hk ⊢
 split at hk
 ·exact absurd hk (by simp)
 ·exact⟨h,Or.inr ⟨ho,_,_,_,rfl⟩⟩
theorem step_go{m:MS}{c:Nat→Nat}{pc done:Nat}{i:IR}(h:SimIn m c pc i done)(he:endsF i.op=false)(hk:(stepF m (csG c pc)).k=0):Going m i ((pc+i.n)%4294967296) (stepF m (csG c pc)):=by
 have h0:=h.ok.op0
 have h1:=h.ok.op1
 unfold stepF at hk ⊢
 simp only[csG_f h.hc,show(csG c pc).pc=pc from rfl,h.hi,h.hk,w32_nat] at hk ⊢
 obtain⟨t,ht⟩:∃ t:Nat,i.op=t:=⟨i.op.toNat,by omega⟩
 have hlt:t < 32:=zo
 rw[ht] at he hk ⊢
 match t,hlt,ht with
 | 0,_,ht|16,_,ht|17,_,ht|18,_,ht|19,_,ht|20,_,ht|21,_,ht|22,_,ht|23,_,ht=>
  exact⟨by simp[GS.setR,GS.setF,GS.setPC],by simp⟩
 | 1,_,_|2,_,_|5,_,_|6,_,_|7,_,_|8,_,_|9,_,_|10,_,_|11,_,_|12,_,_|13,_,_=>exact absurd he (by decide)
 | 27,_,ht|28,_,ht|29,_,ht=>
  simp at hk ⊢
  split at hk
  ·rename_i hr
   rw[if_pos hr]
   exact⟨by simp[GS.setR,GS.setF,GS.setPC],by simp⟩
  ·exact absurd hk (by simp)
 | 4,_,ht|15,_,ht|30,_,ht=>
  simp[memF,ht] at hk ⊢
  exact ldG_go (fun v=>rfl) hk
 | 3,_,ht|14,_,ht|31,_,ht=>
  simp[memF,ht] at hk ⊢
  exact stG_go rfl (by rw[ht];decide) hk
 | 24,_,ht|25,_,ht|26,_,ht=>
  simp[memF,ht] at hk ⊢
  split at hk
  ·exact absurd hk (by simp)
  ·exact stG_go (by unfold swT;simp[ht];(repeat' split)<;>rfl) (by rw[ht];decide) hk
 | n+32,h,_=>exact absurd h zo
theorem runL_ok:∀ (l:List OpR) (i:Nat) (q:Sq),SqOk q→(∀ o∈l,o.k < 4294967296)→SqOk (runL l i q).1
 | [],i,q,h,_=>h
 | o :: l,i,q,h,hk=>by
  have h1:=nextO_ok o i q h (hk o List.mem_cons_self)
  unfold runL
  split
  ·exact h1
  ·exact runL_ok l (i+1) _ h1 (fun o' ho'=>hk o' (List.mem_cons_of_mem _ ho'))
theorem reck_k(O:Nat)(D b:Int)(pc:Nat)(done m:Int)(hpc:pc < 4294967296):∀ o∈reckOps O D b pc done m,o.k < 4294967296:=by
 unfold reckOps
 split<;>simp[hpc]
theorem lift_k(x:XI)(m:Int)(h1:x.pc < 4294967296)(h2:x.next < 4294967296)(h3:x.im < 4294967296):∀ o∈liftF x m,o.k < 4294967296:=by
 have h4:(x.next+x.im)%4294967296 < 4294967296:=Nat.mod_lt _ (by decide)
 unfold liftF
 split<;>first
  | (simp[h1,h2,h3,h4];done)
  | (intro o ho;rcases List.mem_cons.1 ho with rfl|ho2<;>first|exact reck_k _ _ _ _ _ _ h1 o ho2|exact h3|(show(0:Nat) < 4294967296;decide))
structure Kept(s m:MS):Prop where
 R:m.R=s.R
 M:m.M=s.M
 B:∀ a,a < 65536→s.M (a / 256)=true→m.B a=s.B a
theorem ins_kept{s m:MS}(hs:s.Ok)(hK:Kept s m){next:Nat}(hk:(insOf s next).k=0)(hmk:∀ j,j < (insOf s next).n→s.M ((next+j) / 256)=true):insOf m next=insOf s next:=by
 obtain⟨h1,h2,h3⟩:=ins_len hs hk
 have h0:=hK.B next zo (by have:=hmk 0 zo;simpa using this)
 exact insOf_congr hK.R h0 (fun j hj=>hK.B (next+j) zo (hmk j zo))
theorem kept_store{s m:MS}(hK:Kept s m){a:Nat}{n:Int}{v:Nat}(ht:touchB (storeT m a n v)=false):Kept s (storeT m a n v):=by
 obtain⟨h1,h2⟩:=store_BM m a n v
 exact⟨h2.trans hK.R,h1.trans hK.M,fun b hb hM=>(store_keep ht hb (by rw[hK.M];exact hM)).trans (hK.B b hb hM)⟩
structure EndOk(N count j:Nat)(x:ExR)(q:Sq):Prop where
 le:count+j≤N
 sys:x.k=1→count+j=N
 go:x.k=0→(count+j=N∧0 < count+j)∨(0 < j∧touchB q.s=true)
 st:x.k≠0→x.k≠1→(stepF q.s (csG q.c x.pc.toNat)).k=x.k∧(stepF q.s (csG q.c x.pc.toNat)).a=x.a
theorem len_gt(s:MS)(pc f n size:Nat)(h:0 < n):n≤(lenF s pc f n size).n:=by
 rcases len_ge s pc f n size with g|g
 ·exact g
 ·omega
theorem len_size(s:MS)(pc:Nat):∀ (f n size:Nat),0 < n→size≤(lenF s pc f n size).size
 | 0,n,size,_=>Nat.le_refl _
 | f+1,n,size,h=>by
  rw[lenF]
  split
  ·rw[if_neg zo];exact Nat.le_refl _
  ·split
   ·exact Nat.le_add_right _ _
   ·have:=len_size s pc f (n+1) (size+(insOf s ((pc+size)%4294967296)).n) zo
    omega
theorem ldG_k{m:MS}{s:GS}{a:Nat}{n:Int}{g:Nat→GS}:(ldG m s a n g).k≠1:=by unfold ldG;split<;>simp
theorem stG_k{m:MS}{s t:GS}{a:Nat}{n:Int}{v:Nat}:(stG m s a n v t).k≠1:=by unfold stG;split<;>simp
theorem step_nsys{m:MS}{c:Nat→Nat}{pc done:Nat}{i:IR}(h:SimIn m c pc i done)(he:endsF i.op=false):(stepF m (csG c pc)).k≠1:=by
 have h0:=h.ok.op0
 have h1:=h.ok.op1
 unfold stepF
 simp only[csG_f h.hc,show(csG c pc).pc=pc from rfl,h.hi,h.hk,w32_nat]
 obtain⟨t,ht⟩:∃ t:Nat,i.op=t:=⟨i.op.toNat,by omega⟩
 have hlt:t < 32:=zo
 rw[ht] at he ⊢
 match t,hlt,ht with
 | 0,_,ht|16,_,ht|17,_,ht|18,_,ht|19,_,ht|20,_,ht|21,_,ht|22,_,ht|23,_,ht=>simp
 | 1,_,_|2,_,_|5,_,_|6,_,_|7,_,_|8,_,_|9,_,_|10,_,_|11,_,_|12,_,_|13,_,_=>exact absurd he (by decide)
 | 27,_,ht|28,_,ht|29,_,ht=>simp;split<;>simp
 | 4,_,ht|15,_,ht|30,_,ht=>simp[memF,ht];exact ldG_k
 | 3,_,ht|14,_,ht|31,_,ht=>simp[memF,ht];exact stG_k
 | 24,_,ht|25,_,ht|26,_,ht=>
  simp[memF,ht]
  split
  ·simp
  ·exact stG_k
 | n+32,h,_=>exact absurd h zo
theorem one_left{m:MS}{c:Nat→Nat}{next count M N:Nat}{i:IR}{v:Nat→Nat}(h:SimIn m c next i count)(hsim:Sim m c next i count M v){x:ExR}(hx:leftX (stepF m (csG c next)) i.op next count=some x)
  (hN:count+1≤N) (hE:endsF i.op=true→N=count+1) :
  ∃ q x' j,runL (liftF (xiOf i next count) M) M ⟨c,m,v⟩=(q,some x')∧x'.n=((count+j:Nat):Int)∧goF x'.k x'.a j m (csG c next)=some (q.s,csG q.c x'.pc.toNat)∧EndOk N count j x' q:=by
 obtain⟨s1,s2,s3⟩:=hsim
 generalize hr:runL (liftF (xiOf i next count) M) M ⟨c,m,v⟩=r at s1 s2 s3
 obtain⟨q,rx⟩:=r
 have hns:=fun he=>step_nsys h he
 have hend:=stepF_end m (csG c next)
 rw[csG_f h.hc] at hend
 rw[hx] at s3
 have s3':rx=some x:=s3
 subst s3'
 simp only at s1 s2
 have hop:(insOf m (csG c next).pc).op=i.op:=by show(insOf m next).op=i.op;rw[h.hi]
 generalize ho:stepF m (csG c next)=o at s1 s2 hx hns hend
 unfold leftX at hx
 by_cases k0:o.k=0
 ·rw[if_pos k0] at hx
  split at hx
  ·rename_i hcond
   cases hx
   refine⟨q,_,1,rfl,by show(count:Int)+1=_;omega,?_,?_⟩
   ·simp only[goF,ho,k0]
    simp
    exact⟨s1.symm,s2.symm⟩
   ·refine⟨hN,fun hh=>absurd hh (by simp),fun _=>?_,fun hh=>absurd rfl hh⟩
    rcases hcond with hh|⟨hh,ht⟩
    ·exact Or.inl ⟨(hE hh).symm,by omega⟩
    ·exact Or.inr ⟨by omega,by rw[s1];exact ht⟩
  ·cases hx
 ·rw[if_neg k0] at hx
  by_cases k1:o.k=1
  ·rw[if_pos k1] at hx
   cases hx
   have he:endsF i.op=true:=by
    cases hh:endsF i.op with
    | true=>rfl
    | false=>exact absurd k1 (hns hh)
   refine⟨q,_,1,rfl,by show(count:Int)+1=_;omega,?_,?_⟩
   ·simp only[goF,ho,k1]
    simp
    exact⟨s1.symm,s2.symm⟩
   ·exact⟨hN,fun _=>(hE he).symm,fun hh=>absurd hh (by simp),fun _ hh=>absurd rfl hh⟩
  ·rw[if_neg k1] at hx
   cases hx
   have hst:Stopped m (csG c next) o:=hend.resolve_left zo
   have e1:q.s=m:=s1.trans hst.mm
   have e2:csG q.c next=csG c next:=by rw[hst.t] at s2;exact s2
   refine⟨q,_,0,rfl,rfl,?_,?_⟩
   ·show some (m,csG c next)=some (q.s,csG q.c (next:Int).toNat)
    rw[e1,show(next:Int).toNat=next from rfl,e2]
   ·refine⟨by omega,fun hh=>absurd hh k1,fun hh=>absurd hh k0,fun _ _=>?_⟩
    show(stepF q.s (csG q.c (next:Int).toNat)).k=o.k∧(stepF q.s (csG q.c (next:Int).toNat)).a=o.a
    rw[show(next:Int).toNat=next from rfl,e1,e2,ho]
    exact⟨rfl,rfl⟩
theorem blk_sim(s:MS)(hs:s.Ok)(pc tot N:Nat)(hpc:pc < 4294967296)(hmk:∀ a,pc≤a→a < pc+tot→s.M (a / 256)=true) :
  ∀ (f next count bytes M:Nat) (c:Nat→Nat) (m:MS) (v:Nat→Nat),next=(pc+bytes)%4294967296→(0 < count→pc+bytes≤65536)→(count=0→m.B=s.B∧bytes=0)→0 < count+f→
   (lenF s pc f count bytes).n=N→(lenF s pc f count bytes).size=tot→(∀ k,(lenF s pc f count bytes).k=k→True)→Kept s m→SqOk ⟨c,m,v⟩→
   ∃ q x j,runL (tailF s pc f next count M) M ⟨c,m,v⟩=(q,some x)∧x.n=((count+j:Nat):Int)∧goF x.k x.a j m (csG c next)=some (q.s,csG q.c x.pc.toNat)∧EndOk N count j x q
 | 0,next,count,bytes,M,c,m,v,hn,hp,h0,hf,hN,ht,_,hK,hq=>by
  refine⟨⟨c,m,v⟩,⟨0,0,next,count⟩,0,?_,rfl,rfl,?_⟩
  ·simp[tailF,gotoO,runL,leftO,nextO,exO,isV]
  ·have:count=N:=hN
   exact⟨by omega,fun h=>absurd h (by simp),fun _=>Or.inl ⟨by omega,by omega⟩,fun h=>absurd rfl h⟩
 | f+1,next,count,bytes,M,c,m,v,hn,hp,h0,hf,hN,ht,_,hK,hq=>by
  rw[lenF,← hn] at hN ht
  rw[tailF]
  have hnl:next < 4294967296:=by rw[hn];exact Nat.mod_lt _ (by decide)
  by_cases hk:(insOf s next).k≠0
  ·rw[if_pos hk] at hN ht ⊢
   by_cases hc:count=0
   ·rw[if_pos hc] at hN ht ⊢
    obtain⟨hB,hb0⟩:=h0 hc
    have hnp:next=pc:=by rw[hn,hb0,Nat.add_zero,Nat.mod_eq_of_lt hpc]
    have hi:insOf m next=insOf s next:=insOf_congr hK.R (by rw[hB]) (fun j _=>by rw[hB])
    refine⟨⟨c,m,v⟩,⟨(insOf s next).k,(insOf s next).a,pc,0⟩,0,?_,by simp[hc],?_,?_⟩
    ·simp[runL,leftO,nextO,exO,isV]
    ·show some (m,csG c next)=some (m,csG c (pc:Int).toNat)
     rw[hnp];rfl
    ·have hN0:(0:Nat)=N:=hN
     have h3:=insOf_k s next
     refine⟨by omega,fun h=>by omega,fun h=>absurd h hk,fun _ _=>?_⟩
     show(stepF m (csG c (pc:Int).toNat)).k=_∧_
     rw[show((pc:Int).toNat)=next by rw[hnp];rfl]
     unfold stepF
     simp only[csG_f hq.c,show(csG c next).pc=next from rfl,hi]
     rw[if_pos hk]
     exact⟨rfl,rfl⟩
   ·rw[if_neg hc] at hN ht ⊢
    refine⟨⟨c,m,v⟩,⟨0,0,next,count⟩,0,?_,rfl,rfl,?_⟩
    ·simp[gotoO,runL,leftO,nextO,exO,isV]
    ·have:count=N:=hN
     exact⟨by omega,fun h=>absurd h (by simp),fun _=>Or.inl ⟨by omega,by omega⟩,fun h=>absurd rfl h⟩
  ·rw[if_neg hk] at hN ht ⊢
   have hk0:(insOf s next).k=0:=Decidable.not_not.1 hk
   have hio:=insOf_ok s next hs hk0
   obtain⟨g1,g2,g3⟩:=ins_len hs hk0
   have hpb:next=pc+bytes:=by
    by_cases hc:count=0
    ·obtain⟨_,hb0⟩:=h0 hc
     rw[hn,hb0]
     omega
    ·have:=hp zo
     rw[hn]
     omega
   have htb:bytes+(insOf s next).n≤tot∧count+1≤N:=by
    by_cases he:endsF (insOf s next).op=true
    ·rw[if_pos he] at ht hN
     have e1:bytes+(insOf s next).n=tot:=ht
     have e2:count+1=N:=hN
     omega
    ·rw[if_neg he] at ht hN
     have e1:=len_size s pc f (count+1) (bytes+(insOf s next).n) zo
     have e2:=len_gt s pc f (count+1) (bytes+(insOf s next).n) zo
     omega
   have hi:insOf m next=insOf s next:=ins_kept hs hK hk0 (fun j hj=>hmk (next+j) zo zo)
   have hsi:SimIn m c next (insOf s next) count:=⟨hq.c,hq.s,hi,hk0,hio,hnl⟩
   have hsim:Sim m c next (insOf s next) count M v:=sim_any hsi
   have hkk:∀ o∈liftF (xiOf (insOf s next) next count) M,o.k < 4294967296:=lift_k _ _ hnl (Nat.mod_lt _ (by decide)) hio.im
   by_cases he:endsF (insOf s next).op=true
   ·rw[if_pos he] at hN ⊢
    have e2:count+1=N:=hN
    cases hx:leftX (stepF m (csG c next)) (insOf s next).op next count with
    | some x=>exact one_left hsi hsim hx zo (fun _=>e2.symm)
    | none=>
     exfalso
     unfold leftX at hx
     split at hx
     ·rw[if_pos (Or.inl he)] at hx;cases hx
     ·split at hx<;>cases hx
   ·rw[if_neg he] at hN ht ⊢
    rw[runL_app]
    cases hx:leftX (stepF m (csG c next)) (insOf s next).op next count with
    | some x=>
     obtain⟨q,x',j,e1,e2,e3,e4⟩:=one_left hsi hsim hx htb.2 (fun hh=>absurd hh he)
     rw[e1]
     exact⟨q,x',j,rfl,e2,e3,e4⟩
    | none=>
     have hqo:=runL_ok _ M ⟨c,m,v⟩ hq hkk
     obtain⟨s1,s2,s3⟩:=hsim
     have k0:(stepF m (csG c next)).k=0:=by
      unfold leftX at hx
      split at hx
      ·assumption
      ·split at hx<;>cases hx
     have hnt:¬(stOp (insOf s next).op=true∧touchB (stepF m (csG c next)).m=true):=fun hh=>by
      unfold leftX at hx
      rw[if_pos k0,if_pos (Or.inr hh)] at hx
      cases hx
     have hgo:=step_go hsi (by simpa using he) k0
     rw[hx] at s3
     generalize runL (liftF (xiOf (insOf s next) next count) M) M ⟨c,m,v⟩=r at s1 s2 s3 hqo ⊢
     obtain⟨⟨qc,qs,qv⟩,rx⟩:=r
     have s3':rx=none:=s3
     subst s3'
     simp only at s1 s2 hqo ⊢
     have hKq:Kept s qs:=by
      rw[s1]
      rcases hgo.mem with hm|⟨ho,a,n,vv,hm⟩
      ·rw[hm];exact hK
      ·have ht2:touchB (stepF m (csG c next)).m=false:=by
        cases hh:touchB (stepF m (csG c next)).m with
        | false=>rfl
        | true=>exact absurd ⟨ho,hh⟩ hnt
       rw[hm] at ht2 ⊢
       exact kept_store hK ht2
     obtain⟨q2,x,j,e1,e2,e3,e4⟩:=blk_sim s hs pc tot N hpc hmk f ((next+(insOf s next).n)%4294967296) (count+1) (bytes+(insOf s next).n) (M+(liftF (xiOf (insOf s next) next count) M).length) qc qs qv
      (by rw[hpb,Nat.add_assoc]) (fun _=>by omega) (fun hh=>absurd hh zo) zo hN ht (fun _ _=>trivial) hKq hqo
     refine⟨q2,x,j+1,e1,by rw[e2];omega,?_,?_⟩
     ·rw[goF]
      have hop:(insOf m (csG c next).pc).op=(insOf s next).op:=by show(insOf m next).op=_;rw[hi]
      rw[if_neg zo,if_neg zo,if_neg (by rw[hop];exact fun hh=>hnt ⟨hh.1,hh.2.1⟩)]
      rw[hgo.pc] at s2
      rw[← s1,← s2]
      exact e3
     ·exact⟨by have:=e4.le;omega,fun hh=>by have:=e4.sys hh;omega,fun hh=>by
       rcases e4.go hh with ⟨a1,a2⟩|⟨a1,a2⟩
       ·exact Or.inl ⟨by omega,by omega⟩
       ·exact Or.inr ⟨by omega,a2⟩,e4.st⟩
end Go.Proofs.YtfokgedjocnnmaaGreat
