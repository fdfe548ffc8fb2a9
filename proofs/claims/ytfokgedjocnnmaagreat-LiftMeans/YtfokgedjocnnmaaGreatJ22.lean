import Derived.Test.YtfokgedjocnnmaaGreatJ16
set_option linter.unusedVariables false
set_option linter.unusedSimpArgs false
set_option maxHeartbeats 4000000
namespace Go.Proofs.YtfokgedjocnnmaaGreat
open Go.RowKit
set_option maxRecDepth 100000
def stepH(m:MS)(s:GS)(i:IR):SO:=
 if i.k≠0 then⟨s,i.k,i.a,m⟩ else
 let next:=w32 ((s.pc:Int)+i.n)
 let t:=s.setPC next
 let mine:=s.R i.D
 let other:=s.R i.S
 let at':=w32 ((other:Int)+i.imm)
 if i.op=1 then⟨s,2,0,m⟩
 else if i.op=5 then⟨t,1,i.imm,m⟩
 else if i.op=6∨i.op=7 then⟨t.setPC (w32 ((next:Int)+i.imm)),0,0,m⟩
 else if i.op=12∨i.op=13 then⟨if Fl.holdsF i.O s.f then t.setPC (w32 ((next:Int)+i.imm)) else t,0,0,m⟩
 else if i.op=9 then⟨t.setPC other,0,0,m⟩
 else if i.op=16 then⟨t.setR i.D i.imm,0,0,m⟩
 else if i.op=22 then⟨t.setR i.D other,0,0,m⟩
 else if i.op=23 then⟨t.setR i.D at',0,0,m⟩
 else if i.op=20 then⟨t.setR i.D (w32 (4294967295 - mine)),0,0,m⟩
 else if i.op=17 then⟨(t.setR i.D (w32 ((mine:Int)+1))).setF (Fl.flagsF 11 mine 0 s.f).toNat,0,0,m⟩
 else if i.op=18 then⟨(t.setR i.D (w32 ((mine:Int) - 1))).setF (Fl.flagsF 12 mine 0 s.f).toNat,0,0,m⟩
 else if i.op=19 then⟨(t.setR i.D (w32 (0 - mine))).setF (Fl.flagsF 3 0 mine s.f).toNat,0,0,m⟩
 else if i.op=21 then⟨t.setR i.D (if Fl.holdsF i.O s.f then 1 else 0),0,0,m⟩
 else if i.op=27∨i.op=28∨i.op=29 then
  let b:=if i.op=27 then other else i.imm
  if Fl.recOk i.O b then⟨(t.setR i.D (Fl.recX i.O mine b s.f).toNat).setF (Fl.recFl i.O mine b s.f).toNat,0,0,m⟩ else⟨s,7,0,m⟩
 else if i.op=0 then⟨t,0,0,m⟩
 else memF m i s t at'
theorem stepF_eq(m:MS)(s0:GS):stepF m s0=stepH m (s0.setF (s0.f%16)) (insOf m s0.pc):=rfl
structure StA(w0 w:World)(k:RB)(m:MS)(s:GS):Prop where
 rm:RM w k m
 chg:Chg k.all w0 w
 b0:w.heap[w0.heap.size]?=some (gsB s)
 b1:w.heap[w0.heap.size+1]?=some (gsB gs0)
 b2:w.heap[w0.heap.size+1+1]?=some (stopB 0 0)
 lk:∀ x∈k.y :: k.all,x < w0.heap.size
abbrev stW0(w:World)(s:GS):World:=((w.alloc (gsB s)).alloc (gsB gs0)).alloc (stopB 0 0)
theorem st_start{w:World}{k:RB}{m:MS}{s:GS}(h:RM w k m):StA w (stW0 w s) k m s:=by
 have hB:Below w.heap.size w (stW0 w s):=(((Below.refl _ _).alloc (Nat.le_refl _) _).alloc (by simp) _).alloc zq17 _
 refine⟨h.below hB (Nat.le_refl _),Chg.of_below _ hB,?_,?_,?_,h.lt⟩
 ·exact alloc_at (w':=w) (alloc_at (w':=w) (last_at _ _ _ rfl))
 ·exact alloc_at (w':=w) (last_at _ _ _ (by simp))
 ·exact last_at _ _ _ (by simp)
theorem StA.below{w0 w w':World}{k:RB}{m:MS}{s:GS}(h:StA w0 w k m s)(hb:Below w.heap.size w w'):StA w0 w' k m s:=
 ⟨h.rm.below hb (Nat.le_refl _),h.chg.trans (Chg.of_below _ hb),(hb.block _ (lt_of_block h.b0)).trans h.b0,(hb.block _ (lt_of_block h.b1)).trans h.b1,(hb.block _ (lt_of_block h.b2)).trans h.b2,h.lk⟩
theorem StA.after{w0 w w':World}{k:RB}{m m':MS}{s:GS}(h:StA w0 w k m s)(hR:RM w' k m')(hc:Chg k.all w w'):StA w0 w' k m' s:=by
 have hn:∀ b,w0.heap.size≤b→b∉k.all:=fun b hb hm=>by have:=h.lk b (List.mem_cons_of_mem _ hm);omega
 exact⟨hR,h.chg.trans hc,(hc.block _ (lt_of_block h.b0) (hn _ zo)).trans h.b0,(hc.block _ (lt_of_block h.b1) (hn _ zo)).trans h.b1,(hc.block _ (lt_of_block h.b2) (hn _ zo)).trans h.b2,h.lk⟩
theorem StA.drew{w0 w:World}{k:RB}{m:MS}{s:GS}(h:StA w0 w k m s):StA w0 w.drew k m s:=⟨h.rm.drew,h.chg.drew,h.b0,h.b1,h.b2,h.lk⟩
structure StB(w0 w:World)(k:RB)(m:MS)(s:GS)(i:IR)(t:GS)(q:Nat):Prop where
 a:StA w0 w k m s
 b3:w.heap[q]?=some (Gu.insB i.op i.D i.S i.O i.imm)
 b5:w.heap[q+1+1]?=some (gsB t)
 hq:w0.heap.size+1+1 < q
theorem stB_start{w0 w1:World}{k:RB}{m:MS}{s t:GS}{i:IR}(h:StA w0 w1 k m s)(ka kb:Int):StB w0 (((w1.alloc (Gu.insB i.op i.D i.S i.O i.imm)).alloc (stopB ka kb)).alloc (gsB t)) k m s i t w1.heap.size:=by
 have hB:Below w1.heap.size w1 (((w1.alloc (Gu.insB i.op i.D i.S i.O i.imm)).alloc (stopB ka kb)).alloc (gsB t)):=(((Below.refl _ _).alloc (Nat.le_refl _) _).alloc (by simp) _).alloc zq17 _
 refine⟨h.below hB,?_,?_,lt_of_block h.b2⟩
 ·exact alloc_at (w':=w1) (alloc_at (w':=w1) (last_at _ _ _ rfl))
 ·exact last_at _ _ _ (by simp)
theorem StB.below{w0 w w':World}{k:RB}{m:MS}{s t:GS}{i:IR}{q:Nat}(h:StB w0 w k m s i t q)(hb:Below w.heap.size w w'):StB w0 w' k m s i t q:=
 ⟨h.a.below hb,(hb.block _ (lt_of_block h.b3)).trans h.b3,(hb.block _ (lt_of_block h.b5)).trans h.b5,h.hq⟩
theorem StB.drew{w0 w:World}{k:RB}{m:MS}{s t:GS}{i:IR}{q:Nat}(h:StB w0 w k m s i t q):StB w0 w.drew k m s i t q:=⟨h.a.drew,h.b3,h.b5,h.hq⟩
theorem StB.putT{w0 w w':World}{k:RB}{m:MS}{s t t':GS}{i:IR}{q:Nat}(h:StB w0 w k m s i t q)(hO:Only (q+1+1) w w')(hb:w'.heap[q+1+1]?=some (gsB t')):StB w0 w' k m s i t' q:=by
 have hq:=h.hq
 have hn:q+1+1∉k.y :: k.all:=fun hm=>by have:=h.a.lk _ hm;omega
 exact⟨⟨h.a.rm.off hn hO.block,h.a.chg.new zo hO,(hO.block _ zo).trans h.a.b0,(hO.block _ zo).trans h.a.b1,(hO.block _ zo).trans h.a.b2,h.a.lk⟩,(hO.block _ zo).trans h.b3,hb,hq⟩
theorem Chg.alloc{S:List Nat}{w w':World}(h:Chg S w w')(o:Obj):Chg S w (w'.alloc o):=h.trans (Chg.of_below _ ((Below.refl _ _).alloc (Nat.le_refl _) o))
theorem turN_bd:∀ (n:Nat) (x:Int),0≤x→x < 4294967296→0≤Fl.turN n x∧Fl.turN n x < 4294967296
 | 0,x,h0,h1=>⟨h0,h1⟩
 | n+1,x,h0,h1=>turN_bd n _ (Fl.tur1_bd x h0 h1).1 (Fl.tur1_bd x h0 h1).2
theorem recX_bd(o:Int)(a b f:Nat)(ha:a < 4294967296)(hb:b < 4294967296):0≤Fl.recX o a b f∧Fl.recX o a b f < 4294967296:=by
 have hbit:=Fl.bitN_lt o a b ha hb
 unfold Fl.recX
 by_cases h1:o=0
 ·rw[if_pos h1];omega
 rw[if_neg h1]
 by_cases h2:o=1
 ·rw[if_pos h2];omega
 rw[if_neg h2]
 by_cases h3:o=2
 ·rw[if_pos h3];omega
 rw[if_neg h3]
 by_cases h4:o=3
 ·rw[if_pos h4];omega
 rw[if_neg h4]
 by_cases h5:o=4∨o=5∨o=6
 ·rw[if_pos h5];omega
 rw[if_neg h5]
 by_cases h6:o=7∨o=8
 ·rw[if_pos h6];omega
 rw[if_neg h6]
 by_cases h7:o=9
 ·rw[if_pos h7]
  have:=Nat.mod_lt (a*2 ^ (b%32)) (show 0 < 4294967296 by omega)
  omega
 rw[if_neg h7]
 by_cases h8:o=10
 ·rw[if_pos h8]
  have e:(a:Int) / 2 ^ (b%32)=((a / 2 ^ (b%32):Nat):Int):=by push_cast;rfl
  have:=Nat.div_le_self a (2 ^ (b%32))
  rw[e];exact⟨Int.natCast_nonneg _,by have h2:=Int.ofNat_le.2 this;omega⟩
 rw[if_neg h8]
 by_cases h9:o=11
 ·rw[if_pos h9];omega
 rw[if_neg h9]
 by_cases h10:o=12
 ·rw[if_pos h10];exact turN_bd _ _ zo zo
 rw[if_neg h10]
 by_cases h11:o=13
 ·rw[if_pos h11]
  have:=Nat.mod_lt (a*b) (show 0 < 4294967296 by omega)
  omega
 rw[if_neg h11]
 by_cases h12:o=14∧0 < b
 ·rw[if_pos h12]
  have h2:=Int.ofNat_le.2 (Nat.div_le_self a b)
  exact⟨Int.natCast_nonneg _,by omega⟩
 rw[if_neg h12]
 by_cases h13:o=15∧0 < b
 ·rw[if_pos h13]
  have:=Nat.mod_le a b
  omega
 rw[if_neg h13];omega
theorem recFl_bd(o:Int)(a b f:Nat):0≤Fl.recFl o a b f∧Fl.recFl o a b f≤15:=by
 have v:=fun x=>Fl.valF_bd x
 unfold Fl.recFl
 by_cases h1:o=0
 ·rw[if_pos h1];exact flagsF_bd ..
 rw[if_neg h1]
 by_cases h2:o=1
 ·rw[if_pos h2];exact flagsF_bd ..
 rw[if_neg h2]
 by_cases h3:o=2
 ·rw[if_pos h3];exact flagsF_bd ..
 rw[if_neg h3]
 by_cases h4:o=3
 ·rw[if_pos h4];exact flagsF_bd ..
 rw[if_neg h4]
 by_cases h5:o=4∨o=5∨o=6
 ·rw[if_pos h5];have:=v (Fl.bitN o a b);omega
 rw[if_neg h5]
 by_cases h6:o=7
 ·rw[if_pos h6];exact flagsF_bd ..
 rw[if_neg h6]
 by_cases h6':o=8
 ·rw[if_pos h6'];have:=v (Fl.bitN 4 a b);omega
 rw[if_neg h6']
 by_cases h7:o=9
 ·rw[if_pos h7];exact flagsF_bd ..
 rw[if_neg h7]
 by_cases h8:o=10
 ·rw[if_pos h8];exact flagsF_bd ..
 rw[if_neg h8]
 by_cases h9:o=11
 ·rw[if_pos h9];exact flagsF_bd ..
 rw[if_neg h9]
 by_cases h10:o=12
 ·rw[if_pos h10];exact flagsF_bd ..
 rw[if_neg h10]
 by_cases h11:o=13
 ·rw[if_pos h11];exact flagsF_bd ..
 rw[if_neg h11]
 by_cases h12:o=14∧0 < b
 ·rw[if_pos h12];have:=v ((a / b:Nat):Int);omega
 rw[if_neg h12]
 by_cases h13:o=15∧0 < b
 ·rw[if_pos h13];have:=v ((a%b:Nat):Int);omega
 rw[if_neg h13];omega
theorem rstep_bad(k:RB)(m:MS)(s0 s:GS)(i:IR)(w:World)(hrm:RM w k m)(hs0:s0.Ok)(hs:s0.setF (s0.f%16)=s)
  (hins:∀ w1,RM w1 k m→Calls Tryz.prog 23 #[.pointer (some ⟨k.y,0,none⟩),.int .u32 s.pc] w1 fun e w'=>e=.returned (insV i)∧Below w1.heap.size w1 w') (hk:¬i.k=0) :
  Calls Tryz.prog 32 #[.pointer (some ⟨k.y,0,none⟩),gsV s0] w fun e w'=>
   e=.returned (.tuple #[gsV (stepH m s i).t,.agg #[.int .i64 (stepH m s i).k,.int .u32 (stepH m s i).a]])∧RM w' k (stepH m s i).m∧Chg k.all w w':=by
 obtain⟨op,d,e,O,im,n,ik,ia⟩:=i
 have HA:Hid (StA w (stW0 w (s0.setF (s0.f%16))) k m (s0.setF (s0.f%16))):=st_start hrm
 have HF16:Hid ((s0.f:Int)%16=((s0.f%16:Nat):Int)):=(Int.natCast_emod s0.f 16).symm
 have HI:Hid _:=hins
 have HS:Hid (s0.setF (s0.f%16)=s):=hs
 have HSO:Hid s.Ok:=hs▸hs0.setF _ zo
 have hk':¬ik=0:=hk
 have hk2:(ik==0)=false:=by simpa using hk'
 have HF:Hid (stepH m s ⟨op,d,e,O,im,n,ik,ia⟩=⟨s,ik,ia,m⟩):=if_pos hk
 clear hk
 clear hrm hins hs hs0
 go_enter Tryz.func32,Tryz.ntmps32
 go_upto_region 2 with fail
 rw[HF16.out]
 change Code.wp _ _ _ _ (stW0 w (s0.setF (s0.f%16)))
 have HA':=HA.out
 rw[HS.out] at HA' ⊢
 clear HA
 have HA:Hid _:=HA'
 clear HA'
 generalize stW0 w s=W at HA ⊢
 have c8:=gs_pc HA.out.b0
 go_wp2_with (go_at_call 23;refine(HI.out _ HA.out.rm).mono ?_;rintro e1 w1 ⟨rfl,hb1⟩;have HA1:Hid (StA w w1 k m s):=HA.out.below hb1;clear hb1;obtain⟨x0,x1,x2,x3,x4,x5,x6,x7,x8,x9⟩:=gs_all HA1.out.b0;have l0:=lt_of_block HA1.out.b0;have l1:=lt_of_block HA1.out.b1;have l2:=lt_of_block HA1.out.b2;obtain⟨z0,z1,z2,z3,z4,z5,z6,z7,z8,z9⟩:=gs_all HA1.out.b1;have zf:=gs_fr HA1.out.b1;obtain⟨p0,p1,pf0,pf1⟩:=stop_cells HA1.out.b2)
 go_region
 all_goals
  go_wp2
  exact bodyPost_ret (v:=.tuple #[gsV s,.agg #[.int .i64 ik,.int .u32 ia]]) zq8 rfl ⟨by rw[HF.out],by
   rw[HF.out]
   have hB:=HA1.out.rm
   have hl:=HA1.out.lk
   repeat first
    | with_reducible exact hB
    | with_reducible refine RM.drew ?_
    | with_reducible refine RM.setOff' ?_ hl zo _ _
    | with_reducible refine RM.alloc ?_ _,by
   have hB:=HA1.out.chg
   repeat first
    | with_reducible exact hB
    | with_reducible refine Chg.drew ?_
    | with_reducible refine Chg.setNew ?_ zo _ _
    | with_reducible refine Chg.alloc ?_ _⟩
theorem rstep1(k:RB)(m:MS)(s0 s:GS)(i:IR)(w:World)(hrm:RM w k m)(hs0:s0.Ok)(hs:s0.setF (s0.f%16)=s)
  (hins:∀ w1,RM w1 k m→Calls Tryz.prog 23 #[.pointer (some ⟨k.y,0,none⟩),.int .u32 s.pc] w1 fun e w'=>e=.returned (insV i)∧Below w1.heap.size w1 w') (hk:i.k=0) (hok:InsOk i) (hop:i.op=6∨i.op=7∨i.op=9∨i.op=16∨i.op=22∨i.op=23∨i.op=20∨i.op=0) :
  Calls Tryz.prog 32 #[.pointer (some ⟨k.y,0,none⟩),gsV s0] w fun e w'=>
   e=.returned (.tuple #[gsV (stepH m s i).t,.agg #[.int .i64 (stepH m s i).k,.int .u32 (stepH m s i).a]])∧RM w' k (stepH m s i).m∧Chg k.all w w':=by
 obtain⟨op,d,e,O,im,n,ik,ia⟩:=i
 have HA:Hid (StA w (stW0 w (s0.setF (s0.f%16))) k m (s0.setF (s0.f%16))):=st_start hrm
 have HF16:Hid ((s0.f:Int)%16=((s0.f%16:Nat):Int)):=(Int.natCast_emod s0.f 16).symm
 have HI:Hid _:=hins
 have HS:Hid (s0.setF (s0.f%16)=s):=hs
 have HSO:Hid s.Ok:=hs▸hs0.setF _ zo
 simp only at hk
 subst hk
 have HOP:Hid (op=6∨op=7∨op=9∨op=16∨op=22∨op=23∨op=20∨op=0):=hop
 have HOK:Hid _:=hok
 have hd:d < 8:=Nat.lt_succ_of_le hok.D1
 have he:e < 8:=Nat.lt_succ_of_le hok.S1
 have hd0:(0:Int)≤d:=Int.natCast_nonneg _
 have hd1:(d:Int) < 8:=zo
 have he0:(0:Int)≤e:=Int.natCast_nonneg _
 have he1:(e:Int) < 8:=zo
 have hn0:(0:Int)≤n:=Int.natCast_nonneg _
 have hn1:(n:Int) < 4294967296:=by have h9:n≤9:=hok.n1;omega
 clear hop hok
 clear hrm hins hs hs0
 go_enter Tryz.func32,Tryz.ntmps32
 go_upto_region 2 with fail
 rw[HF16.out]
 change Code.wp _ _ _ _ (stW0 w (s0.setF (s0.f%16)))
 have HA':=HA.out
 rw[HS.out] at HA' ⊢
 clear HA
 have HA:Hid _:=HA'
 clear HA'
 generalize stW0 w s=W at HA ⊢
 have c8:=gs_pc HA.out.b0
 have aS0:=gs_reg HA.out.b0 e he
 clear aS0
 go_upto_block 0 with (go_at_call 23;refine(HI.out _ HA.out.rm).mono ?_;rintro e1 w1 ⟨rfl,hb1⟩;have HA1:Hid (StA w w1 k m s):=HA.out.below hb1;clear hb1;obtain⟨x0,x1,x2,x3,x4,x5,x6,x7,x8,x9⟩:=gs_all HA1.out.b0;have l0:=lt_of_block HA1.out.b0;have l1:=lt_of_block HA1.out.b1;have l2:=lt_of_block HA1.out.b2;have xD:=gs_reg HA1.out.b0 d hd;have xE:=gs_reg HA1.out.b0 e he;have l01:=Nat.lt_succ_of_lt l0;have l02:=Nat.lt_succ_of_lt l01)
 rw[← w32_cast ((s.pc:Int)+n),← w32_cast ((s.R e:Int)+im)]
 change Code.wp _ _ _ _ (((w1.alloc (Gu.insB op d e O im)).alloc (stopB 0 ia)).alloc (gsB (s.setPC (w32 ((s.pc:Int)+n)))))
 have HB:Hid (StB w (((w1.alloc (Gu.insB op d e O im)).alloc (stopB 0 ia)).alloc (gsB (s.setPC (w32 ((s.pc:Int)+n))))) k m s ⟨op,d,e,O,im,n,0,ia⟩ (s.setPC (w32 ((s.pc:Int)+n))) w1.heap.size):=stB_start (i:=⟨op,d,e,O,im,n,0,ia⟩) HA1.out 0 ia
 clear x0 x1 x2 x3 x4 x5 x6 x7 x8 x9 l0 l1 l2 l01 l02 xD xE HA1 HA c8 HI
 generalize (((w1.alloc (Gu.insB op d e O im)).alloc (stopB 0 ia)).alloc (gsB (s.setPC (w32 ((s.pc:Int)+n)))))=W2 at HB ⊢
 generalize w1.heap.size=q at HB ⊢
 have HNL:Hid (w32 ((s.pc:Int)+n) < 4294967296):=w32_lt _
 have ci:=Gu.ins_cells HB.out.b3
 obtain⟨i0,i1,i2,i3,i4⟩:=ci
 have aS:=gs_reg HB.out.a.b0 e he
 have aD:=gs_reg HB.out.a.b0 d hd
 have a9:=gs_f HB.out.a.b0
 have tD:=gs_reg HB.out.b5 d hd
 have t8:=gs_pc HB.out.b5
 have t9:=gs_f HB.out.b5
 have tf:=gs_fr HB.out.b5
 have hq0:=HB.out.hq
 have hd8:¬d=9:=zo
 have hd8':¬9=d:=zo
 have hne:¬(w.heap.size=q+1+1):=zo
 have hne1:¬(q+1+1=w.heap.size):=zo
 go_cut [] from 14 (fun wx=>∃ t':GS,StB w wx k m s ⟨op,d,e,O,im,n,0,ia⟩ t' q∧stepH m s ⟨op,d,e,O,im,n,0,ia⟩=⟨t',0,0,m⟩)
 case first=>
  rcases HOP.out with rfl|rfl|rfl|rfl|rfl|rfl|rfl|rfl
  ·go_wp2
   go_meet
   case rel=>exact⟨_,HB.out.putT ((Only.refl _ _).setCell _ _) (gs_setPC HB.out.b5 _ (Int.emod_nonneg _ (by decide))),rfl⟩
  ·go_wp2
   go_meet
   case rel=>exact⟨_,HB.out.putT ((Only.refl _ _).setCell _ _) (gs_setPC HB.out.b5 _ (Int.emod_nonneg _ (by decide))),rfl⟩
  ·go_wp2
   go_meet
   case rel=>exact⟨_,HB.out.putT ((Only.refl _ _).setCell _ _) (gs_setPC HB.out.b5 _ (Int.natCast_nonneg _)),by simp only[Int.toNat_natCast];rfl⟩
  ·go_wp2
   go_meet
   case rel=>exact⟨_,HB.out.putT ((Only.refl _ _).setCell _ _) (gs_setR HB.out.b5 d hd _ (Int.natCast_nonneg _)),by simp only[Int.toNat_natCast];rfl⟩
  ·go_wp2
   go_meet
   case rel=>exact⟨_,HB.out.putT ((Only.refl _ _).setCell _ _) (gs_setR HB.out.b5 d hd _ (Int.natCast_nonneg _)),by simp only[Int.toNat_natCast];rfl⟩
  ·go_wp2
   go_meet
   case rel=>exact⟨_,HB.out.putT ((Only.refl _ _).setCell _ _) (gs_setR HB.out.b5 d hd _ (Int.natCast_nonneg _)),by simp only[Int.toNat_natCast];rfl⟩
  ·go_wp2
   go_meet
   case rel=>exact⟨_,HB.out.putT ((Only.refl _ _).setCell _ _) (gs_setR HB.out.b5 d hd _ (Int.emod_nonneg _ (by decide))),rfl⟩
  ·go_wp2
   go_meet
   case rel=>exact⟨_,HB.out,rfl⟩
 case rest=>
  obtain⟨t',hM,hF⟩:=hcut
  have HF:Hid (stepH m s ⟨op,d,e,O,im,n,0,ia⟩=⟨t',0,0,m⟩):=hF
  obtain⟨x0,x1,x2,x3,x4,x5,x6,x7,x8,x9⟩:=gs_all hM.b5
  obtain⟨z0,z1,z2,z3,z4,z5,z6,z7,z8,z9⟩:=gs_all hM.a.b1
  have zf:=gs_fr hM.a.b1
  obtain⟨p0,p1,pf0,pf1⟩:=stop_cells hM.a.b2
  have l0:=lt_of_block hM.a.b0
  have l1:=lt_of_block hM.a.b1
  have l2:=lt_of_block hM.a.b2
  have HM:Hid _:=hM
  clear hM hF i0 i1 i2 i3 i4 aS aD a9 tD t8 t9 tf HB
  go_wp2
  exact bodyPost_ret (v:=.tuple #[gsV t',.agg #[.int .i64 0,.int .u32 0]]) zq8 rfl ⟨by rw[HF.out],by
   rw[HF.out]
   have hB:=HM.out.a.rm
   have hl:=HM.out.a.lk
   repeat first
    | with_reducible exact hB
    | with_reducible refine RM.drew ?_
    | with_reducible refine RM.setOff' ?_ hl zo _ _
    | with_reducible refine RM.alloc ?_ _,by
   have hB:=HM.out.a.chg
   repeat first
    | with_reducible exact hB
    | with_reducible refine Chg.drew ?_
    | with_reducible refine Chg.setNew ?_ zo _ _
    | with_reducible refine Chg.alloc ?_ _⟩
theorem rstep2(k:RB)(m:MS)(s0 s:GS)(i:IR)(w:World)(hrm:RM w k m)(hs0:s0.Ok)(hs:s0.setF (s0.f%16)=s)
  (hins:∀ w1,RM w1 k m→Calls Tryz.prog 23 #[.pointer (some ⟨k.y,0,none⟩),.int .u32 s.pc] w1 fun e w'=>e=.returned (insV i)∧Below w1.heap.size w1 w') (hk:i.k=0) (hok:InsOk i) (hop:i.op=17∨i.op=18∨i.op=19) :
  Calls Tryz.prog 32 #[.pointer (some ⟨k.y,0,none⟩),gsV s0] w fun e w'=>
   e=.returned (.tuple #[gsV (stepH m s i).t,.agg #[.int .i64 (stepH m s i).k,.int .u32 (stepH m s i).a]])∧RM w' k (stepH m s i).m∧Chg k.all w w':=by
 obtain⟨op,d,e,O,im,n,ik,ia⟩:=i
 have HA:Hid (StA w (stW0 w (s0.setF (s0.f%16))) k m (s0.setF (s0.f%16))):=st_start hrm
 have HF16:Hid ((s0.f:Int)%16=((s0.f%16:Nat):Int)):=(Int.natCast_emod s0.f 16).symm
 have HI:Hid _:=hins
 have HS:Hid (s0.setF (s0.f%16)=s):=hs
 have HSO:Hid s.Ok:=hs▸hs0.setF _ zo
 simp only at hk
 subst hk
 have HOP:Hid (op=17∨op=18∨op=19):=hop
 have HOK:Hid _:=hok
 have hd:d < 8:=Nat.lt_succ_of_le hok.D1
 have he:e < 8:=Nat.lt_succ_of_le hok.S1
 have hd0:(0:Int)≤d:=Int.natCast_nonneg _
 have hd1:(d:Int) < 8:=zo
 have he0:(0:Int)≤e:=Int.natCast_nonneg _
 have he1:(e:Int) < 8:=zo
 have hn0:(0:Int)≤n:=Int.natCast_nonneg _
 have hn1:(n:Int) < 4294967296:=by have h9:n≤9:=hok.n1;omega
 clear hop hok
 clear hrm hins hs hs0
 go_enter Tryz.func32,Tryz.ntmps32
 go_upto_region 2 with fail
 rw[HF16.out]
 change Code.wp _ _ _ _ (stW0 w (s0.setF (s0.f%16)))
 have HA':=HA.out
 rw[HS.out] at HA' ⊢
 clear HA
 have HA:Hid _:=HA'
 clear HA'
 generalize stW0 w s=W at HA ⊢
 have c8:=gs_pc HA.out.b0
 have aS0:=gs_reg HA.out.b0 e he
 clear aS0
 go_upto_block 0 with (go_at_call 23;refine(HI.out _ HA.out.rm).mono ?_;rintro e1 w1 ⟨rfl,hb1⟩;have HA1:Hid (StA w w1 k m s):=HA.out.below hb1;clear hb1;obtain⟨x0,x1,x2,x3,x4,x5,x6,x7,x8,x9⟩:=gs_all HA1.out.b0;have l0:=lt_of_block HA1.out.b0;have l1:=lt_of_block HA1.out.b1;have l2:=lt_of_block HA1.out.b2;have xD:=gs_reg HA1.out.b0 d hd;have xE:=gs_reg HA1.out.b0 e he;have l01:=Nat.lt_succ_of_lt l0;have l02:=Nat.lt_succ_of_lt l01)
 rw[← w32_cast ((s.pc:Int)+n),← w32_cast ((s.R e:Int)+im)]
 change Code.wp _ _ _ _ (((w1.alloc (Gu.insB op d e O im)).alloc (stopB 0 ia)).alloc (gsB (s.setPC (w32 ((s.pc:Int)+n)))))
 have HB:Hid (StB w (((w1.alloc (Gu.insB op d e O im)).alloc (stopB 0 ia)).alloc (gsB (s.setPC (w32 ((s.pc:Int)+n))))) k m s ⟨op,d,e,O,im,n,0,ia⟩ (s.setPC (w32 ((s.pc:Int)+n))) w1.heap.size):=stB_start (i:=⟨op,d,e,O,im,n,0,ia⟩) HA1.out 0 ia
 clear x0 x1 x2 x3 x4 x5 x6 x7 x8 x9 l0 l1 l2 l01 l02 xD xE HA1 HA c8 HI
 generalize (((w1.alloc (Gu.insB op d e O im)).alloc (stopB 0 ia)).alloc (gsB (s.setPC (w32 ((s.pc:Int)+n)))))=W2 at HB ⊢
 generalize w1.heap.size=q at HB ⊢
 have HNL:Hid (w32 ((s.pc:Int)+n) < 4294967296):=w32_lt _
 have ci:=Gu.ins_cells HB.out.b3
 obtain⟨i0,i1,i2,i3,i4⟩:=ci
 have aS:=gs_reg HB.out.a.b0 e he
 have aD:=gs_reg HB.out.a.b0 d hd
 have a9:=gs_f HB.out.a.b0
 have tD:=gs_reg HB.out.b5 d hd
 have t8:=gs_pc HB.out.b5
 have t9:=gs_f HB.out.b5
 have tf:=gs_fr HB.out.b5
 have hq0:=HB.out.hq
 have hd8:¬d=9:=zo
 have hd8':¬9=d:=zo
 have hne:¬(w.heap.size=q+1+1):=zo
 have hne1:¬(q+1+1=w.heap.size):=zo
 go_cut [] from 14 (fun wx=>∃ t':GS,StB w wx k m s ⟨op,d,e,O,im,n,0,ia⟩ t' q∧stepH m s ⟨op,d,e,O,im,n,0,ia⟩=⟨t',0,0,m⟩)
 case first=>
  rcases HOP.out with rfl|rfl|rfl
  ·go_wp2_with (go_at_call 62;refine(Fl.flags_any 11 (s.R d) 0 s.f _ (HSO.out.r d) (by decide) HSO.out.f).mono ?_;rintro e2 w2 ⟨rfl,rfl⟩)
   go_meet
   case rel=>exact⟨_,HB.out.putT (((Only.refl _ _).setCell _ _).setCell _ _) (gs_setF (gs_setR HB.out.b5 d hd _ (Int.emod_nonneg _ (by decide))) _ (flagsF_bd _ _ _ _).1),rfl⟩
  ·go_wp2_with (go_at_call 62;refine(Fl.flags_any 12 (s.R d) 0 s.f _ (HSO.out.r d) (by decide) HSO.out.f).mono ?_;rintro e2 w2 ⟨rfl,rfl⟩)
   go_meet
   case rel=>exact⟨_,HB.out.putT (((Only.refl _ _).setCell _ _).setCell _ _) (gs_setF (gs_setR HB.out.b5 d hd _ (Int.emod_nonneg _ (by decide))) _ (flagsF_bd _ _ _ _).1),rfl⟩
  ·go_wp2_with (go_at_call 62;refine(Fl.flags_any 3 0 (s.R d) s.f _ (by decide) (HSO.out.r d) HSO.out.f).mono ?_;rintro e2 w2 ⟨rfl,rfl⟩)
   go_meet
   case rel=>exact⟨_,HB.out.putT (((Only.refl _ _).setCell _ _).setCell _ _) (gs_setF (gs_setR HB.out.b5 d hd _ (Int.emod_nonneg _ (by decide))) _ (flagsF_bd _ _ _ _).1),by rw[show(-(s.R d:Int))=0 - s.R d from by omega];rfl⟩
 case rest=>
  obtain⟨t',hM,hF⟩:=hcut
  have HF:Hid (stepH m s ⟨op,d,e,O,im,n,0,ia⟩=⟨t',0,0,m⟩):=hF
  obtain⟨x0,x1,x2,x3,x4,x5,x6,x7,x8,x9⟩:=gs_all hM.b5
  obtain⟨z0,z1,z2,z3,z4,z5,z6,z7,z8,z9⟩:=gs_all hM.a.b1
  have zf:=gs_fr hM.a.b1
  obtain⟨p0,p1,pf0,pf1⟩:=stop_cells hM.a.b2
  have l0:=lt_of_block hM.a.b0
  have l1:=lt_of_block hM.a.b1
  have l2:=lt_of_block hM.a.b2
  have HM:Hid _:=hM
  clear hM hF i0 i1 i2 i3 i4 aS aD a9 tD t8 t9 tf HB
  go_wp2
  exact bodyPost_ret (v:=.tuple #[gsV t',.agg #[.int .i64 0,.int .u32 0]]) zq8 rfl ⟨by rw[HF.out],by
   rw[HF.out]
   have hB:=HM.out.a.rm
   have hl:=HM.out.a.lk
   repeat first
    | with_reducible exact hB
    | with_reducible refine RM.drew ?_
    | with_reducible refine RM.setOff' ?_ hl zo _ _
    | with_reducible refine RM.alloc ?_ _,by
   have hB:=HM.out.a.chg
   repeat first
    | with_reducible exact hB
    | with_reducible refine Chg.drew ?_
    | with_reducible refine Chg.setNew ?_ zo _ _
    | with_reducible refine Chg.alloc ?_ _⟩
end Go.Proofs.YtfokgedjocnnmaaGreat
