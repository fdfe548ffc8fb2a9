import Derived.Test.YthcpipfmicbnmaaGreatWBO
set_option linter.unusedVariables false
set_option linter.unusedSimpArgs false
set_option maxHeartbeats 16000000
namespace Go.Proofs.YthcpipfmicbnmaaGreat.Ho
open Go.RowKit
set_option maxRecDepth 100000
theorem zLa(T:PT)(ca:Option Addr)(cap:Nat)(tcap:Nat)(pp mp:Option Addr)(plen pcap mlen mcap:Nat)(at0:Int)(c:Nat→Nat)(W:World)(hws:∀ i,T.ws i < 4294967296)(hw:Wds W ca T.len cap T.ws)(hl:T.len≤35184372088832)(n1:0 < T.len→∀ b o,ca=some ⟨b,o,none⟩→b < W.heap.size)(hcx:Va.zA0 c)(hp:Va.zBT W pp plen)(hm:Va.Marks W mp mlen)(hlf : -9223372036854775808≤T.left∧T.left≤9223372036854775807)(h0:T.tl=0) :
  Calls Tryz.prog 3 #[.slice ca T.len cap,.int .i64 at0,Va.cxV c,.slice pp plen pcap,.slice mp mlen mcap,.int .i64 T.left,.slice (none:Option Addr) 0 tcap] W fun e w'=>e=.returned (.bool true)∧Below W.heap.size W w':=by
 have HWS:Hid _:=hws
 have HWD:Hid _:=hw
 have HL:Hid _:=hl
 have HL2:Hid (T.len≤140737488355328):=show T.len≤_ by omega
 have HN1:Hid _:=n1
 have HCX:Hid _:=hcx
 have HPs:Hid _:=hp
 have HMs:Hid _:=hm
 have HLF:Hid _:=hlf
 have HB:Hid (Below W.heap.size W (W.alloc (.cells (Va.cxA c) 25))):=aB.alloc aL _
 have HT0:Hid (T.tl=0):=h0
 have HTV:Hid (Value.slice (none:Option Addr) 0 tcap=.slice (none:Option Addr) T.tl tcap):=show _=_ by rw[h0]
 have HTV2:Hid (Value.slice none 0 0=.slice none T.tl 0):=show _=_ by rw[h0]
 have HTR:Hid (T.tl=0∨∃ tq toff,(none:Option Addr)=some ⟨tq,toff,none⟩∧TR W tq toff T.tl T.tp T.ta∧T.tl≤140737488355328):=Or.inl h0
 have HN3:Hid (0 < T.tl→∀ b o,(none:Option Addr)=some ⟨b,o,none⟩→b < W.heap.size):=show 0 < T.tl→_ from fun hp=>by omega
 clear hws hw hl n1 hcx hp hm hlf h0
 go_enter Tryz.func3,Tryz.ntmps3
 go_upto_region 5 with first
  | (go_at_call 4;refine(Va.zDb pp mp plen pcap mlen mcap _ (zBt HPs.out HB.out) (zBs HMs.out HB.out)).mono ?_;rintro e w0 ⟨X,k,m,rfl,hB0⟩;have H0:Hid (G1 W w0 X k m ca cap (none:Option Addr) T c):=G1.start hB0 HWD.out HN1.out HTR.out HN3.out;clear hB0)
  | (go_at_call 5;refine(zCu ca T.len cap T.ws _ H0.out.wd1 HL.out).mono ?_;rintro e w1 ⟨oa,oc,rfl,hwd1,hb1,hn1⟩;have HWO:Hid _:=hwd1;have HB1:Hid _:=hb1;have HO1:Hid _:=hn1;clear hwd1 hb1 hn1)
 go_upto_region 6 with fail
 have HG:Hid (G3 W w1 X k m ca cap oa oc (none:Option Addr) none T c):=zIf H0.out HB1.out HWO.out HO1.out (.inl HT0.out) (fun b o e=>by cases e)
 clear H0 HWO HB1 HO1
 have H3:Hid (GX w1 w1 X k m m []):=GX.start HG.out
 obtain⟨rs,HRS⟩:∃ rs,Hid (zAD T at0 c m=rs):=⟨_,rfl⟩
 obtain⟨c0,c1,c2,c3,c4,c5,c6,c7,c8,c9,c10,c11,cf,cl⟩:=zBS (HG.out.b0)
 go_upto_region 7 with (go_at_call 6;refine(zDf HG.out H3.out tcap _ HTV.out at0 HWS.out HCX.out HL2.out HLF.out).mono ?_;rw[HRS.out];rintro e w4 ⟨rfl,h4⟩;have H5:Hid _:=h4.two (.cells (Va.cxA rs.2.c) 25) (.cells (yE rs.1) 37);clear h4 c0 c1 c2 c3 c4 c5 c6 c7 c8 c9 c10 c11 cf cl)
 clear H3
 generalize w4.heap.size=D at *
 refine zJ (fun W'=>GX w1 W' X k rs.2.m m [(D+1,.cells (yE rs.1) 37),(D,.cells (Va.cxA rs.2.c) 25)]) H5.out ?_
 clear H5
 intro w5 h5
 have H5:Hid _:=h5
 obtain⟨c0,c1,c2,c3,c4,c5,c6,c7,c8,c9,c10,c11,cf,cl⟩:=zBS (h5.b0 HG.out)
 clear h5
 go_upto_region 8 with (go_at_call 7;refine(zDg HG.out H5.out 0 _ HTV2.out at0 HWS.out HCX.out HL2.out HLF.out).mono ?_;rw[HRS.out];rintro e w6 ⟨rfl,h6⟩;have H7:Hid _:=h6.two (.cells (Va.cxA rs.2.c) 25) (.cells (yE rs.1) 37);clear h6 c0 c1 c2 c3 c4 c5 c6 c7 c8 c9 c10 c11 cf cl)
 clear H5 HRS
 generalize w6.heap.size=E at *
 refine zJ (fun W'=>GX w1 W' X k rs.2.m rs.2.m ((E+1,.cells (yE rs.1) 37) :: (E,.cells (Va.cxA rs.2.c) 25) :: [(D+1,.cells (yE rs.1) 37),(D,.cells (Va.cxA rs.2.c) 25)])) H7.out ?_
 clear H7
 intro w7 h7
 have H7:Hid _:=h7
 clear h7
 go_wp2
 refine wp_loop_rounds 1 ?_
 rw[rounds_succ]
 have HX:Hid (GX w1 w7 X k rs.2.m rs.2.m ((E+1,.cells (yE rs.1) 37) :: (E,.cells (Va.cxA rs.2.c) 25) :: [(D+1,.cells (yE rs.1) 37),(D,.cells (Va.cxA rs.2.c) 25)])):=H7.out
 obtain⟨f0,f1,f2,f3,f4,f5,f6,f7,f8,f9,f10,f11,ff,fl⟩:=zBS (HX.out.kp.k _ (aM _ aC))
 obtain⟨g0,g1,g2,g3,g4,g5,gf,gl⟩:=uU (HX.out.kp.k _ aC)
 obtain⟨d0,d1,d2,d3,d4,d5,d6,d7,d8,d9,d10,d11,df,dl⟩:=zBS (HX.out.kp.k _ (aM _ (aM _ (aM _ aC))))
 obtain⟨l0,l1,l2,l3,l4,l5,lf,ll⟩:=uU (HX.out.kp.k _ (aM _ (aM _ aC)))
 have EQ:=fun w=>zId (rs.2.c 0:Int) (rs.2.c 1:Int) (rs.2.c 2:Int) (rs.2.c 3:Int) (rs.2.c 4:Int) (rs.2.c 5:Int) (rs.2.c 6:Int) (rs.2.c 7:Int) (rs.2.c 8:Int) (rs.2.c 9:Int) (rs.2.c 10:Int) (rs.2.c 11:Int) w
 go_wp2_with first
  | (go_at_call 8;refine(Va.zCj X k rs.2.m _ HX.out.pm HX.out.rm).mono ?_;rintro e w8 ⟨rfl,h8⟩;have HX8:Hid _:=HX.out.bel h8;clear h8)
  | (go_at_call 9;refine(Va.zAZ X rs.2.m _ HX8.out.pm).mono ?_;rintro e w9 ⟨rfl,rfl⟩)
  | (go_at_call 10;refine(Va.vO k rs.2.m _ HX8.out.rm).mono ?_;rintro e w9 ⟨rfl,rfl⟩)
  | (go_at_call 11;refine(zCs ca oa T.len cap oc T.ws _ (HX8.out.w1 HG.out) (HX8.out.w2 HG.out)).mono ?_;rintro e w10 ⟨rfl,h10⟩;have HX10:Hid _:=HX8.out.bel h10;clear h10)
 go_ret
 exact⟨rfl,HX10.out.out HG.out⟩
theorem zJt(T:PT)(ca:Option Addr)(cap:Nat)(ad:Addr)(tcap:Nat)(pp mp:Option Addr)(plen pcap mlen mcap:Nat)(at0:Int)(c:Nat→Nat)(W:World)(hws:∀ i,T.ws i < 4294967296)(hw:Wds W ca T.len cap T.ws)(hl:T.len≤35184372088832)(n1:0 < T.len→∀ b o,ca=some ⟨b,o,none⟩→b < W.heap.size)(hcx:Va.zA0 c)(hp:Va.zBT W pp plen)(hm:Va.Marks W mp mlen)(hlf : -9223372036854775808≤T.left∧T.left≤9223372036854775807)(h0:T.tl=0) :
  Calls Tryz.prog 3 #[.slice ca T.len cap,.int .i64 at0,Va.cxV c,.slice pp plen pcap,.slice mp mlen mcap,.int .i64 T.left,.slice (some ad) 0 tcap] W fun e w'=>e=.returned (.bool true)∧Below W.heap.size W w':=by
 have HWS:Hid _:=hws
 have HWD:Hid _:=hw
 have HL:Hid _:=hl
 have HL2:Hid (T.len≤140737488355328):=show T.len≤_ by omega
 have HN1:Hid _:=n1
 have HCX:Hid _:=hcx
 have HPs:Hid _:=hp
 have HMs:Hid _:=hm
 have HLF:Hid _:=hlf
 have HB:Hid (Below W.heap.size W (W.alloc (.cells (Va.cxA c) 25))):=aB.alloc aL _
 have HT0:Hid (T.tl=0):=h0
 have HTV:Hid (Value.slice (some ad) 0 tcap=.slice (some ad) T.tl tcap):=show _=_ by rw[h0]
 have HTV2:Hid (Value.slice none 0 0=.slice none T.tl 0):=show _=_ by rw[h0]
 have HTR:Hid (T.tl=0∨∃ tq toff,(some ad)=some ⟨tq,toff,none⟩∧TR W tq toff T.tl T.tp T.ta∧T.tl≤140737488355328):=Or.inl h0
 have HN3:Hid (0 < T.tl→∀ b o,(some ad)=some ⟨b,o,none⟩→b < W.heap.size):=show 0 < T.tl→_ from fun hp=>by omega
 clear hws hw hl n1 hcx hp hm hlf h0
 go_enter Tryz.func3,Tryz.ntmps3
 go_upto_region 5 with first
  | (go_at_call 4;refine(Va.zDb pp mp plen pcap mlen mcap _ (zBt HPs.out HB.out) (zBs HMs.out HB.out)).mono ?_;rintro e w0 ⟨X,k,m,rfl,hB0⟩;have H0:Hid (G1 W w0 X k m ca cap (some ad) T c):=G1.start hB0 HWD.out HN1.out HTR.out HN3.out;clear hB0)
  | (go_at_call 5;refine(zCu ca T.len cap T.ws _ H0.out.wd1 HL.out).mono ?_;rintro e w1 ⟨oa,oc,rfl,hwd1,hb1,hn1⟩;have HWO:Hid _:=hwd1;have HB1:Hid _:=hb1;have HO1:Hid _:=hn1;clear hwd1 hb1 hn1)
 go_upto_region 6 with fail
 have HG:Hid (G3 W w1 X k m ca cap oa oc (some ad) none T c):=zIf H0.out HB1.out HWO.out HO1.out (.inl HT0.out) (fun b o e=>by cases e)
 clear H0 HWO HB1 HO1
 have H3:Hid (GX w1 w1 X k m m []):=GX.start HG.out
 obtain⟨rs,HRS⟩:∃ rs,Hid (zAD T at0 c m=rs):=⟨_,rfl⟩
 obtain⟨c0,c1,c2,c3,c4,c5,c6,c7,c8,c9,c10,c11,cf,cl⟩:=zBS (HG.out.b0)
 go_upto_region 7 with (go_at_call 6;refine(zDf HG.out H3.out tcap _ HTV.out at0 HWS.out HCX.out HL2.out HLF.out).mono ?_;rw[HRS.out];rintro e w4 ⟨rfl,h4⟩;have H5:Hid _:=h4.two (.cells (Va.cxA rs.2.c) 25) (.cells (yE rs.1) 37);clear h4 c0 c1 c2 c3 c4 c5 c6 c7 c8 c9 c10 c11 cf cl)
 clear H3
 generalize w4.heap.size=D at *
 refine zJ (fun W'=>GX w1 W' X k rs.2.m m [(D+1,.cells (yE rs.1) 37),(D,.cells (Va.cxA rs.2.c) 25)]) H5.out ?_
 clear H5
 intro w5 h5
 have H5:Hid _:=h5
 obtain⟨c0,c1,c2,c3,c4,c5,c6,c7,c8,c9,c10,c11,cf,cl⟩:=zBS (h5.b0 HG.out)
 clear h5
 go_upto_region 8 with (go_at_call 7;refine(zDg HG.out H5.out 0 _ HTV2.out at0 HWS.out HCX.out HL2.out HLF.out).mono ?_;rw[HRS.out];rintro e w6 ⟨rfl,h6⟩;have H7:Hid _:=h6.two (.cells (Va.cxA rs.2.c) 25) (.cells (yE rs.1) 37);clear h6 c0 c1 c2 c3 c4 c5 c6 c7 c8 c9 c10 c11 cf cl)
 clear H5 HRS
 generalize w6.heap.size=E at *
 refine zJ (fun W'=>GX w1 W' X k rs.2.m rs.2.m ((E+1,.cells (yE rs.1) 37) :: (E,.cells (Va.cxA rs.2.c) 25) :: [(D+1,.cells (yE rs.1) 37),(D,.cells (Va.cxA rs.2.c) 25)])) H7.out ?_
 clear H7
 intro w7 h7
 have H7:Hid _:=h7
 clear h7
 go_wp2
 refine wp_loop_rounds 1 ?_
 rw[rounds_succ]
 have HX:Hid (GX w1 w7 X k rs.2.m rs.2.m ((E+1,.cells (yE rs.1) 37) :: (E,.cells (Va.cxA rs.2.c) 25) :: [(D+1,.cells (yE rs.1) 37),(D,.cells (Va.cxA rs.2.c) 25)])):=H7.out
 obtain⟨f0,f1,f2,f3,f4,f5,f6,f7,f8,f9,f10,f11,ff,fl⟩:=zBS (HX.out.kp.k _ (aM _ aC))
 obtain⟨g0,g1,g2,g3,g4,g5,gf,gl⟩:=uU (HX.out.kp.k _ aC)
 obtain⟨d0,d1,d2,d3,d4,d5,d6,d7,d8,d9,d10,d11,df,dl⟩:=zBS (HX.out.kp.k _ (aM _ (aM _ (aM _ aC))))
 obtain⟨l0,l1,l2,l3,l4,l5,lf,ll⟩:=uU (HX.out.kp.k _ (aM _ (aM _ aC)))
 have EQ:=fun w=>zId (rs.2.c 0:Int) (rs.2.c 1:Int) (rs.2.c 2:Int) (rs.2.c 3:Int) (rs.2.c 4:Int) (rs.2.c 5:Int) (rs.2.c 6:Int) (rs.2.c 7:Int) (rs.2.c 8:Int) (rs.2.c 9:Int) (rs.2.c 10:Int) (rs.2.c 11:Int) w
 go_wp2_with first
  | (go_at_call 8;refine(Va.zCj X k rs.2.m _ HX.out.pm HX.out.rm).mono ?_;rintro e w8 ⟨rfl,h8⟩;have HX8:Hid _:=HX.out.bel h8;clear h8)
  | (go_at_call 9;refine(Va.zAZ X rs.2.m _ HX8.out.pm).mono ?_;rintro e w9 ⟨rfl,rfl⟩)
  | (go_at_call 10;refine(Va.vO k rs.2.m _ HX8.out.rm).mono ?_;rintro e w9 ⟨rfl,rfl⟩)
  | (go_at_call 11;refine(zCs ca oa T.len cap oc T.ws _ (HX8.out.w1 HG.out) (HX8.out.w2 HG.out)).mono ?_;rintro e w10 ⟨rfl,h10⟩;have HX10:Hid _:=HX8.out.bel h10;clear h10)
 go_ret
 exact⟨rfl,HX10.out.out HG.out⟩
theorem zJs(T:PT)(ca:Option Addr)(cap:Nat)(bq boff tcap:Nat)(pp mp:Option Addr)(plen pcap mlen mcap:Nat)(at0:Int)(c:Nat→Nat)(W:World)(hws:∀ i,T.ws i < 4294967296)(hw:Wds W ca T.len cap T.ws)(hl:T.len≤35184372088832)(n1:0 < T.len→∀ b o,ca=some ⟨b,o,none⟩→b < W.heap.size)(hcx:Va.zA0 c)(hp:Va.zBT W pp plen)(hm:Va.Marks W mp mlen)(hlf : -9223372036854775808≤T.left∧T.left≤9223372036854775807)(h0:0 < T.tl)(htr:TR W bq boff T.tl T.tp T.ta)(htl:T.tl≤8796093022208) :
  Calls Tryz.prog 3 #[.slice ca T.len cap,.int .i64 at0,Va.cxV c,.slice pp plen pcap,.slice mp mlen mcap,.int .i64 T.left,.slice (some ⟨bq,boff,none⟩) T.tl tcap] W fun e w'=>e=.returned (.bool true)∧Below W.heap.size W w':=by
 have HWS:Hid _:=hws
 have HWD:Hid _:=hw
 have HL:Hid _:=hl
 have HL2:Hid (T.len≤140737488355328):=show T.len≤_ by omega
 have HN1:Hid _:=n1
 have HCX:Hid _:=hcx
 have HPs:Hid _:=hp
 have HMs:Hid _:=hm
 have HLF:Hid _:=hlf
 have HB:Hid (Below W.heap.size W (W.alloc (.cells (Va.cxA c) 25))):=aB.alloc aL _
 have HT0:Hid (0 < T.tl):=h0
 have HTL:Hid _:=htl
 have HTK:Hid (∀ w,Below W.heap.size W w→TR w bq boff T.tl T.tp T.ta):=show ∀ w,_ from fun w b=>htr.keep b
 have HTR:Hid (T.tl=0∨∃ tq toff,(some ⟨bq,boff,none⟩:Option Addr)=some ⟨tq,toff,none⟩∧TR W tq toff T.tl T.tp T.ta∧T.tl≤140737488355328):=Or.inr ⟨bq,boff,rfl,htr,by omega⟩
 have HN3:Hid (0 < T.tl→∀ b o,(some ⟨bq,boff,none⟩:Option Addr)=some ⟨b,o,none⟩→b < W.heap.size):=show 0 < T.tl→_ from fun hp b o e=>by cases e;exact htr.lb
 have q0:(0:Int) < T.tl:=aO
 have q1:(T.tl:Int)≤8796093022208:=aO
 clear hws hw hl n1 hcx hp hm hlf h0 htr htl
 go_enter Tryz.func3,Tryz.ntmps3
 go_upto_region 5 with first
  | (go_at_call 4;refine(Va.zDb pp mp plen pcap mlen mcap _ (zBt HPs.out HB.out) (zBs HMs.out HB.out)).mono ?_;rintro e w0 ⟨X,k,m,rfl,hB0⟩;have H0:Hid (G1 W w0 X k m ca cap (some ⟨bq,boff,none⟩:Option Addr) T c):=G1.start hB0 HWD.out HN1.out HTR.out HN3.out;clear hB0)
  | (go_at_call 5;refine(zCu ca T.len cap T.ws _ H0.out.wd1 HL.out).mono ?_;rintro e w1 ⟨oa,oc,rfl,hwd1,hb1,hn1⟩;have HWO:Hid _:=hwd1;have HB1:Hid _:=hb1;have HO1:Hid _:=hn1;clear hwd1 hb1 hn1)
 go_upto_region 6 with (at_builtin;refine zDB rfl _ _ rfl rfl bq boff T.tl tcap rfl T.tp T.ta (HTK.out _ (H0.out.below HB1.out).bel) HT0.out HTL.out w1.heap.size rfl ?_;intro tc2 w2 htr2 hb2;have HT2:Hid _:=htr2;have HB2:Hid _:=hb2;clear htr2 hb2)
 have HG:Hid (G3 W w2 X k m ca cap oa oc (some ⟨bq,boff,none⟩:Option Addr) (some ⟨w1.heap.size,0,none⟩) T c):=zIf H0.out (HB1.out.trans (HB2.out.mono HB1.out.size)) (yD HWO.out HB2.out) (fun b o e=>⟨(HO1.out b o e).1,Nat.lt_of_lt_of_le (HO1.out b o e).2 HB2.out.size⟩) (.inr ⟨_,_,rfl,HT2.out,by have:=HTL.out;omega⟩) (fun b o e=>by cases e;exact⟨HB1.out.size,HT2.out.lb⟩)
 clear H0 HWO HB1 HO1 HB2 HT2
 generalize w1.heap.size=H2 at *
 have H3:Hid (GX w2 w2 X k m m []):=GX.start HG.out
 obtain⟨rs,HRS⟩:∃ rs,Hid (zAD T at0 c m=rs):=⟨_,rfl⟩
 obtain⟨c0,c1,c2,c3,c4,c5,c6,c7,c8,c9,c10,c11,cf,cl⟩:=zBS (HG.out.b0)
 go_upto_region 7 with (go_at_call 6;refine(zDf HG.out H3.out tcap _ rfl at0 HWS.out HCX.out HL2.out HLF.out).mono ?_;rw[HRS.out];rintro e w4 ⟨rfl,h4⟩;have H5:Hid _:=h4.two (.cells (Va.cxA rs.2.c) 25) (.cells (yE rs.1) 37);clear h4 c0 c1 c2 c3 c4 c5 c6 c7 c8 c9 c10 c11 cf cl)
 clear H3
 generalize w4.heap.size=D at *
 refine zJ (fun W'=>GX w2 W' X k rs.2.m m [(D+1,.cells (yE rs.1) 37),(D,.cells (Va.cxA rs.2.c) 25)]) H5.out ?_
 clear H5
 intro w5 h5
 have H5:Hid _:=h5
 obtain⟨c0,c1,c2,c3,c4,c5,c6,c7,c8,c9,c10,c11,cf,cl⟩:=zBS (h5.b0 HG.out)
 clear h5
 go_upto_region 8 with (go_at_call 7;refine(zDg HG.out H5.out tc2 _ rfl at0 HWS.out HCX.out HL2.out HLF.out).mono ?_;rw[HRS.out];rintro e w6 ⟨rfl,h6⟩;have H7:Hid _:=h6.two (.cells (Va.cxA rs.2.c) 25) (.cells (yE rs.1) 37);clear h6 c0 c1 c2 c3 c4 c5 c6 c7 c8 c9 c10 c11 cf cl)
 clear H5 HRS
 generalize w6.heap.size=E at *
 refine zJ (fun W'=>GX w2 W' X k rs.2.m rs.2.m ((E+1,.cells (yE rs.1) 37) :: (E,.cells (Va.cxA rs.2.c) 25) :: [(D+1,.cells (yE rs.1) 37),(D,.cells (Va.cxA rs.2.c) 25)])) H7.out ?_
 clear H7
 intro w7 h7
 have H7:Hid _:=h7
 clear h7
 go_wp2
 go_loopw [60] (fun i wr=>∃ j:Nat,j≤T.tl∧i=.int .i64 j∧GX w2 wr X k rs.2.m rs.2.m ((E+1,.cells (yE rs.1) 37) :: (E,.cells (Va.cxA rs.2.c) 25) :: [(D+1,.cells (yE rs.1) 37),(D,.cells (Va.cxA rs.2.c) 25)])) (fun i _=>T.tl - (intOf i).toNat)
 case atStart=>exact⟨0,by omega,rfl,H7.out⟩
 case round=>
  obtain⟨j,hj,rfl,hG⟩:=hrel
  have HGj:Hid _:=hG
  by_cases hlt:j < T.tl
  ·have z1:TR wr bq boff T.tl T.tp T.ta:=by
    rcases hG.t1 HG.out with e|⟨a,b,e,hT,-⟩
    ·omega
    ·cases e;exact hT
   have z2:TR wr H2 0 T.tl T.tp T.ta:=by
    rcases hG.t2' HG.out with e|⟨a,b,e,hT,-⟩
    ·omega
    ·cases e;exact hT
   have a1:=z1.p j hlt
   have a2:=z1.a j hlt
   have a3:wr.cell? ⟨H2,j*2,none⟩=some (.int .u32 (T.tp j)):=by have:=z2.p j hlt;rwa [Nat.zero_add] at this
   have a4:wr.cell? ⟨H2,j*2+1,none⟩=some (.int .i64 (T.ta j)):=by have:=z2.a j hlt;rwa [Nat.zero_add] at this
   have lb1:=z1.lb
   have lb2:=z2.lb
   have k0:(0:Int)≤j:=aO
   have k1:(j:Int) < T.tl:=aO
   clear hG z1 z2
   go_upto_region 11 with fail
   go_quiet (fail)
   go_wp2
   go_roundw
   case rel=>exact⟨j+1,by omega,by go_num,HGj.out.bel ⟨rfl,rfl,rfl,Nat.le_refl _,fun _ _=>rfl⟩⟩
   case measure=>simp[intOf];omega
  ·have hk2:j=T.tl:=aO
   subst hk2
   have HX:Hid (GX w2 wr X k rs.2.m rs.2.m ((E+1,.cells (yE rs.1) 37) :: (E,.cells (Va.cxA rs.2.c) 25) :: [(D+1,.cells (yE rs.1) 37),(D,.cells (Va.cxA rs.2.c) 25)])):=hG
   obtain⟨f0,f1,f2,f3,f4,f5,f6,f7,f8,f9,f10,f11,ff,fl⟩:=zBS (HX.out.kp.k _ (aM _ aC))
   obtain⟨g0,g1,g2,g3,g4,g5,gf,gl⟩:=uU (HX.out.kp.k _ aC)
   obtain⟨d0,d1,d2,d3,d4,d5,d6,d7,d8,d9,d10,d11,df,dl⟩:=zBS (HX.out.kp.k _ (aM _ (aM _ (aM _ aC))))
   obtain⟨l0,l1,l2,l3,l4,l5,lf,ll⟩:=uU (HX.out.kp.k _ (aM _ (aM _ aC)))
   have EQ:=fun w=>zId (rs.2.c 0:Int) (rs.2.c 1:Int) (rs.2.c 2:Int) (rs.2.c 3:Int) (rs.2.c 4:Int) (rs.2.c 5:Int) (rs.2.c 6:Int) (rs.2.c 7:Int) (rs.2.c 8:Int) (rs.2.c 9:Int) (rs.2.c 10:Int) (rs.2.c 11:Int) w
   go_wp2_with first
    | (go_at_call 8;refine(Va.zCj X k rs.2.m _ HX.out.pm HX.out.rm).mono ?_;rintro e w8 ⟨rfl,h8⟩;have HX8:Hid _:=HX.out.bel h8;clear h8)
    | (go_at_call 9;refine(Va.zAZ X rs.2.m _ HX8.out.pm).mono ?_;rintro e w9 ⟨rfl,rfl⟩)
    | (go_at_call 10;refine(Va.vO k rs.2.m _ HX8.out.rm).mono ?_;rintro e w9 ⟨rfl,rfl⟩)
    | (go_at_call 11;refine(zCs ca oa T.len cap oc T.ws _ (HX8.out.w1 HG.out) (HX8.out.w2 HG.out)).mono ?_;rintro e w10 ⟨rfl,h10⟩;have HX10:Hid _:=HX8.out.bel h10;clear h10)
   go_ret
   exact⟨rfl,HX10.out.out HG.out⟩
end Go.Proofs.YthcpipfmicbnmaaGreat.Ho
