import Derived.Test.YtkmjenjahbicpaaGH
set_option linter.unusedVariables false
set_option linter.unusedSimpArgs false
set_option maxHeartbeats 8000000
namespace Go.Proofs.Ytkmjenjahbicpaa.Ho
open Go.RowKit
set_option maxRecDepth 100000
structure zJ7(n i:Nat)(f:Nat→zL)(g:G)(regs t:Nat):Prop where
 h0:0 < regs
 hr:regs≤16
 hv:∀ r,r < 16→g.hv r < n
 hi:i < n
 hn:n≤2048
 hl:g.l.length≤99900
 ok:∀ v,v < n→zDt (f v)∧(f v).k < 4294967296
 ht:(g.P i).takes=t
 t3:t≤3
 tk:∀ j,j < t→zAn (f i) j=((zX (f i) j:Nat):Int)∧zX (f i) j < n
theorem zEg(p:PL)(j:Nat)(h:j < 3):plC p (1+j)=.int .i64 (aft p j):=by
 match j,h with
 | 0,_|1,_|2,_=>rfl
theorem zN7(base M Q n:Nat)(bp:Option Addr)(cap pcap regs:Nat)(f:Nat→zL)(g:G)(sv:Value)(i:Nat)(w:World)(hG:GW w base M Q n bp cap pcap regs f g sv)(hi:i < n)(hn:n≤2048)(hz:(g.P i).lazy=true) :
  Calls Try.prog 26 #[.pointer (some ⟨M,0,none⟩),.int .i64 i] w fun e w'=>e=.returned (.tuple #[])∧(∃ sv',GW w' base M Q n bp cap pcap regs f g sv')∧Kx base M Q w w':=by
 obtain⟨b,off,rfl,hb,hc⟩:=hG.ops aO
 have m0:w.cell? ⟨M,0,none⟩=some (.slice (some ⟨b,off,none⟩) n cap):=hG.mb.cell (i:=0) aO
 have m1:w.cell? ⟨M,1,none⟩=some (.slice (some ⟨Q,0,none⟩) n pcap):=hG.mb.cell (i:=1) aO
 have m4:=hG.pl.cell (i:=i*8+7) aO
 rw[vO _ _ _ aO] at m4
 have m5:w.cell? ⟨Q,i*8+7,none⟩=some (.bool true):=m4.trans (by show some (Value.bool (g.P i).lazy)=_;rw[hz])
 have lM:=hG.mb.lt
 have lQ:=hG.pl.lt
 have i0:(0:Int)≤(i:Int):=aO
 have i1:(i:Int) < (n:Int):=aO
 have HG:Hid _:=hG
 clear hc m4 hG hz hi hn
 go_enter Try.func26,Try.ntmps26
 go_upto_region 0 with fail
 go_quiet (fail)
 go_wp2
 exact bodyPost_ret (v:=.tuple #[]) (by simp[results,Try.results26,go_sem]) rfl ⟨rfl,⟨sv,HG.out.below (yU _ _)⟩,Kx.of_below (yU _ _) HG.out.bw⟩
theorem zSn(base M Q n:Nat)(bp:Option Addr)(cap pcap regs:Nat)(f:Nat→zL)(g:G)(sv:Value)(i t:Nat)(w:World)(hG:GW w base M Q n bp cap pcap regs f g sv)(hI:zJ7 n i f g regs t)(hz:(g.P i).lazy=false)(hk:(f i).kind≠10)(hgv:((zAo (vV f regs i g t)).P i).gives=true) :
  Calls Try.prog 26 #[.pointer (some ⟨M,0,none⟩),.int .i64 i] w fun e w'=>e=.returned (.tuple #[])∧(∃ sv',GW w' base M Q n bp cap pcap regs f (zBK regs i (zAo (vV f regs i g t)) (yQ (f i) (tkρ f regs i g t))) sv')∧Kx base M Q w w':=by
 obtain⟨b,off,rfl,hb,hc⟩:=hG.ops (by have:=hI.hi;omega)
 have hi:=hI.hi
 have hn:=hI.hn
 have HI:Hid _:=hI
 have m0:w.cell? ⟨M,0,none⟩=some (.slice (some ⟨b,off,none⟩) n cap):=hG.mb.cell (i:=0) aO
 have m1:w.cell? ⟨M,1,none⟩=some (.slice (some ⟨Q,0,none⟩) n pcap):=hG.mb.cell (i:=1) aO
 have m4:=hG.pl.cell (i:=i*8+7) aO
 rw[vO _ _ _ aO] at m4
 have m5:w.cell? ⟨Q,i*8+7,none⟩=some (.bool false):=m4.trans (by show some (Value.bool (g.P i).lazy)=_;rw[hz])
 have HOA:Hid (zAm w b (off+i*7) (f i)):=hc i hi
 have HLB:Hid (b < w.heap.size):=hb
 have HOK:Hid (zDt (f i)):=(hI.ok i hi).1
 have HKK:Hid ((f i).k < 4294967296):=(hI.ok i hi).2
 have HGV:Hid _:=hgv
 have lM:=hG.mb.lt
 have lQ:=hG.pl.lt
 have i0:(0:Int)≤(i:Int):=aO
 have i1:(i:Int) < (n:Int):=aO
 have HG:Hid _:=hG
 have HBO:Hid (b < base):=hG.ob b off rfl
 have k10:((f i).kind==10)=false:=by simpa using hk
 have HK10:Hid ((f i).kind≠10):=hk
 clear hc m4 hG hz hi hn hI hgv hb hk
 go_enter Try.func26,Try.ntmps26
 go_upto_region 0 with fail
 go_quiet (fail)
 go_upto_region 1 with fail
 refine zI (fun W'=>Below w.heap.size w W') (yU _ _) ?_
 intro w0 hd0
 have n5:w0.cell? ⟨Q,i*8+7,none⟩=some (.bool false):=(hd0.cell (p:=⟨Q,i*8+7,none⟩) lQ).trans m5
 have HD0:Hid _:=hd0
 have HG0:Hid _:=HG.out.below hd0
 have lM0:=HG0.out.mb.lt
 have lQ0:=HG0.out.pl.lt
 have HOA0:Hid (zAm w0 b (off+i*7) (f i)):=HOA.out.below hd0 HLB.out
 have HLB0:Hid (b < w0.heap.size):=Nat.lt_of_lt_of_le HLB.out hd0.size
 clear m0 m1 m5 hd0 lM lQ
 go_upto_region 5 with (first
  | (go_at_call 50;refine(zCg b (off+i*7) (f i) _ HOA0.out HLB0.out HOK.out).mono ?_;rintro e w1 ⟨rfl,hb1⟩;have HB1:Hid _:=hb1;clear hb1)
  | (go_at_call 48;refine(zCc b (off+i*7) (f i) _ (HOA0.out.below (((HB1.out.alloc HB1.out.size _).alloc (by have:=HB1.out.size;simp;omega) _)) HLB0.out) (by have:=HB1.out.size;have:=HLB0.out;simp;omega)).mono ?_;rintro e w2 ⟨rfl,hb2⟩;have HB2:Hid _:=hb2;clear hb2))
 refine zI (fun W'=>OW w0 W' base M Q n (some ⟨b,off,none⟩) cap pcap regs f g sv w1.heap.size (w1.heap.size+1) w2.heap.size (yF (f i)) (fun _=>0) (f i)) (zEu (yF (f i)) (f i) HG0.out HB1.out HB2.out) ?_
 clear lM0 lQ0 n5 HB1 HB2 HOA0 HLB0 HG0
 obtain⟨BX,hBX⟩:∃ BX,w1.heap.size=BX:=⟨_,rfl⟩
 obtain⟨BL,hBL⟩:∃ BL,w2.heap.size=BL:=⟨_,rfl⟩
 rw[hBX,hBL]
 clear hBX hBL
 obtain⟨BR,hBR⟩:∃ BR,BX+1=BR:=⟨_,rfl⟩
 rw[hBR]
 clear hBR
 intro W hW
 have q0:=hW.gw.pl.cell (i:=i*8+0) zq39
 rw[vO _ _ _ aO] at q0
 have q0':W.cell? ⟨Q,i*8,none⟩=some (.int .i64 t):=q0.trans (by show some (Value.int .i64 ((g.P i).takes:Nat))=_;rw[HI.out.ht])
 have t0:(0:Int)≤(t:Int):=aO
 have t3:(t:Int)≤3:=by have:=HI.out.t3;omega
 have lQW:=hW.gw.pl.lt
 have lLW:=hW.ls.lt
 have HW:Hid _:=hW
 clear hW q0
 go_wp2
 go_loopw [37] (fun jv wr=>∃ j:Nat,jv=.int .i64 j∧j≤t∧∃ sv',OW w0 wr base M Q n (some ⟨b,off,none⟩) cap pcap regs f (vV f regs i g j) sv' BX BR BL (yF (f i)) (tkρ f regs i g j) (f i)) (fun jv _=>t - (intOf jv).toNat)
 case atStart=>exact⟨0,rfl,by omega,sv,HW.out⟩
 case round=>
  obtain⟨j,rfl,hj,sv1,hr⟩:=hrel
  have HR:Hid _:=hr
  clear HW q0' lQW lLW
  by_cases hlt:j < t
  ·have HLT:Hid (j < t):=hlt
   have jt:(j:Int) < (t:Int):=aO
   have j0:(0:Int)≤(j:Int):=aO
   have j3:(j:Int) < 3:=aO
   have HJ3:Hid (j < 3):=show j < 3 by have:=HI.out.t3;omega
   have dj:decide ((j:Int) < (t:Int))=true:=decide_eq_true jt
   obtain⟨v,HVV⟩:∃ v,Hid (zX (f i) j=v):=⟨_,rfl⟩
   have hav:=(HI.out.tk j hlt).1
   have hvn:=(HI.out.tk j hlt).2
   rw[HVV.out] at hav hvn
   have c0:=hr.ls.cell (i:=j) HJ3.out
   rw[hav] at c0
   have lL:=hr.ls.lt
   obtain⟨gj,HGJ⟩:∃ gj,Hid (vV f regs i g j=gj):=⟨_,rfl⟩
   obtain⟨ρj,HRJ⟩:∃ ρj,Hid (tkρ f regs i g j=ρj):=⟨_,rfl⟩
   have hinv:=zBf f regs i n g HI.out.hv j (fun q hq=>(HI.out.tk q aO).2)
   rw[HGJ.out] at hinv
   have hr':=hr
   rw[HGJ.out,HRJ.out] at hr'
   have HR':Hid _:=hr'
   have HIV:Hid _:=hinv.1
   have HLL:Hid (gj.l.length≤99990):=show _≤_ by have:=hinv.2;have:=HI.out.hl;have:=HJ3.out;omega
   have HVN:Hid (v < n):=hvn
   have v0:(0:Int)≤(v:Int):=aO
   have v1:(v:Int) < (n:Int):=aO
   obtain⟨r,HRN⟩:∃ r,Hid (zAg gj regs v=r):=⟨_,rfl⟩
   obtain⟨g3,HG3N⟩:∃ g3,Hid (yG f gj regs v=g3):=⟨_,rfl⟩
   obtain⟨y,HY⟩:∃ y,Hid (aft (g3.P i) j=y):=⟨_,rfl⟩
   have HN1:Hid (vV f regs i g (j+1)=zAF g3 v y):=show vV f regs i g (j+1)=_ by
    show zAF (yG f (vV f regs i g j) regs (zX (f i) j)) (zX (f i) j) (aft ((yG f (vV f regs i g j) regs (zX (f i) j)).P i) j)=_
    rw[HGJ.out,HVV.out,HG3N.out,HY.out]
   have HN2:Hid (tkρ f regs i g (j+1)=upd ρj j r):=show tkρ f regs i g (j+1)=_ by
    show upd (tkρ f regs i g j) j (zAg (vV f regs i g j) regs (zX (f i) j))=_
    rw[HRJ.out,HGJ.out,HVV.out,HRN.out]
   clear hr hr' hlt hav hvn hinv HR
   go_upto_region 9 with (go_at_call 51;refine(zDy base M Q n (some ⟨b,off,none⟩) cap pcap regs f gj sv1 v _ HR'.out.gw HI.out.h0 HI.out.hr HIV.out HVN.out HI.out.hn HLL.out (HI.out.ok v HVN.out).1 (HI.out.ok v HVN.out).2).mono ?_;rintro e w3 ⟨rfl,⟨sv3,hG3⟩,hK3⟩;rw[HRN.out];rw[HG3N.out] at hG3;have hO3:=HR'.out.call hG3 hK3;have HO3:Hid _:=hO3;have s0:=hO3.rg.cell (i:=j) HJ3.out;have s1:=hO3.rg.frozen j;have s2:=hO3.rg.lt;clear hG3 hK3 hO3)
   refine zI (fun W'=>OW w0 W' base M Q n (some ⟨b,off,none⟩) cap pcap regs f g3 sv3 BX BR BL (yF (f i)) (upd ρj j r) (f i)) (HO3.out.setR j r) ?_
   clear s0 s1 s2 HO3 c0 lL
   intro U hU
   have u1:U.cell? ⟨M,1,none⟩=some (.slice (some ⟨Q,0,none⟩) n pcap):=hU.gw.mb.cell (i:=1) aO
   have u2:=hU.gw.pl.cell (i:=i*8+(1+j)) (by have:=HI.out.hi;have:=HJ3.out;omega)
   rw[vO _ _ _ (by have:=HJ3.out;omega),zEg _ _ HJ3.out,HY.out] at u2
   have u2':U.cell? ⟨Q,i*8+1+j,none⟩=some (.int .i64 y):=by rw[Nat.add_assoc];exact u2
   have u3:=hU.gw.pl.cell (i:=v*8+5) (by have:=HVN.out;omega)
   have u4:=hU.gw.pl.frozen (v*8+5)
   have u5:=hU.gw.pl.lt
   have u6:=hU.gw.mb.lt
   have HU:Hid _:=hU
   clear hU u2
   go_region
   all_goals go_wp2
   all_goals go_roundw
   case rel=>exact⟨j+1,by go_num,HLT.out,sv3,by rw[HN1.out,HN2.out];exact(HU.out.setN v y).below (aB.drew)⟩
   case measure=>have:=HLT.out;simp[intOf];omega
  ·obtain rfl:j=t:=aO
   have dj:decide ((j:Int) < (j:Int))=false:=aF
   obtain⟨gj,HGJ⟩:∃ gj,Hid (vV f regs i g j=gj):=⟨_,rfl⟩
   obtain⟨ρ,HRJ⟩:∃ ρ,Hid (tkρ f regs i g j=ρ):=⟨_,rfl⟩
   have hinv:=zBf f regs i n g HI.out.hv j (fun q hq=>(HI.out.tk q hq).2)
   have hgv:=HGV.out
   rw[HGJ.out] at hinv hr hgv
   rw[HRJ.out] at hr
   obtain⟨g4,HG4N⟩:∃ g4,Hid (zAo gj=g4):=⟨_,rfl⟩
   have hin4:=zCC gj n hinv.1
   have hl4:(zAo gj).l.length≤99990:=by show gj.l.length≤_;have:=hinv.2;have:=HI.out.hl;have:=HI.out.t3;omega
   rw[HG4N.out] at hin4 hl4 hgv
   have HI4:Hid _:=hin4
   have HL4:Hid _:=hl4
   have HIV:Hid _:=hinv.1
   have HGV4:Hid _:=hgv
   have HR':Hid _:=hr
   have HXK:Hid ((yF (f i)).k < 4294967296):=HKK.out
   have HXX:Hid ((yF (f i)).x < 4294967296):=show(if(f i).kind=14 then((f i).b%4294967296).toNat else 0) < 4294967296 by split<;>omega
   have HOX:Hid (yQ (f i) ρ={ yF (f i) with a:=(ρ 0:Int),b:=(ρ 1:Int),c:=(ρ 2:Int) }):=show yQ (f i) ρ=_ by unfold yQ;rw[if_neg HK10.out]
   clear hr hj hinv hin4 hl4 HR hlt hgv
   go_upto_region 12 with (go_at_call 52;refine(zCF base M Q n (some ⟨b,off,none⟩) cap pcap regs f gj sv1 _ HR'.out.gw HIV.out).mono ?_;rintro e w4 ⟨rfl,hG4,hK4⟩;rw[HG4N.out] at hG4;have hO4:=HR'.out.call hG4 hK4;have HO4:Hid _:=hO4;clear hG4 hK4 hO4)
   refine zI (fun W'=>OW w0 W' base M Q n (some ⟨b,off,none⟩) cap pcap regs f g4 sv1 BX BR BL (yF (f i)) ρ (f i)) HO4.out ?_
   clear HO4
   intro V hV
   have r0:=hV.rg.cell (i:=0) aO
   have r1:=hV.rg.cell (i:=1) aO
   have r2:=hV.rg.cell (i:=2) aO
   have x2:=zA hV.x 2
   have x3:=zA hV.x 3
   have x4:=zA hV.x 4
   have fx:=zD hV.x
   have lx:=zE hV.x
   have lr:=hV.rg.lt
   have nxr:=hV.xr
   have HV:Hid _:=hV
   clear hV
   go_region
   go_upto_region 13 with fail
   refine zI (fun W'=>OW w0 W' base M Q n (some ⟨b,off,none⟩) cap pcap regs f g4 sv1 BX BR BL { yF (f i) with a:=(ρ 0:Int),b:=(ρ 1:Int),c:=(ρ 2:Int) } ρ (f i)) ((((HV.out.setX { yF (f i) with a:=(ρ 0:Int) } 2 _ rfl).setX { yF (f i) with a:=(ρ 0:Int),b:=(ρ 1:Int) } 3 _ rfl).setX { yF (f i) with a:=(ρ 0:Int),b:=(ρ 1:Int),c:=(ρ 2:Int) } 4 _ rfl).below (aB.drew)) ?_
   clear r0 r1 r2 x2 x3 x4 fx lx lr nxr HV
   intro U hU
   have k0:U.cell? ⟨b,off+i*7,none⟩=some (.int .i64 (f i).kind):=((hU.gw.ops zq39) |> fun ⟨b',off',e,hb',hc'⟩=>by cases e;exact(hc' i HI.out.hi).c0)
   have lb:b < U.heap.size:=by have:=HBO.out;have:=hU.gw.bw;omega
   have x1:=zA hU.x 1
   have x3:=zA hU.x 3
   have fx:=zD hU.x
   have lx:=zE hU.x
   have q4:=hU.gw.pl.cell (i:=i*8+4) zq39
   rw[vO _ _ _ aO] at q4
   have q4':U.cell? ⟨Q,i*8+4,none⟩=some (.bool true):=q4.trans zq37
   have lQ:=hU.gw.pl.lt
   have nxQ:=hU.neX.2.1
   have HU:Hid _:=hU
   clear hU q4
   go_upto_region 15 with fail
   refine zI (fun W'=>OW w0 W' base M Q n (some ⟨b,off,none⟩) cap pcap regs f g4 sv1 BX BR BL { yF (f i) with a:=(ρ 0:Int),b:=(ρ 1:Int),c:=(ρ 2:Int) } ρ (f i)) HU.out ?_
   clear k0 lb x1 x3 fx lx q4' lQ nxQ HU
   intro T hT
   have q4:=hT.gw.pl.cell (i:=i*8+4) zq39
   rw[vO _ _ _ aO] at q4
   have q4':T.cell? ⟨Q,i*8+4,none⟩=some (.bool true):=q4.trans zq37
   have lQ:=hT.gw.pl.lt
   have x0:=zA hT.x 0
   have x1:=zA hT.x 1
   have x2:=zA hT.x 2
   have x3:=zA hT.x 3
   have x4:=zA hT.x 4
   have x5:=zA hT.x 5
   have x6:=zA hT.x 6
   have x7:=zA hT.x 7
   have lx:=zE hT.x
   have HT:Hid _:=hT
   clear hT q4
   obtain⟨r,HRN⟩:∃ r,Hid (yA g4 regs=r):=⟨_,rfl⟩
   obtain⟨g5,HG5N⟩:∃ g5,Hid (zBE g4 regs i=g5):=⟨_,rfl⟩
   have HL5:Hid (g5.l.length≤100000):=show _≤_ by
    rw[← HG5N.out]
    show(yO g4 regs).l.length≤_
    have:=(vK g4 regs).2.2.2.2
    have:=HL4.out
    omega
   go_upto_region 17 with (go_at_call 53;refine(zLh base M Q n (some ⟨b,off,none⟩) cap pcap regs f g4 sv1 i _ HT.out.gw HI.out.h0 HI.out.hr HI4.out HI.out.hi HI.out.hn (Nat.le_trans HL4.out aD)).mono ?_;rintro e w5 ⟨rfl,⟨sv5,hG5⟩,hK5⟩;rw[HRN.out];rw[HG5N.out] at hG5;have hO5:=HT.out.call hG5 hK5;have HO5:Hid _:=hO5;have s1:=zA hO5.x 1;have sf:=zD hO5.x;have sl:=zE hO5.x;clear hG5 hK5 hO5)
   refine zI (fun W'=>OW w0 W' base M Q n (some ⟨b,off,none⟩) cap pcap regs f g5 sv5 BX BR BL { yF (f i) with a:=(ρ 0:Int),b:=(ρ 1:Int),c:=(ρ 2:Int),d:=(r:Int) } ρ (f i)) (HO5.out.setX { yF (f i) with a:=(ρ 0:Int),b:=(ρ 1:Int),c:=(ρ 2:Int),d:=(r:Int) } 1 _ rfl) ?_
   clear q4' lQ HO5 s1 sf sl x0 x1 x2 x3 x4 x5 x6 x7 lx
   intro S hS
   have x0:=zA hS.x 0
   have x1:=zA hS.x 1
   have x2:=zA hS.x 2
   have x3:=zA hS.x 3
   have x4:=zA hS.x 4
   have x5:=zA hS.x 5
   have x6:=zA hS.x 6
   have x7:=zA hS.x 7
   have lx:=zE hS.x
   have HS:Hid _:=hS
   clear hS
   go_wp2_with (go_at_call 25;refine(zF7 base M Q n (some ⟨b,off,none⟩) cap pcap regs f g5 sv5 { yF (f i) with a:=(ρ 0:Int),b:=(ρ 1:Int),c:=(ρ 2:Int),d:=(r:Int) } _ HS.out.gw HXK.out HXX.out HL5.out).mono ?_;rintro e w6 ⟨rfl,hG6,hK6⟩;have HG6:Hid _:=hG6;have HK6:Hid _:=hK6;clear hG6 hK6)
   go_end0
   refine⟨rfl,?_,(Kx.of_below HD0.out HG.out.bw).trans (HS.out.kx.trans HK6.out)⟩
   rw[HGJ.out,HRJ.out,HG4N.out,HOX.out]
   unfold zBK
   rw[if_pos HGV4.out,HG5N.out,HRN.out]
   exact HG6.out
theorem zSo(base M Q n:Nat)(bp:Option Addr)(cap pcap regs:Nat)(f:Nat→zL)(g:G)(sv:Value)(i t:Nat)(w:World)(hG:GW w base M Q n bp cap pcap regs f g sv)(hI:zJ7 n i f g regs t)(hz:(g.P i).lazy=false)(hk:(f i).kind≠10)(hgv:((zAo (vV f regs i g t)).P i).gives=false) :
  Calls Try.prog 26 #[.pointer (some ⟨M,0,none⟩),.int .i64 i] w fun e w'=>e=.returned (.tuple #[])∧(∃ sv',GW w' base M Q n bp cap pcap regs f (zBK regs i (zAo (vV f regs i g t)) (yQ (f i) (tkρ f regs i g t))) sv')∧Kx base M Q w w':=by
 obtain⟨b,off,rfl,hb,hc⟩:=hG.ops (by have:=hI.hi;omega)
 have hi:=hI.hi
 have hn:=hI.hn
 have HI:Hid _:=hI
 have m0:w.cell? ⟨M,0,none⟩=some (.slice (some ⟨b,off,none⟩) n cap):=hG.mb.cell (i:=0) aO
 have m1:w.cell? ⟨M,1,none⟩=some (.slice (some ⟨Q,0,none⟩) n pcap):=hG.mb.cell (i:=1) aO
 have m4:=hG.pl.cell (i:=i*8+7) aO
 rw[vO _ _ _ aO] at m4
 have m5:w.cell? ⟨Q,i*8+7,none⟩=some (.bool false):=m4.trans (by show some (Value.bool (g.P i).lazy)=_;rw[hz])
 have HOA:Hid (zAm w b (off+i*7) (f i)):=hc i hi
 have HLB:Hid (b < w.heap.size):=hb
 have HOK:Hid (zDt (f i)):=(hI.ok i hi).1
 have HKK:Hid ((f i).k < 4294967296):=(hI.ok i hi).2
 have HGV:Hid _:=hgv
 have lM:=hG.mb.lt
 have lQ:=hG.pl.lt
 have i0:(0:Int)≤(i:Int):=aO
 have i1:(i:Int) < (n:Int):=aO
 have HG:Hid _:=hG
 have HBO:Hid (b < base):=hG.ob b off rfl
 have k10:((f i).kind==10)=false:=by simpa using hk
 have HK10:Hid ((f i).kind≠10):=hk
 clear hc m4 hG hz hi hn hI hgv hb hk
 go_enter Try.func26,Try.ntmps26
 go_upto_region 0 with fail
 go_quiet (fail)
 go_upto_region 1 with fail
 refine zI (fun W'=>Below w.heap.size w W') (yU _ _) ?_
 intro w0 hd0
 have n5:w0.cell? ⟨Q,i*8+7,none⟩=some (.bool false):=(hd0.cell (p:=⟨Q,i*8+7,none⟩) lQ).trans m5
 have HD0:Hid _:=hd0
 have HG0:Hid _:=HG.out.below hd0
 have lM0:=HG0.out.mb.lt
 have lQ0:=HG0.out.pl.lt
 have HOA0:Hid (zAm w0 b (off+i*7) (f i)):=HOA.out.below hd0 HLB.out
 have HLB0:Hid (b < w0.heap.size):=Nat.lt_of_lt_of_le HLB.out hd0.size
 clear m0 m1 m5 hd0 lM lQ
 go_upto_region 5 with (first
  | (go_at_call 50;refine(zCg b (off+i*7) (f i) _ HOA0.out HLB0.out HOK.out).mono ?_;rintro e w1 ⟨rfl,hb1⟩;have HB1:Hid _:=hb1;clear hb1)
  | (go_at_call 48;refine(zCc b (off+i*7) (f i) _ (HOA0.out.below (((HB1.out.alloc HB1.out.size _).alloc (by have:=HB1.out.size;simp;omega) _)) HLB0.out) (by have:=HB1.out.size;have:=HLB0.out;simp;omega)).mono ?_;rintro e w2 ⟨rfl,hb2⟩;have HB2:Hid _:=hb2;clear hb2))
 refine zI (fun W'=>OW w0 W' base M Q n (some ⟨b,off,none⟩) cap pcap regs f g sv w1.heap.size (w1.heap.size+1) w2.heap.size (yF (f i)) (fun _=>0) (f i)) (zEu (yF (f i)) (f i) HG0.out HB1.out HB2.out) ?_
 clear lM0 lQ0 n5 HB1 HB2 HOA0 HLB0 HG0
 obtain⟨BX,hBX⟩:∃ BX,w1.heap.size=BX:=⟨_,rfl⟩
 obtain⟨BL,hBL⟩:∃ BL,w2.heap.size=BL:=⟨_,rfl⟩
 rw[hBX,hBL]
 clear hBX hBL
 obtain⟨BR,hBR⟩:∃ BR,BX+1=BR:=⟨_,rfl⟩
 rw[hBR]
 clear hBR
 intro W hW
 have q0:=hW.gw.pl.cell (i:=i*8+0) zq39
 rw[vO _ _ _ aO] at q0
 have q0':W.cell? ⟨Q,i*8,none⟩=some (.int .i64 t):=q0.trans (by show some (Value.int .i64 ((g.P i).takes:Nat))=_;rw[HI.out.ht])
 have t0:(0:Int)≤(t:Int):=aO
 have t3:(t:Int)≤3:=by have:=HI.out.t3;omega
 have lQW:=hW.gw.pl.lt
 have lLW:=hW.ls.lt
 have HW:Hid _:=hW
 clear hW q0
 go_wp2
 go_loopw [37] (fun jv wr=>∃ j:Nat,jv=.int .i64 j∧j≤t∧∃ sv',OW w0 wr base M Q n (some ⟨b,off,none⟩) cap pcap regs f (vV f regs i g j) sv' BX BR BL (yF (f i)) (tkρ f regs i g j) (f i)) (fun jv _=>t - (intOf jv).toNat)
 case atStart=>exact⟨0,rfl,by omega,sv,HW.out⟩
 case round=>
  obtain⟨j,rfl,hj,sv1,hr⟩:=hrel
  have HR:Hid _:=hr
  clear HW q0' lQW lLW
  by_cases hlt:j < t
  ·have HLT:Hid (j < t):=hlt
   have jt:(j:Int) < (t:Int):=aO
   have j0:(0:Int)≤(j:Int):=aO
   have j3:(j:Int) < 3:=aO
   have HJ3:Hid (j < 3):=show j < 3 by have:=HI.out.t3;omega
   have dj:decide ((j:Int) < (t:Int))=true:=decide_eq_true jt
   obtain⟨v,HVV⟩:∃ v,Hid (zX (f i) j=v):=⟨_,rfl⟩
   have hav:=(HI.out.tk j hlt).1
   have hvn:=(HI.out.tk j hlt).2
   rw[HVV.out] at hav hvn
   have c0:=hr.ls.cell (i:=j) HJ3.out
   rw[hav] at c0
   have lL:=hr.ls.lt
   obtain⟨gj,HGJ⟩:∃ gj,Hid (vV f regs i g j=gj):=⟨_,rfl⟩
   obtain⟨ρj,HRJ⟩:∃ ρj,Hid (tkρ f regs i g j=ρj):=⟨_,rfl⟩
   have hinv:=zBf f regs i n g HI.out.hv j (fun q hq=>(HI.out.tk q aO).2)
   rw[HGJ.out] at hinv
   have hr':=hr
   rw[HGJ.out,HRJ.out] at hr'
   have HR':Hid _:=hr'
   have HIV:Hid _:=hinv.1
   have HLL:Hid (gj.l.length≤99990):=show _≤_ by have:=hinv.2;have:=HI.out.hl;have:=HJ3.out;omega
   have HVN:Hid (v < n):=hvn
   have v0:(0:Int)≤(v:Int):=aO
   have v1:(v:Int) < (n:Int):=aO
   obtain⟨r,HRN⟩:∃ r,Hid (zAg gj regs v=r):=⟨_,rfl⟩
   obtain⟨g3,HG3N⟩:∃ g3,Hid (yG f gj regs v=g3):=⟨_,rfl⟩
   obtain⟨y,HY⟩:∃ y,Hid (aft (g3.P i) j=y):=⟨_,rfl⟩
   have HN1:Hid (vV f regs i g (j+1)=zAF g3 v y):=show vV f regs i g (j+1)=_ by
    show zAF (yG f (vV f regs i g j) regs (zX (f i) j)) (zX (f i) j) (aft ((yG f (vV f regs i g j) regs (zX (f i) j)).P i) j)=_
    rw[HGJ.out,HVV.out,HG3N.out,HY.out]
   have HN2:Hid (tkρ f regs i g (j+1)=upd ρj j r):=show tkρ f regs i g (j+1)=_ by
    show upd (tkρ f regs i g j) j (zAg (vV f regs i g j) regs (zX (f i) j))=_
    rw[HRJ.out,HGJ.out,HVV.out,HRN.out]
   clear hr hr' hlt hav hvn hinv HR
   go_upto_region 9 with (go_at_call 51;refine(zDy base M Q n (some ⟨b,off,none⟩) cap pcap regs f gj sv1 v _ HR'.out.gw HI.out.h0 HI.out.hr HIV.out HVN.out HI.out.hn HLL.out (HI.out.ok v HVN.out).1 (HI.out.ok v HVN.out).2).mono ?_;rintro e w3 ⟨rfl,⟨sv3,hG3⟩,hK3⟩;rw[HRN.out];rw[HG3N.out] at hG3;have hO3:=HR'.out.call hG3 hK3;have HO3:Hid _:=hO3;have s0:=hO3.rg.cell (i:=j) HJ3.out;have s1:=hO3.rg.frozen j;have s2:=hO3.rg.lt;clear hG3 hK3 hO3)
   refine zI (fun W'=>OW w0 W' base M Q n (some ⟨b,off,none⟩) cap pcap regs f g3 sv3 BX BR BL (yF (f i)) (upd ρj j r) (f i)) (HO3.out.setR j r) ?_
   clear s0 s1 s2 HO3 c0 lL
   intro U hU
   have u1:U.cell? ⟨M,1,none⟩=some (.slice (some ⟨Q,0,none⟩) n pcap):=hU.gw.mb.cell (i:=1) aO
   have u2:=hU.gw.pl.cell (i:=i*8+(1+j)) (by have:=HI.out.hi;have:=HJ3.out;omega)
   rw[vO _ _ _ (by have:=HJ3.out;omega),zEg _ _ HJ3.out,HY.out] at u2
   have u2':U.cell? ⟨Q,i*8+1+j,none⟩=some (.int .i64 y):=by rw[Nat.add_assoc];exact u2
   have u3:=hU.gw.pl.cell (i:=v*8+5) (by have:=HVN.out;omega)
   have u4:=hU.gw.pl.frozen (v*8+5)
   have u5:=hU.gw.pl.lt
   have u6:=hU.gw.mb.lt
   have HU:Hid _:=hU
   clear hU u2
   go_region
   all_goals go_wp2
   all_goals go_roundw
   case rel=>exact⟨j+1,by go_num,HLT.out,sv3,by rw[HN1.out,HN2.out];exact(HU.out.setN v y).below (aB.drew)⟩
   case measure=>have:=HLT.out;simp[intOf];omega
  ·obtain rfl:j=t:=aO
   have dj:decide ((j:Int) < (j:Int))=false:=aF
   obtain⟨gj,HGJ⟩:∃ gj,Hid (vV f regs i g j=gj):=⟨_,rfl⟩
   obtain⟨ρ,HRJ⟩:∃ ρ,Hid (tkρ f regs i g j=ρ):=⟨_,rfl⟩
   have hinv:=zBf f regs i n g HI.out.hv j (fun q hq=>(HI.out.tk q hq).2)
   have hgv:=HGV.out
   rw[HGJ.out] at hinv hr hgv
   rw[HRJ.out] at hr
   obtain⟨g4,HG4N⟩:∃ g4,Hid (zAo gj=g4):=⟨_,rfl⟩
   have hin4:=zCC gj n hinv.1
   have hl4:(zAo gj).l.length≤99990:=by show gj.l.length≤_;have:=hinv.2;have:=HI.out.hl;have:=HI.out.t3;omega
   rw[HG4N.out] at hin4 hl4 hgv
   have HI4:Hid _:=hin4
   have HL4:Hid _:=hl4
   have HIV:Hid _:=hinv.1
   have HGV4:Hid _:=hgv
   have HR':Hid _:=hr
   have HXK:Hid ((yF (f i)).k < 4294967296):=HKK.out
   have HXX:Hid ((yF (f i)).x < 4294967296):=show(if(f i).kind=14 then((f i).b%4294967296).toNat else 0) < 4294967296 by split<;>omega
   have HOX:Hid (yQ (f i) ρ={ yF (f i) with a:=(ρ 0:Int),b:=(ρ 1:Int),c:=(ρ 2:Int) }):=show yQ (f i) ρ=_ by unfold yQ;rw[if_neg HK10.out]
   clear hr hj hinv hin4 hl4 HR hlt hgv
   go_upto_region 12 with (go_at_call 52;refine(zCF base M Q n (some ⟨b,off,none⟩) cap pcap regs f gj sv1 _ HR'.out.gw HIV.out).mono ?_;rintro e w4 ⟨rfl,hG4,hK4⟩;rw[HG4N.out] at hG4;have hO4:=HR'.out.call hG4 hK4;have HO4:Hid _:=hO4;clear hG4 hK4 hO4)
   refine zI (fun W'=>OW w0 W' base M Q n (some ⟨b,off,none⟩) cap pcap regs f g4 sv1 BX BR BL (yF (f i)) ρ (f i)) HO4.out ?_
   clear HO4
   intro V hV
   have r0:=hV.rg.cell (i:=0) aO
   have r1:=hV.rg.cell (i:=1) aO
   have r2:=hV.rg.cell (i:=2) aO
   have x2:=zA hV.x 2
   have x3:=zA hV.x 3
   have x4:=zA hV.x 4
   have fx:=zD hV.x
   have lx:=zE hV.x
   have lr:=hV.rg.lt
   have nxr:=hV.xr
   have HV:Hid _:=hV
   clear hV
   go_region
   go_upto_region 13 with fail
   refine zI (fun W'=>OW w0 W' base M Q n (some ⟨b,off,none⟩) cap pcap regs f g4 sv1 BX BR BL { yF (f i) with a:=(ρ 0:Int),b:=(ρ 1:Int),c:=(ρ 2:Int) } ρ (f i)) ((((HV.out.setX { yF (f i) with a:=(ρ 0:Int) } 2 _ rfl).setX { yF (f i) with a:=(ρ 0:Int),b:=(ρ 1:Int) } 3 _ rfl).setX { yF (f i) with a:=(ρ 0:Int),b:=(ρ 1:Int),c:=(ρ 2:Int) } 4 _ rfl).below (aB.drew)) ?_
   clear r0 r1 r2 x2 x3 x4 fx lx lr nxr HV
   intro U hU
   have k0:U.cell? ⟨b,off+i*7,none⟩=some (.int .i64 (f i).kind):=((hU.gw.ops zq39) |> fun ⟨b',off',e,hb',hc'⟩=>by cases e;exact(hc' i HI.out.hi).c0)
   have lb:b < U.heap.size:=by have:=HBO.out;have:=hU.gw.bw;omega
   have x1:=zA hU.x 1
   have x3:=zA hU.x 3
   have fx:=zD hU.x
   have lx:=zE hU.x
   have q4:=hU.gw.pl.cell (i:=i*8+4) zq39
   rw[vO _ _ _ aO] at q4
   have q4':U.cell? ⟨Q,i*8+4,none⟩=some (.bool false):=q4.trans zq37
   have lQ:=hU.gw.pl.lt
   have nxQ:=hU.neX.2.1
   have HU:Hid _:=hU
   clear hU q4
   go_upto_region 15 with fail
   refine zI (fun W'=>OW w0 W' base M Q n (some ⟨b,off,none⟩) cap pcap regs f g4 sv1 BX BR BL { yF (f i) with a:=(ρ 0:Int),b:=(ρ 1:Int),c:=(ρ 2:Int) } ρ (f i)) HU.out ?_
   clear k0 lb x1 x3 fx lx q4' lQ nxQ HU
   intro T hT
   have q4:=hT.gw.pl.cell (i:=i*8+4) zq39
   rw[vO _ _ _ aO] at q4
   have q4':T.cell? ⟨Q,i*8+4,none⟩=some (.bool false):=q4.trans zq37
   have lQ:=hT.gw.pl.lt
   have x0:=zA hT.x 0
   have x1:=zA hT.x 1
   have x2:=zA hT.x 2
   have x3:=zA hT.x 3
   have x4:=zA hT.x 4
   have x5:=zA hT.x 5
   have x6:=zA hT.x 6
   have x7:=zA hT.x 7
   have lx:=zE hT.x
   have HT:Hid _:=hT
   clear hT q4
   go_wp2_with (go_at_call 25;refine(zF7 base M Q n (some ⟨b,off,none⟩) cap pcap regs f g4 sv1 { yF (f i) with a:=(ρ 0:Int),b:=(ρ 1:Int),c:=(ρ 2:Int) } _ HT.out.gw HXK.out HXX.out (Nat.le_trans HL4.out aD)).mono ?_;rintro e w5 ⟨rfl,hG5,hK5⟩;have HG5:Hid _:=hG5;have HK5:Hid _:=hK5;clear hG5 hK5)
   go_end0
   refine⟨rfl,?_,(Kx.of_below HD0.out HG.out.bw).trans (HT.out.kx.trans HK5.out)⟩
   rw[HGJ.out,HRJ.out,HG4N.out,HOX.out]
   unfold zBK
   rw[if_neg (by rw[HGV4.out];decide)]
   exact HG5.out
theorem zSp(base M Q n:Nat)(bp:Option Addr)(cap pcap regs:Nat)(f:Nat→zL)(g:G)(sv:Value)(i t:Nat)(w:World)(hG:GW w base M Q n bp cap pcap regs f g sv)(hI:zJ7 n i f g regs t)(hz:(g.P i).lazy=false)(hk:(f i).kind=10)(hgv:((zAo (vV f regs i g t)).P i).gives=false) :
  Calls Try.prog 26 #[.pointer (some ⟨M,0,none⟩),.int .i64 i] w fun e w'=>e=.returned (.tuple #[])∧(∃ sv',GW w' base M Q n bp cap pcap regs f (zBK regs i (zAo (vV f regs i g t)) (yQ (f i) (tkρ f regs i g t))) sv')∧Kx base M Q w w':=by
 obtain⟨b,off,rfl,hb,hc⟩:=hG.ops (by have:=hI.hi;omega)
 have hi:=hI.hi
 have hn:=hI.hn
 have HI:Hid _:=hI
 have m0:w.cell? ⟨M,0,none⟩=some (.slice (some ⟨b,off,none⟩) n cap):=hG.mb.cell (i:=0) aO
 have m1:w.cell? ⟨M,1,none⟩=some (.slice (some ⟨Q,0,none⟩) n pcap):=hG.mb.cell (i:=1) aO
 have m4:=hG.pl.cell (i:=i*8+7) aO
 rw[vO _ _ _ aO] at m4
 have m5:w.cell? ⟨Q,i*8+7,none⟩=some (.bool false):=m4.trans (by show some (Value.bool (g.P i).lazy)=_;rw[hz])
 have HOA:Hid (zAm w b (off+i*7) (f i)):=hc i hi
 have HLB:Hid (b < w.heap.size):=hb
 have HOK:Hid (zDt (f i)):=(hI.ok i hi).1
 have HKK:Hid ((f i).k < 4294967296):=(hI.ok i hi).2
 have HGV:Hid _:=hgv
 have lM:=hG.mb.lt
 have lQ:=hG.pl.lt
 have i0:(0:Int)≤(i:Int):=aO
 have i1:(i:Int) < (n:Int):=aO
 have HG:Hid _:=hG
 have HBO:Hid (b < base):=hG.ob b off rfl
 have k10:((f i).kind==10)=true:=by simpa using hk
 have HK10:Hid ((f i).kind=10):=hk
 clear hc m4 hG hz hi hn hI hgv hb hk
 go_enter Try.func26,Try.ntmps26
 go_upto_region 0 with fail
 go_quiet (fail)
 go_upto_region 1 with fail
 refine zI (fun W'=>Below w.heap.size w W') (yU _ _) ?_
 intro w0 hd0
 have n5:w0.cell? ⟨Q,i*8+7,none⟩=some (.bool false):=(hd0.cell (p:=⟨Q,i*8+7,none⟩) lQ).trans m5
 have HD0:Hid _:=hd0
 have HG0:Hid _:=HG.out.below hd0
 have lM0:=HG0.out.mb.lt
 have lQ0:=HG0.out.pl.lt
 have HOA0:Hid (zAm w0 b (off+i*7) (f i)):=HOA.out.below hd0 HLB.out
 have HLB0:Hid (b < w0.heap.size):=Nat.lt_of_lt_of_le HLB.out hd0.size
 clear m0 m1 m5 hd0 lM lQ
 go_upto_region 5 with (first
  | (go_at_call 50;refine(zCg b (off+i*7) (f i) _ HOA0.out HLB0.out HOK.out).mono ?_;rintro e w1 ⟨rfl,hb1⟩;have HB1:Hid _:=hb1;clear hb1)
  | (go_at_call 48;refine(zCc b (off+i*7) (f i) _ (HOA0.out.below (((HB1.out.alloc HB1.out.size _).alloc (by have:=HB1.out.size;simp;omega) _)) HLB0.out) (by have:=HB1.out.size;have:=HLB0.out;simp;omega)).mono ?_;rintro e w2 ⟨rfl,hb2⟩;have HB2:Hid _:=hb2;clear hb2))
 refine zI (fun W'=>OW w0 W' base M Q n (some ⟨b,off,none⟩) cap pcap regs f g sv w1.heap.size (w1.heap.size+1) w2.heap.size (yF (f i)) (fun _=>0) (f i)) (zEu (yF (f i)) (f i) HG0.out HB1.out HB2.out) ?_
 clear lM0 lQ0 n5 HB1 HB2 HOA0 HLB0 HG0
 obtain⟨BX,hBX⟩:∃ BX,w1.heap.size=BX:=⟨_,rfl⟩
 obtain⟨BL,hBL⟩:∃ BL,w2.heap.size=BL:=⟨_,rfl⟩
 rw[hBX,hBL]
 clear hBX hBL
 obtain⟨BR,hBR⟩:∃ BR,BX+1=BR:=⟨_,rfl⟩
 rw[hBR]
 clear hBR
 intro W hW
 have q0:=hW.gw.pl.cell (i:=i*8+0) zq39
 rw[vO _ _ _ aO] at q0
 have q0':W.cell? ⟨Q,i*8,none⟩=some (.int .i64 t):=q0.trans (by show some (Value.int .i64 ((g.P i).takes:Nat))=_;rw[HI.out.ht])
 have t0:(0:Int)≤(t:Int):=aO
 have t3:(t:Int)≤3:=by have:=HI.out.t3;omega
 have lQW:=hW.gw.pl.lt
 have lLW:=hW.ls.lt
 have HW:Hid _:=hW
 clear hW q0
 go_wp2
 go_loopw [37] (fun jv wr=>∃ j:Nat,jv=.int .i64 j∧j≤t∧∃ sv',OW w0 wr base M Q n (some ⟨b,off,none⟩) cap pcap regs f (vV f regs i g j) sv' BX BR BL (yF (f i)) (tkρ f regs i g j) (f i)) (fun jv _=>t - (intOf jv).toNat)
 case atStart=>exact⟨0,rfl,by omega,sv,HW.out⟩
 case round=>
  obtain⟨j,rfl,hj,sv1,hr⟩:=hrel
  have HR:Hid _:=hr
  clear HW q0' lQW lLW
  by_cases hlt:j < t
  ·have HLT:Hid (j < t):=hlt
   have jt:(j:Int) < (t:Int):=aO
   have j0:(0:Int)≤(j:Int):=aO
   have j3:(j:Int) < 3:=aO
   have HJ3:Hid (j < 3):=show j < 3 by have:=HI.out.t3;omega
   have dj:decide ((j:Int) < (t:Int))=true:=decide_eq_true jt
   obtain⟨v,HVV⟩:∃ v,Hid (zX (f i) j=v):=⟨_,rfl⟩
   have hav:=(HI.out.tk j hlt).1
   have hvn:=(HI.out.tk j hlt).2
   rw[HVV.out] at hav hvn
   have c0:=hr.ls.cell (i:=j) HJ3.out
   rw[hav] at c0
   have lL:=hr.ls.lt
   obtain⟨gj,HGJ⟩:∃ gj,Hid (vV f regs i g j=gj):=⟨_,rfl⟩
   obtain⟨ρj,HRJ⟩:∃ ρj,Hid (tkρ f regs i g j=ρj):=⟨_,rfl⟩
   have hinv:=zBf f regs i n g HI.out.hv j (fun q hq=>(HI.out.tk q aO).2)
   rw[HGJ.out] at hinv
   have hr':=hr
   rw[HGJ.out,HRJ.out] at hr'
   have HR':Hid _:=hr'
   have HIV:Hid _:=hinv.1
   have HLL:Hid (gj.l.length≤99990):=show _≤_ by have:=hinv.2;have:=HI.out.hl;have:=HJ3.out;omega
   have HVN:Hid (v < n):=hvn
   have v0:(0:Int)≤(v:Int):=aO
   have v1:(v:Int) < (n:Int):=aO
   obtain⟨r,HRN⟩:∃ r,Hid (zAg gj regs v=r):=⟨_,rfl⟩
   obtain⟨g3,HG3N⟩:∃ g3,Hid (yG f gj regs v=g3):=⟨_,rfl⟩
   obtain⟨y,HY⟩:∃ y,Hid (aft (g3.P i) j=y):=⟨_,rfl⟩
   have HN1:Hid (vV f regs i g (j+1)=zAF g3 v y):=show vV f regs i g (j+1)=_ by
    show zAF (yG f (vV f regs i g j) regs (zX (f i) j)) (zX (f i) j) (aft ((yG f (vV f regs i g j) regs (zX (f i) j)).P i) j)=_
    rw[HGJ.out,HVV.out,HG3N.out,HY.out]
   have HN2:Hid (tkρ f regs i g (j+1)=upd ρj j r):=show tkρ f regs i g (j+1)=_ by
    show upd (tkρ f regs i g j) j (zAg (vV f regs i g j) regs (zX (f i) j))=_
    rw[HRJ.out,HGJ.out,HVV.out,HRN.out]
   clear hr hr' hlt hav hvn hinv HR
   go_upto_region 9 with (go_at_call 51;refine(zDy base M Q n (some ⟨b,off,none⟩) cap pcap regs f gj sv1 v _ HR'.out.gw HI.out.h0 HI.out.hr HIV.out HVN.out HI.out.hn HLL.out (HI.out.ok v HVN.out).1 (HI.out.ok v HVN.out).2).mono ?_;rintro e w3 ⟨rfl,⟨sv3,hG3⟩,hK3⟩;rw[HRN.out];rw[HG3N.out] at hG3;have hO3:=HR'.out.call hG3 hK3;have HO3:Hid _:=hO3;have s0:=hO3.rg.cell (i:=j) HJ3.out;have s1:=hO3.rg.frozen j;have s2:=hO3.rg.lt;clear hG3 hK3 hO3)
   refine zI (fun W'=>OW w0 W' base M Q n (some ⟨b,off,none⟩) cap pcap regs f g3 sv3 BX BR BL (yF (f i)) (upd ρj j r) (f i)) (HO3.out.setR j r) ?_
   clear s0 s1 s2 HO3 c0 lL
   intro U hU
   have u1:U.cell? ⟨M,1,none⟩=some (.slice (some ⟨Q,0,none⟩) n pcap):=hU.gw.mb.cell (i:=1) aO
   have u2:=hU.gw.pl.cell (i:=i*8+(1+j)) (by have:=HI.out.hi;have:=HJ3.out;omega)
   rw[vO _ _ _ (by have:=HJ3.out;omega),zEg _ _ HJ3.out,HY.out] at u2
   have u2':U.cell? ⟨Q,i*8+1+j,none⟩=some (.int .i64 y):=by rw[Nat.add_assoc];exact u2
   have u3:=hU.gw.pl.cell (i:=v*8+5) (by have:=HVN.out;omega)
   have u4:=hU.gw.pl.frozen (v*8+5)
   have u5:=hU.gw.pl.lt
   have u6:=hU.gw.mb.lt
   have HU:Hid _:=hU
   clear hU u2
   go_region
   all_goals go_wp2
   all_goals go_roundw
   case rel=>exact⟨j+1,by go_num,HLT.out,sv3,by rw[HN1.out,HN2.out];exact(HU.out.setN v y).below (aB.drew)⟩
   case measure=>have:=HLT.out;simp[intOf];omega
  ·obtain rfl:j=t:=aO
   have dj:decide ((j:Int) < (j:Int))=false:=aF
   obtain⟨gj,HGJ⟩:∃ gj,Hid (vV f regs i g j=gj):=⟨_,rfl⟩
   obtain⟨ρ,HRJ⟩:∃ ρ,Hid (tkρ f regs i g j=ρ):=⟨_,rfl⟩
   have hinv:=zBf f regs i n g HI.out.hv j (fun q hq=>(HI.out.tk q hq).2)
   have hgv:=HGV.out
   rw[HGJ.out] at hinv hr hgv
   rw[HRJ.out] at hr
   obtain⟨g4,HG4N⟩:∃ g4,Hid (zAo gj=g4):=⟨_,rfl⟩
   have hin4:=zCC gj n hinv.1
   have hl4:(zAo gj).l.length≤99990:=by show gj.l.length≤_;have:=hinv.2;have:=HI.out.hl;have:=HI.out.t3;omega
   rw[HG4N.out] at hin4 hl4 hgv
   have HI4:Hid _:=hin4
   have HL4:Hid _:=hl4
   have HIV:Hid _:=hinv.1
   have HGV4:Hid _:=hgv
   have HR':Hid _:=hr
   have HXK:Hid ((yF (f i)).k < 4294967296):=HKK.out
   have HXX:Hid ((yF (f i)).x < 4294967296):=show(if(f i).kind=14 then((f i).b%4294967296).toNat else 0) < 4294967296 by split<;>omega
   have HOX:Hid (yQ (f i) ρ={ yF (f i) with a:=(ρ 0:Int),b:=0,c:=(ρ 2:Int),d:=(ρ 1:Int) }):=show yQ (f i) ρ=_ by unfold yQ;rw[if_pos HK10.out]
   clear hr hj hinv hin4 hl4 HR hlt hgv
   go_upto_region 12 with (go_at_call 52;refine(zCF base M Q n (some ⟨b,off,none⟩) cap pcap regs f gj sv1 _ HR'.out.gw HIV.out).mono ?_;rintro e w4 ⟨rfl,hG4,hK4⟩;rw[HG4N.out] at hG4;have hO4:=HR'.out.call hG4 hK4;have HO4:Hid _:=hO4;clear hG4 hK4 hO4)
   refine zI (fun W'=>OW w0 W' base M Q n (some ⟨b,off,none⟩) cap pcap regs f g4 sv1 BX BR BL (yF (f i)) ρ (f i)) HO4.out ?_
   clear HO4
   intro V hV
   have r0:=hV.rg.cell (i:=0) aO
   have r1:=hV.rg.cell (i:=1) aO
   have r2:=hV.rg.cell (i:=2) aO
   have x2:=zA hV.x 2
   have x3:=zA hV.x 3
   have x4:=zA hV.x 4
   have fx:=zD hV.x
   have lx:=zE hV.x
   have lr:=hV.rg.lt
   have nxr:=hV.xr
   have HV:Hid _:=hV
   clear hV
   go_region
   go_upto_region 13 with fail
   refine zI (fun W'=>OW w0 W' base M Q n (some ⟨b,off,none⟩) cap pcap regs f g4 sv1 BX BR BL { yF (f i) with a:=(ρ 0:Int),b:=(ρ 1:Int),c:=(ρ 2:Int) } ρ (f i)) ((((HV.out.setX { yF (f i) with a:=(ρ 0:Int) } 2 _ rfl).setX { yF (f i) with a:=(ρ 0:Int),b:=(ρ 1:Int) } 3 _ rfl).setX { yF (f i) with a:=(ρ 0:Int),b:=(ρ 1:Int),c:=(ρ 2:Int) } 4 _ rfl).below (aB.drew)) ?_
   clear r0 r1 r2 x2 x3 x4 fx lx lr nxr HV
   intro U hU
   have k0:U.cell? ⟨b,off+i*7,none⟩=some (.int .i64 (f i).kind):=((hU.gw.ops zq39) |> fun ⟨b',off',e,hb',hc'⟩=>by cases e;exact(hc' i HI.out.hi).c0)
   have lb:b < U.heap.size:=by have:=HBO.out;have:=hU.gw.bw;omega
   have x1:=zA hU.x 1
   have x3:=zA hU.x 3
   have fx:=zD hU.x
   have lx:=zE hU.x
   have q4:=hU.gw.pl.cell (i:=i*8+4) zq39
   rw[vO _ _ _ aO] at q4
   have q4':U.cell? ⟨Q,i*8+4,none⟩=some (.bool false):=q4.trans zq37
   have lQ:=hU.gw.pl.lt
   have nxQ:=hU.neX.2.1
   have HU:Hid _:=hU
   clear hU q4
   go_upto_region 15 with fail
   refine zI (fun W'=>OW w0 W' base M Q n (some ⟨b,off,none⟩) cap pcap regs f g4 sv1 BX BR BL { yF (f i) with a:=(ρ 0:Int),b:=0,c:=(ρ 2:Int),d:=(ρ 1:Int) } ρ (f i)) ((HU.out.setX { yF (f i) with a:=(ρ 0:Int),b:=(ρ 1:Int),c:=(ρ 2:Int),d:=(ρ 1:Int) } 1 _ rfl).setX { yF (f i) with a:=(ρ 0:Int),b:=0,c:=(ρ 2:Int),d:=(ρ 1:Int) } 3 _ rfl) ?_
   clear k0 lb x1 x3 fx lx q4' lQ nxQ HU
   intro T hT
   have q4:=hT.gw.pl.cell (i:=i*8+4) zq39
   rw[vO _ _ _ aO] at q4
   have q4':T.cell? ⟨Q,i*8+4,none⟩=some (.bool false):=q4.trans zq37
   have lQ:=hT.gw.pl.lt
   have x0:=zA hT.x 0
   have x1:=zA hT.x 1
   have x2:=zA hT.x 2
   have x3:=zA hT.x 3
   have x4:=zA hT.x 4
   have x5:=zA hT.x 5
   have x6:=zA hT.x 6
   have x7:=zA hT.x 7
   have lx:=zE hT.x
   have HT:Hid _:=hT
   clear hT q4
   go_wp2_with (go_at_call 25;refine(zF7 base M Q n (some ⟨b,off,none⟩) cap pcap regs f g4 sv1 { yF (f i) with a:=(ρ 0:Int),b:=0,c:=(ρ 2:Int),d:=(ρ 1:Int) } _ HT.out.gw HXK.out HXX.out (Nat.le_trans HL4.out aD)).mono ?_;rintro e w5 ⟨rfl,hG5,hK5⟩;have HG5:Hid _:=hG5;have HK5:Hid _:=hK5;clear hG5 hK5)
   go_end0
   refine⟨rfl,?_,(Kx.of_below HD0.out HG.out.bw).trans (HT.out.kx.trans HK5.out)⟩
   rw[HGJ.out,HRJ.out,HG4N.out,HOX.out]
   unfold zBK
   rw[if_neg (by rw[HGV4.out];decide)]
   exact HG5.out
end Go.Proofs.Ytkmjenjahbicpaa.Ho
