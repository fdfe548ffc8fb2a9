import Derived.Test.YtkmjenjahbicpaaGE
set_option linter.unusedVariables false
set_option linter.unusedSimpArgs false
set_option maxHeartbeats 4000000
namespace Go.Proofs.Ytkmjenjahbicpaa.Ho
open Go.RowKit
set_option maxRecDepth 100000
theorem zDi(x:Cd):(vZ x).2.length≤3:=by
 unfold vZ
 split
 ·decide
 ·split
  ·show(wsE _ _ _ _).length≤3;rw[zBU];exact zIA _
  ·decide
theorem zCB(g:G)(x:Cd):(zBw g x).l.length≤g.l.length+3:=by
 show(g.l++(vZ x).2).length≤_
 rw[List.length_append];have:=zDi x;omega
theorem zHP(g:G)(r:Nat):(zAp g r).hf=g.hf∧(zAp g r).hv=g.hv∧(zAp g r).bz=g.bz∧(zAp g r).P=g.P∧(zAp g r).l.length≤g.l.length+3:=by
 unfold zAp
 split
 ·exact⟨rfl,rfl,rfl,rfl,zCB g _⟩
 ·exact⟨rfl,rfl,rfl,rfl,by omega⟩
theorem vK(g:G)(regs:Nat):(yO g regs).hf=g.hf∧(yO g regs).hv=g.hv∧(yO g regs).bz=g.bz∧(yO g regs).P=g.P∧(yO g regs).l.length≤g.l.length+3:=by
 unfold yO
 split
 ·exact⟨rfl,rfl,rfl,rfl,by omega⟩
 ·exact zHP g _
def zAy(f:Nat→zL)(g:G)(v r:Nat):Cd:=if(g.P v).lazy=true then { yF (f v) with d:=r } else⟨8,r,0,0,0,v,0,0⟩
def zC7(g:G)(r v:Nat)(b:Bool):G:={ g with hf:=upd g.hf r b,hv:=upd g.hv r v }
def zGV(g:G)(r:Nat):G:={ g with bz:=upd g.bz r true }
def zAg(g:G)(regs v:Nat):Nat:=match uY g v regs 0 with|some r=>r|none=>yA g regs
def yG(f:Nat→zL)(g:G)(regs v:Nat):G:=match uY g v regs 0 with
 | some r=>zGV g r
 | none=>zGV (zC7 (zBw (yO g regs) (zAy f (yO g regs) v (yA g regs))) (yA g regs) v true) (yA g regs)
theorem zEj(g:G)(v regs:Nat):∀ m r q,r+m=regs→uY g v m r=some q→q < regs
 | 0,_,_,_,h=>by cases h
 | m+1,r,q,e,h=>by
  unfold uY at h
  split at h
  ·cases h;omega
  ·exact zEj g v regs m (r+1) q aO h
structure BX(w W:World)(X:Cd):Prop where
 x:W.heap[w.heap.size]?=some (.cells (cdA X) 80)
 bel:Below w.heap.size w W
theorem zGi(w:World)(X:Cd):BX w (w.alloc (.cells (cdA X) 80)) X:=⟨heap_alloc_last _ _,aB.alloc aL _⟩
theorem BX.put{w W:World}{X:Cd}(h:BX w W X)(Y:Cd)(o:Nat)(u:Value)(e:(cdA X).setIfInBounds o u=cdA Y):BX w (W.setCell ⟨w.heap.size,o,none⟩ u) Y:=⟨(yE h.x u).trans (by rw[e]),h.bel.setCell aL _⟩
theorem BX.put8{w W:World}{X:Cd}(h:BX w W X)(Y:Cd):BX w ((((((((W.setCell ⟨w.heap.size,0,none⟩ (.int .i64 Y.op)).setCell ⟨w.heap.size,1,none⟩ (.int .i64 Y.d)).setCell ⟨w.heap.size,2,none⟩ (.int .i64 Y.a)).setCell ⟨w.heap.size,3,none⟩ (.int .i64 Y.b)).setCell ⟨w.heap.size,4,none⟩ (.int .i64 Y.c)).setCell ⟨w.heap.size,5,none⟩ (.int .i64 Y.n)).setCell ⟨w.heap.size,6,none⟩ (.int .u32 Y.k)).setCell ⟨w.heap.size,7,none⟩ (.int .u32 Y.x)) Y:=
 (((((((h.put { X with op:=Y.op } 0 _ rfl).put { X with op:=Y.op,d:=Y.d } 1 _ rfl).put { X with op:=Y.op,d:=Y.d,a:=Y.a } 2 _ rfl).put { X with op:=Y.op,d:=Y.d,a:=Y.a,b:=Y.b } 3 _ rfl).put { X with op:=Y.op,d:=Y.d,a:=Y.a,b:=Y.b,c:=Y.c } 4 _ rfl).put { X with op:=Y.op,d:=Y.d,a:=Y.a,b:=Y.b,c:=Y.c,n:=Y.n } 5 _ rfl).put { X with op:=Y.op,d:=Y.d,a:=Y.a,b:=Y.b,c:=Y.c,n:=Y.n,k:=Y.k } 6 _ rfl).put Y 7 _ rfl
theorem BX.next{w W W2:World}{X:Cd}(h:BX w W X)(k:Below W.heap.size W W2):BX w W2 X:=⟨(k.block _ (zE h.x)).trans h.x,h.bel.trans (k.mono h.bel.size)⟩
theorem BX.setD{w W:World}{X:Cd}(h:BX w W X)(d:Int):BX w (W.setCell ⟨w.heap.size,1,none⟩ (.int .i64 d)) { X with d:=d }:=⟨(yE h.x _).trans rfl,h.bel.setCell aL _⟩
theorem zIM(base M Q n:Nat)(bp:Option Addr)(cap pcap regs:Nat)(f:Nat→zL)(g:G)(sv:Value)(v r:Nat)(w:World)(hG:GW w base M Q n bp cap pcap regs f g sv)(hr:regs≤16)(hF:uY g v regs 0=some r) :
  Calls Try.prog 51 #[.pointer (some ⟨M,0,none⟩),.int .i64 v] w fun e w'=>e=.returned (.int .i64 r)∧(∃ sv',GW w' base M Q n bp cap pcap regs f (zGV g r) sv')∧Kx base M Q w w':=by
 have hrl:=zEj g v regs regs 0 r aO hF
 have HG:Hid _:=hG
 have HF:Hid _:=hF
 have HR:Hid (regs≤16):=hr
 have HR2:Hid (r < 16):=show r < 16 by omega
 have r0:(0:Int)≤(r:Int):=aO
 have r1:(r:Int) < 16:=aO
 have m0:=hG.mb.cell (i:=35+r) aO
 have m1:=hG.mb.frozen (35+r)
 have lM:=hG.mb.lt
 clear hG hF hr hrl
 go_enter Try.func51,Try.ntmps51
 go_wp2_with (go_at_call 73;refine(zEk base M Q n bp cap pcap regs f g sv v _ HG.out HR.out).mono ?_;rintro e w1 ⟨rfl,rfl⟩;rw[HF.out];simp only[Option.getD_some,Option.isSome_some])
 go_ret
 exact⟨rfl,⟨sv,HG.out.setM (35+r) (.bool true) _ (zKb _ _ _ _ _ r true HR2.out) rfl rfl⟩,(Kx.refl _ _ _ _).setIn (.inl rfl) HG.out.bM _ _⟩
theorem zMO(base M Q n:Nat)(bp:Option Addr)(cap pcap regs:Nat)(f:Nat→zL)(g:G)(sv:Value)(v:Nat)(w:World)(hG:GW w base M Q n bp cap pcap regs f g sv)(h0:0 < regs)(hr:regs≤16)(hv:∀ r,r < 16→g.hv r < n)(hvn:v < n)(hn:n≤2048)(hl:g.l.length≤99990)(hF:uY g v regs 0=none)(hz:(g.P v).lazy=false) :
  Calls Try.prog 51 #[.pointer (some ⟨M,0,none⟩),.int .i64 v] w fun e w'=>e=.returned (.int .i64 (yA g regs))∧(∃ sv',GW w' base M Q n bp cap pcap regs f (zGV (zC7 (zBw (yO g regs) (zAy f (yO g regs) v (yA g regs))) (yA g regs) v true) (yA g regs)) sv')∧Kx base M Q w w':=by
 have hrl:=zAC g regs h0
 obtain⟨r,HRN⟩:∃ r,Hid (yA g regs=r):=⟨_,rfl⟩
 obtain⟨g1,HG1N⟩:∃ g1,Hid (yO g regs=g1):=⟨_,rfl⟩
 rw[HRN.out] at hrl
 obtain⟨e1,e2,e3,e4,e5⟩:=vK g regs
 rw[HG1N.out] at e1 e2 e3 e4 e5
 have HL1:Hid (g1.l.length≤100000):=show _≤_ by omega
 have HLZ:Hid ((g1.P v).lazy=false):=show _=_ by rw[e4];exact hz
 have HX:Hid (zAy f g1 v r={ (⟨8,0,0,0,0,v,0,0⟩:Cd) with d:=(r:Int) }):=show _=_ by unfold zAy;rw[HLZ.out];rfl
 have HG:Hid _:=hG
 have HF:Hid _:=hF
 have HR:Hid (regs≤16):=hr
 have HR0:Hid (0 < regs):=h0
 have HV:Hid _:=hv
 have HNN:Hid (n≤2048):=hn
 have HL:Hid (g.l.length≤100000):=show _≤_ by omega
 have HR2:Hid (r < 16):=show r < 16 by omega
 have HVN:Hid (v < n):=hvn
 have r0:(0:Int)≤(r:Int):=aO
 have r1:(r:Int) < 16:=aO
 have v0:(0:Int)≤(v:Int):=aO
 have v1:(v:Int) < (n:Int):=aO
 clear hG hF hr h0 hv hn hl hrl hvn e1 e2 e3 e4 e5 hz
 rw[HRN.out,HG1N.out,HX.out]
 go_enter Try.func51,Try.ntmps51
 go_upto_region 5 with (first
  | (go_at_call 73;refine(zEk base M Q n bp cap pcap regs f g sv v _ HG.out HR.out).mono ?_;rintro e w1 ⟨rfl,rfl⟩;rw[HF.out];simp only[Option.getD_none,Option.isSome_none])
  | (go_at_call 74;refine(zEy base M Q n bp cap pcap regs f g sv _ HG.out HR0.out HR.out HV.out HNN.out HL.out).mono ?_;rintro e w1 ⟨rfl,⟨sv1,hG1⟩,hK1⟩;rw[HRN.out];rw[HG1N.out] at hG1;have HG1:Hid _:=hG1;have HK1:Hid _:=hK1;clear hG1 hK1))
 refine zI (fun W'=>BX w1 W' ⟨8,0,0,0,0,v,0,0⟩) (zGi w1 ⟨8,0,0,0,0,v,0,0⟩) ?_
 intro W hW
 have hGW:=HG1.out.below hW.bel
 have m3:W.cell? ⟨M,1,none⟩=some (.slice (some ⟨Q,0,none⟩) n pcap):=hGW.mb.cell (i:=1) aO
 have m2:W.cell? ⟨M,0,none⟩=some (.slice bp n cap):=hGW.mb.cell (i:=0) aO
 have m4:=hGW.pl.cell (i:=v*8+7) (by have:=HVN.out;omega)
 rw[vO _ _ _ aO] at m4
 have m4':W.cell? ⟨Q,v*8+7,none⟩=some (.bool false):=m4.trans (by show some (Value.bool (g1.P v).lazy)=_;rw[HLZ.out])
 have lM:=hGW.mb.lt
 have lQ:=hGW.pl.lt
 have x0:=zA hW.x 0
 have x1:=zA hW.x 1
 have x2:=zA hW.x 2
 have x3:=zA hW.x 3
 have x4:=zA hW.x 4
 have x5:=zA hW.x 5
 have x6:=zA hW.x 6
 have x7:=zA hW.x 7
 have fx:=zD hW.x
 have lx:=zE hW.x
 have HW:Hid _:=hW
 clear m4 hW
 clear hGW
 go_upto_region 7 with fail
 refine zI (fun W'=>BX w1 W' (⟨8,0,0,0,0,v,0,0⟩:Cd)) HW.out ?_
 clear m3 m2 m4' lM lQ x0 x1 x2 x3 x4 x5 x6 x7 fx lx HW
 intro V hV
 have x1:=zA hV.x 1
 have fx:=zD hV.x
 have lx:=zE hV.x
 have hD:=hV.setD (r:Int)
 have y0:=zA hD.x 0
 have y1:=zA hD.x 1
 have y2:=zA hD.x 2
 have y3:=zA hD.x 3
 have y4:=zA hD.x 4
 have y5:=zA hD.x 5
 have y6:=zA hD.x 6
 have y7:=zA hD.x 7
 have HD:Hid _:=hD
 clear hV hD
 go_upto_region 8 with fail
 refine zI (fun W'=>BX w1 W' { (⟨8,0,0,0,0,v,0,0⟩:Cd) with d:=(r:Int) }) HD.out ?_
 clear y0 y1 y2 y3 y4 y5 y6 y7 x1 fx lx HD
 intro U hU
 have y0:=zA hU.x 0
 have y1:=zA hU.x 1
 have y2:=zA hU.x 2
 have y3:=zA hU.x 3
 have y4:=zA hU.x 4
 have y5:=zA hU.x 5
 have y6:=zA hU.x 6
 have y7:=zA hU.x 7
 have lx:=zE hU.x
 have HGU:Hid _:=HG1.out.below hU.bel
 have HU:Hid _:=hU
 clear hU
 go_wp2_with (go_at_call 25;refine(zF7 base M Q n _ cap pcap regs f g1 sv1 { (⟨8,0,0,0,0,v,0,0⟩:Cd) with d:=(r:Int) } _ HGU.out (Nat.zero_lt_succ _) (Nat.zero_lt_succ _) HL1.out).mono ?_;rintro e w3 ⟨rfl,⟨sv3,hG3⟩,hK3⟩;have HG3:Hid _:=hG3;have HK3:Hid _:=hK3;have p0:=hG3.mb.cell (i:=3+r*2) (by have:=HR2.out;omega);have p1:=hG3.mb.cell (i:=3+r*2+1) (by have:=HR2.out;omega);have p2:=hG3.mb.cell (i:=35+r) (by have:=HR2.out;omega);have p3:=hG3.mb.frozen (3+r*2);have p4:=hG3.mb.frozen (3+r*2+1);have p5:=hG3.mb.frozen (35+r);have p6:=hG3.mb.lt;clear hG3 hK3)
 go_ret
 refine⟨rfl,⟨sv3,(HG3.out.setReg r v true HR2.out).setM (35+r) (.bool true) _ (zKb _ _ _ _ _ r true HR2.out) rfl rfl⟩,?_⟩
 exact(((HK1.out.trans ((Kx.of_below HU.out.bel HG1.out.bw).trans HK3.out)).setIn (.inl rfl) HG3.out.bM _ _).setIn (.inl rfl) HG3.out.bM _ _).setIn (.inl rfl) HG3.out.bM _ _
theorem zMQ(base M Q n:Nat)(bp:Option Addr)(cap pcap regs:Nat)(f:Nat→zL)(g:G)(sv:Value)(v:Nat)(w:World)(hG:GW w base M Q n bp cap pcap regs f g sv)(h0:0 < regs)(hr:regs≤16)(hv:∀ r,r < 16→g.hv r < n)(hvn:v < n)(hn:n≤2048)(hl:g.l.length≤99990)(hF:uY g v regs 0=none)(hz:(g.P v).lazy=true)(ok:zDt (f v))(hk:(f v).k < 4294967296) :
  Calls Try.prog 51 #[.pointer (some ⟨M,0,none⟩),.int .i64 v] w fun e w'=>e=.returned (.int .i64 (yA g regs))∧(∃ sv',GW w' base M Q n bp cap pcap regs f (zGV (zC7 (zBw (yO g regs) (zAy f (yO g regs) v (yA g regs))) (yA g regs) v true) (yA g regs)) sv')∧Kx base M Q w w':=by
 have hrl:=zAC g regs h0
 obtain⟨r,HRN⟩:∃ r,Hid (yA g regs=r):=⟨_,rfl⟩
 obtain⟨g1,HG1N⟩:∃ g1,Hid (yO g regs=g1):=⟨_,rfl⟩
 rw[HRN.out] at hrl
 obtain⟨e1,e2,e3,e4,e5⟩:=vK g regs
 rw[HG1N.out] at e1 e2 e3 e4 e5
 have HL1:Hid (g1.l.length≤100000):=show _≤_ by omega
 have HLZ:Hid ((g1.P v).lazy=true):=show _=_ by rw[e4];exact hz
 have HX:Hid (zAy f g1 v r={ (yF (f v)) with d:=(r:Int) }):=show _=_ by unfold zAy;rw[HLZ.out];rfl
 have HG:Hid _:=hG
 have HF:Hid _:=hF
 have HR:Hid (regs≤16):=hr
 have HR0:Hid (0 < regs):=h0
 have HV:Hid _:=hv
 have HNN:Hid (n≤2048):=hn
 have HL:Hid (g.l.length≤100000):=show _≤_ by omega
 have HR2:Hid (r < 16):=show r < 16 by omega
 have HVN:Hid (v < n):=hvn
 have r0:(0:Int)≤(r:Int):=aO
 have r1:(r:Int) < 16:=aO
 have v0:(0:Int)≤(v:Int):=aO
 have v1:(v:Int) < (n:Int):=aO
 have HOK:Hid _:=ok
 have HXK:Hid (({ yF (f v) with d:=(r:Int) }:Cd).k < 4294967296):=hk
 have HXX:Hid (({ yF (f v) with d:=(r:Int) }:Cd).x < 4294967296):=show(if(f v).kind=14 then((f v).b%4294967296).toNat else 0) < 4294967296 by split<;>omega
 clear ok hk
 clear hG hF hr h0 hv hn hl hrl hvn e1 e2 e3 e4 e5 hz
 rw[HRN.out,HG1N.out,HX.out]
 go_enter Try.func51,Try.ntmps51
 go_upto_region 5 with (first
  | (go_at_call 73;refine(zEk base M Q n bp cap pcap regs f g sv v _ HG.out HR.out).mono ?_;rintro e w1 ⟨rfl,rfl⟩;rw[HF.out];simp only[Option.getD_none,Option.isSome_none])
  | (go_at_call 74;refine(zEy base M Q n bp cap pcap regs f g sv _ HG.out HR0.out HR.out HV.out HNN.out HL.out).mono ?_;rintro e w1 ⟨rfl,⟨sv1,hG1⟩,hK1⟩;rw[HRN.out];rw[HG1N.out] at hG1;have HG1:Hid _:=hG1;have HK1:Hid _:=hK1;clear hG1 hK1))
 refine zI (fun W'=>BX w1 W' ⟨8,0,0,0,0,v,0,0⟩) (zGi w1 ⟨8,0,0,0,0,v,0,0⟩) ?_
 intro W hW
 have hGW:=HG1.out.below hW.bel
 have m3:W.cell? ⟨M,1,none⟩=some (.slice (some ⟨Q,0,none⟩) n pcap):=hGW.mb.cell (i:=1) aO
 have m2:W.cell? ⟨M,0,none⟩=some (.slice bp n cap):=hGW.mb.cell (i:=0) aO
 have m4:=hGW.pl.cell (i:=v*8+7) (by have:=HVN.out;omega)
 rw[vO _ _ _ aO] at m4
 have m4':W.cell? ⟨Q,v*8+7,none⟩=some (.bool true):=m4.trans (by show some (Value.bool (g1.P v).lazy)=_;rw[HLZ.out])
 have lM:=hGW.mb.lt
 have lQ:=hGW.pl.lt
 have x0:=zA hW.x 0
 have x1:=zA hW.x 1
 have x2:=zA hW.x 2
 have x3:=zA hW.x 3
 have x4:=zA hW.x 4
 have x5:=zA hW.x 5
 have x6:=zA hW.x 6
 have x7:=zA hW.x 7
 have fx:=zD hW.x
 have lx:=zE hW.x
 have HW:Hid _:=hW
 clear m4 hW
 obtain⟨b,off,rfl,hb,hc⟩:=hGW.ops (by have:=HVN.out;omega)
 have HOA:Hid (zAm W b (off+v*7) (f v)):=hc v HVN.out
 have HLB:Hid (b < W.heap.size):=hb
 clear hGW hc
 go_upto_region 7 with (go_at_call 50;refine(zCg b (off+v*7) (f v) _ HOA.out HLB.out HOK.out).mono ?_;rintro e w2 ⟨rfl,hb2⟩;have hx2:=HW.out.next hb2;have HX2:Hid _:=hx2;have q0:=zA hx2.x 0;have q1:=zA hx2.x 1;have q2:=zA hx2.x 2;have q3:=zA hx2.x 3;have q4:=zA hx2.x 4;have q5:=zA hx2.x 5;have q6:=zA hx2.x 6;have q7:=zA hx2.x 7;have qf:=zD hx2.x;have ql:=zE hx2.x;clear hx2 hb2)
 refine zI (fun W'=>BX w1 W' (yF (f v))) (HX2.out.put8 (yF (f v))) ?_
 clear m3 m2 m4' lM lQ x0 x1 x2 x3 x4 x5 x6 x7 fx lx HW
 intro V hV
 have x1:=zA hV.x 1
 have fx:=zD hV.x
 have lx:=zE hV.x
 have hD:=hV.setD (r:Int)
 have y0:=zA hD.x 0
 have y1:=zA hD.x 1
 have y2:=zA hD.x 2
 have y3:=zA hD.x 3
 have y4:=zA hD.x 4
 have y5:=zA hD.x 5
 have y6:=zA hD.x 6
 have y7:=zA hD.x 7
 have HD:Hid _:=hD
 clear hV hD
 go_upto_region 8 with fail
 refine zI (fun W'=>BX w1 W' { (yF (f v)) with d:=(r:Int) }) HD.out ?_
 clear y0 y1 y2 y3 y4 y5 y6 y7 x1 fx lx HD
 intro U hU
 have y0:=zA hU.x 0
 have y1:=zA hU.x 1
 have y2:=zA hU.x 2
 have y3:=zA hU.x 3
 have y4:=zA hU.x 4
 have y5:=zA hU.x 5
 have y6:=zA hU.x 6
 have y7:=zA hU.x 7
 have lx:=zE hU.x
 have HGU:Hid _:=HG1.out.below hU.bel
 have HU:Hid _:=hU
 clear hU
 go_wp2_with (go_at_call 25;refine(zF7 base M Q n _ cap pcap regs f g1 sv1 { (yF (f v)) with d:=(r:Int) } _ HGU.out HXK.out HXX.out HL1.out).mono ?_;rintro e w3 ⟨rfl,⟨sv3,hG3⟩,hK3⟩;have HG3:Hid _:=hG3;have HK3:Hid _:=hK3;have p0:=hG3.mb.cell (i:=3+r*2) (by have:=HR2.out;omega);have p1:=hG3.mb.cell (i:=3+r*2+1) (by have:=HR2.out;omega);have p2:=hG3.mb.cell (i:=35+r) (by have:=HR2.out;omega);have p3:=hG3.mb.frozen (3+r*2);have p4:=hG3.mb.frozen (3+r*2+1);have p5:=hG3.mb.frozen (35+r);have p6:=hG3.mb.lt;clear hG3 hK3)
 go_ret
 refine⟨rfl,⟨sv3,(HG3.out.setReg r v true HR2.out).setM (35+r) (.bool true) _ (zKb _ _ _ _ _ r true HR2.out) rfl rfl⟩,?_⟩
 exact(((HK1.out.trans ((Kx.of_below HU.out.bel HG1.out.bw).trans HK3.out)).setIn (.inl rfl) HG3.out.bM _ _).setIn (.inl rfl) HG3.out.bM _ _).setIn (.inl rfl) HG3.out.bM _ _
theorem zDy(base M Q n:Nat)(bp:Option Addr)(cap pcap regs:Nat)(f:Nat→zL)(g:G)(sv:Value)(v:Nat)(w:World)(hG:GW w base M Q n bp cap pcap regs f g sv)(h0:0 < regs)(hr:regs≤16)(hv:∀ r,r < 16→g.hv r < n)(hvn:v < n)(hn:n≤2048)(hl:g.l.length≤99990)(ok:zDt (f v))(hk:(f v).k < 4294967296) :
  Calls Try.prog 51 #[.pointer (some ⟨M,0,none⟩),.int .i64 v] w fun e w'=>e=.returned (.int .i64 (zAg g regs v))∧(∃ sv',GW w' base M Q n bp cap pcap regs f (yG f g regs v) sv')∧Kx base M Q w w':=by
 unfold zAg yG
 cases hF:uY g v regs 0 with
 | some r=>exact zIM base M Q n bp cap pcap regs f g sv v r w hG hr hF
 | none=>
  cases hz:(g.P v).lazy with
  | false=>exact zMO base M Q n bp cap pcap regs f g sv v w hG h0 hr hv hvn hn hl hF hz
  | true=>exact zMQ base M Q n bp cap pcap regs f g sv v w hG h0 hr hv hvn hn hl hF hz ok hk
end Go.Proofs.Ytkmjenjahbicpaa.Ho
