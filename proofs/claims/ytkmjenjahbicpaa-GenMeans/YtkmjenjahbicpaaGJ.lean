import Derived.Test.YtkmjenjahbicpaaGI
set_option linter.unusedVariables false
set_option linter.unusedSimpArgs false
set_option maxHeartbeats 4000000
namespace Go.Proofs.Ytkmjenjahbicpaa.Ho
open Go.RowKit
set_option maxRecDepth 100000
def zBq(p q:PL):Prop:=p.takes=q.takes∧p.gives=q.gives∧p.lazy=q.lazy∧p.a0=q.a0∧p.a1=q.a1∧p.a2=q.a2∧p.last=q.last
theorem zBq.refl(p:PL):zBq p p:=⟨rfl,rfl,rfl,rfl,rfl,rfl,rfl⟩
theorem zBq.trans{p q r:PL}(h:zBq p q)(k:zBq q r):zBq p r:=⟨h.1.trans k.1,h.2.1.trans k.2.1,h.2.2.1.trans k.2.2.1,h.2.2.2.1.trans k.2.2.2.1,h.2.2.2.2.1.trans k.2.2.2.2.1,h.2.2.2.2.2.1.trans k.2.2.2.2.2.1,h.2.2.2.2.2.2.trans k.2.2.2.2.2.2⟩
theorem zDh(f:Nat→zL)(g:G)(regs v:Nat):(yG f g regs v).P=g.P:=by
 unfold yG
 split
 ·rfl
 ·exact(vK g regs).2.2.2.1
theorem zDD(g:G)(v x q:Nat):zBq ((zAF g v x).P q) (g.P q):=by
 show zBq (upd g.P v _ q) (g.P q)
 unfold upd
 split
 ·rename_i h;subst h;exact⟨rfl,rfl,rfl,rfl,rfl,rfl,rfl⟩
 ·exact zBq.refl _
theorem zCW(f:Nat→zL)(regs i:Nat)(g:G)(q:Nat):∀ j,zBq ((vV f regs i g j).P q) (g.P q)
 | 0=>zBq.refl _
 | j+1=>by
  refine(zDD _ _ _ q).trans ?_
  rw[zDh]
  exact zCW f regs i g q j
theorem zEe(g:G):(zAo g).P=g.P:=rfl
theorem zKB(base M Q n:Nat)(bp:Option Addr)(cap pcap regs:Nat)(f:Nat→zL)(g:G)(sv:Value)(i:Nat)(w:World)(hG:GW w base M Q n bp cap pcap regs f g sv)(hI:zJ7 n i f g regs (g.P i).takes)(h10:(f i).kind=10→(g.P i).gives=false) :
  Calls Try.prog 26 #[.pointer (some ⟨M,0,none⟩),.int .i64 i] w fun e w'=>e=.returned (.tuple #[])∧(∃ sv',GW w' base M Q n bp cap pcap regs f (opG f regs g i) sv')∧Kx base M Q w w':=by
 have hgg:((zAo (vV f regs i g (g.P i).takes)).P i).gives=(g.P i).gives:=(zCW f regs i g i (g.P i).takes).2.1
 unfold opG
 cases hz:(g.P i).lazy with
 | true=>rw[if_pos rfl];exact zN7 base M Q n bp cap pcap regs f g sv i w hG hI.hi hI.hn hz
 | false=>
  rw[if_neg aD]
  by_cases hk:(f i).kind=10
  ·exact zSp base M Q n bp cap pcap regs f g sv i _ w hG hI hz hk (hgg.trans (h10 hk))
  ·cases hv:(g.P i).gives with
   | true=>exact zSn base M Q n bp cap pcap regs f g sv i _ w hG hI hz hk (hgg.trans hv)
   | false=>exact zSo base M Q n bp cap pcap regs f g sv i _ w hG hI hz hk (hgg.trans hv)
abbrev p12(puts:Nat→Nat):Array Value:=#[.int .i64 (puts 0),.int .i64 (puts 1),.int .i64 (puts 2),.int .i64 (puts 3),.int .i64 (puts 4),.int .i64 (puts 5),.int .i64 (puts 6),.int .i64 (puts 7),.int .i64 (puts 8),.int .i64 (puts 9),.int .i64 (puts 10),.int .i64 (puts 11)]
theorem zKF(puts:Nat→Nat)(j:Nat)(h:j < 12):(p12 puts)[j]?=some (.int .i64 (puts j)):=by
 match j,h with
 | 0,_|1,_|2,_|3,_|4,_|5,_|6,_|7,_|8,_|9,_|10,_|11,_=>rfl
def stB(o:zL)(last:Nat)(puts:Nat→Nat):Bool:=if o.kind=1 then true else if o.kind=2 then(puts o.w.toNat==0) || decide (last≤puts o.w.toNat) else false
theorem zER(b off:Nat)(o:zL)(last:Nat)(puts:Nat→Nat)(w:World)(h:zAm w b off o)(hb:b < w.heap.size)(h2:o.kind=2→0≤o.w∧o.w < 12) :
  Calls Try.prog 46 #[.pointer (some ⟨b,off,none⟩),.int .i64 last,.agg (p12 puts)] w fun e w'=>e=.returned (.bool (stB o last puts))∧Below w.heap.size w w':=by
 have hal:(w.alloc (.cells (p12 puts) 113)).heap[w.heap.size]?=some (.cells (p12 puts) 113):=heap_alloc_last _ _
 have HB:Hid (Below w.heap.size w (w.alloc (.cells (p12 puts) 113))):=(Below.refl w.heap.size w).alloc aL _
 obtain⟨z0,z1,z2,z3,z4,z5,z6⟩:=h
 have lb':=Nat.lt_succ_of_lt hb
 have ne:b≠w.heap.size:=aO
 by_cases k1:o.kind=1
 ·have HS:Hid (stB o last puts=true):=show stB o last puts=true by unfold stB;rw[if_pos k1]
  rw[k1] at z0
  rw[HS.out]
  clear hal
  go_enter Try.func46,Try.ntmps46
  go_wp2
  go_ret
  exact⟨rfl,HB.out⟩
 have d1:(o.kind==1)=false:=by simpa using k1
 by_cases k2:o.kind=2
 ·obtain⟨h0,h12⟩:=h2 k2
  obtain⟨q,hq⟩:∃ q:Nat,o.w=q:=⟨o.w.toNat,by omega⟩
  rw[hq] at z1
  have q0:(0:Int)≤(q:Int):=aO
  have q1:(q:Int) < 12:=aO
  have hcell:(w.alloc (.cells (p12 puts) 113)).cell? ⟨w.heap.size,q,none⟩=some (.int .i64 (puts q)):=by rw[zA hal,zKF puts q aO]
  have HS:Hid (stB o last puts=((puts q==0) || decide (last≤puts q))):=show stB o last puts=_ by unfold stB;rw[if_neg k1,if_pos k2,hq];rfl
  rw[k2] at z0
  obtain⟨x,HX⟩:∃ x,Hid (puts q=x):=⟨_,rfl⟩
  rw[HX.out] at hcell
  clear hal k1 k2 d1 hq h0 h12 h2
  by_cases hx:x=0
  ·subst hx
   go_enter Try.func46,Try.ntmps46
   go_wp2
   go_ret
   exact⟨by rw[HS.out,HX.out];rfl,HB.out⟩
  ·have dx:((x:Int)==0)=false:=by simp;omega
   have HXX:Hid (¬x=0):=hx
   go_enter Try.func46,Try.ntmps46
   go_wp2
   go_ret
   exact⟨by
     rw[HS.out,HX.out];have:(x==0)=false:=by simpa using HXX.out
     rw[this];simp,HB.out⟩
 have d2:(o.kind==2)=false:=by simpa using k2
 have HS:Hid (stB o last puts=false):=show stB o last puts=false by unfold stB;rw[if_neg k1,if_neg k2]
 rw[HS.out]
 clear hal k1 k2
 go_enter Try.func46,Try.ntmps46
 go_wp2
 go_ret
 exact⟨rfl,HB.out⟩
def zA1(p:PL)(j x:Nat):PL:=if j=0 then { p with a0:=x } else if j=1 then { p with a1:=x } else { p with a2:=x }
def zAx(P:Nat→PL)(i:Nat)(o:zL):Nat→Nat→PL
 | 0=>P
 | j+1=>upd (zAx P i o j) i (zA1 (zAx P i o j i) j (zAx P i o j (zX o j)).next)
def asked(p:PL)(i:Nat):PL:={ p with next:=i,last:=if p.last=0 then i else p.last }
def zBu(P:Nat→PL)(i:Nat)(o:zL):Nat→Nat→PL
 | 0=>P
 | j+1=>upd (zBu P i o j) (zX o j) (asked (zBu P i o j (zX o j)) i)
def zCS(P:Nat→PL)(i:Nat)(o:zL)(t:Nat):Nat→PL:=zBu (zAx P i o t) i o t
theorem zCd{α:Type}(f:Nat→α)(i:Nat)(a b:α):upd (upd f i a) i b=upd f i b:=by
 funext j;unfold upd;split<;>rfl
theorem yK{α:Type}(f:Nat→α)(i:Nat)(a:α):upd f i a i=a:=by simp[upd]
theorem zDr(p:PL)(j x:Nat):(zA1 p j x).takes=p.takes∧(zA1 p j x).gives=p.gives∧(zA1 p j x).lazy=p.lazy∧(zA1 p j x).next=p.next∧(zA1 p j x).last=p.last:=by
 unfold zA1
 split
 ·exact⟨rfl,rfl,rfl,rfl,rfl⟩
 ·split<;>exact⟨rfl,rfl,rfl,rfl,rfl⟩
theorem zCe(P:Nat→PL)(i:Nat)(o:zL)(q:Nat):∀ j,(zAx P i o j q).takes=(P q).takes∧(zAx P i o j q).gives=(P q).gives∧(zAx P i o j q).lazy=(P q).lazy
 | 0=>⟨rfl,rfl,rfl⟩
 | j+1=>by
  have ih:=zCe P i o q j
  show(upd (zAx P i o j) i _ q).takes=_∧(upd (zAx P i o j) i _ q).gives=_∧(upd (zAx P i o j) i _ q).lazy=_
  unfold upd
  split
  ·rename_i h;subst h
   obtain⟨a,b,c,-⟩:=zDr (zAx P q o j q) j (zAx P q o j (zX o j)).next
   exact⟨a.trans ih.1,b.trans ih.2.1,c.trans ih.2.2⟩
  ·exact ih
theorem zEF(P:Nat→PL)(i:Nat)(o:zL)(q:Nat):∀ j,(zBu P i o j q).takes=(P q).takes∧(zBu P i o j q).gives=(P q).gives∧(zBu P i o j q).lazy=(P q).lazy
 | 0=>⟨rfl,rfl,rfl⟩
 | j+1=>by
  have ih:=zEF P i o q j
  show(upd (zBu P i o j) (zX o j) _ q).takes=_∧(upd (zBu P i o j) (zX o j) _ q).gives=_∧(upd (zBu P i o j) (zX o j) _ q).lazy=_
  unfold upd
  split
  ·rename_i h;subst h;exact ih
  ·exact ih
structure AW(w W:World)(Q n:Nat)(P:Nat→PL)(BL:Nat)(o:zL):Prop where
 pl:W.rowIs Q 118 (n*8) (plF P)
 ls:W.rowIs BL 116 3 (fun q=>.int .i64 (zAn o q))
 ch:zJ [Q] w W
 nl:w.heap.size≤BL
theorem AW.ne{w W:World}{Q n:Nat}{P:Nat→PL}{BL:Nat}{o:zL}(h:AW w W Q n P BL o):BL≠Q:=fun e=>by
 obtain⟨c,hc,-⟩:=h.pl
 obtain⟨d,hd,-⟩:=h.ls
 rw[e] at hd
 exact absurd (zBM hc hd) aD
theorem AW.setP{w W:World}{Q n:Nat}{P:Nat→PL}{BL:Nat}{o:zL}(h:AW w W Q n P BL o)(i r:Nat)(v:Value)(p:PL)(hr:r < 8)(h1:plC p r=v)(h2:∀ q,q < 8→q≠r→plC p q=plC (P i) q):AW w (W.setCell ⟨Q,i*8+r,none⟩ v) Q n (upd P i p) BL o:=
 ⟨zG8 P i r v p hr h1 h2▸h.pl.set (i*8+r) v,h.ls.setOther (fun e=>h.ne e) v,h.ch.set aS _ _,h.nl⟩
theorem AW.drw{w W:World}{Q n:Nat}{P:Nat→PL}{BL:Nat}{o:zL}(h:AW w W Q n P BL o):AW w W.drew Q n P BL o:=⟨h.pl.drew,h.ls.drew,h.ch.drew,h.nl⟩
theorem zKR{w:World}{Q n:Nat}{P:Nat→PL}(o:zL)(h:w.rowIs Q 118 (n*8) (plF P)):AW w (w.alloc (.cells #[.int .i64 o.a,.int .i64 o.b,.int .i64 o.c] 116)) Q n P w.heap.size o:=
 ⟨h.alloc _,⟨_,heap_alloc_last _ _,rfl,fun i hi=>by
  match i,hi with
  | 0,_|1,_|2,_=>rfl⟩,(zJ.refl _ _).alloc _,Nat.le_refl _⟩
theorem zIm(p:PL)(j x:Nat)(hj:j < 3):plC (zA1 p j x) (1+j)=.int .i64 x∧∀ q,q < 8→q≠1+j→plC (zA1 p j x) q=plC p q:=by
 match j,hj with
 | 0,_=>exact⟨rfl,fun q hq hne=>by
   match q,hq,hne with
   | 0,_,_|2,_,_|3,_,_|4,_,_|5,_,_|6,_,_|7,_,_=>rfl
   | 1,_,h=>exact absurd rfl h⟩
 | 1,_=>exact⟨rfl,fun q hq hne=>by
   match q,hq,hne with
   | 0,_,_|1,_,_|3,_,_|4,_,_|5,_,_|6,_,_|7,_,_=>rfl
   | 2,_,h=>exact absurd rfl h⟩
 | 2,_=>exact⟨rfl,fun q hq hne=>by
   match q,hq,hne with
   | 0,_,_|1,_,_|2,_,_|4,_,_|5,_,_|6,_,_|7,_,_=>rfl
   | 3,_,h=>exact absurd rfl h⟩
theorem zDX(Q n pcap i t:Nat)(P:Nat→PL)(o:zL)(w:World)(hP:w.rowIs Q 118 (n*8) (plF P))(hi:i < n)(ht:(P i).takes=t)(h3:t≤3)(hn:n≤2048)(tk:∀ j,j < t→zAn o j=((zX o j:Nat):Int)∧zX o j < n) :
  Calls Try.prog 47 #[.slice (some ⟨Q,0,none⟩) n pcap,.int .i64 i,.agg #[.int .i64 o.a,.int .i64 o.b,.int .i64 o.c]] w fun e w'=>e=.returned (.tuple #[])∧w'.rowIs Q 118 (n*8) (plF (zCS P i o t))∧zJ [Q] w w':=by
 have lQ:=hP.lt
 have i0:(0:Int)≤(i:Int):=aO
 have i1:(i:Int) < (n:Int):=aO
 have t0:(0:Int)≤(t:Int):=aO
 have t3:(t:Int)≤3:=aO
 have HT3:Hid (t≤3):=h3
 have HTK:Hid _:=tk
 have HIN:Hid (i < n):=hi
 have HT:Hid _:=ht
 have HA0:Hid _:=zKR o hP
 clear hP hi ht h3 hn tk
 go_enter Try.func47,Try.ntmps47
 go_upto_region 2 with fail
 obtain⟨BL,hBL⟩:∃ BL,w.heap.size=BL:=⟨_,rfl⟩
 have HA1:Hid _:=HA0.out
 rw[hBL] at HA1
 refine zI (fun W'=>AW w W' Q n P BL o) HA1.out ?_
 rw[hBL]
 clear hBL HA0 HA1 lQ
 intro W hW
 have q0:=hW.pl.cell (i:=i*8+0) zq22
 rw[vO _ _ _ aO] at q0
 have q0':W.cell? ⟨Q,i*8,none⟩=some (.int .i64 t):=q0.trans (by show some (Value.int .i64 ((P i).takes:Nat))=_;rw[HT.out])
 have lQW:=hW.pl.lt
 have lLW:=hW.ls.lt
 have HW:Hid _:=hW
 clear hW q0
 go_upto_region 3 with fail
 go_loopw [20] (fun jv wr=>∃ j:Nat,jv=.int .i64 j∧j≤t∧AW w wr Q n (zAx P i o j) BL o) (fun jv _=>t - (intOf jv).toNat)
 case atStart=>exact⟨0,rfl,by omega,HW.out⟩
 case round=>
  obtain⟨j,rfl,hj,hr⟩:=hrel
  have HR:Hid _:=hr
  clear HW q0' lQW lLW
  have lQW:=hr.pl.lt
  have lLW:=hr.ls.lt
  by_cases hlt:j < t
  ·have HLT:Hid (j < t):=hlt
   have jt:(j:Int) < (t:Int):=aO
   have j0:(0:Int)≤(j:Int):=aO
   have j3:(j:Int) < 3:=aO
   have HJ3:Hid (j < 3):=show j < 3 by have:=HT3.out;omega
   have dj:decide ((j:Int) < (t:Int))=true:=decide_eq_true jt
   obtain⟨v,HVV⟩:∃ v,Hid (zX o j=v):=⟨_,rfl⟩
   have hav:=(HTK.out j hlt).1
   have hvn:=(HTK.out j hlt).2
   rw[HVV.out] at hav hvn
   have c0:=hr.ls.cell (i:=j) HJ3.out
   rw[hav] at c0
   have v0:(0:Int)≤(v:Int):=aO
   have v1:(v:Int) < (n:Int):=aO
   obtain⟨Pj,HPJ⟩:∃ Pj,Hid (zAx P i o j=Pj):=⟨_,rfl⟩
   have HN1:Hid (zAx P i o (j+1)=upd Pj i (zA1 (Pj i) j (Pj v).next)):=show zAx P i o (j+1)=_ by
    show upd (zAx P i o j) i (zA1 (zAx P i o j i) j (zAx P i o j (zX o j)).next)=_
    rw[HPJ.out,HVV.out]
   rw[HPJ.out] at hr
   have HR':Hid _:=hr
   obtain⟨x,HX⟩:∃ x,Hid ((Pj v).next=x):=⟨_,rfl⟩
   have u2:=hr.pl.cell (i:=v*8+5) aO
   rw[vO _ _ _ aO] at u2
   have u2':wr.cell? ⟨Q,v*8+5,none⟩=some (.int .i64 x):=u2.trans (by show some (Value.int .i64 ((Pj v).next:Nat))=_;rw[HX.out])
   have u3:=hr.pl.cell (i:=i*8+(1+j)) (by have:=HIN.out;have:=HJ3.out;omega)
   have u3':=u3
   rw[← Nat.add_assoc] at u3'
   have u4:=hr.pl.frozen (i*8+1+j)
   clear hr hlt hav hvn HR u2 u3
   go_upto_region 5 with fail
   go_region
   all_goals go_wp2
   all_goals go_roundw
   case rel=>exact⟨j+1,by go_num,HLT.out,by
    rw[HN1.out,HX.out]
    have h:=HR'.out.setP i (1+j) (.int .i64 x) (zA1 (Pj i) j x) (by have:=HJ3.out;omega) (zIm _ _ _ HJ3.out).1 (zIm _ _ _ HJ3.out).2
    rw[← Nat.add_assoc] at h
    exact h.drw⟩
   case measure=>have:=HLT.out;simp[intOf];omega
  ·obtain rfl:j=t:=aO
   have dj:decide ((j:Int) < (j:Int))=false:=aF
   have q0:=hr.pl.cell (i:=i*8+0) zq22
   rw[vO _ _ _ aO] at q0
   have q0':wr.cell? ⟨Q,i*8,none⟩=some (.int .i64 j):=q0.trans (by show some (Value.int .i64 ((zAx P i o j i).takes:Nat))=_;rw[(zCe P i o i j).1,HT.out])
   obtain⟨P1,HP1⟩:∃ P1,Hid (zAx P i o j=P1):=⟨_,rfl⟩
   have hr1:=hr
   rw[HP1.out] at hr1
   have HR1:Hid _:=hr1
   have HE:Hid (zCS P i o j=zBu P1 i o j):=show zCS P i o j=_ by unfold zCS;rw[HP1.out]
   clear hr hr1 hlt q0 HR
   go_upto_region 8 with fail
   go_loopw [42] (fun kv ws=>∃ k:Nat,kv=.int .i64 k∧k≤j∧AW w ws Q n (zBu P1 i o k) BL o) (fun kv _=>j - (intOf kv).toNat)
   case atStart=>exact⟨0,rfl,by omega,HR1.out⟩
   case round=>
    obtain⟨k,rfl,hk,hs⟩:=hrel
    clear HR1 q0' lQW lLW
    have lQW:=hs.pl.lt
    have lLW:=hs.ls.lt
    by_cases hlt:k < j
    ·have HLT:Hid (k < j):=hlt
     have kt:(k:Int) < (j:Int):=aO
     have k0:(0:Int)≤(k:Int):=aO
     have k3:(k:Int) < 3:=aO
     have HK3:Hid (k < 3):=show k < 3 by have:=HT3.out;omega
     have dk:decide ((k:Int) < (j:Int))=true:=decide_eq_true kt
     obtain⟨v,HVV⟩:∃ v,Hid (zX o k=v):=⟨_,rfl⟩
     have hav:=(HTK.out k hlt).1
     have hvn:=(HTK.out k hlt).2
     rw[HVV.out] at hav hvn
     have c0:=hs.ls.cell (i:=k) HK3.out
     rw[hav] at c0
     have v0:(0:Int)≤(v:Int):=aO
     have v1:(v:Int) < (n:Int):=aO
     obtain⟨Pk,HPK⟩:∃ Pk,Hid (zBu P1 i o k=Pk):=⟨_,rfl⟩
     have HN1:Hid (zBu P1 i o (k+1)=upd Pk v (asked (Pk v) i)):=show zBu P1 i o (k+1)=_ by
      show upd (zBu P1 i o k) (zX o k) (asked (zBu P1 i o k (zX o k)) i)=_
      rw[HPK.out,HVV.out]
     rw[HPK.out] at hs
     have u2:=hs.pl.cell (i:=v*8+5) aO
     have u3:=hs.pl.frozen (v*8+5)
     have h2:=hs.setP v 5 (.int .i64 i) { Pk v with next:=i } aO rfl (fun q hq hne=>by
      match q,hq,hne with
      | 0,_,_|1,_,_|2,_,_|3,_,_|4,_,_|6,_,_|7,_,_=>rfl
      | 5,_,h=>exact absurd rfl h)
     have H2:Hid _:=h2
     have u4:=h2.pl.cell (i:=v*8+6) aO
     rw[vO _ _ _ aO,yK] at u4
     obtain⟨y,HY⟩:∃ y,Hid ((Pk v).last=y):=⟨_,rfl⟩
     have u4':=u4.trans (show some (plC { Pk v with next:=i } 6)=some (.int .i64 (y:Nat)) by show some (Value.int .i64 ((Pk v).last:Nat))=_;rw[HY.out])
     have u5:=h2.pl.frozen (v*8+6)
     clear hs hlt hav hvn u4 h2
     by_cases hy:y=0
     ·subst hy
      have HN2:Hid (asked (Pk v) i={ Pk v with next:=i,last:=i }):=show asked (Pk v) i=_ by unfold asked;rw[if_pos HY.out]
      go_wp2
      go_roundw
      case rel=>exact⟨k+1,by go_num,HLT.out,by
       rw[HN1.out,HN2.out]
       have h:=H2.out.setP v 6 (.int .i64 i) { Pk v with next:=i,last:=i } aO rfl (fun q hq hne=>by
        rw[yK]
        match q,hq,hne with
        | 0,_,_|1,_,_|2,_,_|3,_,_|4,_,_|5,_,_|7,_,_=>rfl
        | 6,_,h=>exact absurd rfl h)
       rw[zCd] at h
       exact h⟩
      case measure=>have:=HLT.out;simp[intOf];omega
     ·have dy:((y:Int)==0)=false:=by simp;omega
      have HN2:Hid (asked (Pk v) i={ Pk v with next:=i }):=show asked (Pk v) i=_ by unfold asked;rw[if_neg (by rw[HY.out];exact hy)]
      go_wp2
      all_goals first|(exfalso;omega)|skip
      go_roundw
      case rel=>exact⟨k+1,by go_num,HLT.out,by rw[HN1.out,HN2.out];exact H2.out⟩
      case measure=>have:=HLT.out;simp[intOf];omega
    ·obtain rfl:k=j:=aO
     have dk:decide ((k:Int) < (k:Int))=false:=aF
     have HS:Hid _:=hs
     clear hs
     go_wp2
     go_end0
     exact⟨rfl,by rw[HE.out];exact HS.out.pl,HS.out.ch⟩
end Go.Proofs.Ytkmjenjahbicpaa.Ho
