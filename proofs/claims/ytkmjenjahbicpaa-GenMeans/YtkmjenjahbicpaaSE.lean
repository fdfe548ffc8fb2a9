import Derived.Test.YtkmjenjahbicpaaGQ
set_option linter.unusedVariables false
set_option linter.unusedSimpArgs false
set_option maxHeartbeats 1000000
namespace Go.Proofs.Ytkmjenjahbicpaa.Ho
open Go.RowKit
set_option maxRecDepth 100000
theorem zHi(f:Nat→zL)(g:G)(regs q r:Nat)(hr:r≠yA g regs){q':Nat}(h1:g.hf r=true)(h2:g.hv r=q'):(yG f g regs q).hf r=true∧(yG f g regs q).hv r=q':=by
 unfold yG
 split
 ·exact⟨h1,h2⟩
 ·obtain⟨k1,k2,-⟩:=vK g regs
  show upd (yO g regs).hf _ true r=true∧upd (yO g regs).hv _ q r=q'
  unfold upd
  rw[if_neg hr,if_neg hr,k1,k2]
  exact⟨h1,h2⟩
theorem zKK{Mem:Type}(S:Sm Mem)(f:Nat→zL)(regs i T:Nat)(g:G)(v:Nat→Nat)(h:HS Mem)(I:Inv f regs i g v h.R h.Sp h.c)(h3:3≤regs)(hT:T≤3)(hbz:∀ r,g.bz r=false)(hq:∀ t,t < T→zX (f i) t < i∧(g.P (zX (f i) t)).next≠0∧WOk (f (zX (f i) t)))(A:Nat→Nat)(ha:∀ t,t < T→aft (g.P i) t=A (zX (f i) t)) :
  ∀ j,j≤T→∃ h1:HS Mem,uF S (zDw f regs i g j) h=.go h1∧h1.c=h.c∧h1.m=h.m∧Inv f regs i (vV f regs i g j) v h1.R h1.Sp h1.c∧(∀ t,t < j→tkρ f regs i g j t < regs∧h1.R (tkρ f regs i g j t)=some (v (zX (f i) t))∧(vV f regs i g j).bz (tkρ f regs i g j t)=true∧(vV f regs i g j).hf (tkρ f regs i g j t)=true∧(vV f regs i g j).hv (tkρ f regs i g j t)=zX (f i) t)∧(∀ r,(vV f regs i g j).bz r=true→∃ t,t < j∧tkρ f regs i g j t=r)
 | 0,_=>⟨h,rfl,rfl,rfl,I,fun t ht=>absurd ht aO,fun r hr=>by rw[show(vV f regs i g 0).bz r=g.bz r from rfl,hbz r] at hr;cases hr⟩
 | j+1,hj=>by
  obtain⟨h1,e0,ec,em,I1,hρ,hb⟩:=zKK S f regs i T g v h I h3 hT hbz hq A ha j aO
  obtain⟨q1,q2,q3⟩:=hq j aO
  have hx:∃ r,r < regs∧(vV f regs i g j).bz r=false:=by
   have hnot:∀ r,(∀ t,t < j→tkρ f regs i g j t≠r)→(vV f regs i g j).bz r=false:=fun r hr=>by
    cases hbr:(vV f regs i g j).bz r with
    | false=>rfl
    | true=>obtain⟨t,a,b⟩:=hb r hbr;exact absurd b (hr t a)
   rcases(by omega:j=0∨j=1∨j=2) with e|e|e
   ·exact⟨0,by omega,hnot 0 (fun t ht=>by omega)⟩
   ·by_cases e0:tkρ f regs i g j 0=0
    ·exact⟨1,by omega,hnot 1 (fun t ht=>by(obtain rfl:t=0:=aO);rw[e0];decide)⟩
    ·exact⟨0,by omega,hnot 0 (fun t ht=>by(obtain rfl:t=0:=aO);exact e0)⟩
   ·obtain⟨r,hr,n0,n1⟩:∃ r,r < 3∧tkρ f regs i g j 0≠r∧tkρ f regs i g j 1≠r:=by
     by_cases a0:tkρ f regs i g j 0≠0∧tkρ f regs i g j 1≠0
     ·exact⟨0,by omega,a0.1,a0.2⟩
     ·by_cases a1:tkρ f regs i g j 0≠1∧tkρ f regs i g j 1≠1
      ·exact⟨1,by omega,a1.1,a1.2⟩
      ·exact⟨2,by omega,by omega,by omega⟩
    exact⟨r,by omega,hnot r (fun t ht=>by
     rcases(by omega:t=0∨t=1) with rfl|rfl
     ·exact n0
     ·exact n1)⟩
  have key:=zEC f regs i g (zX (f i) j) (fun k=>aft (g.P i) k) (fun _ _=>rfl) (fun _ _=>.inr trivial) j aO
  have hdup:(∃ t,t < j∧zX (f i) t=zX (f i) j)→((vV f regs i g j).P (zX (f i) j)).next=A (zX (f i) j):=fun hd=>by
   obtain⟨t,a,b,c⟩:=zEr (zX (f i)) (zX (f i) j) j hd
   rw[key.2 t a b c,zDg (zCW f regs i g i t) t,ha t aO,b]
  have hn':((vV f regs i g j).P (zX (f i) j)).next≠0∨∃ r,r < regs∧(vV f regs i g j).hf r=true∧(vV f regs i g j).hv r=zX (f i) j:=by
   by_cases hd:∃ t,t < j∧zX (f i) t=zX (f i) j
   ·obtain⟨t,a,b⟩:=hd
    obtain⟨c1,-,-,c4,c5⟩:=hρ t a
    exact .inr ⟨_,c1,c4,by rw[c5,b]⟩
   ·refine .inl ?_
    rw[key.1 (fun t a b=>hd ⟨t,a,b⟩)];exact q2
  obtain⟨h2,f0,fc,fm,I2,fr,fR,fh,fv,fb,fk,fl⟩:=zIN S f regs i (vV f regs i g j) v h1 (zX (f i) j) I1 hx q1 hn' q3
  have hax:aft ((yG f (vV f regs i g j) regs (zX (f i) j)).P i) j=A (zX (f i) j):=by rw[zDh,zDg (zCW f regs i g i j) j,ha j aO]
  refine⟨h2,?_,by rw[fc,ec],by rw[fm,em],?_,fun t ht=>?_,fun r hr=>?_⟩
  ·show uF S (zDw f regs i g j++_) h=_
   rw[zCb S _ _ h h1 e0];exact f0
  ·show Inv f regs i (zAF (yG f (vV f regs i g j) regs (zX (f i) j)) (zX (f i) j) (aft ((yG f (vV f regs i g j) regs (zX (f i) j)).P i) j)) v h2.R h2.Sp h2.c
   refine zLZ I2 _ _ (fun hxx=>?_) (fun r a b c=>?_)
   ·rw[hax] at hxx
    rw[zDh]
    by_cases hd:∃ t,t < j∧zX (f i) t=zX (f i) j
    ·rw[hdup hd];exact hxx
    ·rw[key.1 (fun t a b=>hd ⟨t,a,b⟩)];exact q2
   ·have:=I2.uq r _ a fr b fh (by rw[c,fv])
    rw[this];exact fb
  ·show upd (tkρ f regs i g j) j _ t < regs∧h2.R (upd (tkρ f regs i g j) j _ t)=_∧(yG f (vV f regs i g j) regs (zX (f i) j)).bz (upd (tkρ f regs i g j) j _ t)=true∧(yG f (vV f regs i g j) regs (zX (f i) j)).hf (upd (tkρ f regs i g j) j _ t)=true∧(yG f (vV f regs i g j) regs (zX (f i) j)).hv (upd (tkρ f regs i g j) j _ t)=_
   unfold upd
   by_cases e:t=j
   ·rw[if_pos e,e];exact⟨fr,fR,fb,fh,fv⟩
   ·rw[if_neg e]
    obtain⟨c1,c2,c3,c4,c5⟩:=hρ t aO
    obtain⟨d1,d2⟩:=fk _ c3
    have hkeep:(yG f (vV f regs i g j) regs (zX (f i) j)).hf (tkρ f regs i g j t)=true∧(yG f (vV f regs i g j) regs (zX (f i) j)).hv (tkρ f regs i g j t)=zX (f i) t:=zHi f (vV f regs i g j) regs (zX (f i) j) _ (fun e=>by
     obtain⟨-,r2,-⟩:=zCQ (vV f regs i g j) regs I1.nb hx
     rw[e,r2] at c3;cases c3) c4 c5
    exact⟨c1,by rw[d1];exact c2,d2,hkeep.1,hkeep.2⟩
  ·have hr:(yG f (vV f regs i g j) regs (zX (f i) j)).bz r=true:=hr
   show ∃ t,t < j+1∧upd (tkρ f regs i g j) j _ t=r
   rcases fl r hr with e|e
   ·obtain⟨t,a,b⟩:=hb r e
    exact⟨t,by omega,by unfold upd;rw[if_neg aO];exact b⟩
   ·exact⟨j,by omega,by rw[yK];exact e.symm⟩
theorem zOi{f:Nat→zL}{regs i:Nat}{g:G}{v:Nat→Nat}{R Sp:Nat→Option Nat}{c:Nat→Nat}(I:Inv f regs i g v R Sp c)(h16:regs≤16):Inv f regs i (zAo g) v R Sp c:=by
 have hh:∀ r,r < regs→(zAo g).hf r=true→g.hf r=true∧zAA g r=false∧(zAo g).hv r=g.hv r:=fun r hr h=>by
  have h:(if r < 16∧zAA g r=true then false else g.hf r)=true:=h
  show _∧_∧(if r < 16∧zAA g r=true then 0 else g.hv r)=g.hv r
  by_cases e:r < 16∧zAA g r=true
  ·rw[if_pos e] at h;cases h
  ·rw[if_neg e] at h;rw[if_neg e]
   exact⟨h,by
     cases hb:zAA g r with
     | false=>rfl
     | true=>exact absurd ⟨by omega,hb⟩ e,rfl⟩
 refine⟨fun r a b=>?_,fun r r' a b c' d e=>?_,I.hs,fun q a b c'=>?_,I.lz,fun r a b _=>?_⟩
 ·obtain⟨h1,-,h3⟩:=hh r a b
  rw[h3];exact I.hr r a h1
 ·obtain⟨h1,-,h3⟩:=hh r a c'
  obtain⟨h4,-,h6⟩:=hh r' b d
  rw[h3,h6] at e
  exact I.uq r r' a b h1 h4 e
 ·rcases I.av q a b c' with e|⟨r,e1,e2,e3⟩
  ·exact .inl e
  ·refine .inr ⟨r,e1,?_⟩
   have hno:¬(r < 16∧zAA g r=true):=fun hc=>by
    have h2:=hc.2
    unfold zAA at h2
    rw[e3] at h2
    simp only[Bool.and_eq_true,beq_iff_eq] at h2
    exact b h2.2
   show(if r < 16∧zAA g r=true then false else g.hf r)=true∧(if r < 16∧zAA g r=true then 0 else g.hv r)=q
   rw[if_neg hno,if_neg hno];exact⟨e2,e3⟩
 ·obtain⟨h1,h2,h3⟩:=hh r a b
  rw[h3]
  show(g.P (g.hv r)).next≠0
  unfold zAA at h2
  cases hb:g.bz r with
  | false=>exact I.nb r a h1 hb
  | true=>
   rw[hb] at h2
   simpa using h2
theorem zNM{Mem:Type}(S:Sm Mem)(x:Cd)(h:HS Mem)(ho:x.op=7)(a:Nat)(ha:h.get x.a=some a):yD S x h=.go { h with c:=upd h.c x.n.toNat a }:=by
 unfold yD
 rw[if_neg aO,if_neg aO,if_pos aO]
 rw[ha]
theorem zNJ{Mem:Type}(S:Sm Mem)(x:Cd)(h:HS Mem)(ho:x.op=6):yD S x h=.go (h.set x.d (h.c x.n.toNat)):=by
 unfold yD
 rw[if_neg aO,if_pos aO]
theorem zNK{Mem:Type}(S:Sm Mem)(x:Cd)(h:HS Mem)(ho:x.op=97):yD S x h=.go (h.set x.d (S.now h.c)):=by
 unfold yD
 rw[if_neg aO,if_neg aO,if_neg aO,if_neg aO,if_neg aO,if_pos aO]
theorem zFj{Mem:Type}(S:Sm Mem)(x:Cd)(h:HS Mem)(ho:x.op=10):yD S x h=(if S.tch h.m=true then .out ⟨1,0,0,x.k,x.n⟩ h else .go h):=by
 unfold yD
 rw[if_neg aO,if_neg aO,if_neg aO,if_neg aO,if_neg aO,if_neg aO,if_pos aO]
theorem zKr{Mem:Type}(S:Sm Mem)(x:Cd)(h:HS Mem)(ho:x.op=11)(a:Nat)(ha:h.get x.a=some a):yD S x h=(if a≠0 then .out ⟨1,0,0,x.k,x.n⟩ h else .go h):=by
 unfold yD
 rw[if_neg aO,if_neg aO,if_neg aO,if_neg aO,if_neg aO,if_neg aO,if_neg aO,if_pos aO]
 rw[ha]
theorem zLM{Mem:Type}(S:Sm Mem)(x:Cd)(h:HS Mem)(ho:x.op=12):yD S x h=.out ⟨2,x.d,x.x,x.k,x.n⟩ h:=by
 unfold yD
 rw[if_neg aO,if_neg aO,if_neg aO,if_neg aO,if_neg aO,if_neg aO,if_neg aO,if_neg aO,if_pos aO]
theorem zEL{Mem:Type}(S:Sm Mem)(x:Cd)(h:HS Mem)(ho:x.op=13)(a:Nat)(ha:h.get x.a=some a):yD S x h=(if a≠0 then .out ⟨2,x.d,x.x,x.k,x.n⟩ h else .go h):=by
 unfold yD
 rw[if_neg aO,if_neg aO,if_neg aO,if_neg aO,if_neg aO,if_neg aO,if_neg aO,if_neg aO,if_neg aO,if_pos aO]
 rw[ha]
theorem zJv{Mem:Type}(S:Sm Mem)(x:Cd)(h:HS Mem)(ho:x.op=14):yD S x h=.out ⟨1,0,0,x.k,x.n⟩ h:=by
 unfold yD
 rw[if_neg aO,if_neg aO,if_neg aO,if_neg aO,if_neg aO,if_neg aO,if_neg aO,if_neg aO,if_neg aO,if_neg aO,if_pos aO]
theorem zHz{Mem:Type}(S:Sm Mem)(x:Cd)(h:HS Mem)(ho:x.op=4)(a:Nat)(ha:h.get x.a=some a):yD S x h=.out ⟨3,0,0,a,x.n⟩ h:=by
 unfold yD
 rw[if_neg aO,if_neg aO,if_neg aO,if_neg aO,if_neg aO,if_neg aO,if_neg aO,if_neg aO,if_neg aO,if_neg aO,if_neg aO,if_pos aO]
 rw[ha]
theorem zNL{Mem:Type}(S:Sm Mem)(x:Cd)(h:HS Mem)(ho:x.op=5)(a b c:Nat)(ha:h.get x.a=some a)(hb:h.get x.b=some b)(hc:h.get x.c=some c):yD S x h=.go (h.set x.d (S.val 6 0 a b c)):=by
 unfold yD
 rw[if_neg aO,if_neg aO,if_neg aO,if_neg aO,if_neg aO,if_neg aO,if_neg aO,if_neg aO,if_neg aO,if_neg aO,if_neg aO,if_neg aO,if_pos aO]
 rw[ha,hb,hc]
theorem zFi{Mem:Type}(S:Sm Mem)(x:Cd)(h:HS Mem)(w:Int)(ho:x.op=88+w)(w0:0≤w)(w1:w≤2)(a b:Nat)(ha:h.get x.a=some a)(hb:h.get x.d=some b):yD S x h=(if(S.store h.m w a b).2.1=0 then .go { h with m:=(S.store h.m w a b).1 } else .out ⟨2,(S.store h.m w a b).2.1,(S.store h.m w a b).2.2,x.k,x.n⟩ { h with m:=(S.store h.m w a b).1 }):=by
 unfold yD
 rw[if_neg aO,if_neg aO,if_neg aO,if_neg aO,if_neg aO,if_neg aO,if_neg aO,if_neg aO,if_neg aO,if_neg aO,if_neg aO,if_neg aO,if_neg aO,if_pos aO]
 rw[ha,hb,show x.op - 88=w by omega]
theorem zGs{Mem:Type}(S:Sm Mem)(x:Cd)(h:HS Mem)(w:Int)(ho:x.op=80+w)(w0:0≤w)(w1:w≤4)(a:Nat)(ha:h.get x.a=some a):yD S x h=(if(S.load h.m w a).2.1=0 then .go (h.set x.d (S.load h.m w a).1) else .out ⟨2,(S.load h.m w a).2.1,(S.load h.m w a).2.2,x.k,x.n⟩ h):=by
 unfold yD
 rw[if_neg aO,if_neg aO,if_neg aO,if_neg aO,if_neg aO,if_neg aO,if_neg aO,if_neg aO,if_neg aO,if_neg aO,if_neg aO,if_neg aO,if_neg aO,if_neg aO,if_pos aO]
 rw[ha,show x.op - 80=w by omega]
theorem zLL{Mem:Type}(S:Sm Mem)(x:Cd)(h:HS Mem)(w:Int)(ho:x.op=64+w)(w0:0≤w)(w1:w≤15)(a:Nat)(ha:h.get x.a=some a):yD S x h=.go (h.set x.d (S.val 8 w a 0 0)):=by
 unfold yD
 rw[if_neg aO,if_neg aO,if_neg aO,if_neg aO,if_neg aO,if_neg aO,if_neg aO,if_neg aO,if_neg aO,if_neg aO,if_neg aO,if_neg aO,if_neg aO,if_neg aO,if_neg aO,if_pos aO]
 rw[ha,show x.op - 64=w by omega]
theorem zJu{Mem:Type}(S:Sm Mem)(x:Cd)(h:HS Mem)(w:Int)(ho:x.op=48+w)(w0:0≤w)(w1:w≤12)(a b c:Nat)(ha:h.get x.a=some a)(hb:h.get x.b=some b)(hc:h.get x.c=some c):yD S x h=.go (h.set x.d (S.val 7 w a b c)):=by
 unfold yD
 rw[if_neg aO,if_neg aO,if_neg aO,if_neg aO,if_neg aO,if_neg aO,if_neg aO,if_neg aO,if_neg aO,if_neg aO,if_neg aO,if_neg aO,if_neg aO,if_neg aO,if_neg aO,if_neg aO,if_pos aO]
 rw[ha,hb,hc,show x.op - 48=w by omega]
theorem zQd{Mem:Type}(S:Sm Mem)(x:Cd)(h:HS Mem)(w:Int)(ho:x.op=32+w)(w0:0≤w)(w1:w≤6)(a:Nat)(ha:h.get x.a=some a):yD S x h=.go (h.set x.d (S.val 5 w a 0 0)):=by
 unfold yD
 rw[if_neg aO,if_neg aO,if_neg aO,if_neg aO,if_neg aO,if_neg aO,if_neg aO,if_neg aO,if_neg aO,if_neg aO,if_neg aO,if_neg aO,if_neg aO,if_neg aO,if_neg aO,if_neg aO,if_neg aO,if_pos aO]
 rw[ha,show x.op - 32=w by omega]
theorem zNI{Mem:Type}(S:Sm Mem)(x:Cd)(h:HS Mem)(w:Int)(ho:x.op=16+w)(w0:0≤w)(w1:w≤15)(a b:Nat)(ha:h.get x.a=some a)(hb:h.get x.b=some b):yD S x h=.go (h.set x.d (S.val 4 w a b 0)):=by
 unfold yD
 rw[if_neg aO,if_neg aO,if_neg aO,if_neg aO,if_neg aO,if_neg aO,if_neg aO,if_neg aO,if_neg aO,if_neg aO,if_neg aO,if_neg aO,if_neg aO,if_neg aO,if_neg aO,if_neg aO,if_neg aO,if_neg aO,if_pos aO]
 rw[ha,hb,show x.op - 16=w by omega]
theorem uT(o:zL)(ρ:Nat→Nat)(h:o.kind≠10):yQ o ρ={ yF o with a:=(ρ 0:Int),b:=(ρ 1:Int),c:=(ρ 2:Int) }:=by unfold yQ;rw[if_neg h]
theorem zQv(o:zL)(ρ:Nat→Nat)(h:o.kind=10):yQ o ρ={ yF o with a:=(ρ 0:Int),b:=0,c:=(ρ 2:Int),d:=(ρ 1:Int) }:=by unfold yQ;rw[if_pos h]
theorem vG{Mem:Type}(h:HS Mem)(r:Nat):h.get (r:Int)=h.R r:=by unfold HS.get;rw[Int.toNat_natCast]
theorem zRp{Mem:Type}(S:Sm Mem)(O:zDu S)(o:zL)(i:Nat)(ρ:Nat→Nat)(h:HS Mem)(v:Nat→Nat)(hk:o.kind=2)(hw:WOk o)  :
  (∃ u,uE S o i ⟨v,h.c,h.m⟩=(⟨upd v i u,h.c,h.m⟩,none)∧∀ r:Nat,yD S { yQ o ρ with d:=(r:Int) } h=.go (h.set r u))∨(∃ e,uE S o i ⟨v,h.c,h.m⟩=(⟨v,h.c,h.m⟩,some e)∧∀ r:Nat,yD S { yQ o ρ with d:=(r:Int) } h=.out e h):=by
 have hi:=hw.hi
 have lo:=hw.lo
 have w0:=hw.ok.w0
 rw[hk] at hi lo
 rw[uT o ρ aO]
 refine .inl ⟨h.c o.w.toNat,by unfold uE;rw[hk];rfl,fun r=>?_⟩
 have hn:(yF o).n=o.w:=by simp[yF,hk,uN]
 rw[zNJ S _ h (by show(yF o).op=6;simp[yF,hk,toT,uN])]
 show HR.go (h.set r (h.c (yF o).n.toNat))=_
 rw[hn]
theorem zPp{Mem:Type}(S:Sm Mem)(O:zDu S)(o:zL)(i:Nat)(ρ:Nat→Nat)(h:HS Mem)(v:Nat→Nat)(hk:o.kind=17)(hw:WOk o)  :
  (∃ u,uE S o i ⟨v,h.c,h.m⟩=(⟨upd v i u,h.c,h.m⟩,none)∧∀ r:Nat,yD S { yQ o ρ with d:=(r:Int) } h=.go (h.set r u))∨(∃ e,uE S o i ⟨v,h.c,h.m⟩=(⟨v,h.c,h.m⟩,some e)∧∀ r:Nat,yD S { yQ o ρ with d:=(r:Int) } h=.out e h):=by
 have hi:=hw.hi
 have lo:=hw.lo
 have w0:=hw.ok.w0
 rw[hk] at hi lo
 rw[uT o ρ aO]
 exact .inl ⟨S.now h.c,by unfold uE;rw[hk];rfl,fun r=>zNK S _ h (by show(yF o).op=97;simp[yF,hk,toT,uN,(show o.w=0 by(have e1:(ru 17).hi=0:=rfl);omega)])⟩
theorem zRr{Mem:Type}(S:Sm Mem)(O:zDu S)(o:zL)(i:Nat)(ρ:Nat→Nat)(h:HS Mem)(v:Nat→Nat)(hk:o.kind=4)(hw:WOk o)(h0:h.R (ρ 0)=some (v (zX o 0)))(h1:h.R (ρ 1)=some (v (zX o 1))) :
  (∃ u,uE S o i ⟨v,h.c,h.m⟩=(⟨upd v i u,h.c,h.m⟩,none)∧∀ r:Nat,yD S { yQ o ρ with d:=(r:Int) } h=.go (h.set r u))∨(∃ e,uE S o i ⟨v,h.c,h.m⟩=(⟨v,h.c,h.m⟩,some e)∧∀ r:Nat,yD S { yQ o ρ with d:=(r:Int) } h=.out e h):=by
 have hi:=hw.hi
 have lo:=hw.lo
 have w0:=hw.ok.w0
 rw[hk] at hi lo
 rw[uT o ρ aO]
 exact .inl ⟨S.val 4 o.w (v (zX o 0)) (v (zX o 1)) (v (zX o 2)),by unfold uE;rw[hk];rfl,fun r=>by rw[O.v3];exact zNI S _ h o.w (by show(yF o).op=16+o.w;simp[yF,hk,toT,uN]) w0 hi _ _ ((vG h (ρ 0)).trans h0) ((vG h (ρ 1)).trans h1)⟩
theorem zRs{Mem:Type}(S:Sm Mem)(O:zDu S)(o:zL)(i:Nat)(ρ:Nat→Nat)(h:HS Mem)(v:Nat→Nat)(hk:o.kind=5)(hw:WOk o)(h0:h.R (ρ 0)=some (v (zX o 0))) :
  (∃ u,uE S o i ⟨v,h.c,h.m⟩=(⟨upd v i u,h.c,h.m⟩,none)∧∀ r:Nat,yD S { yQ o ρ with d:=(r:Int) } h=.go (h.set r u))∨(∃ e,uE S o i ⟨v,h.c,h.m⟩=(⟨v,h.c,h.m⟩,some e)∧∀ r:Nat,yD S { yQ o ρ with d:=(r:Int) } h=.out e h):=by
 have hi:=hw.hi
 have lo:=hw.lo
 have w0:=hw.ok.w0
 rw[hk] at hi lo
 rw[uT o ρ aO]
 exact .inl ⟨S.val 5 o.w (v (zX o 0)) (v (zX o 1)) (v (zX o 2)),by unfold uE;rw[hk];rfl,fun r=>by rw[O.v1];exact zQd S _ h o.w (by show(yF o).op=32+o.w;simp[yF,hk,toT,uN]) w0 hi _ ((vG h (ρ 0)).trans h0)⟩
theorem zRt{Mem:Type}(S:Sm Mem)(O:zDu S)(o:zL)(i:Nat)(ρ:Nat→Nat)(h:HS Mem)(v:Nat→Nat)(hk:o.kind=6)(hw:WOk o)(h0:h.R (ρ 0)=some (v (zX o 0)))(h1:h.R (ρ 1)=some (v (zX o 1)))(h2:h.R (ρ 2)=some (v (zX o 2))) :
  (∃ u,uE S o i ⟨v,h.c,h.m⟩=(⟨upd v i u,h.c,h.m⟩,none)∧∀ r:Nat,yD S { yQ o ρ with d:=(r:Int) } h=.go (h.set r u))∨(∃ e,uE S o i ⟨v,h.c,h.m⟩=(⟨v,h.c,h.m⟩,some e)∧∀ r:Nat,yD S { yQ o ρ with d:=(r:Int) } h=.out e h):=by
 have hi:=hw.hi
 have lo:=hw.lo
 have w0:=hw.ok.w0
 rw[hk] at hi lo
 rw[uT o ρ aO]
 exact .inl ⟨S.val 6 o.w (v (zX o 0)) (v (zX o 1)) (v (zX o 2)),by unfold uE;rw[hk];rfl,fun r=>by rw[O.v6];exact zNL S _ h (by show(yF o).op=5;simp[yF,hk,toT,uN,(show o.w=0 by(have e1:(ru 6).hi=0:=rfl);omega)]) _ _ _ ((vG h (ρ 0)).trans h0) ((vG h (ρ 1)).trans h1) ((vG h (ρ 2)).trans h2)⟩
theorem zRu{Mem:Type}(S:Sm Mem)(O:zDu S)(o:zL)(i:Nat)(ρ:Nat→Nat)(h:HS Mem)(v:Nat→Nat)(hk:o.kind=7)(hw:WOk o)(h0:h.R (ρ 0)=some (v (zX o 0)))(h1:h.R (ρ 1)=some (v (zX o 1)))(h2:h.R (ρ 2)=some (v (zX o 2))) :
  (∃ u,uE S o i ⟨v,h.c,h.m⟩=(⟨upd v i u,h.c,h.m⟩,none)∧∀ r:Nat,yD S { yQ o ρ with d:=(r:Int) } h=.go (h.set r u))∨(∃ e,uE S o i ⟨v,h.c,h.m⟩=(⟨v,h.c,h.m⟩,some e)∧∀ r:Nat,yD S { yQ o ρ with d:=(r:Int) } h=.out e h):=by
 have hi:=hw.hi
 have lo:=hw.lo
 have w0:=hw.ok.w0
 rw[hk] at hi lo
 rw[uT o ρ aO]
 exact .inl ⟨S.val 7 o.w (v (zX o 0)) (v (zX o 1)) (v (zX o 2)),by unfold uE;rw[hk];rfl,fun r=>zJu S _ h o.w (by show(yF o).op=48+o.w;simp[yF,hk,toT,uN]) w0 hi _ _ _ ((vG h (ρ 0)).trans h0) ((vG h (ρ 1)).trans h1) ((vG h (ρ 2)).trans h2)⟩
theorem zRv{Mem:Type}(S:Sm Mem)(O:zDu S)(o:zL)(i:Nat)(ρ:Nat→Nat)(h:HS Mem)(v:Nat→Nat)(hk:o.kind=8)(hw:WOk o)(h0:h.R (ρ 0)=some (v (zX o 0))) :
  (∃ u,uE S o i ⟨v,h.c,h.m⟩=(⟨upd v i u,h.c,h.m⟩,none)∧∀ r:Nat,yD S { yQ o ρ with d:=(r:Int) } h=.go (h.set r u))∨(∃ e,uE S o i ⟨v,h.c,h.m⟩=(⟨v,h.c,h.m⟩,some e)∧∀ r:Nat,yD S { yQ o ρ with d:=(r:Int) } h=.out e h):=by
 have hi:=hw.hi
 have lo:=hw.lo
 have w0:=hw.ok.w0
 rw[hk] at hi lo
 rw[uT o ρ aO]
 exact .inl ⟨S.val 8 o.w (v (zX o 0)) (v (zX o 1)) (v (zX o 2)),by unfold uE;rw[hk];rfl,fun r=>by rw[O.v2];exact zLL S _ h o.w (by show(yF o).op=64+o.w;simp[yF,hk,toT,uN]) w0 hi _ ((vG h (ρ 0)).trans h0)⟩
theorem zRw{Mem:Type}(S:Sm Mem)(O:zDu S)(o:zL)(i:Nat)(ρ:Nat→Nat)(h:HS Mem)(v:Nat→Nat)(hk:o.kind=9)(hw:WOk o)(h0:h.R (ρ 0)=some (v (zX o 0))) :
  (∃ u,uE S o i ⟨v,h.c,h.m⟩=(⟨upd v i u,h.c,h.m⟩,none)∧∀ r:Nat,yD S { yQ o ρ with d:=(r:Int) } h=.go (h.set r u))∨(∃ e,uE S o i ⟨v,h.c,h.m⟩=(⟨v,h.c,h.m⟩,some e)∧∀ r:Nat,yD S { yQ o ρ with d:=(r:Int) } h=.out e h):=by
 have hi:=hw.hi
 have lo:=hw.lo
 have w0:=hw.ok.w0
 rw[hk] at hi lo
 rw[uT o ρ aO]
 by_cases hz:(S.load h.m o.w (v (zX o 0))).2.1=0
 ·refine .inl ⟨(S.load h.m o.w (v (zX o 0))).1,by unfold uE;rw[hk];exact if_pos hz,fun r=>?_⟩
  rw[zGs S _ h o.w (by show(yF o).op=80+o.w;simp[yF,hk,toT,uN]) w0 hi _ ((vG h (ρ 0)).trans h0),if_pos hz]
 ·refine .inr ⟨_,by unfold uE;rw[hk];exact if_neg hz,fun r=>?_⟩
  rw[zGs S _ h o.w (by show(yF o).op=80+o.w;simp[yF,hk,toT,uN]) w0 hi _ ((vG h (ρ 0)).trans h0),if_neg hz]
  have hn:(yF o).n=o.n:=by simp[yF,hk,uN]
  show HR.out ⟨2,_,_,o.k,(yF o).n⟩ h=_
  rw[hn]
theorem zRq{Mem:Type}(S:Sm Mem)(o:zL)(i:Nat)(ρ:Nat→Nat)(h:HS Mem)(v:Nat→Nat)(hk:o.kind=3)(hw:WOk o)(h0:h.R (ρ 0)=some (v (zX o 0))) :
  (∃ c' m',uE S o i ⟨v,h.c,h.m⟩=(⟨v,c',m'⟩,none)∧yD S (yQ o ρ) h=.go { h with c:=c',m:=m' }∧(c'=h.c∨(o.kind=3∧c'=upd h.c o.w.toNat (v (zX o 0)))))∨(∃ e m',uE S o i ⟨v,h.c,h.m⟩=(⟨v,h.c,m'⟩,some e)∧yD S (yQ o ρ) h=.out e { h with m:=m' }):=by
 have hi:=hw.hi
 have lo:=hw.lo
 have w0:=hw.ok.w0
 rw[hk] at hi lo
 rw[uT o ρ aO]
 refine .inl ⟨upd h.c o.w.toNat (v (zX o 0)),h.m,by unfold uE;rw[hk];rfl,?_,.inr ⟨hk,rfl⟩⟩
 have hn:(yF o).n=o.w:=by simp[yF,hk,uN]
 rw[zNM S _ h (by show(yF o).op=7;simp[yF,hk,toT,uN]) _ ((vG h (ρ 0)).trans h0)]
 show HR.go { h with c:=upd h.c (yF o).n.toNat (v (zX o 0)) }=_
 rw[hn]
theorem zPi{Mem:Type}(S:Sm Mem)(o:zL)(i:Nat)(ρ:Nat→Nat)(h:HS Mem)(v:Nat→Nat)(hk:o.kind=10)(hw:WOk o)(h0:h.R (ρ 0)=some (v (zX o 0)))(h1:h.R (ρ 1)=some (v (zX o 1))) :
  (∃ c' m',uE S o i ⟨v,h.c,h.m⟩=(⟨v,c',m'⟩,none)∧yD S (yQ o ρ) h=.go { h with c:=c',m:=m' }∧(c'=h.c∨(o.kind=3∧c'=upd h.c o.w.toNat (v (zX o 0)))))∨(∃ e m',uE S o i ⟨v,h.c,h.m⟩=(⟨v,h.c,m'⟩,some e)∧yD S (yQ o ρ) h=.out e { h with m:=m' }):=by
 have hi:=hw.hi
 have lo:=hw.lo
 have w0:=hw.ok.w0
 rw[hk] at hi lo
 rw[zQv o ρ hk]
 have hn:(yF o).n=o.n:=by simp[yF,hk,uN]
 by_cases hz:(S.store h.m o.w (v (zX o 0)) (v (zX o 1))).2.1=0
 ·refine .inl ⟨h.c,(S.store h.m o.w (v (zX o 0)) (v (zX o 1))).1,by unfold uE;rw[hk];exact Prod.ext rfl (if_pos hz),?_,.inl rfl⟩
  rw[zFi S _ h o.w (by show(yF o).op=88+o.w;simp[yF,hk,toT,uN]) w0 hi _ _ ((vG h (ρ 0)).trans h0) ((vG h (ρ 1)).trans h1),if_pos hz]
 ·refine .inr ⟨_,(S.store h.m o.w (v (zX o 0)) (v (zX o 1))).1,by unfold uE;rw[hk];exact Prod.ext rfl (if_neg hz),?_⟩
  rw[zFi S _ h o.w (by show(yF o).op=88+o.w;simp[yF,hk,toT,uN]) w0 hi _ _ ((vG h (ρ 0)).trans h0) ((vG h (ρ 1)).trans h1),if_neg hz]
  show HR.out ⟨2,_,_,o.k,(yF o).n⟩ _=_
  rw[hn]
theorem zPj{Mem:Type}(S:Sm Mem)(o:zL)(i:Nat)(ρ:Nat→Nat)(h:HS Mem)(v:Nat→Nat)(hk:o.kind=11)(hw:WOk o)  :
  (∃ c' m',uE S o i ⟨v,h.c,h.m⟩=(⟨v,c',m'⟩,none)∧yD S (yQ o ρ) h=.go { h with c:=c',m:=m' }∧(c'=h.c∨(o.kind=3∧c'=upd h.c o.w.toNat (v (zX o 0)))))∨(∃ e m',uE S o i ⟨v,h.c,h.m⟩=(⟨v,h.c,m'⟩,some e)∧yD S (yQ o ρ) h=.out e { h with m:=m' }):=by
 have hi:=hw.hi
 have lo:=hw.lo
 have w0:=hw.ok.w0
 rw[hk] at hi lo
 rw[uT o ρ aO]
 have hn:(yF o).n=o.n:=by simp[yF,hk,uN]
 by_cases hz:S.tch h.m=true
 ·refine .inr ⟨_,h.m,by unfold uE;rw[hk];exact Prod.ext rfl (if_pos hz),?_⟩
  rw[zFj S _ h (by show(yF o).op=10;simp[yF,hk,toT,uN,(show o.w=0 by(have e1:(ru 11).hi=0:=rfl);omega)]),if_pos hz]
  show HR.out ⟨1,0,0,o.k,(yF o).n⟩ h=_
  rw[hn]
 ·refine .inl ⟨h.c,h.m,by unfold uE;rw[hk];exact Prod.ext rfl (if_neg hz),?_,.inl rfl⟩
  rw[zFj S _ h (by show(yF o).op=10;simp[yF,hk,toT,uN,(show o.w=0 by(have e1:(ru 11).hi=0:=rfl);omega)]),if_neg hz]
theorem zPk{Mem:Type}(S:Sm Mem)(o:zL)(i:Nat)(ρ:Nat→Nat)(h:HS Mem)(v:Nat→Nat)(hk:o.kind=12)(hw:WOk o)(h0:h.R (ρ 0)=some (v (zX o 0))) :
  (∃ c' m',uE S o i ⟨v,h.c,h.m⟩=(⟨v,c',m'⟩,none)∧yD S (yQ o ρ) h=.go { h with c:=c',m:=m' }∧(c'=h.c∨(o.kind=3∧c'=upd h.c o.w.toNat (v (zX o 0)))))∨(∃ e m',uE S o i ⟨v,h.c,h.m⟩=(⟨v,h.c,m'⟩,some e)∧yD S (yQ o ρ) h=.out e { h with m:=m' }):=by
 have hi:=hw.hi
 have lo:=hw.lo
 have w0:=hw.ok.w0
 rw[hk] at hi lo
 rw[uT o ρ aO]
 have hn:(yF o).n=o.n:=by simp[yF,hk,uN]
 by_cases hz:v (zX o 0)≠0
 ·refine .inr ⟨_,h.m,by unfold uE;rw[hk];exact Prod.ext rfl (if_pos hz),?_⟩
  rw[zKr S _ h (by show(yF o).op=11;simp[yF,hk,toT,uN,(show o.w=0 by(have e1:(ru 12).hi=0:=rfl);omega)]) _ ((vG h (ρ 0)).trans h0),if_pos hz]
  show HR.out ⟨1,0,0,o.k,(yF o).n⟩ h=_
  rw[hn]
 ·refine .inl ⟨h.c,h.m,by unfold uE;rw[hk];exact Prod.ext rfl (if_neg hz),?_,.inl rfl⟩
  rw[zKr S _ h (by show(yF o).op=11;simp[yF,hk,toT,uN,(show o.w=0 by(have e1:(ru 12).hi=0:=rfl);omega)]) _ ((vG h (ρ 0)).trans h0),if_neg hz]
theorem zPl{Mem:Type}(S:Sm Mem)(o:zL)(i:Nat)(ρ:Nat→Nat)(h:HS Mem)(v:Nat→Nat)(hk:o.kind=13)(hw:WOk o)(h0:h.R (ρ 0)=some (v (zX o 0))) :
  (∃ c' m',uE S o i ⟨v,h.c,h.m⟩=(⟨v,c',m'⟩,none)∧yD S (yQ o ρ) h=.go { h with c:=c',m:=m' }∧(c'=h.c∨(o.kind=3∧c'=upd h.c o.w.toNat (v (zX o 0)))))∨(∃ e m',uE S o i ⟨v,h.c,h.m⟩=(⟨v,h.c,m'⟩,some e)∧yD S (yQ o ρ) h=.out e { h with m:=m' }):=by
 have hi:=hw.hi
 have lo:=hw.lo
 have w0:=hw.ok.w0
 rw[hk] at hi lo
 rw[uT o ρ aO]
 have hn:(yF o).n=o.n:=by simp[yF,hk,uN]
 have hd:(yF o).d=o.w:=by simp[yF,hk,uN]
 have hx:(yF o).x=0:=by simp[yF,hk]
 by_cases hz:v (zX o 0)≠0
 ·refine .inr ⟨_,h.m,by unfold uE;rw[hk];exact Prod.ext rfl (if_pos hz),?_⟩
  rw[zEL S _ h (by show(yF o).op=13;simp[yF,hk,toT,uN]) _ ((vG h (ρ 0)).trans h0),if_pos hz]
  show HR.out ⟨2,(yF o).d,(yF o).x,o.k,(yF o).n⟩ h=_
  rw[hn,hd,hx]
 ·refine .inl ⟨h.c,h.m,by unfold uE;rw[hk];exact Prod.ext rfl (if_neg hz),?_,.inl rfl⟩
  rw[zEL S _ h (by show(yF o).op=13;simp[yF,hk,toT,uN]) _ ((vG h (ρ 0)).trans h0),if_neg hz]
theorem zPm{Mem:Type}(S:Sm Mem)(o:zL)(i:Nat)(ρ:Nat→Nat)(h:HS Mem)(v:Nat→Nat)(hk:o.kind=14)(hw:WOk o)  :
  (∃ c' m',uE S o i ⟨v,h.c,h.m⟩=(⟨v,c',m'⟩,none)∧yD S (yQ o ρ) h=.go { h with c:=c',m:=m' }∧(c'=h.c∨(o.kind=3∧c'=upd h.c o.w.toNat (v (zX o 0)))))∨(∃ e m',uE S o i ⟨v,h.c,h.m⟩=(⟨v,h.c,m'⟩,some e)∧yD S (yQ o ρ) h=.out e { h with m:=m' }):=by
 have hi:=hw.hi
 have lo:=hw.lo
 have w0:=hw.ok.w0
 rw[hk] at hi lo
 rw[uT o ρ aO]
 have hn:(yF o).n=o.n:=by simp[yF,hk,uN]
 have hd:(yF o).d=o.w:=by simp[yF,hk,uN]
 have hx:(yF o).x=(o.b%4294967296).toNat:=by simp[yF,hk]
 refine .inr ⟨_,h.m,by unfold uE;rw[hk];rfl,?_⟩
 rw[zLM S _ h (by show(yF o).op=12;simp[yF,hk,toT,uN])]
 show HR.out ⟨2,(yF o).d,(yF o).x,o.k,(yF o).n⟩ h=_
 rw[hn,hd,hx]
theorem zPn{Mem:Type}(S:Sm Mem)(o:zL)(i:Nat)(ρ:Nat→Nat)(h:HS Mem)(v:Nat→Nat)(hk:o.kind=15)(hw:WOk o)  :
  (∃ c' m',uE S o i ⟨v,h.c,h.m⟩=(⟨v,c',m'⟩,none)∧yD S (yQ o ρ) h=.go { h with c:=c',m:=m' }∧(c'=h.c∨(o.kind=3∧c'=upd h.c o.w.toNat (v (zX o 0)))))∨(∃ e m',uE S o i ⟨v,h.c,h.m⟩=(⟨v,h.c,m'⟩,some e)∧yD S (yQ o ρ) h=.out e { h with m:=m' }):=by
 have hi:=hw.hi
 have lo:=hw.lo
 have w0:=hw.ok.w0
 rw[hk] at hi lo
 rw[uT o ρ aO]
 have hn:(yF o).n=o.n:=by simp[yF,hk,uN]
 refine .inr ⟨_,h.m,by unfold uE;rw[hk];rfl,?_⟩
 rw[zJv S _ h (by show(yF o).op=14;simp[yF,hk,toT,uN,(show o.w=0 by(have e1:(ru 15).hi=0:=rfl);omega)])]
 show HR.out ⟨1,0,0,o.k,(yF o).n⟩ h=_
 rw[hn]
theorem zPo{Mem:Type}(S:Sm Mem)(o:zL)(i:Nat)(ρ:Nat→Nat)(h:HS Mem)(v:Nat→Nat)(hk:o.kind=16)(hw:WOk o)(h0:h.R (ρ 0)=some (v (zX o 0))) :
  (∃ c' m',uE S o i ⟨v,h.c,h.m⟩=(⟨v,c',m'⟩,none)∧yD S (yQ o ρ) h=.go { h with c:=c',m:=m' }∧(c'=h.c∨(o.kind=3∧c'=upd h.c o.w.toNat (v (zX o 0)))))∨(∃ e m',uE S o i ⟨v,h.c,h.m⟩=(⟨v,h.c,m'⟩,some e)∧yD S (yQ o ρ) h=.out e { h with m:=m' }):=by
 have hi:=hw.hi
 have lo:=hw.lo
 have w0:=hw.ok.w0
 rw[hk] at hi lo
 rw[uT o ρ aO]
 have hn:(yF o).n=o.n:=by simp[yF,hk,uN]
 refine .inr ⟨_,h.m,by unfold uE;rw[hk];rfl,?_⟩
 rw[zHz S _ h (by show(yF o).op=4;simp[yF,hk,toT,uN,(show o.w=0 by(have e1:(ru 16).hi=0:=rfl);omega)]) _ ((vG h (ρ 0)).trans h0)]
 show HR.out ⟨3,0,0,_,(yF o).n⟩ h=_
 rw[hn]
theorem Inv.up{f:Nat→zL}{regs i:Nat}{g:G}{v:Nat→Nat}{R Sp:Nat→Option Nat}{c:Nat→Nat}(I:Inv f regs i g v R Sp c)(hn:(g.P i).next=0):Inv f regs (i+1) g v R Sp c:=by
 have hlt:∀ q,q < i+1→(g.P q).next≠0→q < i:=fun q h1 h2=>by
  by_cases e:q=i
  ·rw[e] at h2;exact absurd hn h2
  ·omega
 exact⟨fun r a b=>⟨(I.hr r a b).1,by have:=(I.hr r a b).2;omega⟩,I.uq,fun q a=>⟨(I.hs q a).1,by have:=(I.hs q a).2;omega⟩,fun q a b c'=>I.av q (hlt q a b) b c',fun q a b c'=>I.lz q (hlt q a b) b c',I.nb⟩
theorem Inv.ctx{f:Nat→zL}{regs i:Nat}{g:G}{v:Nat→Nat}{R Sp:Nat→Option Nat}{c:Nat→Nat}(I:Inv f regs i g v R Sp c)(w x:Nat)(h:∀ q,q < i→(g.P q).next≠0→(g.P q).lazy=true→(f q).kind=2→(f q).w.toNat≠w):Inv f regs i g v R Sp (upd c w x):=
 ⟨I.hr,I.uq,I.hs,I.av,fun q a b c'=>by
  rcases I.lz q a b c' with e|⟨e1,e2⟩
  ·exact .inl e
  ·refine .inr ⟨e1,?_⟩
   unfold upd;rw[if_neg (h q a b c' e1)];exact e2,I.nb⟩
theorem Inv.lazy{f:Nat→zL}{regs i:Nat}{g:G}{v:Nat→Nat}{R Sp:Nat→Option Nat}{c:Nat→Nat}(I:Inv f regs i g v R Sp c)(u:Nat)(hl:(g.P i).lazy=true)(hu:(g.P i).next≠0→((f i).kind=1∧u=(f i).k)∨((f i).kind=2∧u=c (f i).w.toNat)):Inv f regs (i+1) g (upd v i u) R Sp c:=by
 have hv:∀ q,q < i→upd v i u q=v q:=fun q h=>by unfold upd;rw[if_neg aO]
 refine⟨fun r a b=>?_,I.uq,fun q a=>?_,fun q a b c'=>?_,fun q a b c'=>?_,I.nb⟩
 ·obtain⟨e1,e2⟩:=I.hr r a b
  rw[hv _ e2];exact⟨e1,by omega⟩
 ·obtain⟨e1,e2⟩:=I.hs q a
  rw[hv _ e2];exact⟨e1,by omega⟩
 ·by_cases e:q=i
  ·rw[e,hl] at c';cases c'
  ·exact I.av q aO b c'
 ·by_cases e:q=i
  ·rw[e] at b ⊢
   rw[show upd v i u i=u from yK _ _ _];exact hu b
  ·rw[hv q aO];exact I.lz q aO b c'
theorem zLi{f:Nat→zL}{regs i:Nat}{g:G}{v:Nat→Nat}{R Sp:Nat→Option Nat}{c:Nat→Nat}(I:Inv f regs i (yO g regs) v R Sp c)(u:Nat)(hl:(g.P i).lazy=false)(hr:yA g regs < regs)(hev:g.hf (yA g regs)=true→(yO g regs).sv (g.hv (yA g regs))=true∨(g.P (g.hv (yA g regs))).lazy=true):Inv f regs (i+1) (zBE g regs i) (upd v i u) (upd R (yA g regs) (some u)) Sp c:=by
 obtain⟨k1,k2,k3,k4,-⟩:=vK g regs
 obtain⟨r,er⟩:∃ r,yA g regs=r:=⟨_,rfl⟩
 obtain⟨g1,eg⟩:∃ g1,yO g regs=g1:=⟨_,rfl⟩
 unfold zBE
 rw[er] at hr hev
 rw[eg] at I hev k1 k2 k3 k4
 rw[er,eg]
 have hv:∀ q,q < i→upd v i u q=v q:=fun q h=>by unfold upd;rw[if_neg aO]
 refine⟨fun r' a b=>?_,fun r' r'' a b c' d e=>?_,fun q a=>?_,fun q a b c'=>?_,fun q a b c'=>?_,fun r' a b c'=>?_⟩
 ·have b:upd g1.hf r _ r'=true:=b
  show upd R r (some u) r'=some (upd v i u (upd g1.hv r i r'))∧upd g1.hv r i r' < i+1
  by_cases e:r'=r
  ·rw[e,yK,yK,yK];exact⟨rfl,by omega⟩
  ·have e1:upd R r (some u) r'=R r':=by unfold upd;rw[if_neg e]
   have e2:upd g1.hv r i r'=g1.hv r':=by unfold upd;rw[if_neg e]
   have e3:g1.hf r'=true:=by unfold upd at b;rw[if_neg e] at b;exact b
   obtain⟨h1,h2⟩:=I.hr r' a e3
   rw[e1,e2,hv _ h2];exact⟨h1,by omega⟩
 ·have c':upd g1.hf r _ r'=true:=c'
  have d:upd g1.hf r _ r''=true:=d
  have e:upd g1.hv r i r'=upd g1.hv r i r'':=e
  unfold upd at c' d e
  by_cases e1:r'=r
  ·by_cases e2:r''=r
   ·rw[e1,e2]
   ·rw[if_neg e2] at d
    rw[if_pos e1,if_neg e2] at e
    have:=(I.hr r'' b d).2
    omega
  ·by_cases e2:r''=r
   ·rw[if_neg e1] at c'
    rw[if_neg e1,if_pos e2] at e
    have:=(I.hr r' a c').2
    omega
   ·rw[if_neg e1] at c'
    rw[if_neg e2] at d
    rw[if_neg e1,if_neg e2] at e
    exact I.uq r' r'' a b c' d e
 ·obtain⟨e1,e2⟩:=I.hs q a
  rw[hv _ e2];exact⟨e1,by omega⟩
 ·by_cases e:q=i
  ·refine .inr ⟨r,hr,?_,?_⟩
   ·show upd g1.hf r ((g.P i).next !=0) r=true
    rw[yK]
    have b:(g1.P q).next≠0:=b
    rw[k4,e] at b
    simpa using b
   ·show upd g1.hv r i r=q;rw[yK,e]
  ·rcases I.av q aO b c' with e3|⟨r',b1,b2,b3⟩
   ·exact .inl e3
   ·by_cases e4:r'=r
    ·rw[e4] at b2 b3
     rw[k1] at b2
     rw[k2] at b3
     rcases hev b2 with e5|e5
     ·rw[b3] at e5;exact .inl e5
     ·rw[b3] at e5
      have c':(g1.P q).lazy=false:=c'
      rw[k4,e5] at c';cases c'
    ·refine .inr ⟨r',b1,?_,?_⟩
     ·show upd g1.hf r _ r'=true;unfold upd;rw[if_neg e4];exact b2
     ·show upd g1.hv r i r'=q;unfold upd;rw[if_neg e4];exact b3
 ·by_cases e:q=i
  ·have c':(g1.P q).lazy=true:=c'
   rw[k4,e,hl] at c';cases c'
  ·rw[hv q aO];exact I.lz q aO b c'
 ·have b:upd g1.hf r ((g.P i).next !=0) r'=true:=b
  show(g1.P (upd g1.hv r i r')).next≠0
  have c':g1.bz r'=false:=c'
  unfold upd at b ⊢
  by_cases e:r'=r
  ·rw[if_pos e] at b ⊢;rw[k4];simpa using b
  ·rw[if_neg e] at b ⊢;exact I.nb r' a b c'
theorem zN3{n:Nat}{f:Nat→zL}(hB:uX n f)(hgv:∀ i,i < n→∀ j,j < tkn f i→(ru (f (zX (f i) j)).kind).gives=true)(q:Nat)(hq:(ru (f q).kind).gives=false):∀ i,q < i→i≤n→nx f n i q=0:=by
 intro i
 induction h:n - i generalizing i with
 | zero=>intro h1 h2;have:i=n:=aO;rw[this];exact(zG7 f n q).1
 | succ m ih=>
  intro h1 h2
  have hno:¬asks f n i q:=fun ⟨_,j,a,b⟩=>by
   have:=hgv i aO j a
   rw[b,hq] at this;cases this
  rw[((zCL hB i q aO h1).2 hno).1]
  exact ih (i+1) aO aO aO
theorem zKW{Mem:Type}(S:Sm Mem)(o:zL)(i:Nat)(s:BS Mem)(hw:WOk o)(hg:(ru o.kind).gives=true)(hl:(ru o.kind).leaves=false):∃ u,uE S o i s=({ s with v:=upd s.v i u },none)∧(o.kind=1→u=o.k)∧(o.kind=2→u=s.c o.w.toNat):=by
 obtain⟨k,hk⟩:∃ k:Nat,o.kind=k:=⟨o.kind.toNat,by have:=hw.ok.k1;omega⟩
 have k1:1≤k:=by have:=hw.ok.k1;omega
 have k2:k≤17:=by have:=hw.ok.k2;omega
 rw[hk] at hg hl
 have hg:(ruT k).gives=true:=hg
 have hl:(ruT k).leaves=false:=hl
 unfold uE
 rw[hk]
 match k,k1,k2 with
 | 1,_,_=>exact⟨o.k,rfl,fun _=>rfl,fun h=>absurd h aD⟩
 | 2,_,_=>exact⟨s.c o.w.toNat,rfl,fun h=>absurd h aD,fun _=>rfl⟩
 | 3,_,_=>exact absurd hg aD
 | 4,_,_=>exact⟨_,rfl,fun h=>absurd h aD,fun h=>absurd h aD⟩
 | 5,_,_=>exact⟨_,rfl,fun h=>absurd h aD,fun h=>absurd h aD⟩
 | 6,_,_=>exact⟨_,rfl,fun h=>absurd h aD,fun h=>absurd h aD⟩
 | 7,_,_=>exact⟨_,rfl,fun h=>absurd h aD,fun h=>absurd h aD⟩
 | 8,_,_=>exact⟨_,rfl,fun h=>absurd h aD,fun h=>absurd h aD⟩
 | 9,_,_=>exact absurd hl aD
 | 10,_,_=>exact absurd hg aD
 | 11,_,_=>exact absurd hg aD
 | 12,_,_=>exact absurd hg aD
 | 13,_,_=>exact absurd hg aD
 | 14,_,_=>exact absurd hg aD
 | 15,_,_=>exact absurd hg aD
 | 16,_,_=>exact absurd hg aD
 | 17,_,_=>exact⟨_,rfl,fun h=>absurd h aD,fun h=>absurd h aD⟩
 | n+18,_,h=>exact absurd h aO
theorem zLd{Mem:Type}(S:Sm Mem)(O:zDu S)(o:zL)(i:Nat)(ρ:Nat→Nat)(h:HS Mem)(v:Nat→Nat)(hw:WOk o)(hg:(ru o.kind).gives=true)(h1:o.kind≠1)(hρ:∀ t,t < (ru o.kind).takes.toNat→h.R (ρ t)=some (v (zX o t))) :
  (∃ u,uE S o i ⟨v,h.c,h.m⟩=(⟨upd v i u,h.c,h.m⟩,none)∧∀ r:Nat,yD S { yQ o ρ with d:=(r:Int) } h=.go (h.set r u))∨(∃ e,uE S o i ⟨v,h.c,h.m⟩=(⟨v,h.c,h.m⟩,some e)∧∀ r:Nat,yD S { yQ o ρ with d:=(r:Int) } h=.out e h):=by
 obtain⟨k,hk⟩:∃ k:Nat,o.kind=k:=⟨o.kind.toNat,by have:=hw.ok.k1;omega⟩
 have k1:1≤k:=by have:=hw.ok.k1;omega
 have k2:k≤17:=by have:=hw.ok.k2;omega
 rw[hk] at hg hρ
 have hg:(ruT k).gives=true:=hg
 match k,k1,k2 with
 | 1,_,_=>exact absurd hk h1
 | 2,_,_=>exact zRp S O o i ρ h v hk hw
 | 3,_,_=>exact absurd hg aD
 | 4,_,_=>exact zRr S O o i ρ h v hk hw (hρ 0 aD) (hρ 1 aD)
 | 5,_,_=>exact zRs S O o i ρ h v hk hw (hρ 0 aD)
 | 6,_,_=>exact zRt S O o i ρ h v hk hw (hρ 0 aD) (hρ 1 aD) (hρ 2 aD)
 | 7,_,_=>exact zRu S O o i ρ h v hk hw (hρ 0 aD) (hρ 1 aD) (hρ 2 aD)
 | 8,_,_=>exact zRv S O o i ρ h v hk hw (hρ 0 aD)
 | 9,_,_=>exact zRw S O o i ρ h v hk hw (hρ 0 aD)
 | 10,_,_=>exact absurd hg aD
 | 11,_,_=>exact absurd hg aD
 | 12,_,_=>exact absurd hg aD
 | 13,_,_=>exact absurd hg aD
 | 14,_,_=>exact absurd hg aD
 | 15,_,_=>exact absurd hg aD
 | 16,_,_=>exact absurd hg aD
 | 17,_,_=>exact zPp S O o i ρ h v hk hw
 | n+18,_,h=>exact absurd h aO
theorem zLf{Mem:Type}(S:Sm Mem)(o:zL)(i:Nat)(ρ:Nat→Nat)(h:HS Mem)(v:Nat→Nat)(hw:WOk o)(hg:(ru o.kind).gives=false)(hρ:∀ t,t < (ru o.kind).takes.toNat→h.R (ρ t)=some (v (zX o t))) :
  (∃ c' m',uE S o i ⟨v,h.c,h.m⟩=(⟨v,c',m'⟩,none)∧yD S (yQ o ρ) h=.go { h with c:=c',m:=m' }∧(c'=h.c∨(o.kind=3∧c'=upd h.c o.w.toNat (v (zX o 0)))))∨(∃ e m',uE S o i ⟨v,h.c,h.m⟩=(⟨v,h.c,m'⟩,some e)∧yD S (yQ o ρ) h=.out e { h with m:=m' }):=by
 obtain⟨k,hk⟩:∃ k:Nat,o.kind=k:=⟨o.kind.toNat,by have:=hw.ok.k1;omega⟩
 have k1:1≤k:=by have:=hw.ok.k1;omega
 have k2:k≤17:=by have:=hw.ok.k2;omega
 rw[hk] at hg hρ
 have hg:(ruT k).gives=false:=hg
 match k,k1,k2 with
 | 1,_,_=>exact absurd hg aD
 | 2,_,_=>exact absurd hg aD
 | 3,_,_=>exact zRq S o i ρ h v hk hw (hρ 0 aD)
 | 4,_,_=>exact absurd hg aD
 | 5,_,_=>exact absurd hg aD
 | 6,_,_=>exact absurd hg aD
 | 7,_,_=>exact absurd hg aD
 | 8,_,_=>exact absurd hg aD
 | 9,_,_=>exact absurd hg aD
 | 10,_,_=>exact zPi S o i ρ h v hk hw (hρ 0 aD) (hρ 1 aD)
 | 11,_,_=>exact zPj S o i ρ h v hk hw
 | 12,_,_=>exact zPk S o i ρ h v hk hw (hρ 0 aD)
 | 13,_,_=>exact zPl S o i ρ h v hk hw (hρ 0 aD)
 | 14,_,_=>exact zPm S o i ρ h v hk hw
 | 15,_,_=>exact zPn S o i ρ h v hk hw
 | 16,_,_=>exact zPo S o i ρ h v hk hw (hρ 0 aD)
 | 17,_,_=>exact absurd hg aD
 | n+18,_,h=>exact absurd h aO
def Given(n:Nat)(f:Nat→zL):Prop:=∀ i,i < n→∀ j,j < tkn f i→(ru (f (zX (f i) j)).kind).gives=true
theorem zFm{n:Nat}{f:Nat→zL}{i:Nat}(h:lzy f n i=true):(ru (f i).kind).gives=true∧(ru (f i).kind).leaves=false:=by
 have hh:zAj (f i) ((plS f n (i+1)).P i) (plS f n (i+1)).puts=true:=h
 unfold zAj at hh
 simp only[Bool.and_eq_true,Bool.not_eq_eq_eq_not,Bool.not_true] at hh
 exact⟨hh.1.1,hh.1.2⟩
theorem zJy{n:Nat}{f:Nat→zL}{i:Nat}(h:(f i).kind=1):lzy f n i=true:=by
 show zAj (f i) ((plS f n (i+1)).P i) (plS f n (i+1)).puts=true
 unfold zAj stB
 rw[h,if_pos rfl]
 simp[ru,ruT]
theorem zQu(f:Nat→zL)(regs:Nat)(g:G)(i:Nat)(hb:∀ r,g.bz r=false):∀ r,(opG f regs g i).bz r=false:=by
 intro r
 unfold opG
 split
 ·exact hb r
 ·unfold zBK
  split
  ·show(yO (zAo (vV f regs i g (g.P i).takes)) regs).bz r=false
   rw[(vK _ regs).2.2.1];rfl
  ·rfl
theorem zKD{Mem:Type}(S:Sm Mem)(O:zDu S){n:Nat}{f:Nat→zL}(hB:uX n f)(hW:∀ v,v < n→WOk (f v))(hgv:Given n f)(regs:Nat)(count:Int)(pc i:Nat)(hi:i < n)(h3:3≤regs)(h16:regs≤16)(v:Nat→Nat)(h:HS Mem)(hbz:∀ r,(vW f n regs count pc i).bz r=false)(I:Inv f regs i (vW f n regs count pc i) v h.R h.Sp h.c) :
  (∃ s h1,uE S (f i) i ⟨v,h.c,h.m⟩=(s,none)∧uF S (zDv f regs (vW f n regs count pc i) i) h=.go h1∧h1.c=s.c∧h1.m=s.m∧Inv f regs (i+1) (vW f n regs count pc (i+1)) s.v h1.R h1.Sp h1.c)∨
  (∃ s e h1,uE S (f i) i ⟨v,h.c,h.m⟩=(s,some e)∧uF S (zDv f regs (vW f n regs count pc i) i) h=.out e h1∧h1.c=s.c∧h1.m=s.m):=by
 have hz:=zDo hB regs count pc i i hi
 obtain⟨ht,hg⟩:=zAr f n regs count pc i i hi
 have hn1:=zEA hB regs count pc (i+1) aO
 have hn0:=zEA hB regs count pc i aO
 have hz1:∀ q,q < n→((vW f n regs count pc (i+1)).P q).lazy=lzy f n q:=fun q hq=>zDo hB regs count pc (i+1) q hq
 have hwi:=hW i hi
 have eG:vW f n regs count pc (i+1)=opG f regs (vW f n regs count pc i) i:=rfl
 obtain⟨g,eg⟩:∃ g,vW f n regs count pc i=g:=⟨_,rfl⟩
 rw[eg] at eG hz ht hg hn0 hbz I ⊢
 by_cases hl:lzy f n i=true
 ·-- nothing is laid
  have hl':(g.P i).lazy=true:=by rw[hz];exact hl
  obtain⟨a1,a2⟩:=zFm hl
  obtain⟨u,b1,b2,b3⟩:=zKW S (f i) i ⟨v,h.c,h.m⟩ hwi a1 a2
  refine .inl ⟨_,h,b1,?_,rfl,rfl,?_⟩
  ·unfold zDv;rw[if_pos hl'];rfl
  ·rw[eG]
   unfold opG
   rw[if_pos hl']
   refine I.lazy u hl' (fun hne=>?_)
   rw[hn0 i hi,if_neg aO] at hne
   rcases zJw i hl hne with e|e
   ·exact .inl ⟨e,b2 e⟩
   ·exact .inr ⟨e,b3 e⟩
 ·have hlf:lzy f n i=false:=by simpa using hl
  have hl':(g.P i).lazy=false:=by rw[hz];exact hlf
  have hT:(g.P i).takes=tkn f i:=ht
  have hq:∀ t,t < tkn f i→zX (f i) t < i∧(g.P (zX (f i) t)).next≠0∧WOk (f (zX (f i) t)):=fun t htt=>by
   have h1:=zE9 hB hi htt
   refine⟨h1,?_,hW _ aO⟩
   rw[hn0 _ aO,if_pos h1]
   have h2:=((zCL hB i (zX (f i) t) hi h1).1 ⟨hlf,t,htt,rfl⟩).1
   rw[h2];omega
  have ha:∀ t,t < tkn f i→aft (g.P i) t=nx f n (i+1) (zX (f i) t):=fun t htt=>by
   rw[← eg];exact zIu hB regs count pc i i hi hlf t htt
  obtain⟨h1,e0,ec,em,I1,hρ,-⟩:=zKK S f regs i (tkn f i) g v h I h3 (zE8 _) hbz hq (fun q=>nx f n (i+1) q) ha (tkn f i) aL
  have I2:=zOi I1 h16
  have hXs:zDv f regs g i=zDw f regs i g (tkn f i)++zC5 regs i (zAo (vV f regs i g (tkn f i))) (yQ (f i) (tkρ f regs i g (tkn f i))):=by
   unfold zDv;rw[if_neg (by rw[hl'];decide),hT]
  have hGG:opG f regs g i=zBK regs i (zAo (vV f regs i g (tkn f i))) (yQ (f i) (tkρ f regs i g (tkn f i))):=by
   unfold opG;rw[if_neg (by rw[hl'];decide),hT]
  have hg2:((zAo (vV f regs i g (tkn f i))).P i).gives=(ru (f i).kind).gives:=by rw[zEe,(zCW f regs i g i (tkn f i)).2.1,hg]
  have hl2:((zAo (vV f regs i g (tkn f i))).P i).lazy=false:=by rw[zEe,(zCW f regs i g i (tkn f i)).2.2.1,hl']
  have hrun1:∀ ys,uF S (zDw f regs i g (tkn f i)++ys) h=uF S ys h1:=fun ys=>zCb S _ ys h h1 e0
  obtain⟨g2,eg2⟩:∃ g2,zAo (vV f regs i g (tkn f i))=g2:=⟨_,rfl⟩
  obtain⟨ρ,eρ⟩:∃ ρ,tkρ f regs i g (tkn f i)=ρ:=⟨_,rfl⟩
  have hbz2:∀ r,g2.bz r=false:=fun r=>by rw[← eg2];rfl
  rw[eg2] at I2 hXs hGG hg2 hl2
  rw[eρ] at hXs hGG hρ
  rw[hXs,eG,hGG]
  rw[eG,hGG] at hn1 hz1
  have hbs:(⟨v,h.c,h.m⟩:BS Mem)=⟨v,h1.c,h1.m⟩:=by rw[ec,em]
  rw[hrun1,hbs]
  cases hgg:(ru (f i).kind).gives with
  | true=>
   have hk1:(f i).kind≠1:=fun e=>by rw[zJy e] at hlf;cases hlf
   rw[hgg] at hg2
   obtain⟨h2,f0,fR,fc,fm,I3,fev⟩:=zGC S f regs i g2 v h1 I2 ⟨0,by omega,hbz2 0⟩
   obtain⟨r1,-⟩:=zCQ g2 regs I2.nb ⟨0,by omega,hbz2 0⟩
   have hXe:zC5 regs i g2 (yQ (f i) ρ)=zBI g2 regs++[{ yQ (f i) ρ with d:=(yA g2 regs:Int) }]:=by unfold zC5;rw[if_pos hg2]
   have hGe:zBK regs i g2 (yQ (f i) ρ)=zBw (zBE g2 regs i) { yQ (f i) ρ with d:=(yA g2 regs:Int) }:=by unfold zBK;rw[if_pos hg2]
   rw[hXe,hGe,zCb S _ _ h1 h2 f0]
   have hbs2:(⟨v,h1.c,h1.m⟩:BS Mem)=⟨v,h2.c,h2.m⟩:=by rw[fc,fm]
   rw[hbs2]
   rcases zLd S O (f i) i ρ h2 v hwi hgg hk1 (fun t htt=>by rw[fR];exact(hρ t htt).2.1) with ⟨u,b1,b2⟩|⟨e,b1,b2⟩
   ·refine .inl ⟨_,h2.set (yA g2 regs) u,b1,?_,rfl,rfl,?_⟩
    ·unfold uF;rw[b2];rfl
    ·have J:Inv f regs (i+1) (zBE g2 regs i) (upd v i u) (upd h2.R ((yA g2 regs:Int).toNat) (some u)) h2.Sp h2.c:=by
      rw[Int.toNat_natCast];exact zLi I3 u hl2 r1 fev
     exact⟨J.hr,J.uq,J.hs,J.av,J.lz,J.nb⟩
   ·refine .inr ⟨_,e,h2,b1,?_,rfl,rfl⟩
    unfold uF;rw[b2]
  | false=>
   rw[hgg] at hg2
   have hXe:zC5 regs i g2 (yQ (f i) ρ)=[yQ (f i) ρ]:=by unfold zC5;rw[if_neg (by rw[hg2];decide)]
   have hGe:zBK regs i g2 (yQ (f i) ρ)=zBw g2 (yQ (f i) ρ):=by unfold zBK;rw[if_neg (by rw[hg2];decide)]
   rw[hXe,hGe]
   rw[hGe] at hn1 hz1
   have hni:(g2.P i).next=0:=by
    have:=hn1 i hi
    rw[if_pos aO] at this
    exact this.trans (zN3 hB hgv i hgg (i+1) aO aO)
   have I3:=I2.up hni
   rcases zLf S (f i) i ρ h1 v hwi hgg (fun t htt=>(hρ t htt).2.1) with ⟨c',m',b1,b2,b3⟩|⟨e,m',b1,b2⟩
   ·refine .inl ⟨_,{ h1 with c:=c',m:=m' },b1,?_,rfl,rfl,?_⟩
    ·unfold uF;rw[b2];rfl
    ·show Inv f regs (i+1) (zBw g2 (yQ (f i) ρ)) v h1.R h1.Sp c'
     have I4:Inv f regs (i+1) (zBw g2 (yQ (f i) ρ)) v h1.R h1.Sp h1.c:=⟨I3.hr,I3.uq,I3.hs,I3.av,I3.lz,I3.nb⟩
     rcases b3 with e|⟨e1,e2⟩
     ·rw[e];exact I4
     ·rw[e2]
      refine I4.ctx _ _ (fun q a b c k=>fun ew=>?_)
      have hqn:q < n:=aO
      have hqi:q≠i:=fun e=>by rw[e,e1] at k;exact absurd k aD
      rw[hn1 q hqn,if_pos a] at b
      rw[hz1 q hqn] at c
      exact b (zJZ hB q i aO hi k c e1 ew.symm)
   ·refine .inr ⟨_,e,{ h1 with m:=m' },b1,?_,rfl,rfl⟩
    unfold uF;rw[b2]
def zFw{Mem:Type}(S:Sm Mem)(f:Nat→zL):Nat→BS Mem→Option (BS Mem)
 | 0,s=>some s
 | i+1,s=>match zFw S f i s with
  | none=>none
  | some t=>match uE S (f i) i t with
   | (t',none)=>some t'
   | (_,some _)=>none
def zAY(f:Nat→zL)(n regs:Nat)(count:Int)(pc:Nat):Nat→List Cd
 | 0=>[]
 | i+1=>zAY f n regs count pc i++zDv f regs (vW f n regs count pc i) i
theorem zOY(f:Nat→zL)(n regs:Nat)(count:Int)(pc:Nat):∀ i,(vW f n regs count pc i).l=(vZ (vQ count pc)).2++yT (zAY f n regs count pc i)
 | 0=>by show []++(vZ (vQ count pc)).2=_;simp[zAY,yT]
 | i+1=>by
  show(opG f regs (vW f n regs count pc i) i).l=_
  rw[zTB,zOY f n regs count pc i,zAY,zAT,List.append_assoc]
theorem zHa(f:Nat→zL)(n regs:Nat)(count:Int)(pc:Nat):∀ i r,(vW f n regs count pc i).bz r=false
 | 0,_=>rfl
 | i+1,r=>zQu f regs _ i (zHa f n regs count pc i) r
theorem zIv{Mem:Type}(S:Sm Mem)(O:zDu S){n:Nat}{f:Nat→zL}(hB:uX n f)(hW:∀ v,v < n→WOk (f v))(hgv:Given n f)(regs:Nat)(count:Int)(pc:Nat)(h3:3≤regs)(h16:regs≤16)(v:Nat→Nat)(c:Nat→Nat)(m:Mem) :
  ∀ i,i≤n→∀ t,zFw S f i ⟨v,c,m⟩=some t→∃ h:HS Mem,uF S (zAY f n regs count pc i) ⟨fun _=>none,fun _=>none,c,m⟩=.go h∧h.c=t.c∧h.m=t.m∧Inv f regs i (vW f n regs count pc i) t.v h.R h.Sp h.c
 | 0,_,t,ht=>by
  cases ht
  exact⟨_,rfl,rfl,rfl,⟨fun r _ b=>(by cases b),fun r r' _ _ b=>(by cases b),fun q b=>(by cases b),fun q a=>absurd a aO,fun q a=>absurd a aO,fun r _ b=>(by cases b)⟩⟩
 | i+1,hi,t,ht=>by
  unfold zFw at ht
  cases hb:zFw S f i ⟨v,c,m⟩ with
  | none=>rw[hb] at ht;cases ht
  | some t0=>
   rw[hb] at ht
   obtain⟨h,e0,ec,em,I⟩:=zIv S O hB hW hgv regs count pc h3 h16 v c m i aO t0 hb
   obtain⟨v0,c0,m0⟩:=t0
   have ec:h.c=c0:=ec
   have em:h.m=m0:=em
   subst ec em
   rcases zKD S O hB hW hgv regs count pc i aO h3 h16 v0 h (zHa f n regs count pc i) I with ⟨s,h1,b1,b2,b3,b4,b5⟩|⟨s,e,h1,b1,-⟩
   ·simp only[b1] at ht
    cases ht
    refine⟨h1,?_,b3,b4,b5⟩
    show uF S (zAY f n regs count pc i++_) _=_
    rw[zCb S _ _ _ h e0];exact b2
   ·simp only[b1] at ht
    cases ht
theorem zMp{Mem:Type}(S:Sm Mem)(O:zDu S){n:Nat}{f:Nat→zL}(hB:uX n f)(hW:∀ v,v < n→WOk (f v))(hgv:Given n f)(regs:Nat)(count:Int)(pc:Nat)(h3:3≤regs)(h16:regs≤16)(v:Nat→Nat)(c:Nat→Nat)(m:Mem)(i:Nat)(hi:i < n)(t t':BS Mem)(e:Ex)(ht:zFw S f i ⟨v,c,m⟩=some t)(he:uE S (f i) i t=(t',some e)) :
  ∃ h:HS Mem,uF S (zAY f n regs count pc n) ⟨fun _=>none,fun _=>none,c,m⟩=.out e h∧h.c=t'.c∧h.m=t'.m:=by
 obtain⟨h,e0,ec,em,I⟩:=zIv S O hB hW hgv regs count pc h3 h16 v c m i aO t ht
 obtain⟨v0,c0,m0⟩:=t
 have ec:h.c=c0:=ec
 have em:h.m=m0:=em
 subst ec em
 rcases zKD S O hB hW hgv regs count pc i hi h3 h16 v0 h (zHa f n regs count pc i) I with ⟨s,h1,b1,-⟩|⟨s,e',h1,b1,b2,b3,b4⟩
 ·rw[b1] at he;cases he
 ·rw[b1] at he
  cases he
  have hi1:uF S (zAY f n regs count pc (i+1)) ⟨fun _=>none,fun _=>none,h.c,h.m⟩=.out e h1→True:=fun _=>trivial
  have h2:uF S (zAY f n regs count pc (i+1)) ⟨fun _=>none,fun _=>none,c,m⟩=.out e h1:=by
   show uF S (zAY f n regs count pc i++_) _=_
   rw[zCb S _ _ _ h e0];exact b2
  refine⟨h1,?_,b3,b4⟩
  have hk:∀ k,i+1+k≤n→uF S (zAY f n regs count pc (i+1+k)) ⟨fun _=>none,fun _=>none,c,m⟩=.out e h1:=by
   intro k
   induction k with
   | zero=>intro _;exact h2
   | succ k ih=>
    intro hk
    show uF S (zAY f n regs count pc (i+1+k)++_) _=_
    exact zGr S _ _ _ h1 e (ih aO)
  have:=hk (n - (i+1)) aO
  rw[show i+1+(n - (i+1))=n by omega] at this
  exact this
end Go.Proofs.Ytkmjenjahbicpaa.Ho
