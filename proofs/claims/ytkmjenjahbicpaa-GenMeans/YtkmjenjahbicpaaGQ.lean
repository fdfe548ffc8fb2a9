import Derived.Test.YtkmjenjahbicpaaGT
set_option linter.unusedVariables false
set_option linter.unusedSimpArgs false
namespace Go.Proofs.Ytkmjenjahbicpaa.Ho
open Go.RowKit
set_option maxRecDepth 100000
theorem zEJ{ws:Nat→Nat}{len a:Nat}(h:(yB ws len a).e=0):∃ k,hit ((ws a%256:Nat):Int)=some k∧a+vR (zH k).has≤len∧dcE (zH k) (ws a) (rdX (zH k).has (ws a) (if 1 < vR (zH k).has then ws (a+1) else 0) (if 2 < vR (zH k).has then ws (a+2) else 0))=0∧(yB ws len a).x=rdX (zH k).has (ws a) (if 1 < vR (zH k).has then ws (a+1) else 0) (if 2 < vR (zH k).has then ws (a+2) else 0)∧(yB ws len a).n=vR (zH k).has:=by
 by_cases h1:(a:Int) < 0∨(len:Int) < a
 ·unfold yB at h;rw[if_pos h1] at h;exact absurd h aD
 by_cases h2:(a:Int)=len
 ·unfold yB at h;rw[if_neg h1,if_pos h2] at h;exact absurd h aD
 cases hk:hit ((ws a%256:Nat):Int) with
 | none=>
  unfold yB at h;rw[if_neg h1,if_neg h2] at h;simp only[Int.toNat_natCast,hk] at h
  exact absurd h aD
 | some k=>
  by_cases h3:(len:Int) < a+vR (zH k).has
  ·unfold yB at h;rw[if_neg h1,if_neg h2] at h;simp only[Int.toNat_natCast,hk] at h
   rw[if_pos h3] at h;exact absurd h aD
  ·have hd:yB ws len a=if dcE (zH k) (ws a) (rdX (zH k).has (ws a) (if 1 < vR (zH k).has then ws (a+1) else 0) (if 2 < vR (zH k).has then ws (a+2) else 0))=0 then⟨0,rdX (zH k).has (ws a) (if 1 < vR (zH k).has then ws (a+1) else 0) (if 2 < vR (zH k).has then ws (a+2) else 0),zH k,vR (zH k).has⟩ else⟨3,zC,zF,0⟩:=by
    unfold yB;rw[if_neg h1,if_neg h2];simp only[Int.toNat_natCast,hk]
    rw[if_neg h3]
   by_cases h4:dcE (zH k) (ws a) (rdX (zH k).has (ws a) (if 1 < vR (zH k).has then ws (a+1) else 0) (if 2 < vR (zH k).has then ws (a+2) else 0))=0
   ·rw[if_pos h4] at hd
    exact⟨k,rfl,by omega,h4,by rw[hd],by rw[hd]⟩
   ·rw[if_neg h4] at hd;rw[hd] at h;exact absurd h aD
theorem zFd{ws ws2:Nat→Nat}{len len2 a b:Nat}(h:(yB ws len a).e=0)(hw:∀ i,i < (yB ws len a).n→ws2 (b+i)=ws (a+i))(hl:b+(yB ws len a).n≤len2) :
  (yB ws2 len2 b).e=0∧(yB ws2 len2 b).x=(yB ws len a).x∧(yB ws2 len2 b).n=(yB ws len a).n∧a+(yB ws len a).n≤len∧0 < (yB ws len a).n:=by
 obtain⟨k,hk,hle,hdc,hx,hn⟩:=zEJ h
 have hz:=zAd (zH k).has
 rw[hn] at hw hl ⊢
 have w0:ws2 b=ws a:=by have:=hw 0 aO;simpa using this
 have w1:(if 1 < vR (zH k).has then ws2 (b+1) else 0)=(if 1 < vR (zH k).has then ws (a+1) else 0):=by
  split
  ·exact hw 1 (by assumption)
  ·rfl
 have w2:(if 2 < vR (zH k).has then ws2 (b+2) else 0)=(if 2 < vR (zH k).has then ws (a+2) else 0):=by
  split
  ·exact hw 2 (by assumption)
  ·rfl
 have hd:yB ws2 len2 b=⟨0,rdX (zH k).has (ws a) (if 1 < vR (zH k).has then ws (a+1) else 0) (if 2 < vR (zH k).has then ws (a+2) else 0),zH k,vR (zH k).has⟩:=by
  unfold yB;rw[if_neg aO,if_neg aO];simp only[Int.toNat_natCast,w0,hk]
  rw[if_neg aO,w1,w2,if_pos hdc]
 rw[hd,hx]
 exact⟨rfl,rfl,rfl,hle,by omega⟩
theorem zQN(h:Int)(v k x:Nat):(rdX h v k x).op=((v%256:Nat):Int):=by
 unfold rdX zN
 simp
theorem zGo(x:Cd)(h:(vZ x).2≠[]):(yB (uP (vZ x).2) (vZ x).2.length 0).e=0∧(yB (uP (vZ x).2) (vZ x).2.length 0).x=x∧(yB (uP (vZ x).2) (vZ x).2.length 0).n=(vZ x).2.length:=by
 cases hk:hit x.op with
 | none=>exact absurd (by unfold vZ;rw[hk]) h
 | some k=>
  by_cases hc:(yB (uP (wsE (vR (zH k).has) (ly5 (zH k).has x) x.k x.x)) (vR (zH k).has) 0).e=0∧(yB (uP (wsE (vR (zH k).has) (ly5 (zH k).has x) x.k x.x)) (vR (zH k).has) 0).x=x
  ·have he:=zDj hk hc.1 hc.2
   rw[he]
   show(yB (uP (wsE (vR (zH k).has) (ly5 (zH k).has x) x.k x.x)) (wsE (vR (zH k).has) (ly5 (zH k).has x) x.k x.x).length 0).e=0∧_
   rw[zBU]
   refine⟨hc.1,hc.2,?_⟩
   obtain⟨k',hk',hle,hdc,hx,hn⟩:=zEJ (a:=0) hc.1
   have e0:((0:Nat):Int)=0:=rfl
   rw[e0] at hx hn
   have ho:x.op=((uP (wsE (vR (zH k).has) (ly5 (zH k).has x) x.k x.x) 0%256:Nat):Int):=by
    rw[← zQN (zH k').has _ _ _,← hx,hc.2]
   rw[← ho,hk] at hk'
   cases hk'
   exact hn
  ·exact absurd (by rw[zFP hk hc]) h
theorem zM7{x:Cd}{k:Nat}(hk:hit x.op=some k):(vZ x).2.length≤vR (zH k).has:=by
 unfold vZ;rw[hk]
 show(if _ then _ else _:Int × List Nat).2.length≤_
 split
 ·show(wsE _ _ _ _).length≤_;rw[zBU];exact Nat.le_refl _
 ·exact Nat.zero_le _
def dOf(x:Cd):Int:=if x.op=12∨x.op=13 then 0 else x.d
structure zOG(regs:Nat)(x:Cd):Prop where
 o1:x.op≠1
 o15:x.op≠15
 o96:x.op≠96
 d:dOf x < regs
 a:x.a < regs
 b:x.b < regs
 c:x.c < regs
 wk:x.k < 4294967296
 wx:x.x < 4294967296
inductive Pc(regs:Nat):List Nat→Prop
 | nil:Pc regs []
 | app (l:List Nat) (x:Cd):Pc regs l→zOG regs x→Pc regs (l++(vZ x).2)
theorem zIW(x:Cd)(hk:x.k < 4294967296)(hx:x.x < 4294967296):∀ y∈(vZ x).2,y < 4294967296:=by
 unfold vZ
 split
 ·intro y hy;cases hy
 ·rename_i k _
  split
  ·intro y hy
   have h5:=zFG (zH k).has x
   have hy:y∈([ly5 (zH k).has x,x.k,x.x]:List Nat):=List.mem_of_mem_take hy
   simp only[List.mem_cons,List.not_mem_nil,or_false] at hy
   rcases hy with rfl|rfl|rfl
   ·exact h5
   ·exact hk
   ·exact hx
  ·intro y hy;cases hy
theorem Pc.small{regs:Nat}{l:List Nat}(h:Pc regs l):∀ y∈l,y < 4294967296:=by
 induction h with
 | nil=>intro y hy;cases hy
 | app l x _ hx ih=>
  intro y hy
  rcases List.mem_append.1 hy with h|h
  ·exact ih y h
  ·exact zIW x hx.wk hx.wx y h
theorem zOI(o:zL):(yF o).x < 4294967296:=by
 show(if o.kind=14 then(o.b%4294967296).toNat else 0) < 4294967296
 split<;>omega
theorem Pc.append{regs:Nat}{a b:List Nat}(ha:Pc regs a)(hb:Pc regs b):Pc regs (a++b):=by
 induction hb with
 | nil=>simpa using ha
 | app l x _ hx ih=>rw[← List.append_assoc];exact Pc.app _ x ih hx
theorem zGI(l p:List Nat)(i:Nat)(h:i < l.length):uP (l++p) i=uP l i:=by
 unfold uP;simp only[List.getD_eq_getElem?_getD,List.getElem?_append_left h]
theorem zJ6(l p:List Nat)(i:Nat):uP (l++p) (l.length+i)=uP p i:=by
 unfold uP;simp only[List.getD_eq_getElem?_getD]
 rw[List.getElem?_append_right aO]
 congr 2;omega
def Ext(regs k:Nat)(l l':List Nat):Prop:=∃ r,l'=l++r∧Pc regs r∧r.length≤k
theorem Ext.refl(regs k:Nat)(l:List Nat):Ext regs k l l:=⟨[],by simp,Pc.nil,Nat.zero_le _⟩
theorem Ext.trans{regs k1 k2:Nat}{a b c:List Nat}(h:Ext regs k1 a b)(h':Ext regs k2 b c):Ext regs (k1+k2) a c:=by
 obtain⟨r,rfl,p1,l1⟩:=h
 obtain⟨r',rfl,p2,l2⟩:=h'
 exact⟨r++r',by rw[List.append_assoc],p1.append p2,by rw[List.length_append];omega⟩
theorem Ext.mono{regs k1 k2:Nat}{a b:List Nat}(h:Ext regs k1 a b)(hk:k1≤k2):Ext regs k2 a b:=by
 obtain⟨r,e,p,l⟩:=h
 exact⟨r,e,p,by omega⟩
theorem zD1{regs k:Nat}(g:G)(x:Cd)(hx:zOG regs x)(hk:(vZ x).2.length≤k):Ext regs k g.l (zBw g x).l:=
 ⟨(vZ x).2,rfl,by have:=Pc.app [] x Pc.nil hx;simpa using this,hk⟩
theorem sz9(x:Cd)(h:x.op=9):(vZ x).2.length≤1:=by
 have:=zM7 (x:=x) (k:=8) (by rw[h];decide)
 have e:vR (zH 8).has=1:=by decide
 omega
theorem zLa{regs:Nat}(g:G)(r:Nat)(hr:r < regs):Ext regs 1 g.l (zAp g r).l:=by
 unfold zAp
 split
 ·exact zD1 g (zCV g r) ⟨by show(9:Int)≠1;decide,by show(9:Int)≠15;decide,by show(9:Int)≠96;decide,by show dOf _ < _;unfold dOf;rw[if_neg (by show ¬((9:Int)=12∨(9:Int)=13);decide)];show(0:Int) < regs;omega,by show(r:Int) < regs;omega,by show(0:Int) < regs;omega,by show(0:Int) < regs;omega,Nat.zero_lt_succ _,Nat.zero_lt_succ _⟩ (sz9 _ rfl)
 ·exact Ext.refl _ _ _
theorem zGp{regs:Nat}(g:G)(h0:0 < regs):Ext regs 1 g.l (yO g regs).l:=by
 unfold yO
 split
 ·exact Ext.refl _ _ _
 ·exact zLa g _ (zAC g regs h0)
structure WOk(o:zL):Prop where
 ok:zDt o
 kb:o.k < 4294967296
 lo:(ru o.kind).lo≤o.w
 hi:o.w≤(ru o.kind).hi
theorem zHZ(o:zL)(h:WOk o):(yF o).op≠1∧(yF o).op≠15∧(yF o).op≠96∧(dOf (yF o)=0):=by
 obtain⟨⟨k1,k2,w0,w1,-⟩,-,lo,hi⟩:=h
 obtain⟨k,hk⟩:∃ k:Nat,o.kind=k:=⟨o.kind.toNat,by omega⟩
 have a1:1≤k:=aO
 have a2:k≤17:=aO
 unfold ru at lo hi
 unfold dOf yF
 rw[hk] at lo hi ⊢
 simp only[Int.toNat_natCast] at lo hi ⊢
 match k,a1,a2 with
 | 1,_,_=>
  simp[ruT,toT,uN] at lo hi ⊢
  try omega
 | 2,_,_=>
  simp[ruT,toT,uN] at lo hi ⊢
  try omega
 | 3,_,_=>
  simp[ruT,toT,uN] at lo hi ⊢
  try omega
 | 4,_,_=>
  simp[ruT,toT,uN] at lo hi ⊢
  try omega
 | 5,_,_=>
  simp[ruT,toT,uN] at lo hi ⊢
  try omega
 | 6,_,_=>
  simp[ruT,toT,uN] at lo hi ⊢
  try omega
 | 7,_,_=>
  simp[ruT,toT,uN] at lo hi ⊢
  try omega
 | 8,_,_=>
  simp[ruT,toT,uN] at lo hi ⊢
  try omega
 | 9,_,_=>
  simp[ruT,toT,uN] at lo hi ⊢
  try omega
 | 10,_,_=>
  simp[ruT,toT,uN] at lo hi ⊢
  try omega
 | 11,_,_=>
  simp[ruT,toT,uN] at lo hi ⊢
  try omega
 | 12,_,_=>
  simp[ruT,toT,uN] at lo hi ⊢
  try omega
 | 13,_,_=>
  simp[ruT,toT,uN] at lo hi ⊢
  try omega
 | 14,_,_=>
  simp[ruT,toT,uN] at lo hi ⊢
  try omega
 | 15,_,_=>
  simp[ruT,toT,uN] at lo hi ⊢
  try omega
 | 16,_,_=>
  simp[ruT,toT,uN] at lo hi ⊢
  try omega
 | 17,_,_=>
  simp[ruT,toT,uN] at lo hi ⊢
  try omega
 | n+18,_,h=>exact absurd h aO
theorem zIK(g:G)(regs v:Nat)(h0:0 < regs):zAg g regs v < regs:=by
 unfold zAg
 split
 ·rename_i r h;exact zEj g v regs regs 0 r aO h
 ·exact zAC g regs h0
theorem zIZ{regs:Nat}(f:Nat→zL)(g:G)(v:Nat)(h0:0 < regs)(hw:WOk (f v)):Ext regs 4 g.l (yG f g regs v).l:=by
 unfold yG
 split
 ·exact Ext.refl _ _ _
 ·have hr:=zAC g regs h0
  refine((zGp g h0).trans (k2:=3) ?_)
  show Ext regs 3 (yO g regs).l (zBw (yO g regs) (zAy f (yO g regs) v (yA g regs))).l
  refine zD1 _ _ ?_ (zDi _)
  unfold zAy
  split
  ·obtain⟨a,b,c,d⟩:=zHZ (f v) hw
   refine⟨a,b,c,?_,by show(0:Int) < regs;omega,by show(0:Int) < regs;omega,by show(0:Int) < regs;omega,hw.kb,zOI (f v)⟩
   unfold dOf
   split
   ·omega
   ·show((yA g regs:Nat):Int) < regs;omega
  ·refine⟨by show(8:Int)≠1;decide,by show(8:Int)≠15;decide,by show(8:Int)≠96;decide,?_,by show(0:Int) < regs;omega,by show(0:Int) < regs;omega,by show(0:Int) < regs;omega,Nat.zero_lt_succ _,Nat.zero_lt_succ _⟩
   unfold dOf
   split
   ·omega
   ·show((yA g regs:Nat):Int) < regs;omega
theorem zKl{regs:Nat}(f:Nat→zL)(i n:Nat)(g:G)(h0:0 < regs)(hw:∀ v,v < n→WOk (f v)):∀ j,(∀ q,q < j→zX (f i) q < n)→Ext regs (4*j) g.l (vV f regs i g j).l
 | 0,_=>Ext.refl _ _ _
 | j+1,hq=>((zKl f i n g h0 hw j (fun q e=>hq q aO)).trans (zIZ f (vV f regs i g j) (zX (f i) j) h0 (hw _ (hq j aO)))).mono aO
theorem tkρ_lt{regs:Nat}(f:Nat→zL)(i:Nat)(g:G)(h0:0 < regs):∀ j q,tkρ f regs i g j q < regs
 | 0,_=>h0
 | j+1,q=>by
  show upd (tkρ f regs i g j) j _ q < regs
  unfold upd
  split
  ·exact zIK _ regs _ h0
  ·exact tkρ_lt f i g h0 j q
theorem zCw(o:zL)(ρ:Nat→Nat):(yQ o ρ).op=(yF o).op:=by unfold yQ;split<;>rfl
theorem zHX(o:zL)(ρ:Nat→Nat)(hw:WOk o):(yQ o ρ).k < 4294967296:=by unfold yQ;split<;>exact hw.kb
theorem zHY(o:zL)(ρ:Nat→Nat):(yQ o ρ).x < 4294967296:=by unfold yQ;split<;>exact zOI o
theorem zN6{regs:Nat}(o:zL)(ρ:Nat→Nat)(h0:0 < regs)(hρ:∀ q,ρ q < regs):(yQ o ρ).a < regs∧(yQ o ρ).b < regs∧(yQ o ρ).c < regs:=by
 have h1:=hρ 0
 have h2:=hρ 1
 have h3:=hρ 2
 unfold yQ
 split
 ·exact⟨by show(ρ 0:Int) < regs;omega,by show(0:Int) < regs;omega,by show(ρ 2:Int) < regs;omega⟩
 ·exact⟨by show(ρ 0:Int) < regs;omega,by show(ρ 1:Int) < regs;omega,by show(ρ 2:Int) < regs;omega⟩
theorem zM8{regs:Nat}(i:Nat)(g:G)(o:zL)(ρ:Nat→Nat)(h0:0 < regs)(hρ:∀ q,ρ q < regs)(hw:WOk o):Ext regs 4 g.l (zBK regs i g (yQ o ρ)).l:=by
 obtain⟨a,b,c,d⟩:=zHZ o hw
 obtain⟨e1,e2,e3⟩:=zN6 o ρ h0 hρ
 have hr:=zAC g regs h0
 unfold zBK
 split
 ·refine((zGp g h0).trans (k2:=3) ?_)
  show Ext regs 3 (zBE g regs i).l (zBw (zBE g regs i) { yQ o ρ with d:=yA g regs }).l
  refine zD1 _ _ ⟨by show(yQ o ρ).op≠1;rw[zCw];exact a,by show(yQ o ρ).op≠15;rw[zCw];exact b,by show(yQ o ρ).op≠96;rw[zCw];exact c,?_,e1,e2,e3,by first|exact zHX o ρ hw|exact(zHX o ρ hw),by first|exact zHY o ρ|exact(zHY o ρ)⟩ (zDi _)
  unfold dOf
  split
  ·omega
  ·show((yA g regs:Nat):Int) < regs;omega
 ·refine(zD1 g (yQ o ρ) ⟨by rw[zCw];exact a,by rw[zCw];exact b,by rw[zCw];exact c,?_,e1,e2,e3,by first|exact zHX o ρ hw|exact(zHX o ρ hw),by first|exact zHY o ρ|exact(zHY o ρ)⟩ (zDi _)).mono aO
  have hx:=zCw o ρ
  unfold dOf at d ⊢
  rw[hx]
  split
  ·omega
  ·rename_i hn
   rw[if_neg hn] at d
   unfold yQ
   split
   ·show(ρ 1:Int) < regs;have:=hρ 1;omega
   ·show(yF o).d < regs;omega
theorem zPh{regs:Nat}(f:Nat→zL)(i n:Nat)(g:G)(h0:0 < regs)(hi:i < n)(hw:∀ v,v < n→WOk (f v))(t3:(g.P i).takes≤3)(tk:∀ q,q < (g.P i).takes→zX (f i) q < n):Ext regs 16 g.l (opG f regs g i).l:=by
 unfold opG
 split
 ·exact Ext.refl _ _ _
 ·have h1:=zKl f i n g h0 hw (g.P i).takes tk
  have h2:=zM8 i (zAo (vV f regs i g (g.P i).takes)) (f i) (tkρ f regs i g (g.P i).takes) h0 (tkρ_lt f i g h0 _) (hw i hi)
  have e:(zAo (vV f regs i g (g.P i).takes)).l=(vV f regs i g (g.P i).takes).l:=rfl
  rw[e] at h2
  exact(h1.trans h2).mono aO
theorem zIe(f:Nat→zL)(n regs:Nat)(count:Int)(pc:Nat)(hB:uX n f)(h0:0 < regs)(hw:∀ v,v < n→WOk (f v)):∀ i,i≤n→Ext regs (16*i) (vZ (vQ count pc)).2 (vW f n regs count pc i).l
 | 0,_=>by
  have e:(vW f n regs count pc 0).l=(vZ (vQ count pc)).2:=by show []++(vZ (vQ count pc)).2=_;rfl
  rw[e];exact Ext.refl _ _ _
 | i+1,hi=>by
  have ht:=(zAr f n regs count pc i i aO).1
  exact((zIe f n regs count pc hB h0 hw i aO).trans (zPh f i n (vW f n regs count pc i) h0 aO hw (by rw[ht];exact zE8 _) (fun q hq=>by rw[ht] at hq;have:=(hB.tk i aO q hq).2;omega))).mono aO
theorem zRl:∀ c:Fin 65,ly5 (zH 0).has ⟨1,0,0,0,0,(c.val:Int),0,0⟩=1+c.val*65536:=by decide
theorem zRm:∀ c:Fin 65,rdX (zH 0).has (1+c.val*65536) 0 0=⟨1,0,0,0,0,(c.val:Int),0,0⟩:=by
 intro c
 have h:∀ c:Fin 65,(rdX (zH 0).has (1+c.val*65536) 0 0).op=1∧(rdX (zH 0).has (1+c.val*65536) 0 0).d=0∧(rdX (zH 0).has (1+c.val*65536) 0 0).a=0∧(rdX (zH 0).has (1+c.val*65536) 0 0).b=0∧(rdX (zH 0).has (1+c.val*65536) 0 0).c=0∧(rdX (zH 0).has (1+c.val*65536) 0 0).n=(c.val:Int):=by decide
 obtain⟨a1,a2,a3,a4,a5,a6⟩:=h c
 exact uS _ _ a1 a2 a3 a4 a5 a6 rfl rfl
theorem zRj:∀ c:Fin 65,dcE (zH 0) (1+c.val*65536) ⟨1,0,0,0,0,(c.val:Int),0,0⟩=0:=by decide
theorem zRk:∀ c:Fin 65,hit (((1+c.val*65536)%256:Nat):Int)=some 0:=by decide
theorem zFf(count:Int)(pc:Nat)(h0:0≤count)(h1:count≤64):(vZ (vQ count pc)).2=[1+count.toNat*65536,pc]:=by
 obtain⟨c,hc⟩:∃ c:Fin 65,count=(c.val:Int):=⟨⟨count.toNat,by omega⟩,by show count=(count.toNat:Int);omega⟩
 subst hc
 have hk:hit (vQ (c.val:Int) pc).op=some 0:=by show hit 1=some 0;decide
 have hs:vR (zH 0).has=2:=by decide
 have hl:ly5 (zH 0).has (vQ (c.val:Int) pc)=1+c.val*65536:=zRl c
 have hw:wsE (vR (zH 0).has) (ly5 (zH 0).has (vQ (c.val:Int) pc)) (vQ (c.val:Int) pc).k (vQ (c.val:Int) pc).x=[1+c.val*65536,pc]:=by rw[hs,hl];rfl
 have hx:rdX (zH 0).has (1+c.val*65536) pc 0=vQ (c.val:Int) pc:=by
  have:=zRm c
  have e:rdX (zH 0).has (1+c.val*65536) pc 0={ rdX (zH 0).has (1+c.val*65536) 0 0 with k:=pc }:=rfl
  rw[e,this];rfl
 have hd:yB (uP [1+c.val*65536,pc]) 2 0=⟨0,vQ (c.val:Int) pc,zH 0,2⟩:=by
  unfold yB
  rw[if_neg aO,if_neg aO]
  have e0:uP [1+c.val*65536,pc] (0:Int).toNat=1+c.val*65536:=rfl
  have e1:uP [1+c.val*65536,pc] ((0:Int).toNat+1)=pc:=rfl
  simp only[e0,zRk c,hs,e1]
  rw[if_neg (show ¬(((2:Nat):Int) < 0+((2:Nat):Int)) by decide),if_pos (show 1 < 2 by decide),if_neg (show ¬2 < 2 by decide),hx]
  have hz:dcE (zH 0) (1+c.val*65536) (vQ (c.val:Int) pc)=0:=zRj c
  rw[if_pos hz]
 have:=zDj hk (by rw[hw,hs,hd]) (by rw[hw,hs,hd])
 rw[this,hw]
 show [1+c.val*65536,pc]=[1+((c.val:Int)).toNat*65536,pc]
 rfl
theorem zIY(count:Int)(pc:Nat)(h0:0≤count)(h1:count≤64)(r:List Nat):(yB (uP ([1+count.toNat*65536,pc]++r)) ([1+count.toNat*65536,pc]++r).length 0).e=0∧(yB (uP ([1+count.toNat*65536,pc]++r)) ([1+count.toNat*65536,pc]++r).length 0).x=vQ count pc∧(yB (uP ([1+count.toNat*65536,pc]++r)) ([1+count.toNat*65536,pc]++r).length 0).n=2:=by
 have he:=zFf count pc h0 h1
 obtain⟨a,b,c⟩:=zGo (vQ count pc) (by rw[he];simp)
 rw[he] at a b c
 have hm:=zFd (a:=0) (ws2:=uP ([1+count.toNat*65536,pc]++r)) (len2:=([1+count.toNat*65536,pc]++r).length) (b:=0) a (fun i hi=>by
  have e0:((0:Nat):Int)=0:=rfl
  rw[e0,c] at hi
  rw[Nat.zero_add];exact zGI _ r i hi) (by have e0:((0:Nat):Int)=0:=rfl;rw[e0,c,List.length_append];omega)
 have e0:((0:Nat):Int)=0:=rfl
 rw[e0] at hm
 exact⟨hm.1,hm.2.1.trans b,hm.2.2.1.trans c⟩
theorem zOa{w:World}{base:Nat}{sx:Value}{l:List Nat}(h2:2≤l.length)(hl:∀ y∈l,y < 4294967296)(hm:l.length≤140737488355328)(h:w.ownsRow base 22 1 sx l.length (wdL l)):∃ a c,sx=.slice a l.length c∧Wds w a l.length c (uP l):=by
 rcases h.2 with ⟨hv,h0⟩|⟨g',c',cur,hv,hb,hh,h1,h2',h3,h4⟩
 ·omega
 ·refine⟨_,_,hv,.inr ⟨g',0,rfl,h1,hm,fun i hi=>?_,fun i=>?_,zE hh⟩⟩
  ·rw[Nat.zero_add,zA hh]
   have h5:(wdL l)[i]?=some (.int .u32 (uP l i)):=by simp[wdL,uP,hi]
   rw[← h4,List.getElem?_take,if_pos aO] at h5
   simpa using h5
  ·unfold uP
   rw[List.getD_eq_getElem?_getD]
   rcases Nat.lt_or_ge i l.length with k|k
   ·rw[List.getElem?_eq_getElem k];exact hl _ (List.getElem_mem k)
   ·rw[List.getElem?_eq_none k];decide
theorem zDp(count:Int)(n:Nat)(f:Nat→zL):∀ m i,(zBX count n f m i).1=0→(∀ j,i≤j→j < i+m→uQ count n f j=0)∧(zFx n f).1=0
 | 0,i,h=>⟨fun j a b=>absurd b aO,h⟩
 | m+1,i,h=>by
  unfold zBX at h
  by_cases he:uQ count n f i=0
  ·rw[if_pos he] at h
   obtain⟨a,b⟩:=zDp count n f m (i+1) h
   refine⟨fun j hj hl=>?_,b⟩
   by_cases e:j=i
   ·subst e;exact he
   ·exact a j aO aO
  ·rw[if_neg he] at h;exact absurd h he
theorem zEM{count:Int}{n:Nat}{f:Nat→zL}{i:Nat}(h:uQ count n f i=0):eOp (f i)=false∧zG (flT (f i).kind.toNat) (f i) count=false∧zK (flT (f i).kind.toNat) (f i) f i=false:=by
 unfold uQ at h
 cases h1:eOp (f i) with
 | true=>rw[h1,if_pos rfl] at h;exact absurd h aD
 | false=>
  rw[h1,if_neg aD] at h
  cases h2:zG (flT (f i).kind.toNat) (f i) count with
  | true=>rw[h2,if_pos rfl] at h;exact absurd h aD
  | false=>
   rw[h2,if_neg aD] at h
   cases h3:zK (flT (f i).kind.toNat) (f i) f i with
   | true=>rw[h3,if_pos rfl] at h;exact absurd h aD
   | false=>exact⟨rfl,rfl,rfl⟩
theorem zQ7{o:zL}(h:eOp o=false)(hb:∀ count,zG (flT o.kind.toNat) o count=false→o.kind=14→0≤o.b∧o.b≤4294967295)(count:Int)(hf:zG (flT o.kind.toNat) o count=false)(hkb:o.k < 4294967296):WOk o:=by
 unfold eOp at h
 simp only[Bool.or_eq_false_iff,Bool.not_eq_eq_eq_not,Bool.not_false,decide_eq_false_iff_not] at h
 obtain⟨⟨h1,h2⟩,h3⟩:=h
 have hk:=(zCI _).1 h1
 obtain⟨a,b,-,-⟩:=zEa o.kind
 obtain⟨c,-,-,d⟩:=zSX o.kind
 exact⟨⟨hk.1,hk.2,by omega,by omega,fun e=>hb count hf e⟩,hkb,by omega,by omega⟩
theorem zO5(o:zL)(count:Int)(h:zG (flT o.kind.toNat) o count=false)(hk:o.kind=14):0≤o.b∧o.b≤4294967295:=by
 unfold zG at h
 simp only[Bool.or_eq_false_iff] at h
 obtain⟨⟨-,h⟩,-⟩:=h
 unfold bg at h
 rw[hk] at h
 simp[flT] at h
 omega
theorem zGZ(count bytes:Int)(n:Nat)(f:Nat→zL)(h:(yH count bytes n f).1=0)(hk:∀ v,v < n→(f v).k < 4294967296):uX n f∧(∀ v,v < n→WOk (f v))∧0≤count∧count≤64:=by
 unfold yH at h
 by_cases h1:2048 < n
 ·rw[if_pos h1] at h;exact absurd h aD
 rw[if_neg h1] at h
 by_cases h2:(0≤count∧count≤64)∧(0≤bytes∧bytes≤384)
 ·rw[if_pos h2] at h
  obtain⟨ha,he⟩:=zDp count n f n 0 h
  have hn:0 < n:=by
   rcases Nat.eq_zero_or_pos n with e|e
   ·subst e;unfold zFx at he;rw[if_pos (.inl rfl)] at he;exact absurd he aD
   ·exact e
  have hz:∀ v,v < n→eOp (f v)=false∧zG (flT (f v).kind.toNat) (f v) count=false∧zK (flT (f v).kind.toNat) (f v) f v=false:=fun v hv=>zEM (ha v aO aO)
  have hw:∀ v,v < n→WOk (f v):=fun v hv=>zQ7 (hz v hv).1 (fun c hc=>zO5 (f v) c hc) count (hz v hv).2.1 (hk v hv)
  refine⟨⟨hn,by omega,fun v hv=>⟨(hw v hv).ok,hk v hv⟩,fun i hi j hj=>?_,fun i hi hh=>?_⟩,hw,h2.1.1,h2.1.2⟩
  ·have hb:=(hz i hi).2.2
   have k1:=(hw i hi).ok.k1
   have k2:=(hw i hi).ok.k2
   have hr:=zH0 (f i).kind.toNat aO aO
   have e:ru (f i).kind=ruT (f i).kind.toNat:=rfl
   rw[e] at hj
   have ha':=hr.a
   have hb':=hr.b
   have hc':=hr.c
   have t3:=hr.t3
   unfold zK at hb
   simp only[Bool.or_eq_false_iff] at hb
   obtain⟨⟨q0,q1⟩,q2⟩:=hb
   have key:∀ (x:Bool) (a:Int),x=true→(x && !(gvn f i a))=false→a=((a.toNat:Nat):Int)∧a.toNat < i:=fun x a hx hg=>by
    rw[hx] at hg
    unfold gvn at hg
    simp only[Bool.true_and,Bool.not_eq_eq_eq_not,Bool.not_false,Bool.and_eq_true,decide_eq_true_eq] at hg
    omega
   rcases(by omega:j=0∨j=1∨j=2) with rfl|rfl|rfl
   ·exact key _ _ (by rw[← ha'];exact aT) q0
   ·exact key _ _ (by rw[← hb'];exact aT) q1
   ·exact key _ _ (by rw[← hc'];exact aT) q2
  ·have hh':=(hw i hi).hi
   have h0:=(hw i hi).ok.w0
   rcases hh with e|e
   ·rw[e] at hh';have:(ru 2).hi=11:=rfl;omega
   ·rw[e] at hh';have:(ru 3).hi=11:=rfl;omega
 ·rw[if_neg h2] at h;exact absurd h aD
def plS(f:Nat→zL)(n i:Nat):PS:=uZ f n (n - i)
theorem zOb(f:Nat→zL)(n:Nat):plS f n n=⟨fun _=>zC9,fun _=>0⟩:=by unfold plS;rw[Nat.sub_self];rfl
theorem zDm(f:Nat→zL)(n i:Nat)(hi:i < n):plS f n i=uR f (plS f n (i+1)) i:=by
 unfold plS
 have e1:n - i=(n - (i+1))+1:=aO
 have e2:n - 1 - (n - (i+1))=i:=aO
 rw[e1]
 show uR f (uZ f n (n - (i+1))) (n - 1 - (n - (i+1)))=_
 rw[e2]
def tkn(f:Nat→zL)(i:Nat):Nat:=(ru (f i).kind).takes.toNat
def lzy(f:Nat→zL)(n i:Nat):Bool:=zAj (f i) ((plS f n (i+1)).P i) (plS f n (i+1)).puts
def nx(f:Nat→zL)(n i q:Nat):Nat:=((plS f n i).P q).next
def la(f:Nat→zL)(n i q:Nat):Nat:=((plS f n i).P q).last
def pw(f:Nat→zL)(n i w:Nat):Nat:=(plS f n i).puts w
def asks(f:Nat→zL)(n i q:Nat):Prop:=lzy f n i=false∧∃ j,j < tkn f i∧zX (f i) j=q
theorem zCx(P:Nat→PL)(i:Nat)(o:zL)(q:Nat)(h:q≠i):∀ j,zAx P i o j q=P q
 | 0=>rfl
 | j+1=>by
  show upd (zAx P i o j) i _ q=_
  unfold upd;rw[if_neg h];exact zCx P i o q h j
theorem zH4(P:Nat→PL)(i:Nat)(o:zL):∀ j,(zAx P i o j i).next=(P i).next∧(zAx P i o j i).last=(P i).last
 | 0=>⟨rfl,rfl⟩
 | j+1=>by
  have ih:=zH4 P i o j
  have h:=zDr (zAx P i o j i) j (zAx P i o j (zX o j)).next
  show(upd (zAx P i o j) i _ i).next=_∧(upd (zAx P i o j) i _ i).last=_
  rw[yK]
  exact⟨h.2.2.2.1.trans ih.1,h.2.2.2.2.trans ih.2⟩
theorem zDa(P:Nat→PL)(i:Nat)(o:zL)(q:Nat):∀ j,(∀ t,t < j→zX o t≠q)→zBu P i o j q=P q
 | 0,_=>rfl
 | j+1,h=>by
  show upd (zBu P i o j) (zX o j) _ q=_
  unfold upd;rw[if_neg (fun e=>h j aO e.symm)];exact zDa P i o q j (fun t ht=>h t aO)
theorem zEh(P:Nat→PL)(i:Nat)(o:zL)(q:Nat)(hi:i≠0):∀ j,(∃ t,t < j∧zX o t=q)→(zBu P i o j q).next=i∧(zBu P i o j q).last=(if(P q).last=0 then i else(P q).last)
 | 0,h=>by obtain⟨t,ht,-⟩:=h;omega
 | j+1,h=>by
  show(upd (zBu P i o j) (zX o j) _ q).next=_∧(upd (zBu P i o j) (zX o j) _ q).last=_
  unfold upd
  by_cases e:q=zX o j
  ·rw[if_pos e,← e]
   refine⟨rfl,?_⟩
   show(if(zBu P i o j q).last=0 then i else(zBu P i o j q).last)=_
   by_cases h2:∃ t,t < j∧zX o t=q
   ·rw[(zEh P i o q hi j h2).2]
    by_cases h3:(P q).last=0
    ·rw[if_pos h3,if_neg hi]
    ·rw[if_neg h3,if_neg h3]
   ·rw[zDa P i o q j (fun t ht e=>h2 ⟨t,ht,e⟩)]
  ·rw[if_neg e]
   obtain⟨t,ht,et⟩:=h
   have:t≠j:=fun e2=>e (by rw[← et,e2])
   exact zEh P i o q hi j ⟨t,by omega,et⟩
theorem zE9{n:Nat}{f:Nat→zL}(hB:uX n f){i j:Nat}(hi:i < n)(hj:j < tkn f i):zX (f i) j < i:=(hB.tk i hi j hj).2
theorem zCL{n:Nat}{f:Nat→zL}(hB:uX n f)(i q:Nat)(hi:i < n)(hq:q < i):(asks f n i q→nx f n i q=i∧la f n i q=(if la f n (i+1) q=0 then i else la f n (i+1) q))∧(¬asks f n i q→nx f n i q=nx f n (i+1) q∧la f n i q=la f n (i+1) q):=by
 unfold nx la asks
 rw[zDm f n i hi]
 unfold uR
 have hne:q≠i:=aO
 have hu:upd (plS f n (i+1)).P i (vS f (plS f n (i+1)) i) q=(plS f n (i+1)).P q:=by unfold upd;rw[if_neg hne]
 by_cases hl:zAj (f i) ((plS f n (i+1)).P i) (plS f n (i+1)).puts=true
 ·simp only[if_pos hl,hu]
  exact⟨fun h=>absurd (show lzy f n i=true from hl) (by rw[h.1];decide),fun _=>by first|exact⟨rfl,rfl⟩|exact⟨trivial,trivial⟩⟩
 ·have ht:(ru (f i).kind).takes.toNat=tkn f i:=rfl
  simp only[if_neg hl,ht]
  unfold zCS
  refine⟨fun h=>?_,fun h=>?_⟩
  ·obtain⟨-,t,ht',et⟩:=h
   have h2:=zEh (zAx (upd (plS f n (i+1)).P i (vS f (plS f n (i+1)) i)) i (f i) (tkn f i)) i (f i) q aO (tkn f i) ⟨t,ht',et⟩
   rw[zCx _ i (f i) q hne,hu] at h2
   exact h2
  ·rw[zDa _ i (f i) q _ (fun t ht e=>h ⟨show zAj _ _ _=false by simpa using hl,t,ht,e⟩),zCx _ i (f i) q hne,hu]
   exact⟨rfl,rfl⟩
theorem zJG{n:Nat}{f:Nat→zL}(hB:uX n f)(i q:Nat)(hi:i < n)(hq:i < q):(plS f n i).P q=(plS f n (i+1)).P q:=by
 rw[zDm f n i hi]
 unfold uR
 have hne:q≠i:=aO
 have hu:upd (plS f n (i+1)).P i (vS f (plS f n (i+1)) i) q=(plS f n (i+1)).P q:=by unfold upd;rw[if_neg hne]
 by_cases hl:zAj (f i) ((plS f n (i+1)).P i) (plS f n (i+1)).puts=true
 ·simp only[if_pos hl,hu]
 ·have ht:(ru (f i).kind).takes.toNat=tkn f i:=rfl
  simp only[if_neg hl,ht]
  unfold zCS
  rw[zDa _ i (f i) q _ (fun t ht e=>by have:=zE9 hB hi ht;omega),zCx _ i (f i) q hne,hu]
theorem zEv{n:Nat}{f:Nat→zL}(hB:uX n f)(q:Nat)(hq:q < n):∀ i,i≤q→(plS f n i).P q=(plS f n q).P q:=by
 intro i
 induction h:q - i generalizing i with
 | zero=>intro hi;have:i=q:=aO;rw[this]
 | succ m ih=>
  intro hi
  rw[zJG hB i q aO aO]
  exact ih (i+1) aO aO
theorem zGg(P:Nat→PL)(i:Nat)(o:zL)(j:Nat):∀ t,j < t→t≤3→(∀ q,q < t→zX o q≠i)→aft (zAx P i o t i) j=(P (zX o j)).next
 | 0,h,_,_=>absurd h aO
 | t+1,h,h3,hne=>by
  show aft (upd (zAx P i o t) i _ i) j=_
  rw[yK]
  by_cases e:j=t
  ·subst e
   rw[zCx P i o (zX o j) (hne j aO) j]
   unfold zA1 aft
   rcases(by omega:j=0∨j=1∨j=2) with rfl|rfl|rfl<;>rfl
  ·have ih:=zGg P i o j t aO aO (fun q hq=>hne q aO)
   rw[← ih]
   unfold zA1 aft
   rcases(by omega:t=0∨t=1∨t=2) with rfl|rfl|rfl
   ·omega
   ·rcases(by omega:j=0) with rfl;rfl
   ·rcases(by omega:j=0∨j=1) with rfl|rfl<;>rfl
theorem zFW{n:Nat}{f:Nat→zL}(hB:uX n f)(i:Nat)(hi:i < n):((plS f n i).P i).lazy=lzy f n i∧((plS f n i).P i).next=nx f n (i+1) i∧(lzy f n i=false→∀ j,j < tkn f i→aft ((plS f n i).P i) j=nx f n (i+1) (zX (f i) j)):=by
 rw[zDm f n i hi]
 unfold uR
 have hu:upd (plS f n (i+1)).P i (vS f (plS f n (i+1)) i) i=vS f (plS f n (i+1)) i:=yK _ _ _
 by_cases hl:zAj (f i) ((plS f n (i+1)).P i) (plS f n (i+1)).puts=true
 ·simp only[if_pos hl,hu]
  exact⟨rfl,rfl,fun h=>absurd (show lzy f n i=true from hl) (by rw[h];decide)⟩
 ·have ht:(ru (f i).kind).takes.toNat=tkn f i:=rfl
  simp only[if_neg hl,ht]
  unfold zCS
  rw[zDa _ i (f i) i _ (fun t ht e=>by have:=zE9 hB hi ht;omega)]
  have h1:=zCe (upd (plS f n (i+1)).P i (vS f (plS f n (i+1)) i)) i (f i) i (tkn f i)
  have h2:=zH4 (upd (plS f n (i+1)).P i (vS f (plS f n (i+1)) i)) i (f i) (tkn f i)
  rw[hu] at h1 h2
  refine⟨h1.2.2,h2.1,fun _ j hj=>?_⟩
  rw[zGg _ i (f i) j _ hj (zE8 _) (fun q hq=>by have:=zE9 hB hi hq;omega)]
  have:zX (f i) j≠i:=by have:=zE9 hB hi hj;omega
  unfold upd;rw[if_neg this];rfl
theorem zOe(f:Nat→zL)(n i w:Nat)(hi:i < n):pw f n i w=if(f i).kind=3∧(f i).w.toNat=w then i else pw f n (i+1) w:=by
 unfold pw
 rw[zDm f n i hi]
 unfold uR
 show(if(f i).kind=3 then upd (plS f n (i+1)).puts (f i).w.toNat i else(plS f n (i+1)).puts) w=_
 by_cases h:(f i).kind=3
 ·rw[if_pos h]
  unfold upd
  by_cases e:w=(f i).w.toNat
  ·rw[if_pos e,if_pos ⟨h,e.symm⟩]
  ·rw[if_neg e,if_neg (fun k=>e k.2.symm)]
 ·rw[if_neg h,if_neg (fun k=>h k.1)]
theorem zG7(f:Nat→zL)(n q:Nat):nx f n n q=0∧la f n n q=0:=by unfold nx la;rw[zOb];exact⟨rfl,rfl⟩
theorem zOV{n:Nat}{f:Nat→zL}(hB:uX n f)(q:Nat):∀ i,q < i→i≤n→(nx f n i q≠0→i≤nx f n i q∧nx f n i q≤la f n i q)∧(nx f n i q=0→la f n i q=0):=by
 intro i
 induction h:n - i generalizing i with
 | zero=>
  intro hq hi
  have:i=n:=aO
  rw[this]
  exact⟨fun h=>absurd (zG7 f n q).1 h,fun _=>(zG7 f n q).2⟩
 | succ m ih=>
  intro hq hi
  obtain⟨a,b⟩:=zCL hB i q aO hq
  obtain⟨c,d⟩:=ih (i+1) aO aO aO
  by_cases hk:asks f n i q
  ·obtain⟨e1,e2⟩:=a hk
   rw[e1,e2]
   refine⟨fun _=>⟨Nat.le_refl _,?_⟩,fun h=>by omega⟩
   by_cases hz:la f n (i+1) q=0
   ·rw[if_pos hz];exact Nat.le_refl _
   ·rw[if_neg hz]
    have:nx f n (i+1) q≠0:=fun e=>hz (d e)
    have:=c this
    omega
  ·obtain⟨e1,e2⟩:=b hk
   rw[e1,e2]
   exact⟨fun h=>by have:=c h;omega,d⟩
theorem zNP{n:Nat}{f:Nat→zL}(hB:uX n f)(q:Nat):∀ i,q < i→i≤n→∀ j,i≤j→j≤n→la f n j q≤la f n i q:=by
 intro i
 induction h:n - i generalizing i with
 | zero=>intro hq hi j h1 h2;have:j=i:=aO;rw[this];exact Nat.le_refl _
 | succ m ih=>
  intro hq hi j h1 h2
  by_cases e:j=i
  ·rw[e];exact Nat.le_refl _
  ·have h3:=ih (i+1) aO aO aO j aO h2
   obtain⟨a,b⟩:=zCL hB i q aO hq
   by_cases hk:asks f n i q
   ·rw[(a hk).2]
    by_cases hz:la f n (i+1) q=0
    ·rw[hz] at h3;omega
    ·rw[if_neg hz];exact h3
   ·rw[(b hk).2];exact h3
theorem zSC(f:Nat→zL)(n w:Nat):∀ i,0 < i→i≤n→∀ p,i≤p→p < n→(f p).kind=3→(f p).w.toNat=w→pw f n i w≠0∧pw f n i w≤p:=by
 intro i
 induction h:n - i generalizing i with
 | zero=>intro h0 hi p h1 h2;omega
 | succ m ih=>
  intro h0 hi p h1 h2 h3 h4
  rw[zOe f n i w aO]
  by_cases hk:(f i).kind=3∧(f i).w.toNat=w
  ·rw[if_pos hk];exact⟨by omega,h1⟩
  ·rw[if_neg hk]
   have:p≠i:=fun e=>hk ⟨by rw[← e];exact h3,by rw[← e];exact h4⟩
   exact ih (i+1) aO aO aO p aO h2 h3 h4
theorem zEC(f:Nat→zL)(regs i:Nat)(g:G)(q:Nat)(x:Nat→Nat)(ha:∀ j,j < 3→aft (g.P i) j=x j)(hne:∀ j,j < 3→zX (f i) j≠i∨True):∀ j,j≤3→((∀ t,t < j→zX (f i) t≠q)→((vV f regs i g j).P q).next=(g.P q).next)∧(∀ t,t < j→zX (f i) t=q→(∀ t',t < t'→t' < j→zX (f i) t'≠q)→((vV f regs i g j).P q).next=aft ((vV f regs i g t).P i) t)
 | 0,_=>⟨fun _=>rfl,fun t h=>absurd h aO⟩
 | j+1,h3=>by
  obtain⟨a,b⟩:=zEC f regs i g q x ha hne j aO
  have e:((vV f regs i g (j+1)).P q).next=if q=zX (f i) j then aft ((yG f (vV f regs i g j) regs (zX (f i) j)).P i) j else((yG f (vV f regs i g j) regs (zX (f i) j)).P q).next:=by
   show(upd (yG f (vV f regs i g j) regs (zX (f i) j)).P (zX (f i) j) _ q).next=_
   unfold upd
   split<;>rfl
  rw[e,zDh]
  refine⟨fun h=>?_,fun t ht et hl=>?_⟩
  ·rw[if_neg (fun e=>h j aO e.symm)];exact a (fun t ht=>h t aO)
  ·by_cases e2:t=j
   ·subst e2;rw[if_pos et.symm]
   ·rw[if_neg (fun e=>hl j aO aO e.symm)]
    exact b t aO et (fun t' h1 h2=>hl t' h1 aO)
theorem zDg{p q:PL}(h:zBq p q)(j:Nat):aft p j=aft q j:=by
 obtain⟨-,-,-,h0,h1,h2,-⟩:=h
 unfold aft
 split
 ·exact h0
 ·exact h1
 ·exact h2
theorem zEr(p:Nat→Nat)(q:Nat):∀ j,(∃ t,t < j∧p t=q)→∃ t,t < j∧p t=q∧∀ t',t < t'→t' < j→p t'≠q
 | 0,h=>by obtain⟨t,h,-⟩:=h;omega
 | j+1,h=>by
  by_cases e:p j=q
  ·exact⟨j,by omega,e,fun t' h1 h2=>by omega⟩
  ·obtain⟨t,ht,et⟩:=h
   have:t≠j:=fun e2=>e (e2▸et)
   obtain⟨t2,h1,h2,h3⟩:=zEr p q j ⟨t,by omega,et⟩
   refine⟨t2,by omega,h2,fun t' h4 h5=>?_⟩
   by_cases e3:t'=j
   ·rw[e3];exact e
   ·exact h3 t' h4 aO
theorem zDo{n:Nat}{f:Nat→zL}(hB:uX n f)(regs:Nat)(count:Int)(pc i q:Nat)(hq:q < n):((vW f n regs count pc i).P q).lazy=lzy f n q:=by
 rw[(zFM f n regs count pc q i).2.2.1]
 have e:uZ f n n=plS f n 0:=rfl
 rw[e,zEv hB q hq 0 (Nat.zero_le _),(zFW hB q hq).1]
theorem zIu{n:Nat}{f:Nat→zL}(hB:uX n f)(regs:Nat)(count:Int)(pc i k:Nat)(hk:k < n)(hl:lzy f n k=false)(j:Nat)(hj:j < tkn f k):aft ((vW f n regs count pc i).P k) j=nx f n (k+1) (zX (f k) j):=by
 rw[zDg (zFM f n regs count pc k i) j]
 have e:uZ f n n=plS f n 0:=rfl
 rw[e,zEv hB k hk 0 (Nat.zero_le _)]
 exact(zFW hB k hk).2.2 hl j hj
theorem zIX(regs i:Nat)(g:G)(X:Cd)(q:Nat):((zBK regs i g X).P q).next=(g.P q).next:=by rw[zKk]
theorem zEA{n:Nat}{f:Nat→zL}(hB:uX n f)(regs:Nat)(count:Int)(pc:Nat):∀ i,i≤n→∀ q,q < n→((vW f n regs count pc i).P q).next=if q < i then nx f n i q else nx f n (q+1) q
 | 0,_,q,hq=>by
  rw[if_neg aO]
  have e:(vW f n regs count pc 0).P=(plS f n 0).P:=rfl
  rw[e,zEv hB q hq 0 (Nat.zero_le _),(zFW hB q hq).2.1]
 | i+1,hi,q,hq=>by
  have ih:=zEA hB regs count pc i aO
  have hz:=zDo hB regs count pc i i aO
  have ht:=(zAr f n regs count pc i i aO).1
  show((opG f regs (vW f n regs count pc i) i).P q).next=_
  unfold opG
  by_cases hl:lzy f n i=true
  ·rw[if_pos (by rw[hz];exact hl),ih q hq]
   by_cases h1:q < i
   ·rw[if_pos h1,if_pos aO]
    exact((zCL hB i q aO h1).2 (fun h=>by rw[h.1] at hl;cases hl)).1
   ·rw[if_neg h1]
    by_cases h2:q=i
    ·rw[if_pos aO,h2]
    ·rw[if_neg aO]
  ·have hl':lzy f n i=false:=by simpa using hl
   rw[if_neg (by rw[hz];exact hl),zIX,zEe]
   have key:=zEC f regs i (vW f n regs count pc i) q (fun j=>aft ((vW f n regs count pc i).P i) j) (fun _ _=>rfl) (fun _ _=>.inr trivial) ((vW f n regs count pc i).P i).takes (by rw[ht];exact zE8 _)
   by_cases hk:∃ t,t < tkn f i∧zX (f i) t=q
   ·have hqi:q < i:=by obtain⟨t,h1,h2⟩:=hk;have:=zE9 hB aO h1;omega
    rw[if_pos aO]
    have hk':∃ t,t < ((vW f n regs count pc i).P i).takes∧zX (f i) t=q:=by rw[ht];exact hk
    obtain⟨t,h1,h2,h3⟩:=zEr (zX (f i)) q _ hk'
    rw[key.2 t h1 h2 h3,zDg (zCW f regs i (vW f n regs count pc i) i t) t]
    rw[ht] at h1
    rw[zIu hB regs count pc i i aO hl' t h1,h2]
   ·rw[key.1 (fun t h1 h2=>hk ⟨t,by rw[ht] at h1;exact h1,h2⟩),ih q hq]
    by_cases h1:q < i
    ·rw[if_pos h1,if_pos aO]
     exact((zCL hB i q aO h1).2 (fun h=>hk h.2)).1
    ·rw[if_neg h1]
     by_cases h2:q=i
     ·rw[if_pos aO,h2]
     ·rw[if_neg aO]
theorem zJZ{n:Nat}{f:Nat→zL}(hB:uX n f)(q p:Nat)(hq:q < p)(hp:p < n)(hk:(f q).kind=2)(hl:lzy f n q=true)(hput:(f p).kind=3)(hw:(f p).w.toNat=(f q).w.toNat):nx f n (p+1) q=0:=by
 have hh:zAj (f q) ((plS f n (q+1)).P q) (plS f n (q+1)).puts=true:=hl
 unfold zAj stB at hh
 rw[hk,if_neg aD,if_pos rfl] at hh
 simp only[Bool.and_eq_true,Bool.or_eq_true,beq_iff_eq,decide_eq_true_eq] at hh
 have hp2:=zSC f n (f q).w.toNat (q+1) aO aO p aO hp hput hw
 have hge:=zOV hB q (p+1) aO aO
 have hla:=zNP hB q (q+1) aO aO (p+1) aO aO
 by_cases hz:nx f n (p+1) q=0
 ·exact hz
 ·exfalso
  have h1:=hge.1 hz
  have hx:nx f n (q+1) q≠0:=fun e=>by
   have h2:=(zOV hB q (q+1) aO aO).2 e
   omega
  rcases hh.2 with h|h|h
  ·exact hx h
  ·exact hp2.1 h
  ·have:la f n (q+1) q≤pw f n (q+1) (f q).w.toNat:=h
   omega
theorem zJw{n:Nat}{f:Nat→zL}(q:Nat)(hl:lzy f n q=true)(hx:nx f n (q+1) q≠0):(f q).kind=1∨(f q).kind=2:=by
 have hh:zAj (f q) ((plS f n (q+1)).P q) (plS f n (q+1)).puts=true:=hl
 unfold zAj stB at hh
 simp only[Bool.and_eq_true,Bool.or_eq_true,beq_iff_eq] at hh
 rcases hh.2 with h|h
 ·exact absurd h hx
 ·by_cases h1:(f q).kind=1
  ·exact .inl h1
  ·rw[if_neg h1] at h
   by_cases h2:(f q).kind=2
   ·exact .inr h2
   ·rw[if_neg h2] at h;cases h
structure Sm(Mem:Type) where
 val:Int→Int→Nat→Nat→Nat→Nat
 now:(Nat→Nat)→Nat
 load:Mem→Int→Nat→Nat × Int × Nat
 store:Mem→Int→Nat→Nat→Mem × Int × Nat
 tch:Mem→Bool
structure zDu{Mem:Type}(S:Sm Mem):Prop where
 v1:∀ w a b c,S.val 5 w a b c=S.val 5 w a 0 0
 v2:∀ w a b c,S.val 8 w a b c=S.val 8 w a 0 0
 v3:∀ w a b c,S.val 4 w a b c=S.val 4 w a b 0
 v6:∀ w a b c,S.val 6 w a b c=S.val 6 0 a b c
structure Ex where
 kind:Int
 sk:Int
 arg:Nat
 pc:Nat
 n:Int
structure BS(Mem:Type) where
 v:Nat→Nat
 c:Nat→Nat
 m:Mem
def uE{Mem:Type}(S:Sm Mem)(o:zL)(i:Nat)(s:BS Mem):BS Mem × Option Ex:=
 match o.kind.toNat with
 | 1=>({ s with v:=upd s.v i o.k },none)
 | 2=>({ s with v:=upd s.v i (s.c o.w.toNat) },none)
 | 3=>({ s with c:=upd s.c o.w.toNat (s.v (zX o 0)) },none)
 | 9=>if(S.load s.m o.w (s.v (zX o 0))).2.1=0 then({ s with v:=upd s.v i (S.load s.m o.w (s.v (zX o 0))).1 },none) else(s,some ⟨2,(S.load s.m o.w (s.v (zX o 0))).2.1,(S.load s.m o.w (s.v (zX o 0))).2.2,o.k,o.n⟩)
 | 10=>({ s with m:=(S.store s.m o.w (s.v (zX o 0)) (s.v (zX o 1))).1 },if(S.store s.m o.w (s.v (zX o 0)) (s.v (zX o 1))).2.1=0 then none else some ⟨2,(S.store s.m o.w (s.v (zX o 0)) (s.v (zX o 1))).2.1,(S.store s.m o.w (s.v (zX o 0)) (s.v (zX o 1))).2.2,o.k,o.n⟩)
 | 11=>(s,if S.tch s.m=true then some ⟨1,0,0,o.k,o.n⟩ else none)
 | 12=>(s,if s.v (zX o 0)≠0 then some ⟨1,0,0,o.k,o.n⟩ else none)
 | 13=>(s,if s.v (zX o 0)≠0 then some ⟨2,o.w,0,o.k,o.n⟩ else none)
 | 14=>(s,some ⟨2,o.w,(o.b%4294967296).toNat,o.k,o.n⟩)
 | 15=>(s,some ⟨1,0,0,o.k,o.n⟩)
 | 16=>(s,some ⟨3,0,0,s.v (zX o 0),o.n⟩)
 | 17=>({ s with v:=upd s.v i (S.now s.c) },none)
 | k=>({ s with v:=upd s.v i (S.val k o.w (s.v (zX o 0)) (s.v (zX o 1)) (s.v (zX o 2))) },none)
structure HS(Mem:Type) where
 R:Nat→Option Nat
 Sp:Nat→Option Nat
 c:Nat→Nat
 m:Mem
inductive HR(Mem:Type)
 | go (h:HS Mem)
 | out (e:Ex) (h:HS Mem)
 | stuck
def HS.set{Mem:Type}(h:HS Mem)(d:Int)(u:Nat):HS Mem:={ h with R:=upd h.R d.toNat (some u) }
def HS.get{Mem:Type}(h:HS Mem)(a:Int):Option Nat:=h.R a.toNat
def yD{Mem:Type}(S:Sm Mem)(x:Cd)(h:HS Mem):HR Mem:=
 if x.op=2 then .go (h.set x.d x.k)
 else if x.op=6 then .go (h.set x.d (h.c x.n.toNat))
 else if x.op=7 then(match h.get x.a with|none=>.stuck|some u=>.go { h with c:=upd h.c x.n.toNat u })
 else if x.op=8 then(match h.Sp x.n.toNat with|none=>.stuck|some u=>.go (h.set x.d u))
 else if x.op=9 then(match h.get x.a with|none=>.stuck|some u=>.go { h with Sp:=upd h.Sp x.n.toNat (some u) })
 else if x.op=97 then .go (h.set x.d (S.now h.c))
 else if x.op=10 then(if S.tch h.m=true then .out ⟨1,0,0,x.k,x.n⟩ h else .go h)
 else if x.op=11 then(match h.get x.a with|none=>.stuck|some u=>if u≠0 then .out ⟨1,0,0,x.k,x.n⟩ h else .go h)
 else if x.op=12 then .out ⟨2,x.d,x.x,x.k,x.n⟩ h
 else if x.op=13 then(match h.get x.a with|none=>.stuck|some u=>if u≠0 then .out ⟨2,x.d,x.x,x.k,x.n⟩ h else .go h)
 else if x.op=14 then .out ⟨1,0,0,x.k,x.n⟩ h
 else if x.op=4 then(match h.get x.a with|none=>.stuck|some u=>.out ⟨3,0,0,u,x.n⟩ h)
 else if x.op=5 then(match h.get x.a,h.get x.b,h.get x.c with|some a,some b,some c=>.go (h.set x.d (S.val 6 0 a b c))|_,_,_=>.stuck)
 else if 88≤x.op then(match h.get x.a,h.get x.d with|some a,some b=>if(S.store h.m (x.op - 88) a b).2.1=0 then .go { h with m:=(S.store h.m (x.op - 88) a b).1 } else .out ⟨2,(S.store h.m (x.op - 88) a b).2.1,(S.store h.m (x.op - 88) a b).2.2,x.k,x.n⟩ { h with m:=(S.store h.m (x.op - 88) a b).1 }|_,_=>.stuck)
 else if 80≤x.op then(match h.get x.a with|some a=>if(S.load h.m (x.op - 80) a).2.1=0 then .go (h.set x.d (S.load h.m (x.op - 80) a).1) else .out ⟨2,(S.load h.m (x.op - 80) a).2.1,(S.load h.m (x.op - 80) a).2.2,x.k,x.n⟩ h|none=>.stuck)
 else if 64≤x.op then(match h.get x.a with|some a=>.go (h.set x.d (S.val 8 (x.op - 64) a 0 0))|none=>.stuck)
 else if 48≤x.op then(match h.get x.a,h.get x.b,h.get x.c with|some a,some b,some c=>.go (h.set x.d (S.val 7 (x.op - 48) a b c))|_,_,_=>.stuck)
 else if 32≤x.op then(match h.get x.a with|some a=>.go (h.set x.d (S.val 5 (x.op - 32) a 0 0))|none=>.stuck)
 else if 16≤x.op then(match h.get x.a,h.get x.b with|some a,some b=>.go (h.set x.d (S.val 4 (x.op - 16) a b 0))|_,_=>.stuck)
 else .stuck
def uF{Mem:Type}(S:Sm Mem):List Cd→HS Mem→HR Mem
 | [],h=>.go h
 | x :: xs,h=>match yD S x h with
  | .go h'=>uF S xs h'
  | .out e h'=>.out e h'
  | .stuck=>.stuck
theorem zCb{Mem:Type}(S:Sm Mem):∀ (xs ys:List Cd) (h h':HS Mem),uF S xs h=.go h'→uF S (xs++ys) h=uF S ys h'
 | [],ys,h,h',e=>by cases e;rfl
 | x :: xs,ys,h,h',e=>by
  simp only[List.cons_append,uF] at e ⊢
  cases hx:yD S x h with
  | go h1=>simp only[hx] at e ⊢;exact zCb S xs ys h1 h' e
  | out a b=>rw[hx] at e;cases e
  | stuck=>rw[hx] at e;cases e
theorem zGr{Mem:Type}(S:Sm Mem):∀ (xs ys:List Cd) (h h':HS Mem) (e:Ex),uF S xs h=.out e h'→uF S (xs++ys) h=.out e h'
 | [],ys,h,h',_,e=>by cases e
 | x :: xs,ys,h,h',ex,e=>by
  simp only[List.cons_append,uF] at e ⊢
  cases hx:yD S x h with
  | go h1=>simp only[hx] at e ⊢;exact zGr S xs ys h1 h' ex e
  | out a b=>rw[hx] at e;exact e
  | stuck=>rw[hx] at e;cases e
def zDx(g:G)(r:Nat):List Cd:=if g.sv (g.hv r)=false∧(g.P (g.hv r)).lazy=false then [zCV g r] else []
def zBI(g:G)(regs:Nat):List Cd:=if(uK g regs 0 0 0).2=true then [] else zDx g (yA g regs)
def zA2(f:Nat→zL)(g:G)(regs v:Nat):List Cd:=match uY g v regs 0 with
 | some _=>[]
 | none=>zBI g regs++[zAy f (yO g regs) v (yA g regs)]
def zDw(f:Nat→zL)(regs i:Nat)(g:G):Nat→List Cd
 | 0=>[]
 | j+1=>zDw f regs i g j++zA2 f (vV f regs i g j) regs (zX (f i) j)
def zC5(regs i:Nat)(g:G)(X:Cd):List Cd:=if(g.P i).gives=true then zBI g regs++[{ X with d:=yA g regs }] else [X]
def zDv(f:Nat→zL)(regs:Nat)(g:G)(i:Nat):List Cd:=
 if(g.P i).lazy=true then [] else zDw f regs i g (g.P i).takes++zC5 regs i (zAo (vV f regs i g (g.P i).takes)) (yQ (f i) (tkρ f regs i g (g.P i).takes))
def yT(xs:List Cd):List Nat:=xs.flatMap (fun x=>(vZ x).2)
theorem zAT(xs ys:List Cd):yT (xs++ys)=yT xs++yT ys:=by simp[yT]
theorem zQU(g:G)(r:Nat):(zAp g r).l=g.l++yT (zDx g r):=by
 unfold zAp zDx
 split
 ·simp[yT,zBw]
 ·simp[yT]
theorem zKH(g:G)(regs:Nat):(yO g regs).l=g.l++yT (zBI g regs):=by
 unfold yO zBI
 split
 ·simp[yT]
 ·exact zQU g _
theorem zMP(f:Nat→zL)(g:G)(regs v:Nat):(yG f g regs v).l=g.l++yT (zA2 f g regs v):=by
 unfold yG zA2
 cases h:uY g v regs 0 with
 | some r=>simp[yT,zGV]
 | none=>
  show(yO g regs).l++_=_
  rw[zKH,zAT,List.append_assoc]
  simp[yT]
theorem zO4(f:Nat→zL)(regs i:Nat)(g:G):∀ j,(vV f regs i g j).l=g.l++yT (zDw f regs i g j)
 | 0=>by simp[vV,zDw,yT]
 | j+1=>by
  show(yG f (vV f regs i g j) regs (zX (f i) j)).l=_
  rw[zMP,zO4 f regs i g j,zDw,zAT,List.append_assoc]
theorem zTB(f:Nat→zL)(regs:Nat)(g:G)(i:Nat):(opG f regs g i).l=g.l++yT (zDv f regs g i):=by
 unfold opG zDv
 split
 ·simp[yT]
 ·unfold zBK zC5
  split
  ·show(yO (zAo (vV f regs i g (g.P i).takes)) regs).l++_=_
   rw[zKH,zAT,zAT]
   show(vV f regs i g (g.P i).takes).l++_++_=_
   rw[zO4]
   simp[yT,List.append_assoc]
  ·show(vV f regs i g (g.P i).takes).l++_=_
   rw[zO4,zAT]
   simp[yT,List.append_assoc]
structure Inv(f:Nat→zL)(regs i:Nat)(g:G)(v:Nat→Nat)(R Sp:Nat→Option Nat)(c:Nat→Nat):Prop where
 hr:∀ r,r < regs→g.hf r=true→R r=some (v (g.hv r))∧g.hv r < i
 uq:∀ r r',r < regs→r' < regs→g.hf r=true→g.hf r'=true→g.hv r=g.hv r'→r=r'
 hs:∀ q,g.sv q=true→Sp q=some (v q)∧q < i
 av:∀ q,q < i→(g.P q).next≠0→(g.P q).lazy=false→g.sv q=true∨∃ r,r < regs∧g.hf r=true∧g.hv r=q
 lz:∀ q,q < i→(g.P q).next≠0→(g.P q).lazy=true→((f q).kind=1∧v q=(f q).k)∨((f q).kind=2∧v q=c (f q).w.toNat)
 nb:∀ r,r < regs→g.hf r=true→g.bz r=false→(g.P (g.hv r)).next≠0
theorem zEK(g:G)(v regs:Nat):∀ m r,r+m=regs→match uY g v m r with
  | some q=>q < regs∧g.hf q=true∧g.hv q=v
  | none=>∀ q,r≤q→q < regs→¬(g.hf q=true∧g.hv q=v)
 | 0,r,h=>by show ∀ q,_;intro q h1 h2;omega
 | m+1,r,h=>by
  unfold uY
  by_cases hc:g.hf r=true∧g.hv r=v
  ·rw[if_pos hc];exact⟨by omega,hc.1,hc.2⟩
  ·rw[if_neg hc]
   have ih:=zEK g v regs m (r+1) aO
   cases hf:uY g v m (r+1) with
   | some q=>rw[hf] at ih;exact ih
   | none=>
    rw[hf] at ih
    intro q h1 h2
    by_cases e:q=r
    ·rw[e];exact hc
    ·exact ih q aO h2
theorem zCj(g:G)(regs:Nat)(nb:∀ r,r < regs→g.hf r=true→g.bz r=false→(g.P (g.hv r)).next≠0):∀ m r best far,r+m=regs→(far≠0→best < regs∧g.bz best=false∧g.hf best=true)→(far≠0∨∃ r',r≤r'∧r' < regs∧g.bz r'=false)→
  (uK g m r best far).1 < regs∧g.bz (uK g m r best far).1=false∧((uK g m r best far).2=true→g.hf (uK g m r best far).1=false)∧((uK g m r best far).2=false→g.hf (uK g m r best far).1=true)
 | 0,r,best,far,h,hb,he=>by
  have hf:far≠0:=by
   rcases he with h'|⟨r',h1,h2,-⟩
   ·exact h'
   ·omega
  obtain⟨a,b,c⟩:=hb hf
  exact⟨a,b,fun e=>by(cases e),fun _=>c⟩
 | m+1,r,best,far,h,hb,he=>by
  unfold uK
  by_cases h1:g.bz r=true
  ·rw[if_pos h1]
   refine zCj g regs nb m (r+1) best far aO hb ?_
   rcases he with h'|⟨r',h2,h3,h4⟩
   ·exact .inl h'
   ·refine .inr ⟨r',?_,h3,h4⟩
    have:r'≠r:=fun e=>by rw[e,h1] at h4;cases h4
    omega
  ·rw[if_neg h1]
   have h1':g.bz r=false:=by simpa using h1
   by_cases h2:g.hf r=false
   ·rw[if_pos h2]
    exact⟨by show r < regs;omega,h1',fun _=>h2,fun e=>by(cases e)⟩
   ·rw[if_neg h2]
    have h2':g.hf r=true:=by simpa using h2
    have hn:=nb r aO h2' h1'
    by_cases h3:far < (g.P (g.hv r)).next
    ·rw[if_pos h3]
     exact zCj g regs nb m (r+1) r _ aO (fun _=>⟨by omega,h1',h2'⟩) (.inl hn)
    ·rw[if_neg h3]
     exact zCj g regs nb m (r+1) best far aO hb (.inl aO)
theorem zCQ(g:G)(regs:Nat)(nb:∀ r,r < regs→g.hf r=true→g.bz r=false→(g.P (g.hv r)).next≠0)(h:∃ r,r < regs∧g.bz r=false):yA g regs < regs∧g.bz (yA g regs)=false∧((uK g regs 0 0 0).2=true→g.hf (yA g regs)=false)∧((uK g regs 0 0 0).2=false→g.hf (yA g regs)=true):=by
 obtain⟨r,h1,h2⟩:=h
 exact zCj g regs nb regs 0 0 0 aO (fun e=>absurd rfl e) (.inr ⟨r,Nat.zero_le _,h1,h2⟩)
theorem zGC{Mem:Type}(S:Sm Mem)(f:Nat→zL)(regs i:Nat)(g:G)(v:Nat→Nat)(h:HS Mem)(I:Inv f regs i g v h.R h.Sp h.c)(hx:∃ r,r < regs∧g.bz r=false) :
  ∃ h1:HS Mem,uF S (zBI g regs) h=.go h1∧h1.R=h.R∧h1.c=h.c∧h1.m=h.m∧Inv f regs i (yO g regs) v h1.R h1.Sp h1.c∧(g.hf (yA g regs)=true→(yO g regs).sv (g.hv (yA g regs))=true∨(g.P (g.hv (yA g regs))).lazy=true):=by
 obtain⟨r1,r2,r3,r4⟩:=zCQ g regs I.nb hx
 unfold zBI yO
 by_cases hb:(uK g regs 0 0 0).2=true
 ·rw[if_pos hb,if_pos hb]
  exact⟨h,rfl,rfl,rfl,rfl,I,fun e=>by rw[r3 hb] at e;cases e⟩
 ·rw[if_neg hb,if_neg hb]
  have hf:=r4 (by simpa using hb)
  obtain⟨e1,e2⟩:=I.hr _ r1 hf
  unfold zDx zAp
  by_cases hc:g.sv (g.hv (yA g regs))=false∧(g.P (g.hv (yA g regs))).lazy=false
  ·rw[if_pos hc,if_pos hc]
   refine⟨{ h with Sp:=upd h.Sp (g.hv (yA g regs)) (some (v (g.hv (yA g regs)))) },?_,rfl,rfl,rfl,?_,fun _=>.inl (by show upd g.sv _ true _=true;rw[yK])⟩
   ·unfold uF yD
    have ho:(zCV g (yA g regs)).op=9:=rfl
    have ha:h.get (zCV g (yA g regs)).a=some (v (g.hv (yA g regs))):=e1
    rw[ho]
    simp only[ha]
    rfl
   ·refine⟨I.hr,I.uq,fun q hq=>?_,fun q h1 h2 h3=>?_,I.lz,I.nb⟩
    ·have hq:upd g.sv (g.hv (yA g regs)) true q=true:=hq
     show upd h.Sp _ _ q=_∧_
     unfold upd at hq ⊢
     by_cases e:q=g.hv (yA g regs)
     ·rw[if_pos e,e];exact⟨rfl,e2⟩
     ·rw[if_neg e] at hq ⊢;exact I.hs q hq
    ·rcases I.av q h1 h2 h3 with h4|h4
     ·refine .inl ?_
      show upd g.sv _ true q=true
      unfold upd
      split
      ·rfl
      ·exact h4
     ·exact .inr h4
  ·rw[if_neg hc,if_neg hc]
   refine⟨h,rfl,rfl,rfl,rfl,I,fun _=>?_⟩
   by_cases h1:g.sv (g.hv (yA g regs))=true
   ·exact .inl h1
   ·refine .inr ?_
    by_cases h2:(g.P (g.hv (yA g regs))).lazy=true
    ·exact h2
    ·exact absurd ⟨by simpa using h1,by simpa using h2⟩ hc
theorem zJz{Mem:Type}(S:Sm Mem)(o:zL)(r:Nat)(h:HS Mem)(hw:WOk o)(u:Nat)(hk:(o.kind=1∧u=o.k)∨(o.kind=2∧u=h.c o.w.toNat)):yD S { yF o with d:=(r:Int) } h=.go (h.set r u):=by
 rcases hk with ⟨k,rfl⟩|⟨k,rfl⟩
 ·have hi:=hw.hi
  have lo:=hw.lo
  rw[k] at hi lo
  have w0:o.w=0:=by have e1:(ru 1).hi=0:=rfl;have e2:(ru 1).lo=0:=rfl;omega
  have ho:(yF o).op=2:=by unfold yF;rw[k,w0];rfl
  unfold yD
  rw[if_pos (by exact ho)]
  rfl
 ·have ho:(yF o).op=6:=by unfold yF;rw[k];rfl
  have hn:(yF o).n=o.w:=by unfold yF;rw[k];rfl
  unfold yD
  rw[if_neg (by show ¬(yF o).op=2;rw[ho];decide),if_pos (by exact ho)]
  show HR.go (HS.set h r (h.c (yF o).n.toNat))=_
  rw[hn]
theorem zIN{Mem:Type}(S:Sm Mem)(f:Nat→zL)(regs i:Nat)(g:G)(v:Nat→Nat)(h:HS Mem)(q:Nat)(I:Inv f regs i g v h.R h.Sp h.c)(hx:∃ r,r < regs∧g.bz r=false)(hq:q < i)(hn':(g.P q).next≠0∨∃ r,r < regs∧g.hf r=true∧g.hv r=q)(hw:WOk (f q)) :
  ∃ h1:HS Mem,uF S (zA2 f g regs q) h=.go h1∧h1.c=h.c∧h1.m=h.m∧Inv f regs i (yG f g regs q) v h1.R h1.Sp h1.c∧zAg g regs q < regs∧h1.R (zAg g regs q)=some (v q)∧(yG f g regs q).hf (zAg g regs q)=true∧(yG f g regs q).hv (zAg g regs q)=q∧(yG f g regs q).bz (zAg g regs q)=true∧(∀ r,g.bz r=true→h1.R r=h.R r∧(yG f g regs q).bz r=true)∧(∀ r,(yG f g regs q).bz r=true→g.bz r=true∨r=zAg g regs q):=by
 have hfs:=zEK g q regs regs 0 aO
 unfold zA2 yG zAg
 cases hF:uY g q regs 0 with
 | some r=>
  rw[hF] at hfs
  obtain⟨a,b,c⟩:=hfs
  refine⟨h,rfl,rfl,rfl,⟨I.hr,I.uq,I.hs,I.av,I.lz,fun r' h1 h2 h3=>?_⟩,a,?_,b,c,?_,fun r' hb=>⟨rfl,?_⟩,fun r' hb=>?_⟩
  ·have h3:upd g.bz r true r'=false:=h3
   unfold upd at h3
   split at h3
   ·cases h3
   ·exact I.nb r' h1 h2 h3
  ·have:=(I.hr r a b).1;rw[c] at this;exact this
  ·show upd g.bz r true r=true;rw[yK]
  ·show upd g.bz r true r'=true;unfold upd;split
   ·rfl
   ·exact hb
  ·have hb:upd g.bz r true r'=true:=hb
   unfold upd at hb
   split at hb
   ·rename_i e;exact .inr e
   ·exact .inl hb
 | none=>
  rw[hF] at hfs
  have hno:∀ r,r < regs→g.hf r=true→g.hv r≠q:=fun r h1 h2 h3=>hfs r (Nat.zero_le _) h1 ⟨h2,h3⟩
  have hn:(g.P q).next≠0:=hn'.elim id (fun ⟨r,a,b,c⟩=>absurd c (hno r a b))
  obtain⟨r1,r2,r3,r4⟩:=zCQ g regs I.nb hx
  obtain⟨h1,e0,eR,ec,em,I1,hev⟩:=zGC S f regs i g v h I hx
  obtain⟨k1,k2,k3,k4,k5⟩:=vK g regs
  obtain⟨r,hr⟩:∃ r,yA g regs=r:=⟨_,rfl⟩
  obtain⟨g1,hg1⟩:∃ g1,yO g regs=g1:=⟨_,rfl⟩
  rw[hr] at r1 r2 hev
  rw[hg1] at I1 hev k1 k2 k3 k4
  simp only[hr,hg1]
  have hx1:yD S (zAy f g1 q r) h1=.go (h1.set r (v q)):=by
   unfold zAy
   by_cases hz:(g1.P q).lazy=true
   ·rw[if_pos hz]
    exact zJz S (f q) r h1 hw (v q) (I1.lz q hq (by rw[k4];exact hn) hz)
   ·rw[if_neg hz]
    have hz':(g1.P q).lazy=false:=by simpa using hz
    have hsv:g1.sv q=true:=by
     rcases I1.av q hq (by rw[k4];exact hn) hz' with e|⟨r',a1,a2,a3⟩
     ·exact e
     ·rw[k1] at a2;rw[k2] at a3;exact absurd a3 (hno r' a1 a2)
    have hsp:=(I1.hs q hsv).1
    unfold yD
    rw[if_neg (by show ¬(8:Int)=2;decide),if_neg (by show ¬(8:Int)=6;decide),if_neg (by show ¬(8:Int)=7;decide),if_pos rfl]
    show(match h1.Sp ((q:Int).toNat) with|none=>HR.stuck|some u=>HR.go (h1.set r u))=_
    rw[Int.toNat_natCast,hsp]
  refine⟨h1.set r (v q),?_,ec,em,?_,r1,?_,?_,?_,?_,fun r' hb=>⟨?_,?_⟩,fun r' hb=>?_⟩
  ·rw[zCb S _ _ h h1 e0]
   unfold uF
   rw[hx1]
   rfl
  ·show Inv f regs i (zGV (zC7 (zBw g1 (zAy f g1 q r)) r q true) r) v (upd h1.R ((r:Int).toNat) (some (v q))) h1.Sp h1.c
   rw[Int.toNat_natCast]
   refine⟨fun r' a1 a2=>?_,fun r' r'' a1 a2 a3 a4 a5=>?_,I1.hs,fun q' a1 a2 a3=>?_,I1.lz,fun r' a1 a2 a3=>?_⟩
   ·have a2:upd g1.hf r true r'=true:=a2
    show upd h1.R r _ r'=some (v (upd g1.hv r q r'))∧upd g1.hv r q r' < i
    unfold upd at a2 ⊢
    by_cases e:r'=r
    ·rw[if_pos e,if_pos e];exact⟨rfl,hq⟩
    ·rw[if_neg e] at a2 ⊢;rw[if_neg e];exact I1.hr r' a1 a2
   ·have a3:upd g1.hf r true r'=true:=a3
    have a4:upd g1.hf r true r''=true:=a4
    have a5:upd g1.hv r q r'=upd g1.hv r q r'':=a5
    unfold upd at a3 a4 a5
    by_cases e:r'=r
    ·by_cases e2:r''=r
     ·rw[e,e2]
     ·rw[if_pos e,if_neg e2] at a5
      rw[if_neg e2,k1] at a4
      rw[k2] at a5
      exact absurd a5.symm (hno r'' a2 a4)
    ·by_cases e2:r''=r
     ·rw[if_neg e,if_pos e2] at a5
      rw[if_neg e,k1] at a3
      rw[k2] at a5
      exact absurd a5 (hno r' a1 a3)
     ·rw[if_neg e] at a3
      rw[if_neg e2] at a4
      rw[if_neg e,if_neg e2] at a5
      exact I1.uq r' r'' a1 a2 a3 a4 a5
   ·rcases I1.av q' a1 a2 a3 with e|⟨r',b1,b2,b3⟩
    ·exact .inl e
    ·by_cases e:r'=r
     ·rw[e] at b2 b3
      rw[k1] at b2
      rw[k2] at b3
      rcases hev b2 with e3|e3
      ·rw[b3] at e3;exact .inl e3
      ·rw[b3] at e3
       have a3:(g1.P q').lazy=false:=a3
       rw[k4,e3] at a3;cases a3
     ·refine .inr ⟨r',b1,?_,?_⟩
      ·show upd g1.hf r true r'=true;unfold upd;rw[if_neg e];exact b2
      ·show upd g1.hv r q r'=q';unfold upd;rw[if_neg e];exact b3
   ·have a2:upd g1.hf r true r'=true:=a2
    have a3:upd g1.bz r true r'=false:=a3
    show(g1.P (upd g1.hv r q r')).next≠0
    unfold upd at a2 a3 ⊢
    by_cases e:r'=r
    ·rw[if_pos e] at a3;cases a3
    ·rw[if_neg e] at a2 a3 ⊢;exact I1.nb r' a1 a2 a3
  ·show upd h1.R ((r:Int).toNat) _ r=_
   rw[Int.toNat_natCast,yK]
  ·show upd g1.hf r true r=true;rw[yK]
  ·show upd g1.hv r q r=q;rw[yK]
  ·show upd g1.bz r true r=true;rw[yK]
  ·show upd h1.R ((r:Int).toNat) _ r'=_
   rw[Int.toNat_natCast]
   have:r'≠r:=fun e=>by rw[e,r2] at hb;cases hb
   unfold upd;rw[if_neg this,eR]
  ·show upd g1.bz r true r'=true
   unfold upd;split
   ·rfl
   ·rw[k3];exact hb
  ·have hb:upd g1.bz r true r'=true:=hb
   unfold upd at hb
   split at hb
   ·rename_i e;exact .inr e
   ·rw[k3] at hb;exact .inl hb
theorem zLZ{f:Nat→zL}{regs i:Nat}{g:G}{v:Nat→Nat}{R Sp:Nat→Option Nat}{c:Nat→Nat}(I:Inv f regs i g v R Sp c)(q x:Nat)(hq:x≠0→(g.P q).next≠0)(hb:∀ r,r < regs→g.hf r=true→g.hv r=q→g.bz r=true):Inv f regs i (zAF g q x) v R Sp c:=by
 have hne:∀ q',((zAF g q x).P q').next≠0→(g.P q').next≠0:=fun q' h=>by
  by_cases e:q'=q
  ·rw[e] at h ⊢
   have h:(upd g.P q { g.P q with next:=x } q).next≠0:=h
   rw[yK] at h;exact hq h
  ·have h:(upd g.P q _ q').next≠0:=h
   unfold upd at h;rw[if_neg e] at h;exact h
 refine⟨I.hr,I.uq,I.hs,fun q' a1 a2 a3=>I.av q' a1 (hne q' a2) (by rw[← (zDD g q x q').2.2.1];exact a3),fun q' a1 a2 a3=>I.lz q' a1 (hne q' a2) (by rw[← (zDD g q x q').2.2.1];exact a3),fun r a1 a2 a3=>?_⟩
 have h1:=I.nb r a1 a2 a3
 show(upd g.P q _ (g.hv r)).next≠0
 unfold upd
 by_cases e:g.hv r=q
 ·have:=hb r a1 a2 e
  have a3:g.bz r=false:=a3
  rw[this] at a3;cases a3
 ·rw[if_neg e];exact h1
end Go.Proofs.Ytkmjenjahbicpaa.Ho
