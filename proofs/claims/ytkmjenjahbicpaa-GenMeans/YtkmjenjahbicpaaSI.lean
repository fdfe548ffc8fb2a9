import Derived.Test.YtkmjenjahbicpaaSE
set_option linter.unusedVariables false
set_option linter.unusedSimpArgs false
set_option maxHeartbeats 1000000
namespace Go.Proofs.Ytkmjenjahbicpaa.Ho
open Go.RowKit
set_option maxRecDepth 100000
theorem zSz(u x l:Nat)(h:u < 2 ^ l):u ||| (x*2 ^ l)=u+x*2 ^ l:=by
 have:=Nat.two_pow_add_eq_or_of_lt h x
 rw[Nat.or_comm,Nat.mul_comm,← this];omega
theorem zOT(v:Nat)(h1:v < 4294967296):uO (v:Int)=v:=by unfold uO;omega
theorem zEc(c:Bool)(l b u v:Nat)(hu:u < 2 ^ l)(h1:v < b)(hb:b≤65536):orW c (2 ^ l) b u (v:Int)=u+(if c then v*2 ^ l else 0):=by
 unfold orW
 cases c
 ·simp
 ·rw[if_pos rfl,if_pos rfl,zOT v aO,Nat.mod_eq_of_lt h1,zSz _ _ _ hu]
structure Fits(k op d a b c n kk xx:Nat):Prop where
 hk:hit (op:Int)=some k
 fo:op < 256
 fd:d < 16∧(hb (zH k).has 448=false→d=0)
 fa:a < 16∧(hb (zH k).has 1=false→a=0)
 fb:b < 16∧(hb (zH k).has 2=false→b=0)
 fc:c < 16∧(hb (zH k).has 4=false→c=0)
 fn:n < 65536∧(hb (zH k).has 8=false→n=0)
 ex:hb (zH k).has 8=true→hb (zH k).has 2=false∧hb (zH k).has 4=false
 k1:vR (zH k).has=1→kk=0
 x1:vR (zH k).has≤2→xx=0
 al:alB (hb (zH k).has 256) (d:Int) (n:Int) (zH k).most=true
theorem zQn{k op d a b c n kk xx:Nat}(F:Fits k op d a b c n kk xx):ly5 (zH k).has ⟨op,d,a,b,c,n,kk,xx⟩=op+(if hb (zH k).has 448 then d*256 else 0)+(if hb (zH k).has 1 then a*4096 else 0)+(if hb (zH k).has 2 then b*65536 else 0)+(if hb (zH k).has 4 then c*1048576 else 0)+(if hb (zH k).has 8 then n*65536 else 0):=by
 unfold ly5 ly4 ly3 ly2 ly1 ly0
 have hd:=F.fd.1
 have ha:=F.fa.1
 have hbb:=F.fb.1
 have hc:=F.fc.1
 have hn:=F.fn.1
 have ho:=F.fo
 have ex:=F.ex
 generalize hb (zH k).has 448=D at *
 generalize hb (zH k).has 1=A at *
 generalize hb (zH k).has 2=B at *
 generalize hb (zH k).has 4=C at *
 generalize hb (zH k).has 8=M at *
 show orW M 65536 65536 (orW C 1048576 16 (orW B 65536 16 (orW A 4096 16 (orW D 256 16 (uO (op:Int)) (d:Int)) (a:Int)) (b:Int)) (c:Int)) (n:Int)=_
 rw[zOT op aO]
 have e1:=zEc D 8 16 op d aO hd aD
 simp only[Nat.reducePow] at e1
 rw[e1]
 have bD:(if D=true then d*256 else 0)≤3840:=by split<;>omega
 have bA:(if A=true then a*4096 else 0)≤61440:=by split<;>omega
 have bB:(if B=true then b*65536 else 0)≤983040:=by split<;>omega
 have l1:op+(if D=true then d*256 else 0) < 4096:=aO
 have e2:=zEc A 12 16 (op+(if D=true then d*256 else 0)) a (by simpa using l1) ha aD
 simp only[Nat.reducePow] at e2
 rw[e2]
 have l2:op+(if D=true then d*256 else 0)+(if A=true then a*4096 else 0) < 65536:=aO
 have e3:=zEc B 16 16 (op+(if D=true then d*256 else 0)+(if A=true then a*4096 else 0)) b (by simpa using l2) hbb aD
 simp only[Nat.reducePow] at e3
 rw[e3]
 have l3:op+(if D=true then d*256 else 0)+(if A=true then a*4096 else 0)+(if B=true then b*65536 else 0) < 1048576:=aO
 have e4:=zEc C 20 16 (op+(if D=true then d*256 else 0)+(if A=true then a*4096 else 0)+(if B=true then b*65536 else 0)) c (by simpa using l3) hc aD
 simp only[Nat.reducePow] at e4
 rw[e4]
 cases M
 ·simp[orW]
 ·obtain⟨rfl,rfl⟩:=ex rfl
  have l5:op+(if D=true then d*256 else 0)+(if A=true then a*4096 else 0)+(if false=true then b*65536 else 0)+(if false=true then c*1048576 else 0) < 65536:=by simpa using l2
  have e5:=zEc true 16 65536 (op+(if D=true then d*256 else 0)+(if A=true then a*4096 else 0)+(if false=true then b*65536 else 0)+(if false=true then c*1048576 else 0)) n (by rw[show(2:Nat) ^ 16=65536 from rfl];exact l5) hn aD
  rw[show(2:Nat) ^ 16=65536 from rfl] at e5
  exact e5
theorem zOf{k op d a b c n kk xx:Nat}(F:Fits k op d a b c n kk xx)(V:Nat)(hV:V=ly5 (zH k).has ⟨op,d,a,b,c,n,kk,xx⟩):rdX (zH k).has V kk xx=⟨op,d,a,b,c,n,kk,xx⟩∧rd6 (zH k).has V=0∧V%256=op:=by
 rw[zQn F] at hV
 have hd:=F.fd
 have ha:=F.fa
 have hbb:=F.fb
 have hc:=F.fc
 have hn:=F.fn
 have ho:=F.fo
 have ex:=F.ex
 unfold rdX rd6 rd5 rd4 rd3 rd2 rd1
 generalize hb (zH k).has 448=D at *
 generalize hb (zH k).has 1=A at *
 generalize hb (zH k).has 2=B at *
 generalize hb (zH k).has 4=C at *
 generalize hb (zH k).has 8=M at *
 have key:V / 1%256=op∧zN D 256 16 (rst true 1 256 V)=d∧zN A 4096 16 (rst D 256 16 (rst true 1 256 V))=a∧zN B 65536 16 (rst A 4096 16 (rst D 256 16 (rst true 1 256 V)))=b∧zN C 1048576 16 (rst B 65536 16 (rst A 4096 16 (rst D 256 16 (rst true 1 256 V))))=c∧zN M 65536 65536 (rst C 1048576 16 (rst B 65536 16 (rst A 4096 16 (rst D 256 16 (rst true 1 256 V)))))=n∧rst M 65536 65536 (rst C 1048576 16 (rst B 65536 16 (rst A 4096 16 (rst D 256 16 (rst true 1 256 V)))))=0:=by
  cases M
  ·have n0:=hn.2 rfl
   cases D<;>cases A<;>cases B<;>cases C<;>simp only[zN,rst,Bool.false_eq_true,if_false,if_true,forall_const,true_implies,reduceCtorEq,false_implies,and_true] at hd ha hbb hc hV ⊢<;>omega
  ·obtain⟨rfl,rfl⟩:=ex rfl
   have b0:=hbb.2 rfl
   have c0:=hc.2 rfl
   cases D<;>cases A<;>simp only[zN,rst,Bool.false_eq_true,if_false,if_true,forall_const,true_implies,reduceCtorEq,false_implies,and_true] at hd ha hV ⊢<;>omega
 obtain⟨q0,q1,q2,q3,q4,q5,q6⟩:=key
 refine⟨?_,q6,by omega⟩
 rw[q1,q2,q3,q4,q5]
 have:zN true 1 256 V=op:=q0
 rw[this]
theorem zK6{k op d a b c n kk xx:Nat}(F:Fits k op d a b c n kk xx):(vZ ⟨op,d,a,b,c,n,kk,xx⟩).2≠[]:=by
 obtain⟨V,hV⟩:∃ V,V=ly5 (zH k).has ⟨op,d,a,b,c,n,kk,xx⟩:=⟨_,rfl⟩
 obtain⟨h1,h2,h3⟩:=zOf F V hV
 have hz:=zAd (zH k).has
 have hws:∀ i,uP (wsE (vR (zH k).has) V kk xx) i=if i < vR (zH k).has then(if i=0 then V else if i=1 then kk else xx) else 0:=fun i=>by
  rcases hz with e|e|e<;>rw[e]<;>(rcases i with _|_|_|i<;>simp[uP,wsE]<;>omega)
 have hd:yB (uP (wsE (vR (zH k).has) V kk xx)) (vR (zH k).has) 0=⟨0,⟨op,d,a,b,c,n,kk,xx⟩,zH k,vR (zH k).has⟩:=by
  unfold yB
  rw[if_neg aO,if_neg aO]
  have e0:uP (wsE (vR (zH k).has) V kk xx) (0:Int).toNat=V:=by rw[hws];rw[if_pos (by show(0:Int).toNat < _;rcases hz with e|e|e<;>rw[e]<;>decide)];rfl
  have e1:(if 1 < vR (zH k).has then uP (wsE (vR (zH k).has) V kk xx) ((0:Int).toNat+1) else 0)=kk:=by
   by_cases h:1 < vR (zH k).has
   ·rw[if_pos h,hws,if_pos (by exact h)];rfl
   ·rw[if_neg h,F.k1 aO]
  have e2:(if 2 < vR (zH k).has then uP (wsE (vR (zH k).has) V kk xx) ((0:Int).toNat+2) else 0)=xx:=by
   by_cases h:2 < vR (zH k).has
   ·rw[if_pos h,hws,if_pos (by exact h)];rfl
   ·rw[if_neg h,F.x1 aO]
  have hh:hit ((V%256:Nat):Int)=some k:=by rw[h3];exact F.hk
  simp only[e0,hh,e1,e2,h1]
  have hdc:dcE (zH k) V ⟨op,d,a,b,c,n,kk,xx⟩=0:=by unfold dcE;exact if_pos ⟨h2,F.al⟩
  rw[if_neg aO,if_pos hdc]
 have he:=zDj (x:=⟨op,d,a,b,c,n,kk,xx⟩) F.hk (by rw[← hV,hd]) (by rw[← hV,hd])
 rw[he]
 show wsE _ _ _ _≠[]
 intro hc
 have:=congrArg List.length hc
 rw[zBU] at this
 simp only[List.length_nil] at this
 omega
theorem zGq(count bytes:Int)(n:Nat)(f:Nat→zL)(h:(yH count bytes n f).1=0):Given n f∧∀ v,v < n→zG (flT (f v).kind.toNat) (f v) count=false:=by
 unfold yH at h
 by_cases h1:2048 < n
 ·rw[if_pos h1] at h;exact absurd h aD
 rw[if_neg h1] at h
 by_cases h2:(0≤count∧count≤64)∧(0≤bytes∧bytes≤384)
 ·rw[if_pos h2] at h
  obtain⟨ha,he⟩:=zDp count n f n 0 h
  have hz:∀ v,v < n→eOp (f v)=false∧zG (flT (f v).kind.toNat) (f v) count=false∧zK (flT (f v).kind.toNat) (f v) f v=false:=fun v hv=>zEM (ha v aO aO)
  refine⟨fun i hi j hj=>?_,fun v hv=>(hz v hv).2.1⟩
  have hb:=(hz i hi).2.2
  have hk:=(hz i hi).1
  unfold eOp at hk
  simp only[Bool.or_eq_false_iff,Bool.not_eq_eq_eq_not,Bool.not_false,decide_eq_false_iff_not] at hk
  have hk:=(zCI _).1 hk.1.1
  have hr:=zH0 (f i).kind.toNat aO aO
  have e:tkn f i=(ruT (f i).kind.toNat).takes.toNat:=rfl
  rw[e] at hj
  have ha':=hr.a
  have hb':=hr.b
  have hc':=hr.c
  have t3:=hr.t3
  unfold zK at hb
  simp only[Bool.or_eq_false_iff] at hb
  obtain⟨⟨q0,q1⟩,q2⟩:=hb
  have key:∀ (x:Bool) (a:Int),x=true→(x && !(gvn f i a))=false→(ru (f a.toNat).kind).gives=true:=fun x a hx hg=>by
   rw[hx] at hg
   unfold gvn at hg
   simp only[Bool.true_and,Bool.not_eq_eq_eq_not,Bool.not_false,Bool.and_eq_true,decide_eq_true_eq] at hg
   rw[(zEa _).2.2.1];exact hg.2
  rcases(by omega:j=0∨j=1∨j=2) with rfl|rfl|rfl
  ·exact key _ _ (by rw[← ha'];exact aT) q0
  ·exact key _ _ (by rw[← hb'];exact aT) q1
  ·exact key _ _ (by rw[← hc'];exact aT) q2
 ·rw[if_neg h2] at h;exact absurd h aD
def zAz(x:Cd):Prop:=∃ k op d a b c n:Nat,x.op=op∧x.d=d∧x.a=a∧x.b=b∧x.c=c∧x.n=n∧Fits k op d a b c n x.k x.x
theorem zAz.enc{x:Cd}(h:zAz x):(vZ x).2≠[]:=by
 obtain⟨k,op,d,a,b,c,n,e1,e2,e3,e4,e5,e6,F⟩:=h
 obtain⟨x1,x2,x3,x4,x5,x6,x7,x8⟩:=x
 simp only at e1 e2 e3 e4 e5 e6 F
 subst e1 e2 e3 e4 e5 e6
 exact zK6 F
theorem zRZ:∀ w:Fin 1,hit (((2+w.val:Nat)):Int)=some 1:=by decide
theorem zRx(w:Fin 1)(d kk:Nat)(qd:d < 16):Fits 1 (2+w.val) d 0 0 0 0 kk 0:=
 ⟨zRZ w,by have:=w.isLt;omega,⟨qd,fun e=>absurd e aD⟩,⟨by decide,fun e=>rfl⟩,⟨by decide,fun e=>rfl⟩,⟨by decide,fun e=>rfl⟩,⟨by decide,fun e=>rfl⟩,fun e=>absurd e aD,fun e=>absurd e aD,fun e=>rfl,by first|decide|(unfold alB;simp only[show(zH 1).most=0 by decide,show hb (zH 1).has 256=false by decide];simp)⟩
theorem zR0:∀ w:Fin 1,hit (((4+w.val:Nat)):Int)=some 3:=by decide
theorem zRy(w:Fin 1)(a n:Nat)(qa:a < 16)(hn:n≤64):Fits 3 (4+w.val) 0 a 0 0 n 0 0:=
 ⟨zR0 w,by have:=w.isLt;omega,⟨by decide,fun e=>rfl⟩,⟨qa,fun e=>absurd e aD⟩,⟨by decide,fun e=>rfl⟩,⟨by decide,fun e=>rfl⟩,⟨by omega,fun e=>absurd e aD⟩,fun e=>⟨by decide,by decide⟩,fun e=>rfl,fun e=>rfl,by unfold alB;simp only[show(zH 3).most=64 by decide,show hb (zH 3).has 256=false by decide];simp;omega⟩
theorem zR1:∀ w:Fin 1,hit (((5+w.val:Nat)):Int)=some 4:=by decide
theorem zRz(w:Fin 1)(d a b c:Nat)(qd:d < 16)(qa:a < 16)(qb:b < 16)(qc:c < 16):Fits 4 (5+w.val) d a b c 0 0 0:=
 ⟨zR1 w,by have:=w.isLt;omega,⟨qd,fun e=>absurd e aD⟩,⟨qa,fun e=>absurd e aD⟩,⟨qb,fun e=>absurd e aD⟩,⟨qc,fun e=>absurd e aD⟩,⟨by decide,fun e=>rfl⟩,fun e=>absurd e aD,fun e=>rfl,fun e=>rfl,by first|decide|(unfold alB;simp only[show(zH 4).most=0 by decide,show hb (zH 4).has 256=false by decide];simp)⟩
theorem zR2:∀ w:Fin 1,hit (((6+w.val:Nat)):Int)=some 5:=by decide
theorem zRA(w:Fin 1)(d n:Nat)(qd:d < 16)(hn:n≤11):Fits 5 (6+w.val) d 0 0 0 n 0 0:=
 ⟨zR2 w,by have:=w.isLt;omega,⟨qd,fun e=>absurd e aD⟩,⟨by decide,fun e=>rfl⟩,⟨by decide,fun e=>rfl⟩,⟨by decide,fun e=>rfl⟩,⟨by omega,fun e=>absurd e aD⟩,fun e=>⟨by decide,by decide⟩,fun e=>rfl,fun e=>rfl,by unfold alB;simp only[show(zH 5).most=11 by decide,show hb (zH 5).has 256=false by decide];simp;omega⟩
theorem zR3:∀ w:Fin 1,hit (((7+w.val:Nat)):Int)=some 6:=by decide
theorem zRB(w:Fin 1)(a n:Nat)(qa:a < 16)(hn:n≤11):Fits 6 (7+w.val) 0 a 0 0 n 0 0:=
 ⟨zR3 w,by have:=w.isLt;omega,⟨by decide,fun e=>rfl⟩,⟨qa,fun e=>absurd e aD⟩,⟨by decide,fun e=>rfl⟩,⟨by decide,fun e=>rfl⟩,⟨by omega,fun e=>absurd e aD⟩,fun e=>⟨by decide,by decide⟩,fun e=>rfl,fun e=>rfl,by unfold alB;simp only[show(zH 6).most=11 by decide,show hb (zH 6).has 256=false by decide];simp;omega⟩
theorem zR4:∀ w:Fin 1,hit (((8+w.val:Nat)):Int)=some 7:=by decide
theorem zRC(w:Fin 1)(d n:Nat)(qd:d < 16)(hn:n≤2047):Fits 7 (8+w.val) d 0 0 0 n 0 0:=
 ⟨zR4 w,by have:=w.isLt;omega,⟨qd,fun e=>absurd e aD⟩,⟨by decide,fun e=>rfl⟩,⟨by decide,fun e=>rfl⟩,⟨by decide,fun e=>rfl⟩,⟨by omega,fun e=>absurd e aD⟩,fun e=>⟨by decide,by decide⟩,fun e=>rfl,fun e=>rfl,by unfold alB;simp only[show(zH 7).most=2047 by decide,show hb (zH 7).has 256=false by decide];simp;omega⟩
theorem zR5:∀ w:Fin 1,hit (((9+w.val:Nat)):Int)=some 8:=by decide
theorem zRD(w:Fin 1)(a n:Nat)(qa:a < 16)(hn:n≤2047):Fits 8 (9+w.val) 0 a 0 0 n 0 0:=
 ⟨zR5 w,by have:=w.isLt;omega,⟨by decide,fun e=>rfl⟩,⟨qa,fun e=>absurd e aD⟩,⟨by decide,fun e=>rfl⟩,⟨by decide,fun e=>rfl⟩,⟨by omega,fun e=>absurd e aD⟩,fun e=>⟨by decide,by decide⟩,fun e=>rfl,fun e=>rfl,by unfold alB;simp only[show(zH 8).most=2047 by decide,show hb (zH 8).has 256=false by decide];simp;omega⟩
theorem zR6:∀ w:Fin 1,hit (((10+w.val:Nat)):Int)=some 9:=by decide
theorem zRE(w:Fin 1)(n kk:Nat)  (hn:n≤64):Fits 9 (10+w.val) 0 0 0 0 n kk 0:=
 ⟨zR6 w,by have:=w.isLt;omega,⟨by decide,fun e=>rfl⟩,⟨by decide,fun e=>rfl⟩,⟨by decide,fun e=>rfl⟩,⟨by decide,fun e=>rfl⟩,⟨by omega,fun e=>absurd e aD⟩,fun e=>⟨by decide,by decide⟩,fun e=>absurd e aD,fun e=>rfl,by unfold alB;simp only[show(zH 9).most=64 by decide,show hb (zH 9).has 256=false by decide];simp;omega⟩
theorem zPR:∀ w:Fin 1,hit (((11+w.val:Nat)):Int)=some 10:=by decide
theorem zPq(w:Fin 1)(a n kk:Nat)(qa:a < 16)(hn:n≤64):Fits 10 (11+w.val) 0 a 0 0 n kk 0:=
 ⟨zPR w,by have:=w.isLt;omega,⟨by decide,fun e=>rfl⟩,⟨qa,fun e=>absurd e aD⟩,⟨by decide,fun e=>rfl⟩,⟨by decide,fun e=>rfl⟩,⟨by omega,fun e=>absurd e aD⟩,fun e=>⟨by decide,by decide⟩,fun e=>absurd e aD,fun e=>rfl,by unfold alB;simp only[show(zH 10).most=64 by decide,show hb (zH 10).has 256=false by decide];simp;omega⟩
theorem zPS:∀ w:Fin 1,hit (((12+w.val:Nat)):Int)=some 11:=by decide
theorem zPr(w:Fin 1)(d n kk xx:Nat)(qd:d < 16)(hn:n≤64)(h1:1≤d)(h7:d≤7):Fits 11 (12+w.val) d 0 0 0 n kk xx:=
 ⟨zPS w,by have:=w.isLt;omega,⟨qd,fun e=>absurd e aD⟩,⟨by decide,fun e=>rfl⟩,⟨by decide,fun e=>rfl⟩,⟨by decide,fun e=>rfl⟩,⟨by omega,fun e=>absurd e aD⟩,fun e=>⟨by decide,by decide⟩,fun e=>absurd e aD,fun e=>absurd e aD,by unfold alB;simp only[show(zH 11).most=64 by decide,show hb (zH 11).has 256=true by decide];simp;omega⟩
theorem zPT:∀ w:Fin 1,hit (((13+w.val:Nat)):Int)=some 12:=by decide
theorem zPs(w:Fin 1)(d a n kk:Nat)(qd:d < 16)(qa:a < 16)(hn:n≤64)(h1:1≤d)(h7:d≤7):Fits 12 (13+w.val) d a 0 0 n kk 0:=
 ⟨zPT w,by have:=w.isLt;omega,⟨qd,fun e=>absurd e aD⟩,⟨qa,fun e=>absurd e aD⟩,⟨by decide,fun e=>rfl⟩,⟨by decide,fun e=>rfl⟩,⟨by omega,fun e=>absurd e aD⟩,fun e=>⟨by decide,by decide⟩,fun e=>absurd e aD,fun e=>rfl,by unfold alB;simp only[show(zH 12).most=64 by decide,show hb (zH 12).has 256=true by decide];simp;omega⟩
theorem zPU:∀ w:Fin 1,hit (((14+w.val:Nat)):Int)=some 13:=by decide
theorem zPt(w:Fin 1)(n kk:Nat)  (hn:n≤64):Fits 13 (14+w.val) 0 0 0 0 n kk 0:=
 ⟨zPU w,by have:=w.isLt;omega,⟨by decide,fun e=>rfl⟩,⟨by decide,fun e=>rfl⟩,⟨by decide,fun e=>rfl⟩,⟨by decide,fun e=>rfl⟩,⟨by omega,fun e=>absurd e aD⟩,fun e=>⟨by decide,by decide⟩,fun e=>absurd e aD,fun e=>rfl,by unfold alB;simp only[show(zH 13).most=64 by decide,show hb (zH 13).has 256=false by decide];simp;omega⟩
theorem zPV:∀ w:Fin 16,hit (((16+w.val:Nat)):Int)=some 15:=by decide
theorem zPu(w:Fin 16)(d a b:Nat)(qd:d < 16)(qa:a < 16)(qb:b < 16):Fits 15 (16+w.val) d a b 0 0 0 0:=
 ⟨zPV w,by have:=w.isLt;omega,⟨qd,fun e=>absurd e aD⟩,⟨qa,fun e=>absurd e aD⟩,⟨qb,fun e=>absurd e aD⟩,⟨by decide,fun e=>rfl⟩,⟨by decide,fun e=>rfl⟩,fun e=>absurd e aD,fun e=>rfl,fun e=>rfl,by first|decide|(unfold alB;simp only[show(zH 15).most=0 by decide,show hb (zH 15).has 256=false by decide];simp)⟩
theorem zPW:∀ w:Fin 7,hit (((32+w.val:Nat)):Int)=some 16:=by decide
theorem zPv(w:Fin 7)(d a:Nat)(qd:d < 16)(qa:a < 16):Fits 16 (32+w.val) d a 0 0 0 0 0:=
 ⟨zPW w,by have:=w.isLt;omega,⟨qd,fun e=>absurd e aD⟩,⟨qa,fun e=>absurd e aD⟩,⟨by decide,fun e=>rfl⟩,⟨by decide,fun e=>rfl⟩,⟨by decide,fun e=>rfl⟩,fun e=>absurd e aD,fun e=>rfl,fun e=>rfl,by first|decide|(unfold alB;simp only[show(zH 16).most=0 by decide,show hb (zH 16).has 256=false by decide];simp)⟩
theorem zPX:∀ w:Fin 13,hit (((48+w.val:Nat)):Int)=some 17:=by decide
theorem zPw(w:Fin 13)(d a b c:Nat)(qd:d < 16)(qa:a < 16)(qb:b < 16)(qc:c < 16):Fits 17 (48+w.val) d a b c 0 0 0:=
 ⟨zPX w,by have:=w.isLt;omega,⟨qd,fun e=>absurd e aD⟩,⟨qa,fun e=>absurd e aD⟩,⟨qb,fun e=>absurd e aD⟩,⟨qc,fun e=>absurd e aD⟩,⟨by decide,fun e=>rfl⟩,fun e=>absurd e aD,fun e=>rfl,fun e=>rfl,by first|decide|(unfold alB;simp only[show(zH 17).most=0 by decide,show hb (zH 17).has 256=false by decide];simp)⟩
theorem zPY:∀ w:Fin 16,hit (((64+w.val:Nat)):Int)=some 18:=by decide
theorem zPx(w:Fin 16)(d a:Nat)(qd:d < 16)(qa:a < 16):Fits 18 (64+w.val) d a 0 0 0 0 0:=
 ⟨zPY w,by have:=w.isLt;omega,⟨qd,fun e=>absurd e aD⟩,⟨qa,fun e=>absurd e aD⟩,⟨by decide,fun e=>rfl⟩,⟨by decide,fun e=>rfl⟩,⟨by decide,fun e=>rfl⟩,fun e=>absurd e aD,fun e=>rfl,fun e=>rfl,by first|decide|(unfold alB;simp only[show(zH 18).most=0 by decide,show hb (zH 18).has 256=false by decide];simp)⟩
theorem zPZ:∀ w:Fin 5,hit (((80+w.val:Nat)):Int)=some 19:=by decide
theorem zPy(w:Fin 5)(d a n kk:Nat)(qd:d < 16)(qa:a < 16)(hn:n≤64):Fits 19 (80+w.val) d a 0 0 n kk 0:=
 ⟨zPZ w,by have:=w.isLt;omega,⟨qd,fun e=>absurd e aD⟩,⟨qa,fun e=>absurd e aD⟩,⟨by decide,fun e=>rfl⟩,⟨by decide,fun e=>rfl⟩,⟨by omega,fun e=>absurd e aD⟩,fun e=>⟨by decide,by decide⟩,fun e=>absurd e aD,fun e=>rfl,by unfold alB;simp only[show(zH 19).most=64 by decide,show hb (zH 19).has 256=false by decide];simp;omega⟩
theorem zP0:∀ w:Fin 3,hit (((88+w.val:Nat)):Int)=some 20:=by decide
theorem zPz(w:Fin 3)(d a n kk:Nat)(qd:d < 16)(qa:a < 16)(hn:n≤64):Fits 20 (88+w.val) d a 0 0 n kk 0:=
 ⟨zP0 w,by have:=w.isLt;omega,⟨qd,fun e=>absurd e aD⟩,⟨qa,fun e=>absurd e aD⟩,⟨by decide,fun e=>rfl⟩,⟨by decide,fun e=>rfl⟩,⟨by omega,fun e=>absurd e aD⟩,fun e=>⟨by decide,by decide⟩,fun e=>absurd e aD,fun e=>rfl,by unfold alB;simp only[show(zH 20).most=64 by decide,show hb (zH 20).has 256=false by decide];simp;omega⟩
theorem zP1:∀ w:Fin 1,hit (((97+w.val:Nat)):Int)=some 22:=by decide
theorem zPA(w:Fin 1)(d:Nat)(qd:d < 16):Fits 22 (97+w.val) d 0 0 0 0 0 0:=
 ⟨zP1 w,by have:=w.isLt;omega,⟨qd,fun e=>absurd e aD⟩,⟨by decide,fun e=>rfl⟩,⟨by decide,fun e=>rfl⟩,⟨by decide,fun e=>rfl⟩,⟨by decide,fun e=>rfl⟩,fun e=>absurd e aD,fun e=>rfl,fun e=>rfl,by first|decide|(unfold alB;simp only[show(zH 22).most=0 by decide,show hb (zH 22).has 256=false by decide];simp)⟩
theorem zCn{x:FL}{o:zL}{count:Int}(h:zG x o count=false):0≤o.n∧o.n≤count∧(x.hn=false→o.n=0)∧(x.hk=false→o.k=0):=by
 unfold zG at h
 simp only[Bool.or_eq_false_iff,Bool.not_eq_eq_eq_not,Bool.not_false,decide_eq_true_eq] at h
 obtain⟨⟨⟨⟨⟨⟨-,-⟩,-⟩,h3⟩,h4⟩,-⟩,h6⟩:=h
 refine⟨h6.1,h6.2,fun e=>?_,fun e=>?_⟩
 ·unfold bd at h4;rw[e] at h4;simpa using h4
 ·unfold bd at h3;rw[e] at h3
  have:(o.k:Int)=0:=by simpa using h3
  omega
theorem zSq(o:zL)(ρ:Nat→Nat)(r:Nat)(count:Int)(hk:o.kind=1)(hw:WOk o)(hf:zG (flT o.kind.toNat) o count=false)(hc:count≤64)(hρ:∀ q,ρ q < 16)(h0:∀ q,0≤q→ρ q=0)(hr:r < 16):zAz ({ yQ o ρ with d:=(r:Int) }):=by
 obtain⟨n0,n1,n2,k2⟩:=zCn hf
 have lo:=hw.lo
 have hi:=hw.hi
 rw[hk] at lo hi n2 k2
 have lo:0≤o.w:=lo
 have hi:o.w≤0:=hi
 have n2:false=false→o.n=0:=n2
 have k2:true=false→o.k=0:=k2
 obtain⟨w,ew⟩:∃ w:Nat,o.w=w:=⟨o.w.toNat,by omega⟩
 have r0:=h0 0 aL
 have r1:=h0 (0+1) aO
 have r2:=h0 (0+2) aO
 have nz:=n2 rfl
 have wz:w=0:=aO
 have F:=zRx ⟨0,by decide⟩ (r) (o.k) zq10
 have e:{ yQ o ρ with d:=(r:Int) }=⟨((2+0:Nat):Int),((r:Nat):Int),((0:Nat):Int),((0:Nat):Int),((0:Nat):Int),((0:Nat):Int),o.k,0⟩:=by
  refine uS _ _ ?_ ?_ ?_ ?_ ?_ ?_ ?_ ?_<;>simp[yQ,yF,hk,toT,uN,ew,r0,r1,r2,nz,wz]<;>omega
 rw[e]
 exact⟨1,_,_,_,_,_,_,rfl,rfl,rfl,rfl,rfl,rfl,F⟩
theorem zSr(o:zL)(ρ:Nat→Nat)(r:Nat)(count:Int)(hk:o.kind=2)(hw:WOk o)(hf:zG (flT o.kind.toNat) o count=false)(hc:count≤64)(hρ:∀ q,ρ q < 16)(h0:∀ q,0≤q→ρ q=0)(hr:r < 16):zAz ({ yQ o ρ with d:=(r:Int) }):=by
 obtain⟨n0,n1,n2,k2⟩:=zCn hf
 have lo:=hw.lo
 have hi:=hw.hi
 rw[hk] at lo hi n2 k2
 have lo:0≤o.w:=lo
 have hi:o.w≤11:=hi
 have n2:false=false→o.n=0:=n2
 have k2:false=false→o.k=0:=k2
 obtain⟨w,ew⟩:∃ w:Nat,o.w=w:=⟨o.w.toNat,by omega⟩
 have r0:=h0 0 aL
 have r1:=h0 (0+1) aO
 have r2:=h0 (0+2) aO
 have kz:=k2 rfl
 have nz:=n2 rfl
 have F:=zRA ⟨0,by decide⟩ (r) (w) zq10 aO
 have e:{ yQ o ρ with d:=(r:Int) }=⟨((6+0:Nat):Int),((r:Nat):Int),((0:Nat):Int),((0:Nat):Int),((0:Nat):Int),((w:Nat):Int),0,0⟩:=by
  refine uS _ _ ?_ ?_ ?_ ?_ ?_ ?_ ?_ ?_<;>simp[yQ,yF,hk,toT,uN,ew,r0,r1,r2,kz,nz]<;>omega
 rw[e]
 exact⟨5,_,_,_,_,_,_,rfl,rfl,rfl,rfl,rfl,rfl,F⟩
theorem zSs(o:zL)(ρ:Nat→Nat)(r:Nat)(count:Int)(hk:o.kind=3)(hw:WOk o)(hf:zG (flT o.kind.toNat) o count=false)(hc:count≤64)(hρ:∀ q,ρ q < 16)(h0:∀ q,1≤q→ρ q=0)(hr:r < 16):zAz (yQ o ρ):=by
 obtain⟨n0,n1,n2,k2⟩:=zCn hf
 have lo:=hw.lo
 have hi:=hw.hi
 rw[hk] at lo hi n2 k2
 have lo:0≤o.w:=lo
 have hi:o.w≤11:=hi
 have n2:false=false→o.n=0:=n2
 have k2:false=false→o.k=0:=k2
 obtain⟨w,ew⟩:∃ w:Nat,o.w=w:=⟨o.w.toNat,by omega⟩
 have r0:=h0 1 aL
 have r1:=h0 (1+1) aO
 have r2:=h0 (1+2) aO
 have kz:=k2 rfl
 have nz:=n2 rfl
 have F:=zRB ⟨0,by decide⟩ (ρ 0) (w) zq10 aO
 have e:yQ o ρ=⟨((7+0:Nat):Int),((0:Nat):Int),((ρ 0:Nat):Int),((0:Nat):Int),((0:Nat):Int),((w:Nat):Int),0,0⟩:=by
  refine uS _ _ ?_ ?_ ?_ ?_ ?_ ?_ ?_ ?_<;>simp[yQ,yF,hk,toT,uN,ew,r0,r1,r2,kz,nz]<;>omega
 rw[e]
 exact⟨6,_,_,_,_,_,_,rfl,rfl,rfl,rfl,rfl,rfl,F⟩
theorem zSt(o:zL)(ρ:Nat→Nat)(r:Nat)(count:Int)(hk:o.kind=4)(hw:WOk o)(hf:zG (flT o.kind.toNat) o count=false)(hc:count≤64)(hρ:∀ q,ρ q < 16)(h0:∀ q,2≤q→ρ q=0)(hr:r < 16):zAz ({ yQ o ρ with d:=(r:Int) }):=by
 obtain⟨n0,n1,n2,k2⟩:=zCn hf
 have lo:=hw.lo
 have hi:=hw.hi
 rw[hk] at lo hi n2 k2
 have lo:0≤o.w:=lo
 have hi:o.w≤15:=hi
 have n2:false=false→o.n=0:=n2
 have k2:false=false→o.k=0:=k2
 obtain⟨w,ew⟩:∃ w:Nat,o.w=w:=⟨o.w.toNat,by omega⟩
 have r0:=h0 2 aL
 have r1:=h0 (2+1) aO
 have r2:=h0 (2+2) aO
 have kz:=k2 rfl
 have nz:=n2 rfl
 have F:=zPu ⟨w,by omega⟩ (r) (ρ 0) (ρ 1) zq10 zq10 zq10
 have e:{ yQ o ρ with d:=(r:Int) }=⟨((16+w:Nat):Int),((r:Nat):Int),((ρ 0:Nat):Int),((ρ 1:Nat):Int),((0:Nat):Int),((0:Nat):Int),0,0⟩:=by
  refine uS _ _ ?_ ?_ ?_ ?_ ?_ ?_ ?_ ?_<;>simp[yQ,yF,hk,toT,uN,ew,r0,r1,r2,kz,nz]<;>omega
 rw[e]
 exact⟨15,_,_,_,_,_,_,rfl,rfl,rfl,rfl,rfl,rfl,F⟩
theorem zSu(o:zL)(ρ:Nat→Nat)(r:Nat)(count:Int)(hk:o.kind=5)(hw:WOk o)(hf:zG (flT o.kind.toNat) o count=false)(hc:count≤64)(hρ:∀ q,ρ q < 16)(h0:∀ q,1≤q→ρ q=0)(hr:r < 16):zAz ({ yQ o ρ with d:=(r:Int) }):=by
 obtain⟨n0,n1,n2,k2⟩:=zCn hf
 have lo:=hw.lo
 have hi:=hw.hi
 rw[hk] at lo hi n2 k2
 have lo:0≤o.w:=lo
 have hi:o.w≤6:=hi
 have n2:false=false→o.n=0:=n2
 have k2:false=false→o.k=0:=k2
 obtain⟨w,ew⟩:∃ w:Nat,o.w=w:=⟨o.w.toNat,by omega⟩
 have r0:=h0 1 aL
 have r1:=h0 (1+1) aO
 have r2:=h0 (1+2) aO
 have kz:=k2 rfl
 have nz:=n2 rfl
 have F:=zPv ⟨w,by omega⟩ (r) (ρ 0) zq10 zq10
 have e:{ yQ o ρ with d:=(r:Int) }=⟨((32+w:Nat):Int),((r:Nat):Int),((ρ 0:Nat):Int),((0:Nat):Int),((0:Nat):Int),((0:Nat):Int),0,0⟩:=by
  refine uS _ _ ?_ ?_ ?_ ?_ ?_ ?_ ?_ ?_<;>simp[yQ,yF,hk,toT,uN,ew,r0,r1,r2,kz,nz]<;>omega
 rw[e]
 exact⟨16,_,_,_,_,_,_,rfl,rfl,rfl,rfl,rfl,rfl,F⟩
theorem zSv(o:zL)(ρ:Nat→Nat)(r:Nat)(count:Int)(hk:o.kind=6)(hw:WOk o)(hf:zG (flT o.kind.toNat) o count=false)(hc:count≤64)(hρ:∀ q,ρ q < 16)(h0:∀ q,3≤q→ρ q=0)(hr:r < 16):zAz ({ yQ o ρ with d:=(r:Int) }):=by
 obtain⟨n0,n1,n2,k2⟩:=zCn hf
 have lo:=hw.lo
 have hi:=hw.hi
 rw[hk] at lo hi n2 k2
 have lo:0≤o.w:=lo
 have hi:o.w≤0:=hi
 have n2:false=false→o.n=0:=n2
 have k2:false=false→o.k=0:=k2
 obtain⟨w,ew⟩:∃ w:Nat,o.w=w:=⟨o.w.toNat,by omega⟩
 have r0:=h0 3 aL
 have r1:=h0 (3+1) aO
 have r2:=h0 (3+2) aO
 have kz:=k2 rfl
 have nz:=n2 rfl
 have wz:w=0:=aO
 have F:=zRz ⟨0,by decide⟩ (r) (ρ 0) (ρ 1) (ρ 2) zq10 zq10 zq10 zq10
 have e:{ yQ o ρ with d:=(r:Int) }=⟨((5+0:Nat):Int),((r:Nat):Int),((ρ 0:Nat):Int),((ρ 1:Nat):Int),((ρ 2:Nat):Int),((0:Nat):Int),0,0⟩:=by
  refine uS _ _ ?_ ?_ ?_ ?_ ?_ ?_ ?_ ?_<;>simp[yQ,yF,hk,toT,uN,ew,r0,r1,r2,kz,nz,wz]<;>omega
 rw[e]
 exact⟨4,_,_,_,_,_,_,rfl,rfl,rfl,rfl,rfl,rfl,F⟩
theorem zSw(o:zL)(ρ:Nat→Nat)(r:Nat)(count:Int)(hk:o.kind=7)(hw:WOk o)(hf:zG (flT o.kind.toNat) o count=false)(hc:count≤64)(hρ:∀ q,ρ q < 16)(h0:∀ q,3≤q→ρ q=0)(hr:r < 16):zAz ({ yQ o ρ with d:=(r:Int) }):=by
 obtain⟨n0,n1,n2,k2⟩:=zCn hf
 have lo:=hw.lo
 have hi:=hw.hi
 rw[hk] at lo hi n2 k2
 have lo:0≤o.w:=lo
 have hi:o.w≤12:=hi
 have n2:false=false→o.n=0:=n2
 have k2:false=false→o.k=0:=k2
 obtain⟨w,ew⟩:∃ w:Nat,o.w=w:=⟨o.w.toNat,by omega⟩
 have r0:=h0 3 aL
 have r1:=h0 (3+1) aO
 have r2:=h0 (3+2) aO
 have kz:=k2 rfl
 have nz:=n2 rfl
 have F:=zPw ⟨w,by omega⟩ (r) (ρ 0) (ρ 1) (ρ 2) zq10 zq10 zq10 zq10
 have e:{ yQ o ρ with d:=(r:Int) }=⟨((48+w:Nat):Int),((r:Nat):Int),((ρ 0:Nat):Int),((ρ 1:Nat):Int),((ρ 2:Nat):Int),((0:Nat):Int),0,0⟩:=by
  refine uS _ _ ?_ ?_ ?_ ?_ ?_ ?_ ?_ ?_<;>simp[yQ,yF,hk,toT,uN,ew,r0,r1,r2,kz,nz]<;>omega
 rw[e]
 exact⟨17,_,_,_,_,_,_,rfl,rfl,rfl,rfl,rfl,rfl,F⟩
theorem zSx(o:zL)(ρ:Nat→Nat)(r:Nat)(count:Int)(hk:o.kind=8)(hw:WOk o)(hf:zG (flT o.kind.toNat) o count=false)(hc:count≤64)(hρ:∀ q,ρ q < 16)(h0:∀ q,1≤q→ρ q=0)(hr:r < 16):zAz ({ yQ o ρ with d:=(r:Int) }):=by
 obtain⟨n0,n1,n2,k2⟩:=zCn hf
 have lo:=hw.lo
 have hi:=hw.hi
 rw[hk] at lo hi n2 k2
 have lo:0≤o.w:=lo
 have hi:o.w≤15:=hi
 have n2:false=false→o.n=0:=n2
 have k2:false=false→o.k=0:=k2
 obtain⟨w,ew⟩:∃ w:Nat,o.w=w:=⟨o.w.toNat,by omega⟩
 have r0:=h0 1 aL
 have r1:=h0 (1+1) aO
 have r2:=h0 (1+2) aO
 have kz:=k2 rfl
 have nz:=n2 rfl
 have F:=zPx ⟨w,by omega⟩ (r) (ρ 0) zq10 zq10
 have e:{ yQ o ρ with d:=(r:Int) }=⟨((64+w:Nat):Int),((r:Nat):Int),((ρ 0:Nat):Int),((0:Nat):Int),((0:Nat):Int),((0:Nat):Int),0,0⟩:=by
  refine uS _ _ ?_ ?_ ?_ ?_ ?_ ?_ ?_ ?_<;>simp[yQ,yF,hk,toT,uN,ew,r0,r1,r2,kz,nz]<;>omega
 rw[e]
 exact⟨18,_,_,_,_,_,_,rfl,rfl,rfl,rfl,rfl,rfl,F⟩
theorem zSy(o:zL)(ρ:Nat→Nat)(r:Nat)(count:Int)(hk:o.kind=9)(hw:WOk o)(hf:zG (flT o.kind.toNat) o count=false)(hc:count≤64)(hρ:∀ q,ρ q < 16)(h0:∀ q,1≤q→ρ q=0)(hr:r < 16):zAz ({ yQ o ρ with d:=(r:Int) }):=by
 obtain⟨n0,n1,n2,k2⟩:=zCn hf
 have lo:=hw.lo
 have hi:=hw.hi
 rw[hk] at lo hi n2 k2
 have lo:0≤o.w:=lo
 have hi:o.w≤4:=hi
 have n2:true=false→o.n=0:=n2
 have k2:true=false→o.k=0:=k2
 obtain⟨w,ew⟩:∃ w:Nat,o.w=w:=⟨o.w.toNat,by omega⟩
 have r0:=h0 1 aL
 have r1:=h0 (1+1) aO
 have r2:=h0 (1+2) aO
 have ne:o.n=((o.n.toNat:Nat):Int):=aO
 have F:=zPy ⟨w,by omega⟩ (r) (ρ 0) (o.n.toNat) (o.k) zq10 zq10 aO
 have e:{ yQ o ρ with d:=(r:Int) }=⟨((80+w:Nat):Int),((r:Nat):Int),((ρ 0:Nat):Int),((0:Nat):Int),((0:Nat):Int),((o.n.toNat:Nat):Int),o.k,0⟩:=by
  refine uS _ _ ?_ ?_ ?_ ?_ ?_ ?_ ?_ ?_<;>simp[yQ,yF,hk,toT,uN,ew,r0,r1,r2]<;>omega
 rw[e]
 exact⟨19,_,_,_,_,_,_,rfl,rfl,rfl,rfl,rfl,rfl,F⟩
theorem zQw(o:zL)(ρ:Nat→Nat)(r:Nat)(count:Int)(hk:o.kind=10)(hw:WOk o)(hf:zG (flT o.kind.toNat) o count=false)(hc:count≤64)(hρ:∀ q,ρ q < 16)(h0:∀ q,2≤q→ρ q=0)(hr:r < 16):zAz (yQ o ρ):=by
 obtain⟨n0,n1,n2,k2⟩:=zCn hf
 have lo:=hw.lo
 have hi:=hw.hi
 rw[hk] at lo hi n2 k2
 have lo:0≤o.w:=lo
 have hi:o.w≤2:=hi
 have n2:true=false→o.n=0:=n2
 have k2:true=false→o.k=0:=k2
 obtain⟨w,ew⟩:∃ w:Nat,o.w=w:=⟨o.w.toNat,by omega⟩
 have r0:=h0 2 aL
 have r1:=h0 (2+1) aO
 have r2:=h0 (2+2) aO
 have ne:o.n=((o.n.toNat:Nat):Int):=aO
 have F:=zPz ⟨w,by omega⟩ (ρ 1) (ρ 0) (o.n.toNat) (o.k) zq10 zq10 aO
 have e:yQ o ρ=⟨((88+w:Nat):Int),((ρ 1:Nat):Int),((ρ 0:Nat):Int),((0:Nat):Int),((0:Nat):Int),((o.n.toNat:Nat):Int),o.k,0⟩:=by
  refine uS _ _ ?_ ?_ ?_ ?_ ?_ ?_ ?_ ?_<;>simp[yQ,yF,hk,toT,uN,ew,r0,r1,r2]<;>omega
 rw[e]
 exact⟨20,_,_,_,_,_,_,rfl,rfl,rfl,rfl,rfl,rfl,F⟩
theorem zQx(o:zL)(ρ:Nat→Nat)(r:Nat)(count:Int)(hk:o.kind=11)(hw:WOk o)(hf:zG (flT o.kind.toNat) o count=false)(hc:count≤64)(hρ:∀ q,ρ q < 16)(h0:∀ q,0≤q→ρ q=0)(hr:r < 16):zAz (yQ o ρ):=by
 obtain⟨n0,n1,n2,k2⟩:=zCn hf
 have lo:=hw.lo
 have hi:=hw.hi
 rw[hk] at lo hi n2 k2
 have lo:0≤o.w:=lo
 have hi:o.w≤0:=hi
 have n2:true=false→o.n=0:=n2
 have k2:true=false→o.k=0:=k2
 obtain⟨w,ew⟩:∃ w:Nat,o.w=w:=⟨o.w.toNat,by omega⟩
 have r0:=h0 0 aL
 have r1:=h0 (0+1) aO
 have r2:=h0 (0+2) aO
 have ne:o.n=((o.n.toNat:Nat):Int):=aO
 have wz:w=0:=aO
 have F:=zRE ⟨0,by decide⟩ (o.n.toNat) (o.k)  aO
 have e:yQ o ρ=⟨((10+0:Nat):Int),((0:Nat):Int),((0:Nat):Int),((0:Nat):Int),((0:Nat):Int),((o.n.toNat:Nat):Int),o.k,0⟩:=by
  refine uS _ _ ?_ ?_ ?_ ?_ ?_ ?_ ?_ ?_<;>simp[yQ,yF,hk,toT,uN,ew,r0,r1,r2,wz]<;>omega
 rw[e]
 exact⟨9,_,_,_,_,_,_,rfl,rfl,rfl,rfl,rfl,rfl,F⟩
theorem zQy(o:zL)(ρ:Nat→Nat)(r:Nat)(count:Int)(hk:o.kind=12)(hw:WOk o)(hf:zG (flT o.kind.toNat) o count=false)(hc:count≤64)(hρ:∀ q,ρ q < 16)(h0:∀ q,1≤q→ρ q=0)(hr:r < 16):zAz (yQ o ρ):=by
 obtain⟨n0,n1,n2,k2⟩:=zCn hf
 have lo:=hw.lo
 have hi:=hw.hi
 rw[hk] at lo hi n2 k2
 have lo:0≤o.w:=lo
 have hi:o.w≤0:=hi
 have n2:true=false→o.n=0:=n2
 have k2:true=false→o.k=0:=k2
 obtain⟨w,ew⟩:∃ w:Nat,o.w=w:=⟨o.w.toNat,by omega⟩
 have r0:=h0 1 aL
 have r1:=h0 (1+1) aO
 have r2:=h0 (1+2) aO
 have ne:o.n=((o.n.toNat:Nat):Int):=aO
 have wz:w=0:=aO
 have F:=zPq ⟨0,by decide⟩ (ρ 0) (o.n.toNat) (o.k) zq10 aO
 have e:yQ o ρ=⟨((11+0:Nat):Int),((0:Nat):Int),((ρ 0:Nat):Int),((0:Nat):Int),((0:Nat):Int),((o.n.toNat:Nat):Int),o.k,0⟩:=by
  refine uS _ _ ?_ ?_ ?_ ?_ ?_ ?_ ?_ ?_<;>simp[yQ,yF,hk,toT,uN,ew,r0,r1,r2,wz]<;>omega
 rw[e]
 exact⟨10,_,_,_,_,_,_,rfl,rfl,rfl,rfl,rfl,rfl,F⟩
theorem zQz(o:zL)(ρ:Nat→Nat)(r:Nat)(count:Int)(hk:o.kind=13)(hw:WOk o)(hf:zG (flT o.kind.toNat) o count=false)(hc:count≤64)(hρ:∀ q,ρ q < 16)(h0:∀ q,1≤q→ρ q=0)(hr:r < 16):zAz (yQ o ρ):=by
 obtain⟨n0,n1,n2,k2⟩:=zCn hf
 have lo:=hw.lo
 have hi:=hw.hi
 rw[hk] at lo hi n2 k2
 have lo:1≤o.w:=lo
 have hi:o.w≤7:=hi
 have n2:true=false→o.n=0:=n2
 have k2:true=false→o.k=0:=k2
 obtain⟨w,ew⟩:∃ w:Nat,o.w=w:=⟨o.w.toNat,by omega⟩
 have r0:=h0 1 aL
 have r1:=h0 (1+1) aO
 have r2:=h0 (1+2) aO
 have ne:o.n=((o.n.toNat:Nat):Int):=aO
 have F:=zPs ⟨0,by decide⟩ (w) (ρ 0) (o.n.toNat) (o.k) zq10 zq10 aO aO aO
 have e:yQ o ρ=⟨((13+0:Nat):Int),((w:Nat):Int),((ρ 0:Nat):Int),((0:Nat):Int),((0:Nat):Int),((o.n.toNat:Nat):Int),o.k,0⟩:=by
  refine uS _ _ ?_ ?_ ?_ ?_ ?_ ?_ ?_ ?_<;>simp[yQ,yF,hk,toT,uN,ew,r0,r1,r2]<;>omega
 rw[e]
 exact⟨12,_,_,_,_,_,_,rfl,rfl,rfl,rfl,rfl,rfl,F⟩
theorem zQA(o:zL)(ρ:Nat→Nat)(r:Nat)(count:Int)(hk:o.kind=14)(hw:WOk o)(hf:zG (flT o.kind.toNat) o count=false)(hc:count≤64)(hρ:∀ q,ρ q < 16)(h0:∀ q,0≤q→ρ q=0)(hr:r < 16):zAz (yQ o ρ):=by
 obtain⟨n0,n1,n2,k2⟩:=zCn hf
 have lo:=hw.lo
 have hi:=hw.hi
 rw[hk] at lo hi n2 k2
 have lo:1≤o.w:=lo
 have hi:o.w≤7:=hi
 have n2:true=false→o.n=0:=n2
 have k2:true=false→o.k=0:=k2
 obtain⟨w,ew⟩:∃ w:Nat,o.w=w:=⟨o.w.toNat,by omega⟩
 have r0:=h0 0 aL
 have r1:=h0 (0+1) aO
 have r2:=h0 (0+2) aO
 have ne:o.n=((o.n.toNat:Nat):Int):=aO
 have F:=zPr ⟨0,by decide⟩ (w) (o.n.toNat) (o.k) ((o.b%4294967296).toNat) zq10 aO aO aO
 have e:yQ o ρ=⟨((12+0:Nat):Int),((w:Nat):Int),((0:Nat):Int),((0:Nat):Int),((0:Nat):Int),((o.n.toNat:Nat):Int),o.k,(o.b%4294967296).toNat⟩:=by
  refine uS _ _ ?_ ?_ ?_ ?_ ?_ ?_ ?_ ?_<;>simp[yQ,yF,hk,toT,uN,ew,r0,r1,r2]<;>omega
 rw[e]
 exact⟨11,_,_,_,_,_,_,rfl,rfl,rfl,rfl,rfl,rfl,F⟩
theorem zQB(o:zL)(ρ:Nat→Nat)(r:Nat)(count:Int)(hk:o.kind=15)(hw:WOk o)(hf:zG (flT o.kind.toNat) o count=false)(hc:count≤64)(hρ:∀ q,ρ q < 16)(h0:∀ q,0≤q→ρ q=0)(hr:r < 16):zAz (yQ o ρ):=by
 obtain⟨n0,n1,n2,k2⟩:=zCn hf
 have lo:=hw.lo
 have hi:=hw.hi
 rw[hk] at lo hi n2 k2
 have lo:0≤o.w:=lo
 have hi:o.w≤0:=hi
 have n2:true=false→o.n=0:=n2
 have k2:true=false→o.k=0:=k2
 obtain⟨w,ew⟩:∃ w:Nat,o.w=w:=⟨o.w.toNat,by omega⟩
 have r0:=h0 0 aL
 have r1:=h0 (0+1) aO
 have r2:=h0 (0+2) aO
 have ne:o.n=((o.n.toNat:Nat):Int):=aO
 have wz:w=0:=aO
 have F:=zPt ⟨0,by decide⟩ (o.n.toNat) (o.k)  aO
 have e:yQ o ρ=⟨((14+0:Nat):Int),((0:Nat):Int),((0:Nat):Int),((0:Nat):Int),((0:Nat):Int),((o.n.toNat:Nat):Int),o.k,0⟩:=by
  refine uS _ _ ?_ ?_ ?_ ?_ ?_ ?_ ?_ ?_<;>simp[yQ,yF,hk,toT,uN,ew,r0,r1,r2,wz]<;>omega
 rw[e]
 exact⟨13,_,_,_,_,_,_,rfl,rfl,rfl,rfl,rfl,rfl,F⟩
theorem zQC(o:zL)(ρ:Nat→Nat)(r:Nat)(count:Int)(hk:o.kind=16)(hw:WOk o)(hf:zG (flT o.kind.toNat) o count=false)(hc:count≤64)(hρ:∀ q,ρ q < 16)(h0:∀ q,1≤q→ρ q=0)(hr:r < 16):zAz (yQ o ρ):=by
 obtain⟨n0,n1,n2,k2⟩:=zCn hf
 have lo:=hw.lo
 have hi:=hw.hi
 rw[hk] at lo hi n2 k2
 have lo:0≤o.w:=lo
 have hi:o.w≤0:=hi
 have n2:true=false→o.n=0:=n2
 have k2:false=false→o.k=0:=k2
 obtain⟨w,ew⟩:∃ w:Nat,o.w=w:=⟨o.w.toNat,by omega⟩
 have r0:=h0 1 aL
 have r1:=h0 (1+1) aO
 have r2:=h0 (1+2) aO
 have kz:=k2 rfl
 have ne:o.n=((o.n.toNat:Nat):Int):=aO
 have wz:w=0:=aO
 have F:=zRy ⟨0,by decide⟩ (ρ 0) (o.n.toNat) zq10 aO
 have e:yQ o ρ=⟨((4+0:Nat):Int),((0:Nat):Int),((ρ 0:Nat):Int),((0:Nat):Int),((0:Nat):Int),((o.n.toNat:Nat):Int),0,0⟩:=by
  refine uS _ _ ?_ ?_ ?_ ?_ ?_ ?_ ?_ ?_<;>simp[yQ,yF,hk,toT,uN,ew,r0,r1,r2,kz,wz]<;>omega
 rw[e]
 exact⟨3,_,_,_,_,_,_,rfl,rfl,rfl,rfl,rfl,rfl,F⟩
theorem zQD(o:zL)(ρ:Nat→Nat)(r:Nat)(count:Int)(hk:o.kind=17)(hw:WOk o)(hf:zG (flT o.kind.toNat) o count=false)(hc:count≤64)(hρ:∀ q,ρ q < 16)(h0:∀ q,0≤q→ρ q=0)(hr:r < 16):zAz ({ yQ o ρ with d:=(r:Int) }):=by
 obtain⟨n0,n1,n2,k2⟩:=zCn hf
 have lo:=hw.lo
 have hi:=hw.hi
 rw[hk] at lo hi n2 k2
 have lo:0≤o.w:=lo
 have hi:o.w≤0:=hi
 have n2:false=false→o.n=0:=n2
 have k2:false=false→o.k=0:=k2
 obtain⟨w,ew⟩:∃ w:Nat,o.w=w:=⟨o.w.toNat,by omega⟩
 have r0:=h0 0 aL
 have r1:=h0 (0+1) aO
 have r2:=h0 (0+2) aO
 have kz:=k2 rfl
 have nz:=n2 rfl
 have wz:w=0:=aO
 have F:=zPA ⟨0,by decide⟩ (r) zq10
 have e:{ yQ o ρ with d:=(r:Int) }=⟨((97+0:Nat):Int),((r:Nat):Int),((0:Nat):Int),((0:Nat):Int),((0:Nat):Int),((0:Nat):Int),0,0⟩:=by
  refine uS _ _ ?_ ?_ ?_ ?_ ?_ ?_ ?_ ?_<;>simp[yQ,yF,hk,toT,uN,ew,r0,r1,r2,kz,nz,wz]<;>omega
 rw[e]
 exact⟨22,_,_,_,_,_,_,rfl,rfl,rfl,rfl,rfl,rfl,F⟩
end Go.Proofs.Ytkmjenjahbicpaa.Ho
