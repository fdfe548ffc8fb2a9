import Derived.Test.YthcpipfmicbnmaaGreatHI
import Derived.Test.YthcpipfmicbnmaaGreatHJ0
import Derived.Test.YthcpipfmicbnmaaGreatHJ1
import Derived.Test.YthcpipfmicbnmaaGreatHJ2
import Derived.Test.YthcpipfmicbnmaaGreatHJ3
set_option linter.unusedVariables false
set_option linter.unusedSimpArgs false
set_option maxHeartbeats 8000000
namespace Go.Proofs.YthcpipfmicbnmaaGreat.Ho
open Go.RowKit
set_option maxRecDepth 100000
theorem zMj:∀ op:Fin 256,(yQ (op.val:Int)).n=0∨((yQ (op.val:Int)).s=#[110]∧(yQ (op.val:Int)).n=2∧op.val≠12∧op.val≠13)∨((yQ (op.val:Int)).s=#[100]∧(yQ (op.val:Int)).n=2∧op.val≠12∧op.val≠13)∨((yQ (op.val:Int)).s=#[100,97]∧(yQ (op.val:Int)).n=1∧op.val≠12∧op.val≠13)∨((yQ (op.val:Int)).s=#[97,110]∧(yQ (op.val:Int)).n=1∧op.val≠12∧op.val≠13)∨((yQ (op.val:Int)).s=#[100,97,98,99]∧(yQ (op.val:Int)).n=1∧op.val≠12∧op.val≠13)∨((yQ (op.val:Int)).s=#[100,110]∧(yQ (op.val:Int)).n=1∧op.val≠12∧op.val≠13)∨((yQ (op.val:Int)).s=#[97,110]∧(yQ (op.val:Int)).n=2∧op.val≠12∧op.val≠13)∨((yQ (op.val:Int)).s=#[100,110]∧(yQ (op.val:Int)).n=3∧op.val=12)∨((yQ (op.val:Int)).s=#[100,97,110]∧(yQ (op.val:Int)).n=2∧op.val≠12∧op.val≠13)∨((yQ (op.val:Int)).s=#[100,97,110]∧(yQ (op.val:Int)).n=2∧op.val=13)∨((yQ (op.val:Int)).s=#[100,97,98]∧(yQ (op.val:Int)).n=1∧op.val≠12∧op.val≠13)∨((yQ (op.val:Int)).s=#[100]∧(yQ (op.val:Int)).n=1∧op.val≠12∧op.val≠13):=by decide +kernel
def zIh(op:Nat):Bool:=
 match hit (op:Int) with
 | none=>(yQ (op:Int)).n==0
 | some k=>(yQ (op:Int)).n==szN (zG k).has && (hasB (yQ (op:Int)).s 100==hb (zG k).has 448) && (hasB (yQ (op:Int)).s 97==hb (zG k).has 1) && (hasB (yQ (op:Int)).s 98==hb (zG k).has 2)
  && (hasB (yQ (op:Int)).s 99==hb (zG k).has 4) && (hasB (yQ (op:Int)).s 110==hb (zG k).has 8) && (hb (zG k).has 256==(op==12 || op==13)) && (if hasB (yQ (op:Int)).s 110 then decide ((yQ (op:Int)).most=(zG k).most+1) else decide (0≤(zG k).most))
  && (!(hasB (yQ (op:Int)).s 110) || (!(hasB (yQ (op:Int)).s 98) && !(hasB (yQ (op:Int)).s 99)))
theorem zE3:∀ op:Fin 256,zIh op.val=true:=by decide +kernel
def xR(f:Fm)(v u1 u2:Nat):Cd:=
 ⟨((v%256:Nat):Int),if hasB f.s 100 then(v:Int) / 256%16 else 0,if hasB f.s 97 then(v:Int) / 4096%16 else 0,if hasB f.s 98 then(v:Int) / 65536%16 else 0,if hasB f.s 99 then(v:Int) / 1048576%16 else 0,if hasB f.s 110 then(v:Int) / 65536 else 0,if 1 < f.n then u1 else 0,if 2 < f.n then u2 else 0⟩
theorem zHP(D A B C M:Bool)(v:Nat)(hv:v < 4294967296)(hM:M=true→B=false∧C=false) :
  let r1:=rst true 1 256 v
  let r2:=rst D 256 16 r1
  let r3:=rst A 4096 16 r2
  let r4:=rst B 65536 16 r3
  let r5:=rst C 1048576 16 r4
  let r6:=rst M 65536 65536 r5
  (zP true 1 256 v:Int)=((v%256:Nat):Int)∧(zP D 256 16 r1:Int)=(if D then(v:Int) / 256%16 else 0)∧(zP A 4096 16 r2:Int)=(if A then(v:Int) / 4096%16 else 0)∧(zP B 65536 16 r3:Int)=(if B then(v:Int) / 65536%16 else 0)
  ∧(zP C 1048576 16 r4:Int)=(if C then(v:Int) / 1048576%16 else 0)∧(zP M 65536 65536 r5:Int)=(if M then(v:Int) / 65536 else 0)
  ∧(r6=0↔(((v%256:Nat):Int)+256*(if D then(v:Int) / 256%16 else 0)+4096*(if A then(v:Int) / 4096%16 else 0)+65536*(if B then(v:Int) / 65536%16 else 0)+1048576*(if C then(v:Int) / 1048576%16 else 0)+65536*(if M then(v:Int) / 65536 else 0))%4294967296=v):=by
 cases M
 ·cases D<;>cases A<;>cases B<;>cases C<;>simp only[zP,rst,if_true,if_false,Bool.false_eq_true]<;>refine⟨?_,?_,?_,?_,?_,?_,?_⟩<;>omega
 ·obtain⟨rfl,rfl⟩:=hM rfl
  cases D<;>cases A<;>simp only[zP,rst,if_true,if_false,Bool.false_eq_true]<;>refine⟨?_,?_,?_,?_,?_,?_,?_⟩<;>omega
structure Link(op k:Nat):Prop where
 n:(yQ (op:Int)).n=szN (zG k).has
 d:hasB (yQ (op:Int)).s 100=hb (zG k).has 448
 a:hasB (yQ (op:Int)).s 97=hb (zG k).has 1
 b:hasB (yQ (op:Int)).s 98=hb (zG k).has 2
 c:hasB (yQ (op:Int)).s 99=hb (zG k).has 4
 m:hasB (yQ (op:Int)).s 110=hb (zG k).has 8
 s:hb (zG k).has 256=(op==12 || op==13)
 most:if hasB (yQ (op:Int)).s 110=true then(yQ (op:Int)).most=(zG k).most+1 else 0≤(zG k).most
 ex:hasB (yQ (op:Int)).s 110=true→hasB (yQ (op:Int)).s 98=false∧hasB (yQ (op:Int)).s 99=false
theorem zD0{op k:Nat}(ho:op < 256)(hk:hit (op:Int)=some k):Link op k:=by
 have h:=zE3 ⟨op,ho⟩
 simp only[zIh,hk,Bool.and_eq_true,beq_iff_eq] at h
 obtain⟨⟨⟨⟨⟨⟨⟨⟨h1,h2⟩,h3⟩,h4⟩,h5⟩,h6⟩,h7⟩,h8⟩,h9⟩:=h
 refine⟨h1,h2,h3,h4,h5,h6,h7,?_,?_⟩
 ·split at h8<;>rename_i hh
  ·rw[if_pos hh];exact of_decide_eq_true h8
  ·rw[if_neg hh];exact of_decide_eq_true h8
 ·intro hm
  rw[hm] at h9
  simpa using h9
theorem zHE{op:Nat}(ho:op < 256)(hk:hit (op:Int)=none):(yQ (op:Int)).n=0:=by
 have h:=zE3 ⟨op,ho⟩
 simp only[zIh,hk] at h
 simpa using h
theorem zIO{k:Nat}(v u1 u2:Nat)(hv:v < 4294967296)(L:Link (v%256) k) :
  rdX (zG k).has v (if 1 < szN (zG k).has then u1 else 0) (if 2 < szN (zG k).has then u2 else 0)=xR (yQ ((v%256:Nat):Int)) v u1 u2
  ∧(dcE (zG k) v (xR (yQ ((v%256:Nat):Int)) v u1 u2)=0↔uB (yQ ((v%256:Nat):Int)) v (xR (yQ ((v%256:Nat):Int)) v u1 u2)=true):=by
 obtain⟨q1,q2,q3,q4,q5,q6,q7⟩:=zHP (hb (zG k).has 448) (hb (zG k).has 1) (hb (zG k).has 2) (hb (zG k).has 4) (hb (zG k).has 8) v hv (fun h=>by
  have:=L.ex (by rw[L.m];exact h)
  rw[L.b,L.c] at this;exact this)
 have e1:rdX (zG k).has v (if 1 < szN (zG k).has then u1 else 0) (if 2 < szN (zG k).has then u2 else 0)=xR (yQ ((v%256:Nat):Int)) v u1 u2:=by
  unfold rdX xR
  rw[L.d,L.a,L.b,L.c,L.m,L.n]
  simp only[Cd.mk.injEq]
  exact⟨q1,q2,q3,q4,q5,q6,trivial,trivial⟩
 refine⟨e1,?_⟩
 have hf:rd6 (zG k).has v=0↔fst (xR (yQ ((v%256:Nat):Int)) v u1 u2)=v:=by
  unfold fst xR
  rw[L.d,L.a,L.b,L.c,L.m]
  exact q7
 have hm:=L.most
 have hn:(xR (yQ ((v%256:Nat):Int)) v u1 u2).n=if hasB (yQ ((v%256:Nat):Int)).s 110 then(v:Int) / 65536 else 0:=rfl
 have hop:(xR (yQ ((v%256:Nat):Int)) v u1 u2).op=((v%256:Nat):Int):=rfl
 have hs:hb (zG k).has 256=(decide ((xR (yQ ((v%256:Nat):Int)) v u1 u2).op=12) || decide ((xR (yQ ((v%256:Nat):Int)) v u1 u2).op=13)):=by
  rw[L.s,hop]
  generalize v%256=op
  rw[Bool.eq_iff_iff];simp;omega
 unfold dcE uB
 rw[hs]
 generalize xR (yQ ((v%256:Nat):Int)) v u1 u2=X at *
 generalize yQ ((v%256:Nat):Int)=f at *
 generalize zG k=g at *
 have hal:decide (X.n≤g.most) = !(hasB f.s 110 && decide (f.most≤X.n)):=by
  rw[hn]
  cases hB:hasB f.s 110
  ·rw[hB] at hm;simp at hm ⊢;exact hm
  ·rw[hB] at hm;simp at hm ⊢
   rw[hm,Bool.eq_iff_iff];simp;omega
 have hal2:alB (decide (X.op=12) || decide (X.op=13)) X.d X.n g.most=(!(hasB f.s 110 && decide (f.most≤X.n)) && !((decide (X.op=12) || decide (X.op=13)) && (decide (X.d < 1) || decide (7 < X.d)))):=by
  unfold alB
  rw[hal]
  congr 1
  generalize (decide (X.op=12) || decide (X.op=13))=b
  have h1:decide (X.d < 1) = !decide (1≤X.d):=by rw[Bool.eq_iff_iff];simp
  have h7:decide (7 < X.d) = !decide (X.d≤7):=by rw[Bool.eq_iff_iff];simp
  rw[h1,h7]
  cases b<;>cases decide (1≤X.d)<;>cases decide (X.d≤7)<;>rfl
 rw[hal2]
 by_cases h6:rd6 g.has v=0
 ·have h7:=hf.1 h6
  simp only[h6,h7,true_and,decide_true,Bool.true_and]
  split<;>simp_all
 ·have h7:¬fst X=v:=fun e=>h6 (hf.2 e)
  simp[h6,h7]
theorem zHo{ws:Nat→Nat}{len a k:Nat}(hlt:∀ i,ws i < 4294967296)(ha:a < len)(hk:hit ((ws a%256:Nat):Int)=some k)(hn:a+(yQ ((ws a%256:Nat):Int)).n≤len) :
  rdV (uB (yQ ((ws a%256:Nat):Int)) (ws a) (xR (yQ ((ws a%256:Nat):Int)) (ws a) (ws (a+1)) (ws (a+2)))) (xR (yQ ((ws a%256:Nat):Int)) (ws a) (ws (a+1)) (ws (a+2))) (yQ ((ws a%256:Nat):Int)).n=.tuple #[cdV (yG ws len a).x,.int .i64 (yG ws len a).n,.int .i64 (yG ws len a).e]:=by
 have L:=zD0 (Nat.mod_lt _ aD) hk
 obtain⟨e1,e2⟩:=zIO (ws a) (ws (a+1)) (ws (a+2)) (hlt a) L
 unfold yG
 rw[if_neg aO,if_neg aO]
 simp only[Int.toNat_natCast,hk]
 rw[if_neg (by rw[← L.n];omega),e1]
 cases hO:uB (yQ ((ws a%256:Nat):Int)) (ws a) (xR (yQ ((ws a%256:Nat):Int)) (ws a) (ws (a+1)) (ws (a+2)))
 ·rw[if_neg (by rw[e2,hO];decide)];rfl
 ·rw[if_pos (e2.2 hO),L.n];rfl
theorem zAa(f:Fm){s:Array UInt8}{n:Nat}(hs:f.s=s)(hn:f.n=n):f=⟨s,f.most,n⟩:=by cases f;simp at hs hn;rw[hs,hn]
theorem zAz(a:Option Addr)(len cap:Nat)(at':Int)(ws:Nat→Nat)(w:World)(hw:Wds w a len cap ws) :
  Calls Tryz.prog 23 #[.slice a len cap,.int .i64 at'] w fun e w'=>e=.returned (.tuple #[cdV (yG ws len at').x,.int .i64 (yG ws len at').n,.int .i64 (yG ws len at').e])∧Below w.heap.size w w':=by
 have hl:len≤140737488355328:=by rcases hw with h|⟨b,off,_,_,h,_⟩<;>omega
 by_cases h1:at' < 0∨(len:Int) < at'
 ·have hd:yG ws len at'=⟨4,zC,zF,0⟩:=by unfold yG;rw[if_pos h1]
  rw[hd]
  by_cases h0:at' < 0
  ·exact zJP a len cap at' w hl h0
  ·exact zJN a len cap at' w hl h0 aO
 ·by_cases h2:at'=len
  ·have hd:yG ws len at'=⟨1,zC,zF,0⟩:=by unfold yG;rw[if_neg h1,if_pos h2]
   rw[hd]
   subst h2
   exact zJM a len cap w hl
  ·rcases hw with h|⟨b,off,rfl,hcap,_,hr⟩
   ·exfalso;omega
   ·obtain⟨m,rfl⟩:∃ m:Nat,at'=m:=⟨at'.toNat,by omega⟩
    have hm:m < len:=aO
    have hv:=hr.lt m
    have c0:=hr.cell m hm
    cases hk:hit ((ws m%256:Nat):Int) with
    | none=>
     have hn:=zHE (Nat.mod_lt _ aD) hk
     have hd:yG ws len m=⟨2,zC,zF,0⟩:=by
      unfold yG;rw[if_neg h1,if_neg h2];simp only[Int.toNat_natCast,hk]
     rw[hd]
     exact zHV b off len cap m (ws m) (ws m%256) w hv c0 hr.lb hcap hl rfl hm _ _ (zAa _ rfl hn)
    | some k=>
     have L:=zD0 (Nat.mod_lt _ aD) hk
     by_cases h3:len < m+(yQ ((ws m%256:Nat):Int)).n
     ·have hd:yG ws len m=⟨1,zC,zF,0⟩:=by
       unfold yG;rw[if_neg h1,if_neg h2];simp only[Int.toNat_natCast,hk]
       rw[if_pos (by rw[← L.n];omega)]
      rw[hd]
      rcases zAf (zG k).has with hz|hz|hz
      ·rw[L.n,hz] at h3;exfalso;omega
      ·exact zFC b off len cap m (ws m) (ws m%256) w hv c0 hr.lb hcap hl rfl ⟨hm,by rw[L.n,hz] at h3;omega⟩ _ _ (zAa _ rfl (L.n.trans hz))
      ·exact zFD b off len cap m (ws m) (ws m%256) w hv c0 hr.lb hcap hl rfl ⟨hm,by rw[L.n,hz] at h3;omega⟩ _ _ (zAa _ rfl (L.n.trans hz))
     ·have h3':m+(yQ ((ws m%256:Nat):Int)).n≤len:=aO
      rw[← zHo hr.lt hm hk h3']
      rcases zMj ⟨ws m%256,Nat.mod_lt _ aD⟩ with hc|⟨hs,hn,hc⟩|⟨hs,hn,hc⟩|⟨hs,hn,hc⟩|⟨hs,hn,hc⟩|⟨hs,hn,hc⟩|⟨hs,hn,hc⟩|⟨hs,hn,hc⟩|⟨hs,hn,hc⟩|⟨hs,hn,hc⟩|⟨hs,hn,hc⟩|⟨hs,hn,hc⟩|⟨hs,hn,hc⟩
      ·exfalso
       simp only[] at hc
       rw[L.n] at hc
       rcases zAf (zG k).has with hz|hz|hz<;>omega
      ·simp only[] at hs hn
       have hE:=zAa _ hs hn
       rw[hn] at h3'
       generalize (yQ ((ws m%256:Nat):Int)).most=most at hE
       have hx:=zJO b off len cap m (m+1) (m+2) (ws m) (ws m%256) (ws (m+1)) (ws (m+2)) most ((ws m:Int) / 65536) rfl w hv c0 (hr.cell (m+1) aO) hr.lb hcap hl h3' rfl rfl rfl zq42 zq43 hE
       rw[hE]
       exact hx
      ·simp only[] at hs hn
       have hE:=zAa _ hs hn
       rw[hn] at h3'
       generalize (yQ ((ws m%256:Nat):Int)).most=most at hE
       have hx:=zJL b off len cap m (m+1) (m+2) (ws m) (ws m%256) (ws (m+1)) (ws (m+2)) most ((ws m:Int) / 256%16) rfl w hv c0 (hr.cell (m+1) aO) hr.lb hcap hl h3' rfl rfl rfl zq42 zq43 hE
       rw[hE]
       exact hx
      ·simp only[] at hs hn
       have hE:=zAa _ hs hn
       rw[hn] at h3'
       generalize (yQ ((ws m%256:Nat):Int)).most=most at hE
       have hx:=zHS b off len cap m (m+1) (m+2) (ws m) (ws m%256) (ws (m+1)) (ws (m+2)) most ((ws m:Int) / 256%16) ((ws m:Int) / 4096%16) rfl rfl w hv c0 hr.lb hcap hl h3' rfl rfl rfl zq42 zq43 hE
       rw[hE]
       exact hx
      ·simp only[] at hs hn
       have hE:=zAa _ hs hn
       rw[hn] at h3'
       generalize (yQ ((ws m%256:Nat):Int)).most=most at hE
       have hx:=zHQ b off len cap m (m+1) (m+2) (ws m) (ws m%256) (ws (m+1)) (ws (m+2)) most ((ws m:Int) / 4096%16) ((ws m:Int) / 65536) rfl rfl w hv c0 hr.lb hcap hl h3' rfl rfl rfl zq42 zq43 hE
       rw[hE]
       exact hx
      ·simp only[] at hs hn
       have hE:=zAa _ hs hn
       rw[hn] at h3'
       generalize (yQ ((ws m%256:Nat):Int)).most=most at hE
       have hx:=zFB b off len cap m (m+1) (m+2) (ws m) (ws m%256) (ws (m+1)) (ws (m+2)) most ((ws m:Int) / 256%16) ((ws m:Int) / 4096%16) ((ws m:Int) / 65536%16) ((ws m:Int) / 1048576%16) rfl rfl rfl rfl w hv c0 hr.lb hcap hl h3' rfl rfl rfl zq42 zq43 hE
       rw[hE]
       exact hx
      ·simp only[] at hs hn
       have hE:=zAa _ hs hn
       rw[hn] at h3'
       generalize (yQ ((ws m%256:Nat):Int)).most=most at hE
       have hx:=zHT b off len cap m (m+1) (m+2) (ws m) (ws m%256) (ws (m+1)) (ws (m+2)) most ((ws m:Int) / 256%16) ((ws m:Int) / 65536) rfl rfl w hv c0 hr.lb hcap hl h3' rfl rfl rfl zq42 zq43 hE
       rw[hE]
       exact hx
      ·simp only[] at hs hn
       have hE:=zAa _ hs hn
       rw[hn] at h3'
       generalize (yQ ((ws m%256:Nat):Int)).most=most at hE
       have hx:=zHR b off len cap m (m+1) (m+2) (ws m) (ws m%256) (ws (m+1)) (ws (m+2)) most ((ws m:Int) / 4096%16) ((ws m:Int) / 65536) rfl rfl w hv c0 (hr.cell (m+1) aO) hr.lb hcap hl h3' rfl rfl rfl zq42 zq43 hE
       rw[hE]
       exact hx
      ·simp only[] at hs hn
       have hE:=zAa _ hs hn
       rw[hn] at h3'
       generalize (yQ ((ws m%256:Nat):Int)).most=most at hE
       have hx:=zHU b off len cap m (m+1) (m+2) (ws m) (ws m%256) (ws (m+1)) (ws (m+2)) most ((ws m:Int) / 256%16) ((ws m:Int) / 65536) rfl rfl w hv c0 (hr.cell (m+1) aO) (hr.cell (m+2) aO) hr.lb hcap hl h3' rfl rfl rfl (by simp only[] at hc;omega) hE
       rw[hE]
       exact hx
      ·simp only[] at hs hn
       have hE:=zAa _ hs hn
       rw[hn] at h3'
       generalize (yQ ((ws m%256:Nat):Int)).most=most at hE
       have hx:=zGr b off len cap m (m+1) (m+2) (ws m) (ws m%256) (ws (m+1)) (ws (m+2)) most ((ws m:Int) / 256%16) ((ws m:Int) / 4096%16) ((ws m:Int) / 65536) rfl rfl rfl w hv c0 (hr.cell (m+1) aO) hr.lb hcap hl h3' rfl rfl rfl zq42 zq43 hE
       rw[hE]
       exact hx
      ·simp only[] at hs hn
       have hE:=zAa _ hs hn
       rw[hn] at h3'
       generalize (yQ ((ws m%256:Nat):Int)).most=most at hE
       have hx:=zGq b off len cap m (m+1) (m+2) (ws m) (ws m%256) (ws (m+1)) (ws (m+2)) most ((ws m:Int) / 256%16) ((ws m:Int) / 4096%16) ((ws m:Int) / 65536) rfl rfl rfl w hv c0 (hr.cell (m+1) aO) hr.lb hcap hl h3' rfl rfl rfl (by simp only[] at hc;omega) hE
       rw[hE]
       exact hx
      ·simp only[] at hs hn
       have hE:=zAa _ hs hn
       rw[hn] at h3'
       generalize (yQ ((ws m%256:Nat):Int)).most=most at hE
       have hx:=zGp b off len cap m (m+1) (m+2) (ws m) (ws m%256) (ws (m+1)) (ws (m+2)) most ((ws m:Int) / 256%16) ((ws m:Int) / 4096%16) ((ws m:Int) / 65536%16) rfl rfl rfl w hv c0 hr.lb hcap hl h3' rfl rfl rfl zq42 zq43 hE
       rw[hE]
       exact hx
      ·simp only[] at hs hn
       have hE:=zAa _ hs hn
       rw[hn] at h3'
       generalize (yQ ((ws m%256:Nat):Int)).most=most at hE
       have hx:=zJK b off len cap m (m+1) (m+2) (ws m) (ws m%256) (ws (m+1)) (ws (m+2)) most ((ws m:Int) / 256%16) rfl w hv c0 hr.lb hcap hl h3' rfl rfl rfl zq42 zq43 hE
       rw[hE]
       exact hx
end Go.Proofs.YthcpipfmicbnmaaGreat.Ho
