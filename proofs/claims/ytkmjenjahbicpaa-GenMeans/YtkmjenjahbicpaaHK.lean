import Derived.Test.YtkmjenjahbicpaaHH
import Derived.Test.YtkmjenjahbicpaaHJ0
import Derived.Test.YtkmjenjahbicpaaHJ1
import Derived.Test.YtkmjenjahbicpaaHJ2
import Derived.Test.YtkmjenjahbicpaaHJ3
set_option linter.unusedVariables false
set_option linter.unusedSimpArgs false
set_option maxHeartbeats 8000000
namespace Go.Proofs.Ytkmjenjahbicpaa.Ho
open Go.RowKit
set_option maxRecDepth 100000
theorem zPF:∀ op:Fin 256,(yV (op.val:Int)).n=0∨((yV (op.val:Int)).s=#[110]∧(yV (op.val:Int)).n=2∧op.val≠12∧op.val≠13)∨((yV (op.val:Int)).s=#[100]∧(yV (op.val:Int)).n=2∧op.val≠12∧op.val≠13)∨((yV (op.val:Int)).s=#[100,97]∧(yV (op.val:Int)).n=1∧op.val≠12∧op.val≠13)∨((yV (op.val:Int)).s=#[97,110]∧(yV (op.val:Int)).n=1∧op.val≠12∧op.val≠13)∨((yV (op.val:Int)).s=#[100,97,98,99]∧(yV (op.val:Int)).n=1∧op.val≠12∧op.val≠13)∨((yV (op.val:Int)).s=#[100,110]∧(yV (op.val:Int)).n=1∧op.val≠12∧op.val≠13)∨((yV (op.val:Int)).s=#[97,110]∧(yV (op.val:Int)).n=2∧op.val≠12∧op.val≠13)∨((yV (op.val:Int)).s=#[100,110]∧(yV (op.val:Int)).n=3∧op.val=12)∨((yV (op.val:Int)).s=#[100,97,110]∧(yV (op.val:Int)).n=2∧op.val≠12∧op.val≠13)∨((yV (op.val:Int)).s=#[100,97,110]∧(yV (op.val:Int)).n=2∧op.val=13)∨((yV (op.val:Int)).s=#[100,97,98]∧(yV (op.val:Int)).n=1∧op.val≠12∧op.val≠13)∨((yV (op.val:Int)).s=#[100]∧(yV (op.val:Int)).n=1∧op.val≠12∧op.val≠13):=by decide +kernel
def zKa(op:Nat):Bool:=
 match hit (op:Int) with
 | none=>(yV (op:Int)).n==0
 | some k=>(yV (op:Int)).n==vR (zH k).has && (hasB (yV (op:Int)).s 100==hb (zH k).has 448) && (hasB (yV (op:Int)).s 97==hb (zH k).has 1) && (hasB (yV (op:Int)).s 98==hb (zH k).has 2)
  && (hasB (yV (op:Int)).s 99==hb (zH k).has 4) && (hasB (yV (op:Int)).s 110==hb (zH k).has 8) && (hb (zH k).has 256==(op==12 || op==13)) && (if hasB (yV (op:Int)).s 110 then decide ((yV (op:Int)).most=(zH k).most+1) else decide (0≤(zH k).most))
  && (!(hasB (yV (op:Int)).s 110) || (!(hasB (yV (op:Int)).s 98) && !(hasB (yV (op:Int)).s 99)))
theorem zGv:∀ op:Fin 256,zKa op.val=true:=by decide +kernel
def xR(f:Fm)(v u1 u2:Nat):Cd:=
 ⟨((v%256:Nat):Int),if hasB f.s 100 then(v:Int) / 256%16 else 0,if hasB f.s 97 then(v:Int) / 4096%16 else 0,if hasB f.s 98 then(v:Int) / 65536%16 else 0,if hasB f.s 99 then(v:Int) / 1048576%16 else 0,if hasB f.s 110 then(v:Int) / 65536 else 0,if 1 < f.n then u1 else 0,if 2 < f.n then u2 else 0⟩
theorem zJI(D A B C M:Bool)(v:Nat)(hv:v < 4294967296)(hM:M=true→B=false∧C=false) :
  let r1:=rst true 1 256 v
  let r2:=rst D 256 16 r1
  let r3:=rst A 4096 16 r2
  let r4:=rst B 65536 16 r3
  let r5:=rst C 1048576 16 r4
  let r6:=rst M 65536 65536 r5
  (zN true 1 256 v:Int)=((v%256:Nat):Int)∧(zN D 256 16 r1:Int)=(if D then(v:Int) / 256%16 else 0)∧(zN A 4096 16 r2:Int)=(if A then(v:Int) / 4096%16 else 0)∧(zN B 65536 16 r3:Int)=(if B then(v:Int) / 65536%16 else 0)
  ∧(zN C 1048576 16 r4:Int)=(if C then(v:Int) / 1048576%16 else 0)∧(zN M 65536 65536 r5:Int)=(if M then(v:Int) / 65536 else 0)
  ∧(r6=0↔(((v%256:Nat):Int)+256*(if D then(v:Int) / 256%16 else 0)+4096*(if A then(v:Int) / 4096%16 else 0)+65536*(if B then(v:Int) / 65536%16 else 0)+1048576*(if C then(v:Int) / 1048576%16 else 0)+65536*(if M then(v:Int) / 65536 else 0))%4294967296=v):=by
 cases M
 ·cases D<;>cases A<;>cases B<;>cases C<;>simp only[zN,rst,if_true,if_false,Bool.false_eq_true]<;>refine⟨?_,?_,?_,?_,?_,?_,?_⟩<;>omega
 ·obtain⟨rfl,rfl⟩:=hM rfl
  cases D<;>cases A<;>simp only[zN,rst,if_true,if_false,Bool.false_eq_true]<;>refine⟨?_,?_,?_,?_,?_,?_,?_⟩<;>omega
structure Link(op k:Nat):Prop where
 n:(yV (op:Int)).n=vR (zH k).has
 d:hasB (yV (op:Int)).s 100=hb (zH k).has 448
 a:hasB (yV (op:Int)).s 97=hb (zH k).has 1
 b:hasB (yV (op:Int)).s 98=hb (zH k).has 2
 c:hasB (yV (op:Int)).s 99=hb (zH k).has 4
 m:hasB (yV (op:Int)).s 110=hb (zH k).has 8
 s:hb (zH k).has 256=(op==12 || op==13)
 most:if hasB (yV (op:Int)).s 110=true then(yV (op:Int)).most=(zH k).most+1 else 0≤(zH k).most
 ex:hasB (yV (op:Int)).s 110=true→hasB (yV (op:Int)).s 98=false∧hasB (yV (op:Int)).s 99=false
theorem zFl{op k:Nat}(ho:op < 256)(hk:hit (op:Int)=some k):Link op k:=by
 have h:=zGv ⟨op,ho⟩
 simp only[zKa,hk,Bool.and_eq_true,beq_iff_eq] at h
 obtain⟨⟨⟨⟨⟨⟨⟨⟨h1,h2⟩,h3⟩,h4⟩,h5⟩,h6⟩,h7⟩,h8⟩,h9⟩:=h
 refine⟨h1,h2,h3,h4,h5,h6,h7,?_,?_⟩
 ·split at h8<;>rename_i hh
  ·rw[if_pos hh];exact of_decide_eq_true h8
  ·rw[if_neg hh];exact of_decide_eq_true h8
 ·intro hm
  rw[hm] at h9
  simpa using h9
theorem zJx{op:Nat}(ho:op < 256)(hk:hit (op:Int)=none):(yV (op:Int)).n=0:=by
 have h:=zGv ⟨op,ho⟩
 simp only[zKa,hk] at h
 simpa using h
theorem zK3{k:Nat}(v u1 u2:Nat)(hv:v < 4294967296)(L:Link (v%256) k) :
  rdX (zH k).has v (if 1 < vR (zH k).has then u1 else 0) (if 2 < vR (zH k).has then u2 else 0)=xR (yV ((v%256:Nat):Int)) v u1 u2
  ∧(dcE (zH k) v (xR (yV ((v%256:Nat):Int)) v u1 u2)=0↔uJ (yV ((v%256:Nat):Int)) v (xR (yV ((v%256:Nat):Int)) v u1 u2)=true):=by
 obtain⟨q1,q2,q3,q4,q5,q6,q7⟩:=zJI (hb (zH k).has 448) (hb (zH k).has 1) (hb (zH k).has 2) (hb (zH k).has 4) (hb (zH k).has 8) v hv (fun h=>by
  have:=L.ex (by rw[L.m];exact h)
  rw[L.b,L.c] at this;exact this)
 have e1:rdX (zH k).has v (if 1 < vR (zH k).has then u1 else 0) (if 2 < vR (zH k).has then u2 else 0)=xR (yV ((v%256:Nat):Int)) v u1 u2:=by
  unfold rdX xR
  rw[L.d,L.a,L.b,L.c,L.m,L.n]
  simp only[Cd.mk.injEq]
  exact⟨q1,q2,q3,q4,q5,q6,trivial,trivial⟩
 refine⟨e1,?_⟩
 have hf:rd6 (zH k).has v=0↔fst (xR (yV ((v%256:Nat):Int)) v u1 u2)=v:=by
  unfold fst xR
  rw[L.d,L.a,L.b,L.c,L.m]
  exact q7
 have hm:=L.most
 have hn:(xR (yV ((v%256:Nat):Int)) v u1 u2).n=if hasB (yV ((v%256:Nat):Int)).s 110 then(v:Int) / 65536 else 0:=rfl
 have hop:(xR (yV ((v%256:Nat):Int)) v u1 u2).op=((v%256:Nat):Int):=rfl
 have hs:hb (zH k).has 256=(decide ((xR (yV ((v%256:Nat):Int)) v u1 u2).op=12) || decide ((xR (yV ((v%256:Nat):Int)) v u1 u2).op=13)):=by
  rw[L.s,hop]
  generalize v%256=op
  rw[Bool.eq_iff_iff];simp;omega
 unfold dcE uJ
 rw[hs]
 generalize xR (yV ((v%256:Nat):Int)) v u1 u2=X at *
 generalize yV ((v%256:Nat):Int)=f at *
 generalize zH k=g at *
 have hal:decide (X.n≤g.most) = !(hasB f.s 110 && decide (f.most≤X.n)):=by
  rw[hn]
  cases hB:hasB f.s 110
  ·rw[hB] at hm;simp at hm ⊢;exact hm
  ·rw[hB] at hm;simp at hm ⊢
   rw[hm,Bool.eq_iff_iff];simp;omega
 have hal2:alB (decide (X.op=12) || decide (X.op=13)) X.d X.n g.most=(!(hasB f.s 110 && decide (f.most≤X.n)) && !((decide (X.op=12) || decide (X.op=13)) && (decide (X.d < 1) || decide (7 < X.d)))):=by
  unfold alB
  rw[hal]
  congr 1
  generalize (decide (X.op=12) || decide (X.op=13))=b
  have h1:decide (X.d < 1) = !decide (1≤X.d):=by rw[Bool.eq_iff_iff];simp
  have h7:decide (7 < X.d) = !decide (X.d≤7):=by rw[Bool.eq_iff_iff];simp
  rw[h1,h7]
  cases b<;>cases decide (1≤X.d)<;>cases decide (X.d≤7)<;>rfl
 rw[hal2]
 by_cases h6:rd6 g.has v=0
 ·have h7:=hf.1 h6
  simp only[h6,h7,true_and,decide_true,Bool.true_and]
  split<;>simp_all
 ·have h7:¬fst X=v:=fun e=>h6 (hf.2 e)
  simp[h6,h7]
theorem zIT{ws:Nat→Nat}{len a k:Nat}(hlt:∀ i,ws i < 4294967296)(ha:a < len)(hk:hit ((ws a%256:Nat):Int)=some k)(hn:a+(yV ((ws a%256:Nat):Int)).n≤len) :
  rdV (uJ (yV ((ws a%256:Nat):Int)) (ws a) (xR (yV ((ws a%256:Nat):Int)) (ws a) (ws (a+1)) (ws (a+2)))) (xR (yV ((ws a%256:Nat):Int)) (ws a) (ws (a+1)) (ws (a+2))) (yV ((ws a%256:Nat):Int)).n=.tuple #[cdV (yB ws len a).x,.int .i64 (yB ws len a).n,.int .i64 (yB ws len a).e]:=by
 have L:=zFl (Nat.mod_lt _ aD) hk
 obtain⟨e1,e2⟩:=zK3 (ws a) (ws (a+1)) (ws (a+2)) (hlt a) L
 unfold yB
 rw[if_neg aO,if_neg aO]
 simp only[Int.toNat_natCast,hk]
 rw[if_neg (by rw[← L.n];omega),e1]
 cases hO:uJ (yV ((ws a%256:Nat):Int)) (ws a) (xR (yV ((ws a%256:Nat):Int)) (ws a) (ws (a+1)) (ws (a+2)))
 ·rw[if_neg (by rw[e2,hO];decide)];rfl
 ·rw[if_pos (e2.2 hO),L.n];rfl
theorem zAJ(f:Fm){s:Array UInt8}{n:Nat}(hs:f.s=s)(hn:f.n=n):f=⟨s,f.most,n⟩:=by cases f;simp at hs hn;rw[hs,hn]
theorem zCD(a:Option Addr)(len cap:Nat)(at':Int)(ws:Nat→Nat)(w:World)(hw:Wds w a len cap ws) :
  Calls Try.prog 34 #[.slice a len cap,.int .i64 at'] w fun e w'=>e=.returned (.tuple #[cdV (yB ws len at').x,.int .i64 (yB ws len at').n,.int .i64 (yB ws len at').e])∧Below w.heap.size w w':=by
 have hl:len≤140737488355328:=by rcases hw with h|⟨b,off,_,_,h,_⟩<;>omega
 by_cases h1:at' < 0∨(len:Int) < at'
 ·have hd:yB ws len at'=⟨4,zC,zF,0⟩:=by unfold yB;rw[if_pos h1]
  rw[hd]
  by_cases h0:at' < 0
  ·exact zMg a len cap at' w hl h0
  ·exact zMe a len cap at' w hl h0 aO
 ·by_cases h2:at'=len
  ·have hd:yB ws len at'=⟨1,zC,zF,0⟩:=by unfold yB;rw[if_neg h1,if_pos h2]
   rw[hd]
   subst h2
   exact zMd a len cap w hl
  ·rcases hw with h|⟨b,off,rfl,hcap,_,hr⟩
   ·exfalso;omega
   ·obtain⟨m,rfl⟩:∃ m:Nat,at'=m:=⟨at'.toNat,by omega⟩
    have hm:m < len:=aO
    have hv:=hr.lt m
    have c0:=hr.cell m hm
    cases hk:hit ((ws m%256:Nat):Int) with
    | none=>
     have hn:=zJx (Nat.mod_lt _ aD) hk
     have hd:yB ws len m=⟨2,zC,zF,0⟩:=by
      unfold yB;rw[if_neg h1,if_neg h2];simp only[Int.toNat_natCast,hk]
     rw[hd]
     exact zJO b off len cap m (ws m) (ws m%256) w hv c0 hr.lb hcap hl rfl hm _ _ (zAJ _ rfl hn)
    | some k=>
     have L:=zFl (Nat.mod_lt _ aD) hk
     by_cases h3:len < m+(yV ((ws m%256:Nat):Int)).n
     ·have hd:yB ws len m=⟨1,zC,zF,0⟩:=by
       unfold yB;rw[if_neg h1,if_neg h2];simp only[Int.toNat_natCast,hk]
       rw[if_pos (by rw[← L.n];omega)]
      rw[hd]
      rcases zAd (zH k).has with hz|hz|hz
      ·rw[L.n,hz] at h3;exfalso;omega
      ·exact zGN b off len cap m (ws m) (ws m%256) w hv c0 hr.lb hcap hl rfl ⟨hm,by rw[L.n,hz] at h3;omega⟩ _ _ (zAJ _ rfl (L.n.trans hz))
      ·exact zGO b off len cap m (ws m) (ws m%256) w hv c0 hr.lb hcap hl rfl ⟨hm,by rw[L.n,hz] at h3;omega⟩ _ _ (zAJ _ rfl (L.n.trans hz))
     ·have h3':m+(yV ((ws m%256:Nat):Int)).n≤len:=aO
      rw[← zIT hr.lt hm hk h3']
      rcases zPF ⟨ws m%256,Nat.mod_lt _ aD⟩ with hc|⟨hs,hn,hc⟩|⟨hs,hn,hc⟩|⟨hs,hn,hc⟩|⟨hs,hn,hc⟩|⟨hs,hn,hc⟩|⟨hs,hn,hc⟩|⟨hs,hn,hc⟩|⟨hs,hn,hc⟩|⟨hs,hn,hc⟩|⟨hs,hn,hc⟩|⟨hs,hn,hc⟩|⟨hs,hn,hc⟩
      ·exfalso
       simp only[] at hc
       rw[L.n] at hc
       rcases zAd (zH k).has with hz|hz|hz<;>omega
      ·simp only[] at hs hn
       have hE:=zAJ _ hs hn
       rw[hn] at h3'
       generalize (yV ((ws m%256:Nat):Int)).most=most at hE
       have hx:=zMf b off len cap m (m+1) (m+2) (ws m) (ws m%256) (ws (m+1)) (ws (m+2)) most ((ws m:Int) / 65536) rfl w hv c0 (hr.cell (m+1) aO) hr.lb hcap hl h3' rfl rfl rfl zq28 zq29 hE
       rw[hE]
       exact hx
      ·simp only[] at hs hn
       have hE:=zAJ _ hs hn
       rw[hn] at h3'
       generalize (yV ((ws m%256:Nat):Int)).most=most at hE
       have hx:=zMc b off len cap m (m+1) (m+2) (ws m) (ws m%256) (ws (m+1)) (ws (m+2)) most ((ws m:Int) / 256%16) rfl w hv c0 (hr.cell (m+1) aO) hr.lb hcap hl h3' rfl rfl rfl zq28 zq29 hE
       rw[hE]
       exact hx
      ·simp only[] at hs hn
       have hE:=zAJ _ hs hn
       rw[hn] at h3'
       generalize (yV ((ws m%256:Nat):Int)).most=most at hE
       have hx:=zJL b off len cap m (m+1) (m+2) (ws m) (ws m%256) (ws (m+1)) (ws (m+2)) most ((ws m:Int) / 256%16) ((ws m:Int) / 4096%16) rfl rfl w hv c0 hr.lb hcap hl h3' rfl rfl rfl zq28 zq29 hE
       rw[hE]
       exact hx
      ·simp only[] at hs hn
       have hE:=zAJ _ hs hn
       rw[hn] at h3'
       generalize (yV ((ws m%256:Nat):Int)).most=most at hE
       have hx:=zJJ b off len cap m (m+1) (m+2) (ws m) (ws m%256) (ws (m+1)) (ws (m+2)) most ((ws m:Int) / 4096%16) ((ws m:Int) / 65536) rfl rfl w hv c0 hr.lb hcap hl h3' rfl rfl rfl zq28 zq29 hE
       rw[hE]
       exact hx
      ·simp only[] at hs hn
       have hE:=zAJ _ hs hn
       rw[hn] at h3'
       generalize (yV ((ws m%256:Nat):Int)).most=most at hE
       have hx:=zGM b off len cap m (m+1) (m+2) (ws m) (ws m%256) (ws (m+1)) (ws (m+2)) most ((ws m:Int) / 256%16) ((ws m:Int) / 4096%16) ((ws m:Int) / 65536%16) ((ws m:Int) / 1048576%16) rfl rfl rfl rfl w hv c0 hr.lb hcap hl h3' rfl rfl rfl zq28 zq29 hE
       rw[hE]
       exact hx
      ·simp only[] at hs hn
       have hE:=zAJ _ hs hn
       rw[hn] at h3'
       generalize (yV ((ws m%256:Nat):Int)).most=most at hE
       have hx:=zJM b off len cap m (m+1) (m+2) (ws m) (ws m%256) (ws (m+1)) (ws (m+2)) most ((ws m:Int) / 256%16) ((ws m:Int) / 65536) rfl rfl w hv c0 hr.lb hcap hl h3' rfl rfl rfl zq28 zq29 hE
       rw[hE]
       exact hx
      ·simp only[] at hs hn
       have hE:=zAJ _ hs hn
       rw[hn] at h3'
       generalize (yV ((ws m%256:Nat):Int)).most=most at hE
       have hx:=zJK b off len cap m (m+1) (m+2) (ws m) (ws m%256) (ws (m+1)) (ws (m+2)) most ((ws m:Int) / 4096%16) ((ws m:Int) / 65536) rfl rfl w hv c0 (hr.cell (m+1) aO) hr.lb hcap hl h3' rfl rfl rfl zq28 zq29 hE
       rw[hE]
       exact hx
      ·simp only[] at hs hn
       have hE:=zAJ _ hs hn
       rw[hn] at h3'
       generalize (yV ((ws m%256:Nat):Int)).most=most at hE
       have hx:=zJN b off len cap m (m+1) (m+2) (ws m) (ws m%256) (ws (m+1)) (ws (m+2)) most ((ws m:Int) / 256%16) ((ws m:Int) / 65536) rfl rfl w hv c0 (hr.cell (m+1) aO) (hr.cell (m+2) aO) hr.lb hcap hl h3' rfl rfl rfl (by simp only[] at hc;omega) hE
       rw[hE]
       exact hx
      ·simp only[] at hs hn
       have hE:=zAJ _ hs hn
       rw[hn] at h3'
       generalize (yV ((ws m%256:Nat):Int)).most=most at hE
       have hx:=zHH b off len cap m (m+1) (m+2) (ws m) (ws m%256) (ws (m+1)) (ws (m+2)) most ((ws m:Int) / 256%16) ((ws m:Int) / 4096%16) ((ws m:Int) / 65536) rfl rfl rfl w hv c0 (hr.cell (m+1) aO) hr.lb hcap hl h3' rfl rfl rfl zq28 zq29 hE
       rw[hE]
       exact hx
      ·simp only[] at hs hn
       have hE:=zAJ _ hs hn
       rw[hn] at h3'
       generalize (yV ((ws m%256:Nat):Int)).most=most at hE
       have hx:=zHG b off len cap m (m+1) (m+2) (ws m) (ws m%256) (ws (m+1)) (ws (m+2)) most ((ws m:Int) / 256%16) ((ws m:Int) / 4096%16) ((ws m:Int) / 65536) rfl rfl rfl w hv c0 (hr.cell (m+1) aO) hr.lb hcap hl h3' rfl rfl rfl (by simp only[] at hc;omega) hE
       rw[hE]
       exact hx
      ·simp only[] at hs hn
       have hE:=zAJ _ hs hn
       rw[hn] at h3'
       generalize (yV ((ws m%256:Nat):Int)).most=most at hE
       have hx:=zHF b off len cap m (m+1) (m+2) (ws m) (ws m%256) (ws (m+1)) (ws (m+2)) most ((ws m:Int) / 256%16) ((ws m:Int) / 4096%16) ((ws m:Int) / 65536%16) rfl rfl rfl w hv c0 hr.lb hcap hl h3' rfl rfl rfl zq28 zq29 hE
       rw[hE]
       exact hx
      ·simp only[] at hs hn
       have hE:=zAJ _ hs hn
       rw[hn] at h3'
       generalize (yV ((ws m%256:Nat):Int)).most=most at hE
       have hx:=zMb b off len cap m (m+1) (m+2) (ws m) (ws m%256) (ws (m+1)) (ws (m+2)) most ((ws m:Int) / 256%16) rfl w hv c0 hr.lb hcap hl h3' rfl rfl rfl zq28 zq29 hE
       rw[hE]
       exact hx
end Go.Proofs.Ytkmjenjahbicpaa.Ho
