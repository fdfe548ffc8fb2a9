import Derived.Test.YthcpipfmicbnmaaGreatHG1
import Derived.Test.YthcpipfmicbnmaaGreatHG2
import Derived.Test.YthcpipfmicbnmaaGreatHG3
import Derived.Test.YthcpipfmicbnmaaGreatHH
import Derived.Test.YthcpipfmicbnmaaGreatRA
set_option linter.unusedVariables false
set_option linter.unusedSimpArgs false
set_option maxHeartbeats 2000000
namespace Go.Proofs.YthcpipfmicbnmaaGreat.Ho
open Go.RowKit
set_option maxRecDepth 100000
structure Dc where
 e:Int
 x:Cd
 f:Fo
 n:Nat
def zC:Cd:=⟨0,0,0,0,0,0,0,0⟩
def zF:Fo:=⟨0,0,0,0,0⟩
def yG(ws:Nat→Nat)(len:Nat)(at':Int):Dc:=
 if at' < 0∨(len:Int) < at' then⟨4,zC,zF,0⟩ else if at'=len then⟨1,zC,zF,0⟩
 else match hit ((ws at'.toNat%256:Nat):Int) with
  | none=>⟨2,zC,zF,0⟩
  | some k=>
   if(len:Int) < at'+szN (zG k).has then⟨1,zC,zF,0⟩
   else let x:=rdX (zG k).has (ws at'.toNat) (if 1 < szN (zG k).has then ws (at'.toNat+1) else 0) (if 2 < szN (zG k).has then ws (at'.toNat+2) else 0)
    if dcE (zG k) (ws at'.toNat) x=0 then⟨0,x,zG k,szN (zG k).has⟩ else⟨3,zC,zF,0⟩
theorem zAf(h:Int):szN h=1∨szN h=2∨szN h=3:=by unfold szN;split<;>(try split)<;>simp
theorem zCk(f:Fo)(v:Nat)(x:Cd):dcE f v x=0∨dcE f v x=3:=by unfold dcE;split<;>simp
def Wds(w:World)(a:Option Addr)(len cap:Nat)(ws:Nat→Nat):Prop:=len=0∨∃ b off,a=some ⟨b,off,none⟩∧len≤cap∧len≤140737488355328∧WR w b off len ws
theorem zF5(I:Nat)(a:Option Addr)(len cap:Nat)(at':Int)(ws:Nat→Nat)(x0:Cd)(f0:Fo)(n0:Int)(w:World)(hI:w.heap[I]?=some (.cells (yT x0 f0 n0) 90))(hw:Wds w a len cap ws)(hne:∀ b off,a=some ⟨b,off,none⟩→b≠I) :
  Calls Tryz.prog 33 #[.pointer (some ⟨I,0,none⟩),.slice a len cap,.int .i64 at'] w fun e w'=>e=.returned (.int .i64 (yG ws len at').e)∧((yG ws len at').e=0→w'.heap[I]?=some (.cells (yT (yG ws len at').x (yG ws len at').f (yG ws len at').n) 90))∧zI [I] w w':=by
 have hl:len≤140737488355328:=by rcases hw with h|⟨b,off,_,_,h,_⟩<;>omega
 by_cases h1:at' < 0∨(len:Int) < at'
 ·refine(zGY _ a len cap at' w aO h1).mono ?_
  rintro e w' ⟨rfl,rfl⟩
  unfold yG;rw[if_pos h1]
  exact⟨rfl,fun h=>absurd h aD,zI.refl _ _⟩
 ·by_cases h2:at'=len
  ·subst h2
   refine(zGZ _ a len cap w aO).mono ?_
   rintro e w' ⟨rfl,rfl⟩
   unfold yG;rw[if_neg h1,if_pos rfl]
   exact⟨rfl,fun h=>absurd h aD,zI.refl _ _⟩
  ·rcases hw with h|⟨b,off,rfl,hcap,_,hr⟩
   ·exfalso;omega
   ·obtain⟨m,rfl⟩:∃ m:Nat,at'=m:=⟨at'.toNat,by omega⟩
    have hm:m < len:=aO
    have hb:=hne b off rfl
    unfold yG
    rw[if_neg h1,if_neg h2]
    simp only[Int.toNat_natCast]
    cases hk:hit ((ws m%256:Nat):Int) with
    | none=>
     dsimp only
     refine(zIN I b off len cap m ws x0 f0 n0 w hI hr hb hcap hl hm hk).mono ?_
     rintro e w' ⟨rfl,hc⟩
     exact⟨rfl,fun h=>absurd h aD,hc⟩
    | some k=>
     simp only[]
     by_cases h3:(len:Int) < m+szN (zG k).has
     ·rw[if_pos h3]
      rcases zAf (zG k).has with hz|hz|hz
      ·exfalso;omega
      ·refine(zF3 I b off len cap m ws x0 f0 n0 k w hI hr hb hcap hl ⟨hm,by omega⟩ hk hz).mono ?_
       rintro e w' ⟨rfl,hc⟩
       exact⟨rfl,fun h=>absurd h aD,hc⟩
      ·refine(zF4 I b off len cap m ws x0 f0 n0 k w hI hr hb hcap hl ⟨hm,by omega⟩ hk hz).mono ?_
       rintro e w' ⟨rfl,hc⟩
       exact⟨rfl,fun h=>absurd h aD,hc⟩
     ·rw[if_neg h3]
      rcases zAf (zG k).has with hz|hz|hz
      ·rw[hz]
       refine(zKz I b off len cap m ws x0 f0 n0 k w hI hr hb hcap hl aO hk hz).mono ?_
       rintro e w' ⟨rfl,hB,hc⟩
       simp only[show ¬(1:Nat) < 1 from by decide,show ¬(2:Nat) < 1 from by decide,if_true,if_false]
       rcases zCk (zG k) (ws m) (rdX (zG k).has (ws m) 0 0) with he|he
       ·rw[if_pos he,he];exact⟨rfl,fun _=>hB,hc⟩
       ·rw[if_neg (by rw[he];decide),he];exact⟨rfl,fun h=>absurd h aD,hc⟩
      ·rw[hz]
       refine(zKA I b off len cap m ws x0 f0 n0 k w hI hr hb hcap hl aO hk hz).mono ?_
       rintro e w' ⟨rfl,hB,hc⟩
       simp only[show(1:Nat) < 2 from by decide,show ¬(2:Nat) < 2 from by decide,if_true,if_false]
       rcases zCk (zG k) (ws m) (rdX (zG k).has (ws m) (ws (m+1)) 0) with he|he
       ·rw[if_pos he,he];exact⟨rfl,fun _=>hB,hc⟩
       ·rw[if_neg (by rw[he];decide),he];exact⟨rfl,fun h=>absurd h aD,hc⟩
      ·rw[hz]
       refine(zKB I b off len cap m ws x0 f0 n0 k w hI hr hb hcap hl aO hk hz).mono ?_
       rintro e w' ⟨rfl,hB,hc⟩
       simp only[show(1:Nat) < 3 from by decide,show(2:Nat) < 3 from by decide,if_true,if_false]
       rcases zCk (zG k) (ws m) (rdX (zG k).has (ws m) (ws (m+1)) (ws (m+2))) with he|he
       ·rw[if_pos he,he];exact⟨rfl,fun _=>hB,hc⟩
       ·rw[if_neg (by rw[he];decide),he];exact⟨rfl,fun h=>absurd h aD,hc⟩
theorem yD{w w':World}{a:Option Addr}{len cap:Nat}{ws:Nat→Nat}(h:Wds w a len cap ws)(b:Below w.heap.size w w'):Wds w' a len cap ws:=by
 rcases h with h|⟨B,off,ha,h1,h2,h3⟩
 ·exact .inl h
 ·exact .inr ⟨B,off,ha,h1,h2,fun i hi=>(b.cell (p:=⟨B,off+i,none⟩) h3.lb).trans (h3.cell i hi),h3.lt,Nat.lt_of_lt_of_le h3.lb b.size⟩
theorem Wds.lt{w:World}{a:Option Addr}{len cap:Nat}{ws:Nat→Nat}(h:Wds w a len cap ws):len=0∨∃ b off,a=some ⟨b,off,none⟩∧b < w.heap.size:=by
 rcases h with h|⟨B,off,ha,h1,h2,h3⟩
 ·exact .inl h
 ·exact .inr ⟨B,off,ha,h3.lb⟩
def isE(ws:Nat→Nat)(len:Nat)(at':Int):Bool:=decide ((yG ws len at').e=0) && decide ((yG ws len at').x.op=1)
abbrev fz:Array Value:=yT ⟨0,0,0,0,0,0,0,0⟩ ⟨0,0,0,0,0⟩ 0
theorem zBU(a:Option Addr)(len cap:Nat)(at':Int)(ws:Nat→Nat)(w:World)(hw:Wds w a len cap ws) :
  Calls Tryz.prog 33 #[.pointer (some ⟨w.heap.size,0,none⟩),.slice a len cap,.int .i64 at'] (w.alloc (.cells fz 90)) fun e w'=>e=.returned (.int .i64 (yG ws len at').e)∧((yG ws len at').e=0→w'.heap[w.heap.size]?=some (.cells (yT (yG ws len at').x (yG ws len at').f (yG ws len at').n) 90))∧zI [w.heap.size] (w.alloc (.cells fz 90)) w':=by
 by_cases h0:len=0
 ·subst h0
  by_cases h1:at' < 0∨((0:Nat):Int) < at'
  ·refine(zGY _ a 0 cap at' _ aO h1).mono ?_
   rintro e w' ⟨rfl,rfl⟩
   have hd:yG ws 0 at'=⟨4,zC,zF,0⟩:=by unfold yG;rw[if_pos h1]
   rw[hd]
   exact⟨rfl,fun h=>absurd h aD,zI.refl _ _⟩
  ·have h2:at'=((0:Nat):Int):=aO
   subst h2
   refine(zGZ _ a 0 cap _ aO).mono ?_
   rintro e w' ⟨rfl,rfl⟩
   have hd:yG ws 0 ((0:Nat):Int)=⟨1,zC,zF,0⟩:=by unfold yG;rw[if_neg h1,if_pos rfl]
   rw[hd]
   exact⟨rfl,fun h=>absurd h aD,zI.refl _ _⟩
 ·rcases hw with h|⟨B,off,rfl,h1,h2,h3⟩
  ·exact absurd h h0
  ·exact zF5 w.heap.size _ len cap at' ws _ _ _ _ (heap_alloc_last w _) (yD (.inr ⟨B,off,rfl,h1,h2,h3⟩) (aB.alloc aL _)) (fun b o e=>by injection e with e;injection e with e1 e2 e3;have:=h3.lb;omega)
theorem zAi(R X:Nat)(a:Option Addr)(len cap:Nat)(tb:Value)(h:HP)(at':Int)(ws:Nat→Nat)(w:World)(hR:RB w R (yB (.slice a len cap) tb X h))(hw:Wds w a len cap ws) :
  Calls Tryz.prog 32 #[.pointer (some ⟨R,0,none⟩),.int .i64 at'] w fun e w'=>e=.returned (.bool (isE ws len at'))∧Below w.heap.size w w':=by
 have c0:w.cell? ⟨R,0,none⟩=some (.slice a len cap):=hR.c 0 aO
 have lR:=hR.lt
 have lR1:R < w.heap.size+1:=aO
 have HC:Hid _:=zBU a len cap at' ws w hw
 clear hR hw
 unfold isE
 generalize eD:yG ws len at'=D at *
 by_cases h0:D.e=0
 ·have g0:(D.e==0)=true:=by simp[h0]
  go_enter Tryz.func32,Tryz.ntmps32
  go_wp2_with (go_at_call 33;refine Calls.mono HC.out ?_;rintro e w1 ⟨rfl,hb1,hc1⟩;have hb2:=hb1 h0;have k0:w1.cell? ⟨w.heap.size,0,none⟩=some (.int .i64 D.x.op):=zA hb2 0;have l0:=zE hb2;have HC1:Hid _:=hc1;clear hb1 hb2 hc1)
  go_ret
  refine⟨?_,((Below.refl w.heap.size w).alloc aL _).trans (HC1.out.below aS aS)⟩
  rw[decide_eq_true h0,Bool.true_and]
  by_cases h1:D.x.op=1<;>simp[h1]
 ·have g0:(D.e==0)=false:=by simp[h0]
  go_enter Tryz.func32,Tryz.ntmps32
  go_wp2_with (go_at_call 33;refine Calls.mono HC.out ?_;rintro e w1 ⟨rfl,hb1,hc1⟩;have HC1:Hid _:=hc1;clear hb1 hc1)
  go_ret
  refine⟨?_,((Below.refl w.heap.size w).alloc aL _).trans (HC1.out.below aS aS)⟩
  rw[decide_eq_false h0];rfl
theorem zBL(P o:Nat)(m:Int)(w:World)(hc:w.cell? ⟨P,o+4,none⟩=some (.int .u16 m))(lP:P < w.heap.size) :
  Calls Tryz.prog 51 #[.pointer (some ⟨P,o,none⟩)] w fun e w'=>e=.returned (.bool (m==64))∧w=w':=by
 go_enter Tryz.func51,Tryz.ntmps51
 go_wp2
 go_ret
 exact⟨rfl,rfl⟩
structure LF where
 k:Int
 sk:Int
 sa:Nat
 pc:Nat
 n:Int
 at_:Int
abbrev yE(x:LF):Array Value:=#[.int .i64 x.k,.int .i64 x.sk,.int .u32 x.sa,.int .u32 x.pc,.int .i64 x.n,.int .i64 x.at_]
def HP.go(h:HP)(tw n:Int):HP:={ h with next:=tw,done:=h.done+n }
theorem zOw(ws tb:Value)(X:Nat)(h:HP)(tw n:Int):upd (upd (yB ws tb X h) 17 (.int .i64 (h.done+n))) 16 (.int .i64 tw)=yB ws tb X (h.go tw n):=by
 funext o
 unfold upd
 by_cases e1:o=16
 ·rw[if_pos e1];subst e1;rfl
 ·rw[if_neg e1]
  by_cases e2:o=17
  ·rw[if_pos e2];subst e2;rfl
  ·rw[if_neg e2]
   unfold yB
   by_cases h1:o < 20
   ·rw[if_pos h1,if_pos h1]
    unfold hpL
    simp only[e1,e2,if_false,HP.go]
   ·rw[if_neg h1,if_neg h1];rfl
theorem RB.other{w:World}{R B:Nat}{f:Nat→Value}(h:RB w R f)(hn:¬B=R)(o:Nat)(v:Value):RB (w.setCell ⟨B,o,none⟩ v) R f:=
 ⟨fun o' ho=>(World.cell?_setCell_other _ _ _ _ (by intro e;cases e;exact hn rfl)).trans (h.c o' ho),fun o'=>by rw[World.frozen?_setCell];exact h.fz o',by simpa using h.lt⟩
theorem zI.new{S:List Nat}{w b:World}(h:zI S w b){B:Nat}(hB:w.heap.size≤B)(o:Nat)(v:Value):zI S w (b.setCell ⟨B,o,none⟩ v):=
 ⟨h.os,h.tape,h.output,by simpa using h.size,fun k hk hs=>(Below.heap_setCell b ⟨B,o,none⟩ v k (by show k≠B;omega)).trans (h.block k hk hs)⟩
structure OW(w W:World)(R:Nat)(f:Nat→Value):Prop where
 r:W.heap[w.heap.size]?=some (.cells (yE ⟨0,0,0,0,0,0⟩) 37)
 b:RB W R f
 c:zI [R] w W
theorem zE9{w w1:World}{R:Nat}{f:Nat→Value}(h:RB w R f)(b:Below (w.alloc (.cells (yE ⟨0,0,0,0,0,0⟩) 37)).heap.size (w.alloc (.cells (yE ⟨0,0,0,0,0,0⟩) 37)) w1):OW w w1 R f:=
 ⟨(b.block _ aS).trans (heap_alloc_last w _),(h.al _).chg (zI.of_below [] b) aS,(((zI.refl [R] w).alloc _)).trans (zI.of_below _ b)⟩
theorem zC8(R X:Nat)(a:Option Addr)(len cap:Nat)(tb:Value)(h:HP)(tw n:Int)(ws:Nat→Nat)(w:World)(hR:RB w R (yB (.slice a len cap) tb X h))(hw:Wds w a len cap ws)(hd : -9223372036854775808≤h.done+n∧h.done+n≤9223372036854775807) :
  Calls Tryz.prog 68 #[.pointer (some ⟨R,0,none⟩),.int .i64 tw,.int .i64 n] w fun e w'=>
   (isE ws len tw=true→e=.returned (.agg (yE ⟨0,0,0,0,0,0⟩))∧RB w' R (yB (.slice a len cap) tb X (h.go tw n)))∧(isE ws len tw=false→e=.returned (.agg (yE ⟨5,0,0,0,0,0⟩))∧RB w' R (yB (.slice a len cap) tb X h))∧zI [R] w w':=by
 have lR:=hR.lt
 have HR:Hid _:=hR
 have HW:Hid _:=hw
 have hw2:IntKind.i64.wrap (h.done+n)=h.done+n:=IntWalk.i64_in _ hd
 have nR:¬R=w.heap.size:=aO
 clear hR hw
 cases hE:isE ws len tw
 ·go_enter Tryz.func68,Tryz.ntmps68
  go_upto_region 2 with (go_at_call 32;refine(zAi R X a len cap tb h tw ws _ (HR.out.al _) (yD HW.out (aB.alloc aL _))).mono ?_;rintro e w1 ⟨rfl,hb1⟩;rw[hE];have HB1:Hid _:=hb1;clear hb1)
  refine zJ (fun W'=>OW w W' R (yB (.slice a len cap) tb X h)) (zE9 HR.out HB1.out) ?_
  intro W hO
  have r0:W.cell? ⟨w.heap.size,0,none⟩=some (.int .i64 0):=zA hO.r 0
  have z0:=zD hO.r 0
  have r1:W.cell? ⟨w.heap.size,1,none⟩=some (.int .i64 0):=zA hO.r 1
  have z1:=zD hO.r 1
  have r2:W.cell? ⟨w.heap.size,2,none⟩=some (.int .u32 0):=zA hO.r 2
  have z2:=zD hO.r 2
  have r3:W.cell? ⟨w.heap.size,3,none⟩=some (.int .u32 0):=zA hO.r 3
  have z3:=zD hO.r 3
  have r4:W.cell? ⟨w.heap.size,4,none⟩=some (.int .i64 0):=zA hO.r 4
  have z4:=zD hO.r 4
  have r5:W.cell? ⟨w.heap.size,5,none⟩=some (.int .i64 0):=zA hO.r 5
  have z5:=zD hO.r 5
  have lr:=zE hO.r
  have lR2:=hO.b.lt
  have nR2:¬w.heap.size=R:=aO
  have HO:Hid _:=hO
  clear hO
  go_wp2
  refine bodyPost_ret (v:=.agg (yE ⟨5,0,0,0,0,0⟩)) (by simp[results,Tryz.results68,go_sem,r0,r1,r2,r3,r4,r5,lr]) rfl ⟨fun h=>by simp at h,fun _=>⟨rfl,?_⟩,?_⟩
  ·exact(by have hB:=HO.out.b;repeat first|with_reducible exact hB|with_reducible refine RB.other ?_ nR2 _ _)
  ·exact(by have hB:=HO.out.c;repeat first|with_reducible exact hB|with_reducible refine zI.new ?_ aL _ _)
 ·go_enter Tryz.func68,Tryz.ntmps68
  go_upto_region 3 with (go_at_call 32;refine(zAi R X a len cap tb h tw ws _ (HR.out.al _) (yD HW.out (aB.alloc aL _))).mono ?_;rintro e w1 ⟨rfl,hb1⟩;rw[hE];have HB1:Hid _:=hb1;clear hb1)
  refine zJ (fun W'=>OW w W' R (yB (.slice a len cap) tb X h)) (zE9 HR.out HB1.out) ?_
  intro W hO
  have r0:W.cell? ⟨w.heap.size,0,none⟩=some (.int .i64 0):=zA hO.r 0
  have z0:=zD hO.r 0
  have r1:W.cell? ⟨w.heap.size,1,none⟩=some (.int .i64 0):=zA hO.r 1
  have z1:=zD hO.r 1
  have r2:W.cell? ⟨w.heap.size,2,none⟩=some (.int .u32 0):=zA hO.r 2
  have z2:=zD hO.r 2
  have r3:W.cell? ⟨w.heap.size,3,none⟩=some (.int .u32 0):=zA hO.r 3
  have z3:=zD hO.r 3
  have r4:W.cell? ⟨w.heap.size,4,none⟩=some (.int .i64 0):=zA hO.r 4
  have z4:=zD hO.r 4
  have r5:W.cell? ⟨w.heap.size,5,none⟩=some (.int .i64 0):=zA hO.r 5
  have z5:=zD hO.r 5
  have lr:=zE hO.r
  have lR2:=hO.b.lt
  have nR2:¬w.heap.size=R:=aO
  have c17:W.cell? ⟨R,17,none⟩=some (.int .i64 h.done):=hO.b.c 17 aO
  have c16:W.cell? ⟨R,16,none⟩=some (.int .i64 h.next):=hO.b.c 16 aO
  have f17:=hO.b.fz 17
  have f16:=hO.b.fz 16
  have hset:=(hO.b.set 17 aO (.int .i64 (h.done+n))).set 16 aO (.int .i64 tw)
  rw[zOw] at hset
  have HS:Hid _:=hset
  have HO:Hid _:=hO
  clear hO hset
  go_wp2
  refine bodyPost_ret (v:=.agg (yE ⟨0,0,0,0,0,0⟩)) (by simp[results,Tryz.results68,go_sem,r0,r1,r2,r3,r4,r5,lr,nR,nR2]) rfl ⟨fun _=>⟨rfl,?_⟩,fun h=>by simp at h,?_⟩
  ·exact(by have hB:=HS.out;repeat first|with_reducible exact hB|with_reducible refine RB.other ?_ nR2 _ _)
  ·exact(by have hB:=(HO.out.c.set (show R∈[R] by simp) 17 (.int .i64 (h.done+n))).set (show R∈[R] by simp) 16 (.int .i64 tw);repeat first|with_reducible exact hB|with_reducible refine zI.new ?_ aL _ _)
def TC(w:World)(X:Nat)(b:Bool):Prop:=∀ W:World,W.heap[X]?=w.heap[X]?→Calls Tryz.prog 9 #[.pointer (some ⟨X,0,none⟩)] W fun e w'=>e=.returned (.bool b)∧W=w'
theorem TC.keep{w w':World}{X:Nat}{b:Bool}(h:TC w X b)(e:w'.heap[X]?=w.heap[X]?):TC w' X b:=fun W hW=>h W (hW.trans e)
def HP.enter(h:HP):HP:={ h with ent:=h.ent+1 }
theorem zB3(ws tb:Value)(X:Nat)(h:HP):upd (yB ws tb X h) 19 (.int .i32 (h.ent+1))=yB ws tb X h.enter:=by
 funext o
 unfold upd
 by_cases e1:o=19
 ·rw[if_pos e1];subst e1;rfl
 ·rw[if_neg e1]
  unfold yB
  by_cases h1:o < 20
  ·rw[if_pos h1,if_pos h1]
   unfold hpL
   by_cases e8:o=18
   ·subst e8;rfl
   ·have:o < 18:=aO
    repeat(first|rfl|(split;rfl))
    omega
  ·rw[if_neg h1,if_neg h1];rfl
structure EW(w W:World)(R:Nat)(f:Nat→Value)(pc:Nat)(n:Int)(B:Nat):Prop where
 r:W.heap[w.heap.size]?=some (.cells (yE ⟨0,0,0,0,0,0⟩) 37)
 o:W.heap[B]?=some (.cells (yE ⟨0,0,0,pc,n,0⟩) 37)
 b:RB W R f
 c:zI [R] w W
theorem zB2{w:World}{R:Nat}{f:Nat→Value}(h:RB w R f)(pc:Nat)(n:Int)(I:Nat)(m:Int)(lI:I < w.heap.size)(k5:w.cell? ⟨I,5,none⟩=some (.int .i64 m)) :
  EW w ((w.alloc (.cells (yE ⟨0,0,0,0,0,0⟩) 37)).alloc (.cells (yE ⟨0,0,0,pc,n,0⟩) 37)).drew R f pc n (w.heap.size+1)∧((w.alloc (.cells (yE ⟨0,0,0,0,0,0⟩) 37)).alloc (.cells (yE ⟨0,0,0,pc,n,0⟩) 37)).drew.cell? ⟨I,5,none⟩=some (.int .i64 m):=by
 have e1:=heap_alloc_last w (.cells (yE ⟨0,0,0,0,0,0⟩) 37)
 have e2:=heap_alloc_last (w.alloc (.cells (yE ⟨0,0,0,0,0,0⟩) 37)) (.cells (yE ⟨0,0,0,pc,n,0⟩) 37)
 simp only[World.size_alloc] at e2
 refine⟨⟨(Below.heap_alloc _ _ _ aS).trans e1,e2,((h.al _).al _).drw,(((zI.refl [R] w).alloc _).alloc _).drew⟩,?_⟩
 show((w.alloc _).alloc _).cell? ⟨I,5,none⟩=_
 rw[World.cell?_alloc_past _ _ _ (by show I < _;simp;omega),World.cell?_alloc_past _ _ _ lI];exact k5
theorem zF8(R X I:Nat)(ws tb:Value)(h:HP)(k:Nat)(n:Int)(w:World)(hR:RB w R (yB ws tb X h))(k5:w.cell? ⟨I,5,none⟩=some (.int .i64 n))(k6:w.cell? ⟨I,6,none⟩=some (.int .u32 k))(lI:I < w.heap.size)(hT:TC w X true)(lX:X < w.heap.size)(hXR:X≠R)  :
  Calls Tryz.prog 66 #[.pointer (some ⟨R,0,none⟩),.pointer (some ⟨I,0,none⟩)] w fun e w'=>e=.returned (.agg (yE ⟨1,0,0,k,h.done,0⟩))∧RB w' R (yB ws tb X h)∧zI [R] w w':=by
 have lR:=hR.lt
 have c17:w.cell? ⟨R,17,none⟩=some (.int .i64 h.done):=hR.c 17 aO
 have nI:¬I=w.heap.size:=aO
 have nR:¬R=w.heap.size:=aO
 have lI1:I < w.heap.size+1:=aO
 have lR1:R < w.heap.size+1:=aO
 have HR:Hid _:=hR
 have HT:Hid _:=hT
 have HXR:Hid _:=hXR
 have HK5:Hid _:=k5
 have HLI:Hid _:=lI
 clear hR hT hXR
 go_enter Tryz.func66,Tryz.ntmps66
 go_upto_region 1 with fail
 go_region
 go_upto_region 4 with fail
 refine zJ (fun W'=>EW w W' R (yB ws tb X h) k h.done (w.heap.size+1)∧W'.cell? ⟨I,5,none⟩=some (.int .i64 n)) (zB2 HR.out k h.done I n HLI.out HK5.out) ?_
 clear c17 k5 k6 HK5 nI lI1 lR1
 rintro W ⟨hO,k5⟩
 have hrr:=hO.r
 have hoo:=hO.o
 have r0:W.cell? ⟨w.heap.size,0,none⟩=some (.int .i64 0):=zA hrr 0
 have rz0:=zD hrr 0
 have r1:W.cell? ⟨w.heap.size,1,none⟩=some (.int .i64 0):=zA hrr 1
 have rz1:=zD hrr 1
 have r2:W.cell? ⟨w.heap.size,2,none⟩=some (.int .u32 0):=zA hrr 2
 have rz2:=zD hrr 2
 have r3:W.cell? ⟨w.heap.size,3,none⟩=some (.int .u32 0):=zA hrr 3
 have rz3:=zD hrr 3
 have r4:W.cell? ⟨w.heap.size,4,none⟩=some (.int .i64 0):=zA hrr 4
 have rz4:=zD hrr 4
 have r5:W.cell? ⟨w.heap.size,5,none⟩=some (.int .i64 0):=zA hrr 5
 have rz5:=zD hrr 5
 have o0:W.cell? ⟨w.heap.size+1,0,none⟩=some (.int .i64 0):=zA hoo 0
 have oz0:=zD hoo 0
 have o1:W.cell? ⟨w.heap.size+1,1,none⟩=some (.int .i64 0):=zA hoo 1
 have oz1:=zD hoo 1
 have o2:W.cell? ⟨w.heap.size+1,2,none⟩=some (.int .u32 0):=zA hoo 2
 have oz2:=zD hoo 2
 have o3:W.cell? ⟨w.heap.size+1,3,none⟩=some (.int .u32 k):=zA hoo 3
 have oz3:=zD hoo 3
 have o4:W.cell? ⟨w.heap.size+1,4,none⟩=some (.int .i64 h.done):=zA hoo 4
 have oz4:=zD hoo 4
 have o5:W.cell? ⟨w.heap.size+1,5,none⟩=some (.int .i64 0):=zA hoo 5
 have oz5:=zD hoo 5
 have lr:=zE hO.r
 have lo:=zE hO.o
 have lR2:=hO.b.lt
 have lI2:I < W.heap.size:=Nat.lt_of_lt_of_le lI hO.c.size
 have nR2:¬w.heap.size=R:=aO
 have nR3:¬w.heap.size+1=R:=aO
 have nBr:¬w.heap.size+1=w.heap.size:=aO
 have nRr:¬R=w.heap.size:=aO
 have c13:W.cell? ⟨R,13,none⟩=some (.pointer (some ⟨X,0,none⟩)):=hO.b.c 13 aO
 have c14:W.cell? ⟨R,14,none⟩=some (.int .i64 h.left):=hO.b.c 14 aO
 have c17:W.cell? ⟨R,17,none⟩=some (.int .i64 h.done):=hO.b.c 17 aO
 have c18:W.cell? ⟨R,18,none⟩=some (.int .i64 h.count):=hO.b.c 18 aO
 have c19:W.cell? ⟨R,19,none⟩=some (.int .i32 h.ent):=hO.b.c 19 aO
 have f19:=hO.b.fz 19
 have hX:W.heap[X]?=w.heap[X]?:=hO.c.block X lX zq68
 have HCT:Hid _:=HT.out W hX
 have hset:∀ m,RB ((W.drewN m).setCell ⟨R,19,none⟩ (.int .i32 (h.ent+1))) R (yB ws tb X h.enter):=fun m=>by
  have:=(hO.b.drwN m).set 19 aO (.int .i32 (h.ent+1))
  rw[zB3] at this
  exact this
 have HS:Hid _:=hset
 have HO:Hid _:=hO
 clear hO hset hrr hoo hX lX
 go_wp2_with (go_at_call 9;refine Calls.mono HCT.out ?_;rintro e w9 ⟨rfl,rfl⟩)
 refine bodyPost_ret (v:=.agg (yE ⟨1,0,0,k,h.done,0⟩)) zq57 rfl ⟨rfl,?_,?_⟩
 ·exact zq35
 ·exact zq37
theorem zFq(R X I:Nat)(ws tb:Value)(h:HP)(k:Nat)(n:Int)(w:World)(hR:RB w R (yB ws tb X h))(k5:w.cell? ⟨I,5,none⟩=some (.int .i64 n))(k6:w.cell? ⟨I,6,none⟩=some (.int .u32 k))(lI:I < w.heap.size)(hT:TC w X false)(lX:X < w.heap.size)(hXR:X≠R)(hw : -9223372036854775808≤h.left - h.done∧h.left - h.done≤9223372036854775807)(hs:h.left - h.done < n) :
  Calls Tryz.prog 66 #[.pointer (some ⟨R,0,none⟩),.pointer (some ⟨I,0,none⟩)] w fun e w'=>e=.returned (.agg (yE ⟨4,0,0,k,h.done,0⟩))∧RB w' R (yB ws tb X h)∧zI [R] w w':=by
 have lR:=hR.lt
 have c17:w.cell? ⟨R,17,none⟩=some (.int .i64 h.done):=hR.c 17 aO
 have nI:¬I=w.heap.size:=aO
 have nR:¬R=w.heap.size:=aO
 have lI1:I < w.heap.size+1:=aO
 have lR1:R < w.heap.size+1:=aO
 have HR:Hid _:=hR
 have HT:Hid _:=hT
 have HXR:Hid _:=hXR
 have HK5:Hid _:=k5
 have HLI:Hid _:=lI
 clear hR hT hXR
 go_enter Tryz.func66,Tryz.ntmps66
 go_upto_region 1 with fail
 go_region
 go_upto_region 4 with fail
 refine zJ (fun W'=>EW w W' R (yB ws tb X h) k h.done (w.heap.size+1)∧W'.cell? ⟨I,5,none⟩=some (.int .i64 n)) (zB2 HR.out k h.done I n HLI.out HK5.out) ?_
 clear c17 k5 k6 HK5 nI lI1 lR1
 rintro W ⟨hO,k5⟩
 have hrr:=hO.r
 have hoo:=hO.o
 have r0:W.cell? ⟨w.heap.size,0,none⟩=some (.int .i64 0):=zA hrr 0
 have rz0:=zD hrr 0
 have r1:W.cell? ⟨w.heap.size,1,none⟩=some (.int .i64 0):=zA hrr 1
 have rz1:=zD hrr 1
 have r2:W.cell? ⟨w.heap.size,2,none⟩=some (.int .u32 0):=zA hrr 2
 have rz2:=zD hrr 2
 have r3:W.cell? ⟨w.heap.size,3,none⟩=some (.int .u32 0):=zA hrr 3
 have rz3:=zD hrr 3
 have r4:W.cell? ⟨w.heap.size,4,none⟩=some (.int .i64 0):=zA hrr 4
 have rz4:=zD hrr 4
 have r5:W.cell? ⟨w.heap.size,5,none⟩=some (.int .i64 0):=zA hrr 5
 have rz5:=zD hrr 5
 have o0:W.cell? ⟨w.heap.size+1,0,none⟩=some (.int .i64 0):=zA hoo 0
 have oz0:=zD hoo 0
 have o1:W.cell? ⟨w.heap.size+1,1,none⟩=some (.int .i64 0):=zA hoo 1
 have oz1:=zD hoo 1
 have o2:W.cell? ⟨w.heap.size+1,2,none⟩=some (.int .u32 0):=zA hoo 2
 have oz2:=zD hoo 2
 have o3:W.cell? ⟨w.heap.size+1,3,none⟩=some (.int .u32 k):=zA hoo 3
 have oz3:=zD hoo 3
 have o4:W.cell? ⟨w.heap.size+1,4,none⟩=some (.int .i64 h.done):=zA hoo 4
 have oz4:=zD hoo 4
 have o5:W.cell? ⟨w.heap.size+1,5,none⟩=some (.int .i64 0):=zA hoo 5
 have oz5:=zD hoo 5
 have lr:=zE hO.r
 have lo:=zE hO.o
 have lR2:=hO.b.lt
 have lI2:I < W.heap.size:=Nat.lt_of_lt_of_le lI hO.c.size
 have nR2:¬w.heap.size=R:=aO
 have nR3:¬w.heap.size+1=R:=aO
 have nBr:¬w.heap.size+1=w.heap.size:=aO
 have nRr:¬R=w.heap.size:=aO
 have c13:W.cell? ⟨R,13,none⟩=some (.pointer (some ⟨X,0,none⟩)):=hO.b.c 13 aO
 have c14:W.cell? ⟨R,14,none⟩=some (.int .i64 h.left):=hO.b.c 14 aO
 have c17:W.cell? ⟨R,17,none⟩=some (.int .i64 h.done):=hO.b.c 17 aO
 have c18:W.cell? ⟨R,18,none⟩=some (.int .i64 h.count):=hO.b.c 18 aO
 have c19:W.cell? ⟨R,19,none⟩=some (.int .i32 h.ent):=hO.b.c 19 aO
 have f19:=hO.b.fz 19
 have hX:W.heap[X]?=w.heap[X]?:=hO.c.block X lX zq68
 have HCT:Hid _:=HT.out W hX
 have hset:∀ m,RB ((W.drewN m).setCell ⟨R,19,none⟩ (.int .i32 (h.ent+1))) R (yB ws tb X h.enter):=fun m=>by
  have:=(hO.b.drwN m).set 19 aO (.int .i32 (h.ent+1))
  rw[zB3] at this
  exact this
 have HS:Hid _:=hset
 have HO:Hid _:=hO
 clear hO hset hrr hoo hX lX
 have hw2:IntKind.i64.wrap (h.left - h.done)=h.left - h.done:=IntWalk.i64_in _ hw
 have q6:decide (h.left - h.done < n)=true:=decide_eq_true hs
 go_upto_region 6 with (go_at_call 9;refine Calls.mono HCT.out ?_;rintro e w9 ⟨rfl,rfl⟩)
 go_quiet (fail)
 go_wp2
 refine bodyPost_ret (v:=.agg (yE ⟨4,0,0,k,h.done,0⟩)) zq57 rfl ⟨rfl,?_,?_⟩
 ·exact zq35
 ·exact zq37
theorem zF7(R X I:Nat)(ws tb:Value)(h:HP)(k:Nat)(n:Int)(w:World)(hR:RB w R (yB ws tb X h))(k5:w.cell? ⟨I,5,none⟩=some (.int .i64 n))(k6:w.cell? ⟨I,6,none⟩=some (.int .u32 k))(lI:I < w.heap.size)(hT:TC w X false)(lX:X < w.heap.size)(hXR:X≠R)(hw : -9223372036854775808≤h.left - h.done∧h.left - h.done≤9223372036854775807)(hs:¬h.left - h.done < n)(hf:1048576≤h.count) :
  Calls Tryz.prog 66 #[.pointer (some ⟨R,0,none⟩),.pointer (some ⟨I,0,none⟩)] w fun e w'=>e=.returned (.agg (yE ⟨6,0,0,k,h.done,0⟩))∧RB w' R (yB ws tb X h)∧zI [R] w w':=by
 have lR:=hR.lt
 have c17:w.cell? ⟨R,17,none⟩=some (.int .i64 h.done):=hR.c 17 aO
 have nI:¬I=w.heap.size:=aO
 have nR:¬R=w.heap.size:=aO
 have lI1:I < w.heap.size+1:=aO
 have lR1:R < w.heap.size+1:=aO
 have HR:Hid _:=hR
 have HT:Hid _:=hT
 have HXR:Hid _:=hXR
 have HK5:Hid _:=k5
 have HLI:Hid _:=lI
 clear hR hT hXR
 go_enter Tryz.func66,Tryz.ntmps66
 go_upto_region 1 with fail
 go_region
 go_upto_region 4 with fail
 refine zJ (fun W'=>EW w W' R (yB ws tb X h) k h.done (w.heap.size+1)∧W'.cell? ⟨I,5,none⟩=some (.int .i64 n)) (zB2 HR.out k h.done I n HLI.out HK5.out) ?_
 clear c17 k5 k6 HK5 nI lI1 lR1
 rintro W ⟨hO,k5⟩
 have hrr:=hO.r
 have hoo:=hO.o
 have r0:W.cell? ⟨w.heap.size,0,none⟩=some (.int .i64 0):=zA hrr 0
 have rz0:=zD hrr 0
 have r1:W.cell? ⟨w.heap.size,1,none⟩=some (.int .i64 0):=zA hrr 1
 have rz1:=zD hrr 1
 have r2:W.cell? ⟨w.heap.size,2,none⟩=some (.int .u32 0):=zA hrr 2
 have rz2:=zD hrr 2
 have r3:W.cell? ⟨w.heap.size,3,none⟩=some (.int .u32 0):=zA hrr 3
 have rz3:=zD hrr 3
 have r4:W.cell? ⟨w.heap.size,4,none⟩=some (.int .i64 0):=zA hrr 4
 have rz4:=zD hrr 4
 have r5:W.cell? ⟨w.heap.size,5,none⟩=some (.int .i64 0):=zA hrr 5
 have rz5:=zD hrr 5
 have o0:W.cell? ⟨w.heap.size+1,0,none⟩=some (.int .i64 0):=zA hoo 0
 have oz0:=zD hoo 0
 have o1:W.cell? ⟨w.heap.size+1,1,none⟩=some (.int .i64 0):=zA hoo 1
 have oz1:=zD hoo 1
 have o2:W.cell? ⟨w.heap.size+1,2,none⟩=some (.int .u32 0):=zA hoo 2
 have oz2:=zD hoo 2
 have o3:W.cell? ⟨w.heap.size+1,3,none⟩=some (.int .u32 k):=zA hoo 3
 have oz3:=zD hoo 3
 have o4:W.cell? ⟨w.heap.size+1,4,none⟩=some (.int .i64 h.done):=zA hoo 4
 have oz4:=zD hoo 4
 have o5:W.cell? ⟨w.heap.size+1,5,none⟩=some (.int .i64 0):=zA hoo 5
 have oz5:=zD hoo 5
 have lr:=zE hO.r
 have lo:=zE hO.o
 have lR2:=hO.b.lt
 have lI2:I < W.heap.size:=Nat.lt_of_lt_of_le lI hO.c.size
 have nR2:¬w.heap.size=R:=aO
 have nR3:¬w.heap.size+1=R:=aO
 have nBr:¬w.heap.size+1=w.heap.size:=aO
 have nRr:¬R=w.heap.size:=aO
 have c13:W.cell? ⟨R,13,none⟩=some (.pointer (some ⟨X,0,none⟩)):=hO.b.c 13 aO
 have c14:W.cell? ⟨R,14,none⟩=some (.int .i64 h.left):=hO.b.c 14 aO
 have c17:W.cell? ⟨R,17,none⟩=some (.int .i64 h.done):=hO.b.c 17 aO
 have c18:W.cell? ⟨R,18,none⟩=some (.int .i64 h.count):=hO.b.c 18 aO
 have c19:W.cell? ⟨R,19,none⟩=some (.int .i32 h.ent):=hO.b.c 19 aO
 have f19:=hO.b.fz 19
 have hX:W.heap[X]?=w.heap[X]?:=hO.c.block X lX zq68
 have HCT:Hid _:=HT.out W hX
 have hset:∀ m,RB ((W.drewN m).setCell ⟨R,19,none⟩ (.int .i32 (h.ent+1))) R (yB ws tb X h.enter):=fun m=>by
  have:=(hO.b.drwN m).set 19 aO (.int .i32 (h.ent+1))
  rw[zB3] at this
  exact this
 have HS:Hid _:=hset
 have HO:Hid _:=hO
 clear hO hset hrr hoo hX lX
 have hw2:IntKind.i64.wrap (h.left - h.done)=h.left - h.done:=IntWalk.i64_in _ hw
 have q6:decide (h.left - h.done < n)=false:=decide_eq_false hs
 go_upto_region 6 with (go_at_call 9;refine Calls.mono HCT.out ?_;rintro e w9 ⟨rfl,rfl⟩)
 go_quiet (fail)
 go_wp2
 refine bodyPost_ret (v:=.agg (yE ⟨6,0,0,k,h.done,0⟩)) zq57 rfl ⟨rfl,?_,?_⟩
 ·exact zq35
 ·exact zq37
theorem zIY(R X I:Nat)(ws tb:Value)(h:HP)(k:Nat)(n:Int)(w:World)(hR:RB w R (yB ws tb X h))(k5:w.cell? ⟨I,5,none⟩=some (.int .i64 n))(k6:w.cell? ⟨I,6,none⟩=some (.int .u32 k))(lI:I < w.heap.size)(hT:TC w X false)(lX:X < w.heap.size)(hXR:X≠R)(hw : -9223372036854775808≤h.left - h.done∧h.left - h.done≤9223372036854775807)(hs:¬h.left - h.done < n)(hf:¬1048576≤h.count)(he:0≤h.ent∧h.ent < 2147483647) :
  Calls Tryz.prog 66 #[.pointer (some ⟨R,0,none⟩),.pointer (some ⟨I,0,none⟩)] w fun e w'=>e=.returned (.agg (yE ⟨0,0,0,0,0,0⟩))∧RB w' R (yB ws tb X h.enter)∧zI [R] w w':=by
 have lR:=hR.lt
 have c17:w.cell? ⟨R,17,none⟩=some (.int .i64 h.done):=hR.c 17 aO
 have nI:¬I=w.heap.size:=aO
 have nR:¬R=w.heap.size:=aO
 have lI1:I < w.heap.size+1:=aO
 have lR1:R < w.heap.size+1:=aO
 have HR:Hid _:=hR
 have HT:Hid _:=hT
 have HXR:Hid _:=hXR
 have HK5:Hid _:=k5
 have HLI:Hid _:=lI
 clear hR hT hXR
 go_enter Tryz.func66,Tryz.ntmps66
 go_upto_region 1 with fail
 go_region
 go_upto_region 4 with fail
 refine zJ (fun W'=>EW w W' R (yB ws tb X h) k h.done (w.heap.size+1)∧W'.cell? ⟨I,5,none⟩=some (.int .i64 n)) (zB2 HR.out k h.done I n HLI.out HK5.out) ?_
 clear c17 k5 k6 HK5 nI lI1 lR1
 rintro W ⟨hO,k5⟩
 have hrr:=hO.r
 have hoo:=hO.o
 have r0:W.cell? ⟨w.heap.size,0,none⟩=some (.int .i64 0):=zA hrr 0
 have rz0:=zD hrr 0
 have r1:W.cell? ⟨w.heap.size,1,none⟩=some (.int .i64 0):=zA hrr 1
 have rz1:=zD hrr 1
 have r2:W.cell? ⟨w.heap.size,2,none⟩=some (.int .u32 0):=zA hrr 2
 have rz2:=zD hrr 2
 have r3:W.cell? ⟨w.heap.size,3,none⟩=some (.int .u32 0):=zA hrr 3
 have rz3:=zD hrr 3
 have r4:W.cell? ⟨w.heap.size,4,none⟩=some (.int .i64 0):=zA hrr 4
 have rz4:=zD hrr 4
 have r5:W.cell? ⟨w.heap.size,5,none⟩=some (.int .i64 0):=zA hrr 5
 have rz5:=zD hrr 5
 have o0:W.cell? ⟨w.heap.size+1,0,none⟩=some (.int .i64 0):=zA hoo 0
 have oz0:=zD hoo 0
 have o1:W.cell? ⟨w.heap.size+1,1,none⟩=some (.int .i64 0):=zA hoo 1
 have oz1:=zD hoo 1
 have o2:W.cell? ⟨w.heap.size+1,2,none⟩=some (.int .u32 0):=zA hoo 2
 have oz2:=zD hoo 2
 have o3:W.cell? ⟨w.heap.size+1,3,none⟩=some (.int .u32 k):=zA hoo 3
 have oz3:=zD hoo 3
 have o4:W.cell? ⟨w.heap.size+1,4,none⟩=some (.int .i64 h.done):=zA hoo 4
 have oz4:=zD hoo 4
 have o5:W.cell? ⟨w.heap.size+1,5,none⟩=some (.int .i64 0):=zA hoo 5
 have oz5:=zD hoo 5
 have lr:=zE hO.r
 have lo:=zE hO.o
 have lR2:=hO.b.lt
 have lI2:I < W.heap.size:=Nat.lt_of_lt_of_le lI hO.c.size
 have nR2:¬w.heap.size=R:=aO
 have nR3:¬w.heap.size+1=R:=aO
 have nBr:¬w.heap.size+1=w.heap.size:=aO
 have nRr:¬R=w.heap.size:=aO
 have c13:W.cell? ⟨R,13,none⟩=some (.pointer (some ⟨X,0,none⟩)):=hO.b.c 13 aO
 have c14:W.cell? ⟨R,14,none⟩=some (.int .i64 h.left):=hO.b.c 14 aO
 have c17:W.cell? ⟨R,17,none⟩=some (.int .i64 h.done):=hO.b.c 17 aO
 have c18:W.cell? ⟨R,18,none⟩=some (.int .i64 h.count):=hO.b.c 18 aO
 have c19:W.cell? ⟨R,19,none⟩=some (.int .i32 h.ent):=hO.b.c 19 aO
 have f19:=hO.b.fz 19
 have hX:W.heap[X]?=w.heap[X]?:=hO.c.block X lX zq68
 have HCT:Hid _:=HT.out W hX
 have hset:∀ m,RB ((W.drewN m).setCell ⟨R,19,none⟩ (.int .i32 (h.ent+1))) R (yB ws tb X h.enter):=fun m=>by
  have:=(hO.b.drwN m).set 19 aO (.int .i32 (h.ent+1))
  rw[zB3] at this
  exact this
 have HS:Hid _:=hset
 have HO:Hid _:=hO
 clear hO hset hrr hoo hX lX
 have hw9:IntKind.i32.wrap (h.ent+1)=h.ent+1:=IntWalk.i32_in _ aO
 have hw2:IntKind.i64.wrap (h.left - h.done)=h.left - h.done:=IntWalk.i64_in _ hw
 have q6:decide (h.left - h.done < n)=false:=decide_eq_false hs
 go_upto_region 6 with (go_at_call 9;refine Calls.mono HCT.out ?_;rintro e w9 ⟨rfl,rfl⟩)
 go_quiet (fail)
 go_wp2
 refine bodyPost_ret (v:=.agg (yE ⟨0,0,0,0,0,0⟩)) zq57 rfl ⟨rfl,?_,?_⟩
 ·exact(by have hB:=HS.out;repeat first|with_reducible exact hB _|with_reducible refine RB.other ?_ nR2 _ _|with_reducible refine RB.other ?_ nR3 _ _|with_reducible refine RB.drwN ?_ _|with_reducible refine RB.drw ?_)
 ·exact(by have hB:=fun m=>(HO.out.c.drwN m).set (show R∈[R] by simp) 19 (.int .i32 (h.ent+1));repeat first|with_reducible exact hB _|with_reducible refine zI.new ?_ (by first|exact Nat.le_refl _|omega) _ _|with_reducible refine zI.drwN ?_ _|with_reducible refine zI.drew ?_)
end Go.Proofs.YthcpipfmicbnmaaGreat.Ho
