import Derived.Test.YthcpipfmicbnmaaGreatHD
import Derived.Test.YthcpipfmicbnmaaGreatHC
set_option linter.unusedVariables false
set_option linter.unusedSimpArgs false
set_option maxHeartbeats 4000000
namespace Go.Proofs.YthcpipfmicbnmaaGreat.Ho
open Go.RowKit
set_option maxRecDepth 100000
theorem zY(s:Array UInt8)(c:Int)(hs:zDO s)(hc:c=100∨c=97∨c=98∨c=99∨c=110)(w:World):Calls Tryz.prog 36 #[.string ⟨s⟩,.int .u8 c] w fun e w'=>e=.returned (.bool (hasB s c.toNat))∧w=w':=by
 rcases hc with rfl|rfl|rfl|rfl|rfl
 ·exact zMn s hs w
 ·exact zMk s hs w
 ·exact zMl s hs w
 ·exact zMm s hs w
 ·exact zMo s hs w
def uJ:Cd:=⟨0,0,0,0,0,0,0,0⟩
def uB(f:Fm)(v:Nat)(x:Cd):Bool:=decide (fst x=v) && !(hasB f.s 110 && decide (f.most≤x.n)) && !((decide (x.op=12) || decide (x.op=13)) && (decide (x.d < 1) || decide (7 < x.d)))
def rdV(b:Bool)(x:Cd)(n:Nat):Value:=
 match b with
 | true=>.tuple #[cdV x,.int .i64 n,.int .i64 0]
 | false=>.tuple #[cdV uJ,.int .i64 0,.int .i64 3]
structure RX(w W:World)(x:Cd):Prop where
 b:W.heap[w.heap.size+1]?=some (.cells (cdA x) 69)
 r:W.heap[w.heap.size]?=some (.cells (cdA ⟨0,0,0,0,0,0,0,0⟩) 69)
 bel:Below w.heap.size w W
theorem uL(w:World)(x:Cd):RX w ((w.alloc (.cells (cdA ⟨0,0,0,0,0,0,0,0⟩) 69)).alloc (.cells (cdA x) 69)) x:=by
 have e1:=heap_alloc_last w (.cells (cdA ⟨0,0,0,0,0,0,0,0⟩) 69)
 have e2:=heap_alloc_last (w.alloc (.cells (cdA ⟨0,0,0,0,0,0,0,0⟩) 69)) (.cells (cdA x) 69)
 simp only[World.size_alloc] at e2
 refine⟨e2,?_,(aB.alloc aL _).alloc aS _⟩
 rw[Below.heap_alloc _ _ _ aS];exact e1
theorem zJO(b off len cap a p1 p2 v op u1 u2:Nat)(most:Int)(nn:Int)(hfn:(v:Int) / 65536=nn)(w:World)(hv:v < 4294967296)(c0:w.cell? ⟨b,off+a,none⟩=some (.int .u32 v))(c1:w.cell? ⟨b,off+p1,none⟩=some (.int .u32 u1))(lb:b < w.heap.size)(hcap:len≤cap)(hl:len≤140737488355328)(ha:a+2≤len)(hp1:p1=a+1)(hp2:p2=a+2)(hop:v%256=op)(hq:(op:Int)≠12)(hq2:(op:Int)≠13)(hF:yQ (op:Int)=⟨#[110],most,2⟩) :
  Calls Tryz.prog 23 #[.slice (some ⟨b,off,none⟩) len cap,.int .i64 a] w fun e w'=>e=.returned (rdV (uB ⟨#[110],most,2⟩ v ⟨op,0,0,0,0,nn,u1,0⟩) ⟨op,0,0,0,0,nn,u1,0⟩ 2)∧Below w.heap.size w w':=by
 have a0:(0:Int)≤a:=aO
 have a1:(a:Int) < len:=aO
 have a2:(a:Int)≤len:=aO
 have a3:(a:Int)+2≤len:=aO
 have w1:IntKind.i64.wrap ((a:Int)+1)=(p1:Int):=by rw[IntWalk.i64_in _ aO];omega
 have x1:(p1:Int) < len:=aO
 have y1:(0:Int)≤p1:=aO
 have hw3:IntKind.i64.wrap ((len:Int) - a)=(len:Int) - a:=IntWalk.i64_in _ aO
 have v0:(0:Int)≤v:=aO
 have v1:(v:Int) < 4294967296:=aO
 have nb0:¬b=w.heap.size:=aO
 have nb1:¬b=w.heap.size+1:=aO
 have lb1:b < w.heap.size+1:=aO
 have HF:Hid _:=hF
 have ho:(v:Int)%256=op:=aO
 have o0:(0:Int)≤op:=aO
 have o1:(op:Int) < 256:=aO
 have HW:Hid (IntKind.i64.wrap (op:Int)=op):=IntWalk.i64_in _ aO
 have o12:((op:Int)==12)=false:=by simp;omega
 have o13:((op:Int)==13)=false:=by simp;omega
 
 clear hF hop hp1 hp2 ha v0 v1
 go_enter Tryz.func23,Tryz.ntmps23
 go_upto_region 26 with (first|(go_at_call 35;refine(yH _ _).mono ?_;rintro e w9 ⟨rfl,rfl⟩;(try rw[HW.out]);rw[HF.out])|(go_at_call 36;refine(zY #[110] _ (.inr (.inl rfl)) zq2 _).mono ?_;rintro e w9 ⟨rfl,rfl⟩;simp only[hbT]))
 refine zJ (fun W'=>RX w W' ⟨op,0,0,0,0,nn,u1,0⟩) (uL w ⟨op,0,0,0,0,nn,u1,0⟩) ?_
 intro W hX
 have k0:W.cell? ⟨w.heap.size+1,0,none⟩=some (.int .i64 op):=zA hX.b 0
 have r0:W.cell? ⟨w.heap.size,0,none⟩=some (.int .i64 0):=zA hX.r 0
 have z0:=zD hX.r 0
 have k1:W.cell? ⟨w.heap.size+1,1,none⟩=some (.int .i64 0):=zA hX.b 1
 have r1:W.cell? ⟨w.heap.size,1,none⟩=some (.int .i64 0):=zA hX.r 1
 have z1:=zD hX.r 1
 have k2:W.cell? ⟨w.heap.size+1,2,none⟩=some (.int .i64 0):=zA hX.b 2
 have r2:W.cell? ⟨w.heap.size,2,none⟩=some (.int .i64 0):=zA hX.r 2
 have z2:=zD hX.r 2
 have k3:W.cell? ⟨w.heap.size+1,3,none⟩=some (.int .i64 0):=zA hX.b 3
 have r3:W.cell? ⟨w.heap.size,3,none⟩=some (.int .i64 0):=zA hX.r 3
 have z3:=zD hX.r 3
 have k4:W.cell? ⟨w.heap.size+1,4,none⟩=some (.int .i64 0):=zA hX.b 4
 have r4:W.cell? ⟨w.heap.size,4,none⟩=some (.int .i64 0):=zA hX.r 4
 have z4:=zD hX.r 4
 have k5:W.cell? ⟨w.heap.size+1,5,none⟩=some (.int .i64 nn):=zA hX.b 5
 have r5:W.cell? ⟨w.heap.size,5,none⟩=some (.int .i64 0):=zA hX.r 5
 have z5:=zD hX.r 5
 have k6:W.cell? ⟨w.heap.size+1,6,none⟩=some (.int .u32 u1):=zA hX.b 6
 have r6:W.cell? ⟨w.heap.size,6,none⟩=some (.int .u32 0):=zA hX.r 6
 have z6:=zD hX.r 6
 have k7:W.cell? ⟨w.heap.size+1,7,none⟩=some (.int .u32 0):=zA hX.b 7
 have r7:W.cell? ⟨w.heap.size,7,none⟩=some (.int .u32 0):=zA hX.r 7
 have z7:=zD hX.r 7
 have lx:=zE hX.b
 have lr:=zE hX.r
 have HX:Hid _:=hX
 clear hX
 by_cases e1:fst ⟨op,0,0,0,0,nn,u1,0⟩=v
 ·have HE:Hid _:=e1
  have E1:Hid _:=e1
  clear e1
  by_cases e2:most≤nn
  ·have g2:decide (most≤nn)=true:=decide_eq_true e2
   go_wp2_with (first|(go_at_call 37;refine(zV ⟨op,0,0,0,0,nn,u1,0⟩ W).mono ?_;rintro e w9 ⟨rfl,rfl⟩;(try rw[HE.out]))|(go_at_call 36;refine(zY #[110] _ (.inr (.inl rfl)) zq2 _).mono ?_;rintro e w9 ⟨rfl,rfl⟩;simp only[hbT]))
   refine bodyPost_ret (v:=.tuple #[cdV uJ,.int .i64 0,.int .i64 3]) zq5 rfl ⟨by rw[show uB ⟨#[110],most,2⟩ v ⟨op,0,0,0,0,nn,u1,0⟩=false from by simp[uB,hasB,E1.out,hq,hq2,e2]];rfl,?_⟩
   exact zq0
  ·have g2:decide (most≤nn)=false:=decide_eq_false e2
   go_wp2_with (first|(go_at_call 37;refine(zV ⟨op,0,0,0,0,nn,u1,0⟩ W).mono ?_;rintro e w9 ⟨rfl,rfl⟩;(try rw[HE.out]))|(go_at_call 36;refine(zY #[110] _ (.inr (.inl rfl)) zq2 _).mono ?_;rintro e w9 ⟨rfl,rfl⟩;simp only[hbT]))
   refine bodyPost_ret (v:=.tuple #[cdV ⟨op,0,0,0,0,nn,u1,0⟩,.int .i64 2,.int .i64 0]) zq5 rfl ⟨by rw[show uB ⟨#[110],most,2⟩ v ⟨op,0,0,0,0,nn,u1,0⟩=true from by simp[uB,hasB,E1.out,hq,hq2,e2]];rfl,?_⟩
   exact zq0
 ·have HE:Hid True:=trivial
  have g1:(fst ⟨op,0,0,0,0,nn,u1,0⟩ !=(v:Int))=true:=by simpa using e1
  go_wp2_with (first|(go_at_call 37;refine(zV ⟨op,0,0,0,0,nn,u1,0⟩ W).mono ?_;rintro e w9 ⟨rfl,rfl⟩;(try rw[HE.out]))|(go_at_call 36;refine(zY #[110] _ (.inr (.inl rfl)) zq2 _).mono ?_;rintro e w9 ⟨rfl,rfl⟩;simp only[hbT]))
  refine bodyPost_ret (v:=.tuple #[cdV uJ,.int .i64 0,.int .i64 3]) zq5 rfl ⟨by rw[show uB ⟨#[110],most,2⟩ v ⟨op,0,0,0,0,nn,u1,0⟩=false from by simp[uB,hasB,e1]];rfl,?_⟩
  exact zq0
theorem zJL(b off len cap a p1 p2 v op u1 u2:Nat)(most:Int)(d:Int)(hfd:(v:Int) / 256%16=d)(w:World)(hv:v < 4294967296)(c0:w.cell? ⟨b,off+a,none⟩=some (.int .u32 v))(c1:w.cell? ⟨b,off+p1,none⟩=some (.int .u32 u1))(lb:b < w.heap.size)(hcap:len≤cap)(hl:len≤140737488355328)(ha:a+2≤len)(hp1:p1=a+1)(hp2:p2=a+2)(hop:v%256=op)(hq:(op:Int)≠12)(hq2:(op:Int)≠13)(hF:yQ (op:Int)=⟨#[100],most,2⟩) :
  Calls Tryz.prog 23 #[.slice (some ⟨b,off,none⟩) len cap,.int .i64 a] w fun e w'=>e=.returned (rdV (uB ⟨#[100],most,2⟩ v ⟨op,d,0,0,0,0,u1,0⟩) ⟨op,d,0,0,0,0,u1,0⟩ 2)∧Below w.heap.size w w':=by
 have a0:(0:Int)≤a:=aO
 have a1:(a:Int) < len:=aO
 have a2:(a:Int)≤len:=aO
 have a3:(a:Int)+2≤len:=aO
 have w1:IntKind.i64.wrap ((a:Int)+1)=(p1:Int):=by rw[IntWalk.i64_in _ aO];omega
 have x1:(p1:Int) < len:=aO
 have y1:(0:Int)≤p1:=aO
 have hw3:IntKind.i64.wrap ((len:Int) - a)=(len:Int) - a:=IntWalk.i64_in _ aO
 have v0:(0:Int)≤v:=aO
 have v1:(v:Int) < 4294967296:=aO
 have nb0:¬b=w.heap.size:=aO
 have nb1:¬b=w.heap.size+1:=aO
 have lb1:b < w.heap.size+1:=aO
 have HF:Hid _:=hF
 have ho:(v:Int)%256=op:=aO
 have o0:(0:Int)≤op:=aO
 have o1:(op:Int) < 256:=aO
 have HW:Hid (IntKind.i64.wrap (op:Int)=op):=IntWalk.i64_in _ aO
 have o12:((op:Int)==12)=false:=by simp;omega
 have o13:((op:Int)==13)=false:=by simp;omega
 
 clear hF hop hp1 hp2 ha v0 v1
 go_enter Tryz.func23,Tryz.ntmps23
 go_upto_region 26 with (first|(go_at_call 35;refine(yH _ _).mono ?_;rintro e w9 ⟨rfl,rfl⟩;(try rw[HW.out]);rw[HF.out])|(go_at_call 36;refine(zY #[100] _ (.inr (.inr (.inl rfl))) zq2 _).mono ?_;rintro e w9 ⟨rfl,rfl⟩;simp only[hbT]))
 refine zJ (fun W'=>RX w W' ⟨op,d,0,0,0,0,u1,0⟩) (uL w ⟨op,d,0,0,0,0,u1,0⟩) ?_
 intro W hX
 have k0:W.cell? ⟨w.heap.size+1,0,none⟩=some (.int .i64 op):=zA hX.b 0
 have r0:W.cell? ⟨w.heap.size,0,none⟩=some (.int .i64 0):=zA hX.r 0
 have z0:=zD hX.r 0
 have k1:W.cell? ⟨w.heap.size+1,1,none⟩=some (.int .i64 d):=zA hX.b 1
 have r1:W.cell? ⟨w.heap.size,1,none⟩=some (.int .i64 0):=zA hX.r 1
 have z1:=zD hX.r 1
 have k2:W.cell? ⟨w.heap.size+1,2,none⟩=some (.int .i64 0):=zA hX.b 2
 have r2:W.cell? ⟨w.heap.size,2,none⟩=some (.int .i64 0):=zA hX.r 2
 have z2:=zD hX.r 2
 have k3:W.cell? ⟨w.heap.size+1,3,none⟩=some (.int .i64 0):=zA hX.b 3
 have r3:W.cell? ⟨w.heap.size,3,none⟩=some (.int .i64 0):=zA hX.r 3
 have z3:=zD hX.r 3
 have k4:W.cell? ⟨w.heap.size+1,4,none⟩=some (.int .i64 0):=zA hX.b 4
 have r4:W.cell? ⟨w.heap.size,4,none⟩=some (.int .i64 0):=zA hX.r 4
 have z4:=zD hX.r 4
 have k5:W.cell? ⟨w.heap.size+1,5,none⟩=some (.int .i64 0):=zA hX.b 5
 have r5:W.cell? ⟨w.heap.size,5,none⟩=some (.int .i64 0):=zA hX.r 5
 have z5:=zD hX.r 5
 have k6:W.cell? ⟨w.heap.size+1,6,none⟩=some (.int .u32 u1):=zA hX.b 6
 have r6:W.cell? ⟨w.heap.size,6,none⟩=some (.int .u32 0):=zA hX.r 6
 have z6:=zD hX.r 6
 have k7:W.cell? ⟨w.heap.size+1,7,none⟩=some (.int .u32 0):=zA hX.b 7
 have r7:W.cell? ⟨w.heap.size,7,none⟩=some (.int .u32 0):=zA hX.r 7
 have z7:=zD hX.r 7
 have lx:=zE hX.b
 have lr:=zE hX.r
 have HX:Hid _:=hX
 clear hX
 by_cases e1:fst ⟨op,d,0,0,0,0,u1,0⟩=v
 ·have HE:Hid _:=e1
  have E1:Hid _:=e1
  clear e1
  go_wp2_with (first|(go_at_call 37;refine(zV ⟨op,d,0,0,0,0,u1,0⟩ W).mono ?_;rintro e w9 ⟨rfl,rfl⟩;(try rw[HE.out]))|(go_at_call 36;refine(zY #[100] _ (.inr (.inr (.inl rfl))) zq2 _).mono ?_;rintro e w9 ⟨rfl,rfl⟩;simp only[hbT]))
  refine bodyPost_ret (v:=.tuple #[cdV ⟨op,d,0,0,0,0,u1,0⟩,.int .i64 2,.int .i64 0]) zq5 rfl ⟨by rw[show uB ⟨#[100],most,2⟩ v ⟨op,d,0,0,0,0,u1,0⟩=true from by simp[uB,hasB,E1.out,hq,hq2]];rfl,?_⟩
  exact zq0
 ·have HE:Hid True:=trivial
  have g1:(fst ⟨op,d,0,0,0,0,u1,0⟩ !=(v:Int))=true:=by simpa using e1
  go_wp2_with (first|(go_at_call 37;refine(zV ⟨op,d,0,0,0,0,u1,0⟩ W).mono ?_;rintro e w9 ⟨rfl,rfl⟩;(try rw[HE.out]))|(go_at_call 36;refine(zY #[100] _ (.inr (.inr (.inl rfl))) zq2 _).mono ?_;rintro e w9 ⟨rfl,rfl⟩;simp only[hbT]))
  refine bodyPost_ret (v:=.tuple #[cdV uJ,.int .i64 0,.int .i64 3]) zq5 rfl ⟨by rw[show uB ⟨#[100],most,2⟩ v ⟨op,d,0,0,0,0,u1,0⟩=false from by simp[uB,hasB,e1]];rfl,?_⟩
  exact zq0
theorem zHS(b off len cap a p1 p2 v op u1 u2:Nat)(most:Int)(d:Int)(aa:Int)(hfd:(v:Int) / 256%16=d)(hfa:(v:Int) / 4096%16=aa)(w:World)(hv:v < 4294967296)(c0:w.cell? ⟨b,off+a,none⟩=some (.int .u32 v))(lb:b < w.heap.size)(hcap:len≤cap)(hl:len≤140737488355328)(ha:a+1≤len)(hp1:p1=a+1)(hp2:p2=a+2)(hop:v%256=op)(hq:(op:Int)≠12)(hq2:(op:Int)≠13)(hF:yQ (op:Int)=⟨#[100,97],most,1⟩) :
  Calls Tryz.prog 23 #[.slice (some ⟨b,off,none⟩) len cap,.int .i64 a] w fun e w'=>e=.returned (rdV (uB ⟨#[100,97],most,1⟩ v ⟨op,d,aa,0,0,0,0,0⟩) ⟨op,d,aa,0,0,0,0,0⟩ 1)∧Below w.heap.size w w':=by
 have a0:(0:Int)≤a:=aO
 have a1:(a:Int) < len:=aO
 have a2:(a:Int)≤len:=aO
 have a3:(a:Int)+1≤len:=aO
 have hw3:IntKind.i64.wrap ((len:Int) - a)=(len:Int) - a:=IntWalk.i64_in _ aO
 have v0:(0:Int)≤v:=aO
 have v1:(v:Int) < 4294967296:=aO
 have nb0:¬b=w.heap.size:=aO
 have nb1:¬b=w.heap.size+1:=aO
 have lb1:b < w.heap.size+1:=aO
 have HF:Hid _:=hF
 have ho:(v:Int)%256=op:=aO
 have o0:(0:Int)≤op:=aO
 have o1:(op:Int) < 256:=aO
 have HW:Hid (IntKind.i64.wrap (op:Int)=op):=IntWalk.i64_in _ aO
 have o12:((op:Int)==12)=false:=by simp;omega
 have o13:((op:Int)==13)=false:=by simp;omega
 
 clear hF hop hp1 hp2 ha v0 v1
 go_enter Tryz.func23,Tryz.ntmps23
 go_upto_region 26 with (first|(go_at_call 35;refine(yH _ _).mono ?_;rintro e w9 ⟨rfl,rfl⟩;(try rw[HW.out]);rw[HF.out])|(go_at_call 36;refine(zY #[100,97] _ (.inr (.inr (.inr (.inl rfl)))) zq2 _).mono ?_;rintro e w9 ⟨rfl,rfl⟩;simp only[hbT]))
 refine zJ (fun W'=>RX w W' ⟨op,d,aa,0,0,0,0,0⟩) (uL w ⟨op,d,aa,0,0,0,0,0⟩) ?_
 intro W hX
 have k0:W.cell? ⟨w.heap.size+1,0,none⟩=some (.int .i64 op):=zA hX.b 0
 have r0:W.cell? ⟨w.heap.size,0,none⟩=some (.int .i64 0):=zA hX.r 0
 have z0:=zD hX.r 0
 have k1:W.cell? ⟨w.heap.size+1,1,none⟩=some (.int .i64 d):=zA hX.b 1
 have r1:W.cell? ⟨w.heap.size,1,none⟩=some (.int .i64 0):=zA hX.r 1
 have z1:=zD hX.r 1
 have k2:W.cell? ⟨w.heap.size+1,2,none⟩=some (.int .i64 aa):=zA hX.b 2
 have r2:W.cell? ⟨w.heap.size,2,none⟩=some (.int .i64 0):=zA hX.r 2
 have z2:=zD hX.r 2
 have k3:W.cell? ⟨w.heap.size+1,3,none⟩=some (.int .i64 0):=zA hX.b 3
 have r3:W.cell? ⟨w.heap.size,3,none⟩=some (.int .i64 0):=zA hX.r 3
 have z3:=zD hX.r 3
 have k4:W.cell? ⟨w.heap.size+1,4,none⟩=some (.int .i64 0):=zA hX.b 4
 have r4:W.cell? ⟨w.heap.size,4,none⟩=some (.int .i64 0):=zA hX.r 4
 have z4:=zD hX.r 4
 have k5:W.cell? ⟨w.heap.size+1,5,none⟩=some (.int .i64 0):=zA hX.b 5
 have r5:W.cell? ⟨w.heap.size,5,none⟩=some (.int .i64 0):=zA hX.r 5
 have z5:=zD hX.r 5
 have k6:W.cell? ⟨w.heap.size+1,6,none⟩=some (.int .u32 0):=zA hX.b 6
 have r6:W.cell? ⟨w.heap.size,6,none⟩=some (.int .u32 0):=zA hX.r 6
 have z6:=zD hX.r 6
 have k7:W.cell? ⟨w.heap.size+1,7,none⟩=some (.int .u32 0):=zA hX.b 7
 have r7:W.cell? ⟨w.heap.size,7,none⟩=some (.int .u32 0):=zA hX.r 7
 have z7:=zD hX.r 7
 have lx:=zE hX.b
 have lr:=zE hX.r
 have HX:Hid _:=hX
 clear hX
 by_cases e1:fst ⟨op,d,aa,0,0,0,0,0⟩=v
 ·have HE:Hid _:=e1
  have E1:Hid _:=e1
  clear e1
  go_wp2_with (first|(go_at_call 37;refine(zV ⟨op,d,aa,0,0,0,0,0⟩ W).mono ?_;rintro e w9 ⟨rfl,rfl⟩;(try rw[HE.out]))|(go_at_call 36;refine(zY #[100,97] _ (.inr (.inr (.inr (.inl rfl)))) zq2 _).mono ?_;rintro e w9 ⟨rfl,rfl⟩;simp only[hbT]))
  refine bodyPost_ret (v:=.tuple #[cdV ⟨op,d,aa,0,0,0,0,0⟩,.int .i64 1,.int .i64 0]) zq5 rfl ⟨by rw[show uB ⟨#[100,97],most,1⟩ v ⟨op,d,aa,0,0,0,0,0⟩=true from by simp[uB,hasB,E1.out,hq,hq2]];rfl,?_⟩
  exact zq0
 ·have HE:Hid True:=trivial
  have g1:(fst ⟨op,d,aa,0,0,0,0,0⟩ !=(v:Int))=true:=by simpa using e1
  go_wp2_with (first|(go_at_call 37;refine(zV ⟨op,d,aa,0,0,0,0,0⟩ W).mono ?_;rintro e w9 ⟨rfl,rfl⟩;(try rw[HE.out]))|(go_at_call 36;refine(zY #[100,97] _ (.inr (.inr (.inr (.inl rfl)))) zq2 _).mono ?_;rintro e w9 ⟨rfl,rfl⟩;simp only[hbT]))
  refine bodyPost_ret (v:=.tuple #[cdV uJ,.int .i64 0,.int .i64 3]) zq5 rfl ⟨by rw[show uB ⟨#[100,97],most,1⟩ v ⟨op,d,aa,0,0,0,0,0⟩=false from by simp[uB,hasB,e1]];rfl,?_⟩
  exact zq0
theorem zJP(a:Option Addr)(len cap:Nat)(at':Int)(w:World)(hl:len≤140737488355328)(h:at' < 0) :
  Calls Tryz.prog 23 #[.slice a len cap,.int .i64 at'] w fun e w'=>e=.returned (.tuple #[cdV uJ,.int .i64 0,.int .i64 4])∧Below w.heap.size w w':=by
 go_enter Tryz.func23,Tryz.ntmps23
 go_wp2
 refine bodyPost_ret (v:=.tuple #[cdV uJ,.int .i64 0,.int .i64 4]) zq67 rfl ⟨rfl,?_⟩
 exact zq8
theorem zJN(a:Option Addr)(len cap:Nat)(at':Int)(w:World)(hl:len≤140737488355328)(h0:¬at' < 0)(h:(len:Int) < at') :
  Calls Tryz.prog 23 #[.slice a len cap,.int .i64 at'] w fun e w'=>e=.returned (.tuple #[cdV uJ,.int .i64 0,.int .i64 4])∧Below w.heap.size w w':=by
 go_enter Tryz.func23,Tryz.ntmps23
 go_wp2
 refine bodyPost_ret (v:=.tuple #[cdV uJ,.int .i64 0,.int .i64 4]) zq67 rfl ⟨rfl,?_⟩
 exact zq8
theorem zJM(a:Option Addr)(len cap:Nat)(w:World)(hl:len≤140737488355328) :
  Calls Tryz.prog 23 #[.slice a len cap,.int .i64 len] w fun e w'=>e=.returned (.tuple #[cdV uJ,.int .i64 0,.int .i64 1])∧Below w.heap.size w w':=by
 have q1:decide ((len:Int) < 0)=false:=aF
 have q2:decide ((len:Int) < len)=false:=aF
 go_enter Tryz.func23,Tryz.ntmps23
 go_wp2
 refine bodyPost_ret (v:=.tuple #[cdV uJ,.int .i64 0,.int .i64 1]) zq67 rfl ⟨rfl,?_⟩
 exact zq8
theorem zHV(b off len cap a v op:Nat)(w:World)(hv:v < 4294967296)(c0:w.cell? ⟨b,off+a,none⟩=some (.int .u32 v))(lb:b < w.heap.size)(hcap:len≤cap)(hl:len≤140737488355328)(hop:v%256=op)(ha:a < len)(s:Array UInt8)(most:Int)(hF:yQ (op:Int)=⟨s,most,0⟩) :
  Calls Tryz.prog 23 #[.slice (some ⟨b,off,none⟩) len cap,.int .i64 a] w fun e w'=>e=.returned (.tuple #[cdV uJ,.int .i64 0,.int .i64 2])∧Below w.heap.size w w':=by
 have a0:(0:Int)≤a:=aO
 have a1:(a:Int) < len:=aO
 have a2:(a:Int)≤len:=aO
 have hw3:IntKind.i64.wrap ((len:Int) - a)=(len:Int) - a:=IntWalk.i64_in _ aO
 have nb0:¬b=w.heap.size:=aO
 have lb1:b < w.heap.size+1:=aO
 have ho:(v:Int)%256=op:=aO
 have o0:(0:Int)≤op:=aO
 have o1:(op:Int) < 256:=aO
 have HF:Hid _:=hF
 have HW:Hid (IntKind.i64.wrap (op:Int)=op):=IntWalk.i64_in _ aO
 clear hF hop ha
 go_enter Tryz.func23,Tryz.ntmps23
 go_wp2_with ((go_at_call 35;refine(yH _ _).mono ?_;rintro e w9 ⟨rfl,rfl⟩;(try rw[HW.out]);rw[HF.out]))
 refine bodyPost_ret (v:=.tuple #[cdV uJ,.int .i64 0,.int .i64 2]) zq67 rfl ⟨rfl,?_⟩
 exact zq8
theorem zFC(b off len cap a v op:Nat)(w:World)(hv:v < 4294967296)(c0:w.cell? ⟨b,off+a,none⟩=some (.int .u32 v))(lb:b < w.heap.size)(hcap:len≤cap)(hl:len≤140737488355328)(hop:v%256=op)(ha:a < len∧len < a+2)(s:Array UInt8)(most:Int)(hF:yQ (op:Int)=⟨s,most,2⟩) :
  Calls Tryz.prog 23 #[.slice (some ⟨b,off,none⟩) len cap,.int .i64 a] w fun e w'=>e=.returned (.tuple #[cdV uJ,.int .i64 0,.int .i64 1])∧Below w.heap.size w w':=by
 have a3:(len:Int) - a < 2:=aO
 have a0:(0:Int)≤a:=aO
 have a1:(a:Int) < len:=aO
 have a2:(a:Int)≤len:=aO
 have hw3:IntKind.i64.wrap ((len:Int) - a)=(len:Int) - a:=IntWalk.i64_in _ aO
 have nb0:¬b=w.heap.size:=aO
 have lb1:b < w.heap.size+1:=aO
 have ho:(v:Int)%256=op:=aO
 have o0:(0:Int)≤op:=aO
 have o1:(op:Int) < 256:=aO
 have HF:Hid _:=hF
 have HW:Hid (IntKind.i64.wrap (op:Int)=op):=IntWalk.i64_in _ aO
 clear hF hop ha
 go_enter Tryz.func23,Tryz.ntmps23
 go_wp2_with ((go_at_call 35;refine(yH _ _).mono ?_;rintro e w9 ⟨rfl,rfl⟩;(try rw[HW.out]);rw[HF.out]))
 refine bodyPost_ret (v:=.tuple #[cdV uJ,.int .i64 0,.int .i64 1]) zq67 rfl ⟨rfl,?_⟩
 exact zq8
theorem zFD(b off len cap a v op:Nat)(w:World)(hv:v < 4294967296)(c0:w.cell? ⟨b,off+a,none⟩=some (.int .u32 v))(lb:b < w.heap.size)(hcap:len≤cap)(hl:len≤140737488355328)(hop:v%256=op)(ha:a < len∧len < a+3)(s:Array UInt8)(most:Int)(hF:yQ (op:Int)=⟨s,most,3⟩) :
  Calls Tryz.prog 23 #[.slice (some ⟨b,off,none⟩) len cap,.int .i64 a] w fun e w'=>e=.returned (.tuple #[cdV uJ,.int .i64 0,.int .i64 1])∧Below w.heap.size w w':=by
 have a3:(len:Int) - a < 3:=aO
 have a0:(0:Int)≤a:=aO
 have a1:(a:Int) < len:=aO
 have a2:(a:Int)≤len:=aO
 have hw3:IntKind.i64.wrap ((len:Int) - a)=(len:Int) - a:=IntWalk.i64_in _ aO
 have nb0:¬b=w.heap.size:=aO
 have lb1:b < w.heap.size+1:=aO
 have ho:(v:Int)%256=op:=aO
 have o0:(0:Int)≤op:=aO
 have o1:(op:Int) < 256:=aO
 have HF:Hid _:=hF
 have HW:Hid (IntKind.i64.wrap (op:Int)=op):=IntWalk.i64_in _ aO
 clear hF hop ha
 go_enter Tryz.func23,Tryz.ntmps23
 go_wp2_with ((go_at_call 35;refine(yH _ _).mono ?_;rintro e w9 ⟨rfl,rfl⟩;(try rw[HW.out]);rw[HF.out]))
 refine bodyPost_ret (v:=.tuple #[cdV uJ,.int .i64 0,.int .i64 1]) zq67 rfl ⟨rfl,?_⟩
 exact zq8
end Go.Proofs.YthcpipfmicbnmaaGreat.Ho
