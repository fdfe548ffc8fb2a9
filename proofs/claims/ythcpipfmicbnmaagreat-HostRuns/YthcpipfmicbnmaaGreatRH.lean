import Derived.Test.YthcpipfmicbnmaaGreatHI
import Derived.Test.YthcpipfmicbnmaaGreatHK
import Derived.Deep.OwnRows
set_option linter.unusedVariables false
set_option linter.unusedSimpArgs false
set_option maxHeartbeats 2000000
namespace Go.Proofs.YthcpipfmicbnmaaGreat.Ho
open Go.RowKit
set_option maxRecDepth 100000
structure TR(w:World)(b off n:Nat)(tp:Nat→Nat)(ta:Nat→Int):Prop where
 p:∀ i,i < n→w.cell? ⟨b,off+i*2,none⟩=some (.int .u32 (tp i))
 a:∀ i,i < n→w.cell? ⟨b,off+i*2+1,none⟩=some (.int .i64 (ta i))
 lb:b < w.heap.size
theorem zEu(R X I pc:Nat)(a ta:Option Addr)(len cap tcap:Nat)(h:HP)(n:Int)(w:World)(hR:RB w R (yB (.slice a len cap) (.slice ta 0 tcap) X h))(k5:w.cell? ⟨I,5,none⟩=some (.int .i64 n))(lI:I < w.heap.size)(hw : -9223372036854775808≤h.done+n∧h.done+n≤9223372036854775807) :
  Calls Tryz.prog 67 #[.pointer (some ⟨R,0,none⟩),.pointer (some ⟨I,0,none⟩),.int .u32 pc] w fun e w'=>e=.returned (.agg (yE ⟨2,0,0,pc,h.done+n,0⟩))∧RB w' R (yB (.slice a len cap) (.slice ta 0 tcap) X h)∧zI [R] w w':=by
 have lR:=hR.lt
 have c15:w.cell? ⟨R,15,none⟩=some (.slice ta 0 tcap):=hR.c 15 aO
 have c17:w.cell? ⟨R,17,none⟩=some (.int .i64 h.done):=hR.c 17 aO
 have hw2:IntKind.i64.wrap (h.done+n)=h.done+n:=IntWalk.i64_in _ hw
 have nR:¬R=w.heap.size:=aO
 have nR2:¬w.heap.size=R:=aO
 have nI:¬I=w.heap.size:=aO
 have lI1:I < w.heap.size+1:=aO
 have lR1:R < w.heap.size+1:=aO
 have HR:Hid _:=hR
 clear hR
 go_enter Tryz.func67,Tryz.ntmps67
 go_upto_region 6 with fail
 go_region
 all_goals go_wp2
 all_goals
  refine bodyPost_ret (v:=.agg (yE ⟨2,0,0,pc,h.done+n,0⟩)) (by simp[results,Tryz.results67,go_sem]) rfl ⟨rfl,?_,?_⟩
  ·exact(by have hB:=HR.out;repeat first|with_reducible exact hB|with_reducible refine RB.other ?_ nR2 _ _|with_reducible refine RB.drw ?_|with_reducible refine RB.al ?_ _)
  ·exact(by have hB:=zI.refl [R] w;repeat first|with_reducible exact hB|with_reducible refine zI.new ?_ aL _ _|with_reducible refine zI.drew ?_|with_reducible refine zI.alloc ?_ _)
structure TW(w W:World)(R:Nat)(f:Nat→Value)(p:Nat)(q:Int)(B:Nat):Prop where
 r:W.heap[w.heap.size]?=some (.cells (yE ⟨0,0,0,0,0,0⟩) 37)
 o:W.heap[B]?=some (.cells #[.int .u32 p,.int .i64 q] 42)
 b:RB W R f
 c:zI [R] w W
 bel:Below w.heap.size w W
theorem zDl{w:World}{R:Nat}{f:Nat→Value}(h:RB w R f)(p:Nat)(q:Int)(I:Nat)(m:Int)(lI:I < w.heap.size)(k5:w.cell? ⟨I,5,none⟩=some (.int .i64 m)) :
  TW w ((w.alloc (.cells (yE ⟨0,0,0,0,0,0⟩) 37)).alloc (.cells #[.int .u32 p,.int .i64 q] 42)).drew R f p q (w.heap.size+1)∧((w.alloc (.cells (yE ⟨0,0,0,0,0,0⟩) 37)).alloc (.cells #[.int .u32 p,.int .i64 q] 42)).drew.cell? ⟨I,5,none⟩=some (.int .i64 m):=by
 have e1:=heap_alloc_last w (.cells (yE ⟨0,0,0,0,0,0⟩) 37)
 have e2:=heap_alloc_last (w.alloc (.cells (yE ⟨0,0,0,0,0,0⟩) 37)) (.cells #[.int .u32 p,.int .i64 q] 42)
 simp only[World.size_alloc] at e2
 refine⟨⟨(Below.heap_alloc _ _ _ aS).trans e1,e2,((h.al _).al _).drw,(((zI.refl [R] w).alloc _).alloc _).drew,((aB.alloc aL _).alloc aS _).drew⟩,?_⟩
 show((w.alloc _).alloc _).cell? ⟨I,5,none⟩=_
 rw[World.cell?_alloc_past _ _ _ (by show I < _;simp;omega),World.cell?_alloc_past _ _ _ lI];exact k5
theorem TW.keep{w W W':World}{R:Nat}{f:Nat→Value}{p:Nat}{q:Int}{B:Nat}(h:TW w W R f p q B)(b:Below W.heap.size W W'):TW w W' R f p q B:=
 ⟨(b.block _ (zE h.r)).trans h.r,(b.block _ (zE h.o)).trans h.o,h.b.chg (zI.of_below [] b) aS,h.c.trans (zI.of_below _ b),h.bel.trans (b.mono h.bel.size)⟩
theorem zDL(R X I pc ix tb toff tl tcap:Nat)(a:Option Addr)(len cap:Nat)(tp:Nat→Nat)(tat:Nat→Int)(h:HP)(n:Int)(w:World)(hR:RB w R (yB (.slice a len cap) (.slice (some ⟨tb,toff,none⟩) tl tcap) X h))(hT:TR w tb toff tl tp tat)(ht:0 < tl)(ht2:tl≤140737488355328)(hix:pc%tl=ix)(hpc:pc < 4294967296)(k5:w.cell? ⟨I,5,none⟩=some (.int .i64 n))(lI:I < w.heap.size)(hw : -9223372036854775808≤h.done+n∧h.done+n≤9223372036854775807)(ws:Nat→Nat)(hW:Wds w a len cap ws)(hm1:¬tp ix=pc) :
  Calls Tryz.prog 67 #[.pointer (some ⟨R,0,none⟩),.pointer (some ⟨I,0,none⟩),.int .u32 pc] w fun e w'=>(e=.returned (.agg (yE ⟨2,0,0,pc,h.done+n,0⟩))∧RB w' R (yB (.slice a len cap) (.slice (some ⟨tb,toff,none⟩) tl tcap) X h))∧zI [R] w w':=by
 have lR:=hR.lt
 have hi:ix < tl:=by rw[← hix];exact Nat.mod_lt _ ht
 have c15:w.cell? ⟨R,15,none⟩=some (.slice (some ⟨tb,toff,none⟩) tl tcap):=hR.c 15 aO
 have e0:w.cell? ⟨tb,toff+ix*2,none⟩=some (.int .u32 (tp ix)):=hT.p ix hi
 have e1:w.cell? ⟨tb,toff+ix*2+1,none⟩=some (.int .i64 (tat ix)):=hT.a ix hi
 have lb:=hT.lb
 have nR:¬R=w.heap.size:=aO
 have nb:¬tb=w.heap.size:=aO
 have nb1:¬tb=w.heap.size+1:=aO
 have nR1:¬R=w.heap.size+1:=aO
 have lb1:tb < w.heap.size+1:=aO
 have lR1:R < w.heap.size+1:=aO
 have t0:(0:Int) < tl:=aO
 have t1:(tl:Int)≤140737488355328:=aO
 have hm:(pc:Int)%tl=ix:=aO
 have x0:(0:Int)≤ix:=aO
 have x1:(ix:Int) < tl:=aO
 have p0:(0:Int)≤pc:=aO
 have HR:Hid _:=hR
 have HT:Hid _:=hT
 have HPC:Hid _:=hpc
 have q0:((tl:Int)==0)=false:=by simp;omega
 have q1:¬(tl:Int)=0:=aO
 have q2:¬tl=0:=aO
 have p1:IntKind.u64.wrap (pc:Int)=pc:=IntWalk.u64_in _ aO
 have p2:IntKind.u64.wrap (tl:Int)=tl:=IntWalk.u64_in _ aO
 have p3:Int.tmod (pc:Int) tl=ix:=by rw[Int.tmod_eq_emod_of_nonneg p0];exact hm
 have p4:IntKind.u64.wrap (ix:Int)=ix:=IntWalk.u64_in _ aO
 have HW:Hid _:=hW
 have HK5:Hid _:=k5
 have HLI:Hid _:=lI
 clear hR hT hix hpc hW
 go_enter Tryz.func67,Tryz.ntmps67
 go_upto_region 3 with fail
 go_region_held3 (fun W'=>W'.cell? ⟨R,15,none⟩=some (.slice (some ⟨tb,toff,none⟩) tl tcap)∧W'.cell? ⟨tb,toff+ix*2,none⟩=some (.int .u32 (tp ix))∧W'.cell? ⟨tb,toff+ix*2+1,none⟩=some (.int .i64 (tat ix))) ((simp[go_sem,c15,e0,e1,lR,lb,lb1,lR1,nb,nb1,nR,nR1];done)) (fail)
 go_upto_region 4 with fail
 refine zJ (fun W'=>TW w W' R (yB (.slice a len cap) (.slice (some ⟨tb,toff,none⟩) tl tcap) X h) (tp ix) (tat ix) (w.heap.size+1)∧W'.cell? ⟨I,5,none⟩=some (.int .i64 n)) (zDl HR.out (tp ix) (tat ix) I n HLI.out HK5.out) ?_
 clear c15 e0 e1 k5 HK5
 rintro W ⟨hO,k5⟩
 have r0:W.cell? ⟨w.heap.size,0,none⟩=some (.int .i64 0):=zA hO.r 0
 have z0:=zD hO.r 0
 have r1:W.cell? ⟨w.heap.size,1,none⟩=some (.int .i64 0):=zA hO.r 1
 have z1:=zD hO.r 1
 have r2:W.cell? ⟨w.heap.size,2,none⟩=some (.int .u32 0):=zA hO.r 2
 have z2:=zD hO.r 2
 have r3:W.cell? ⟨w.heap.size,3,none⟩=some (.int .u32 0):=zA hO.r 3
 have z3:=zD hO.r 3
 have r4:W.cell? ⟨w.heap.size,4,none⟩=some (.int .i64 0):=zA hO.r 4
 have z4:=zD hO.r 4
 have r5:W.cell? ⟨w.heap.size,5,none⟩=some (.int .i64 0):=zA hO.r 5
 have z5:=zD hO.r 5
 have v0:W.cell? ⟨w.heap.size+1,0,none⟩=some (.int .u32 (tp ix)):=zA hO.o 0
 have v1:W.cell? ⟨w.heap.size+1,1,none⟩=some (.int .i64 (tat ix)):=zA hO.o 1
 have lr:=zE hO.r
 have lo:=zE hO.o
 have lR2:=hO.b.lt
 have lI2:I < W.heap.size:=Nat.lt_of_lt_of_le lI hO.c.size
 have nR2:¬w.heap.size=R:=aO
 have nIr:¬I=w.heap.size:=aO
 have nrI:¬w.heap.size=I:=aO
 have c17:W.cell? ⟨R,17,none⟩=some (.int .i64 h.done):=hO.b.c 17 aO
 have hw2:IntKind.i64.wrap (h.done+n)=h.done+n:=IntWalk.i64_in _ hw
 have HO:Hid _:=hO
 clear hO
 have g1:((tp ix:Int)==(pc:Int))=false:=by simp;omega
 go_upto_region 6 with fail
 go_region
 all_goals go_wp2
 all_goals
  refine bodyPost_ret (v:=.agg (yE ⟨2,0,0,pc,h.done+n,0⟩)) (by simp[results,Tryz.results67,go_sem,r0,r1,r2,r3,r4,r5,lr]) rfl ⟨⟨rfl,?_⟩,?_⟩
  ·exact(by have hB:=HO.out.b;repeat first|with_reducible exact hB|with_reducible refine RB.other ?_ nR2 _ _|with_reducible refine RB.drw ?_)
  ·exact(by have hB:=HO.out.c;repeat first|with_reducible exact hB|with_reducible refine zI.new ?_ aL _ _|with_reducible refine zI.drew ?_)
theorem zDK(R X I pc ix tb toff tl tcap:Nat)(a:Option Addr)(len cap:Nat)(tp:Nat→Nat)(tat:Nat→Int)(h:HP)(n:Int)(w:World)(hR:RB w R (yB (.slice a len cap) (.slice (some ⟨tb,toff,none⟩) tl tcap) X h))(hT:TR w tb toff tl tp tat)(ht:0 < tl)(ht2:tl≤140737488355328)(hix:pc%tl=ix)(hpc:pc < 4294967296)(k5:w.cell? ⟨I,5,none⟩=some (.int .i64 n))(lI:I < w.heap.size)(hw : -9223372036854775808≤h.done+n∧h.done+n≤9223372036854775807)(ws:Nat→Nat)(hW:Wds w a len cap ws)(hm1:tp ix=pc)(hE:isE ws len (tat ix)=false) :
  Calls Tryz.prog 67 #[.pointer (some ⟨R,0,none⟩),.pointer (some ⟨I,0,none⟩),.int .u32 pc] w fun e w'=>(e=.returned (.agg (yE ⟨2,0,0,pc,h.done+n,0⟩))∧RB w' R (yB (.slice a len cap) (.slice (some ⟨tb,toff,none⟩) tl tcap) X h))∧zI [R] w w':=by
 have lR:=hR.lt
 have hi:ix < tl:=by rw[← hix];exact Nat.mod_lt _ ht
 have c15:w.cell? ⟨R,15,none⟩=some (.slice (some ⟨tb,toff,none⟩) tl tcap):=hR.c 15 aO
 have e0:w.cell? ⟨tb,toff+ix*2,none⟩=some (.int .u32 (tp ix)):=hT.p ix hi
 have e1:w.cell? ⟨tb,toff+ix*2+1,none⟩=some (.int .i64 (tat ix)):=hT.a ix hi
 have lb:=hT.lb
 have nR:¬R=w.heap.size:=aO
 have nb:¬tb=w.heap.size:=aO
 have nb1:¬tb=w.heap.size+1:=aO
 have nR1:¬R=w.heap.size+1:=aO
 have lb1:tb < w.heap.size+1:=aO
 have lR1:R < w.heap.size+1:=aO
 have t0:(0:Int) < tl:=aO
 have t1:(tl:Int)≤140737488355328:=aO
 have hm:(pc:Int)%tl=ix:=aO
 have x0:(0:Int)≤ix:=aO
 have x1:(ix:Int) < tl:=aO
 have p0:(0:Int)≤pc:=aO
 have HR:Hid _:=hR
 have HT:Hid _:=hT
 have HPC:Hid _:=hpc
 have q0:((tl:Int)==0)=false:=by simp;omega
 have q1:¬(tl:Int)=0:=aO
 have q2:¬tl=0:=aO
 have p1:IntKind.u64.wrap (pc:Int)=pc:=IntWalk.u64_in _ aO
 have p2:IntKind.u64.wrap (tl:Int)=tl:=IntWalk.u64_in _ aO
 have p3:Int.tmod (pc:Int) tl=ix:=by rw[Int.tmod_eq_emod_of_nonneg p0];exact hm
 have p4:IntKind.u64.wrap (ix:Int)=ix:=IntWalk.u64_in _ aO
 have HW:Hid _:=hW
 have HM1:Hid _:=hm1
 clear hm1
 have HK5:Hid _:=k5
 have HLI:Hid _:=lI
 clear hR hT hix hpc hW
 go_enter Tryz.func67,Tryz.ntmps67
 go_upto_region 3 with fail
 go_region_held3 (fun W'=>W'.cell? ⟨R,15,none⟩=some (.slice (some ⟨tb,toff,none⟩) tl tcap)∧W'.cell? ⟨tb,toff+ix*2,none⟩=some (.int .u32 (tp ix))∧W'.cell? ⟨tb,toff+ix*2+1,none⟩=some (.int .i64 (tat ix))) ((simp[go_sem,c15,e0,e1,lR,lb,lb1,lR1,nb,nb1,nR,nR1];done)) (fail)
 go_upto_region 4 with fail
 refine zJ (fun W'=>TW w W' R (yB (.slice a len cap) (.slice (some ⟨tb,toff,none⟩) tl tcap) X h) (tp ix) (tat ix) (w.heap.size+1)∧W'.cell? ⟨I,5,none⟩=some (.int .i64 n)) (zDl HR.out (tp ix) (tat ix) I n HLI.out HK5.out) ?_
 clear c15 e0 e1 k5 HK5
 rintro W ⟨hO,k5⟩
 have r0:W.cell? ⟨w.heap.size,0,none⟩=some (.int .i64 0):=zA hO.r 0
 have z0:=zD hO.r 0
 have r1:W.cell? ⟨w.heap.size,1,none⟩=some (.int .i64 0):=zA hO.r 1
 have z1:=zD hO.r 1
 have r2:W.cell? ⟨w.heap.size,2,none⟩=some (.int .u32 0):=zA hO.r 2
 have z2:=zD hO.r 2
 have r3:W.cell? ⟨w.heap.size,3,none⟩=some (.int .u32 0):=zA hO.r 3
 have z3:=zD hO.r 3
 have r4:W.cell? ⟨w.heap.size,4,none⟩=some (.int .i64 0):=zA hO.r 4
 have z4:=zD hO.r 4
 have r5:W.cell? ⟨w.heap.size,5,none⟩=some (.int .i64 0):=zA hO.r 5
 have z5:=zD hO.r 5
 have v0:W.cell? ⟨w.heap.size+1,0,none⟩=some (.int .u32 (tp ix)):=zA hO.o 0
 have v1:W.cell? ⟨w.heap.size+1,1,none⟩=some (.int .i64 (tat ix)):=zA hO.o 1
 have lr:=zE hO.r
 have lo:=zE hO.o
 have lR2:=hO.b.lt
 have lI2:I < W.heap.size:=Nat.lt_of_lt_of_le lI hO.c.size
 have nR2:¬w.heap.size=R:=aO
 have nIr:¬I=w.heap.size:=aO
 have nrI:¬w.heap.size=I:=aO
 have c17:W.cell? ⟨R,17,none⟩=some (.int .i64 h.done):=hO.b.c 17 aO
 have hw2:IntKind.i64.wrap (h.done+n)=h.done+n:=IntWalk.i64_in _ hw
 have HO:Hid _:=hO
 have g1:((tp ix:Int)==(pc:Int))=true:=by have:=HM1.out;simp;omega
 clear hO
 have HE:Hid _:=hE
 clear hE
 go_upto_region 6 with (go_at_call 32;refine(zAi R X a len cap (.slice (some ⟨tb,toff,none⟩) tl tcap) h (tat ix) ws W HO.out.b (yD HW.out HO.out.bel)).mono ?_;rintro e w1 ⟨rfl,hb1⟩;rw[HE.out];have HB1:Hid _:=hb1;clear hb1)
 refine zJ (fun W'=>TW w W' R (yB (.slice a len cap) (.slice (some ⟨tb,toff,none⟩) tl tcap) X h) (tp ix) (tat ix) (w.heap.size+1)∧W'.cell? ⟨I,5,none⟩=some (.int .i64 n)) ⟨HO.out.keep HB1.out,(HB1.out.cell (p:=⟨I,5,none⟩) lI2).trans k5⟩ ?_
 clear HO k5 v0 v1 lr lo lR2 lI2 c17 r0 z0 r1 z1 r2 z2 r3 z3 r4 z4 r5 z5 HB1
 rintro V ⟨hO,k5⟩
 have r0:V.cell? ⟨w.heap.size,0,none⟩=some (.int .i64 0):=zA hO.r 0
 have z0:=zD hO.r 0
 have r1:V.cell? ⟨w.heap.size,1,none⟩=some (.int .i64 0):=zA hO.r 1
 have z1:=zD hO.r 1
 have r2:V.cell? ⟨w.heap.size,2,none⟩=some (.int .u32 0):=zA hO.r 2
 have z2:=zD hO.r 2
 have r3:V.cell? ⟨w.heap.size,3,none⟩=some (.int .u32 0):=zA hO.r 3
 have z3:=zD hO.r 3
 have r4:V.cell? ⟨w.heap.size,4,none⟩=some (.int .i64 0):=zA hO.r 4
 have z4:=zD hO.r 4
 have r5:V.cell? ⟨w.heap.size,5,none⟩=some (.int .i64 0):=zA hO.r 5
 have z5:=zD hO.r 5
 have lr:=zE hO.r
 have lR2:=hO.b.lt
 have lI2:I < V.heap.size:=Nat.lt_of_lt_of_le lI hO.c.size
 have c17:V.cell? ⟨R,17,none⟩=some (.int .i64 h.done):=hO.b.c 17 aO
 have HO:Hid _:=hO
 clear hO
 go_region
 all_goals go_wp2
 all_goals
  refine bodyPost_ret (v:=.agg (yE ⟨2,0,0,pc,h.done+n,0⟩)) (by simp[results,Tryz.results67,go_sem,r0,r1,r2,r3,r4,r5,lr]) rfl ⟨⟨rfl,?_⟩,?_⟩
  ·exact(by have hB:=HO.out.b;repeat first|with_reducible exact hB|with_reducible refine RB.other ?_ nR2 _ _|with_reducible refine RB.drw ?_)
  ·exact(by have hB:=HO.out.c;repeat first|with_reducible exact hB|with_reducible refine zI.new ?_ aL _ _|with_reducible refine zI.drew ?_)
theorem zFA(R X I pc ix tb toff tl tcap:Nat)(a:Option Addr)(len cap:Nat)(tp:Nat→Nat)(tat:Nat→Int)(h:HP)(n:Int)(w:World)(hR:RB w R (yB (.slice a len cap) (.slice (some ⟨tb,toff,none⟩) tl tcap) X h))(hT:TR w tb toff tl tp tat)(ht:0 < tl)(ht2:tl≤140737488355328)(hix:pc%tl=ix)(hpc:pc < 4294967296)(k5:w.cell? ⟨I,5,none⟩=some (.int .i64 n))(lI:I < w.heap.size)(hw : -9223372036854775808≤h.done+n∧h.done+n≤9223372036854775807)(ws:Nat→Nat)(hW:Wds w a len cap ws)(hm1:tp ix=pc)(hIR:I≠R)(hE:isE ws len (tat ix)=true) :
  Calls Tryz.prog 67 #[.pointer (some ⟨R,0,none⟩),.pointer (some ⟨I,0,none⟩),.int .u32 pc] w fun e w'=>(e=.returned (.agg (yE ⟨0,0,0,0,0,0⟩))∧RB w' R (yB (.slice a len cap) (.slice (some ⟨tb,toff,none⟩) tl tcap) X (h.go (tat ix) n)))∧zI [R] w w':=by
 have lR:=hR.lt
 have hi:ix < tl:=by rw[← hix];exact Nat.mod_lt _ ht
 have c15:w.cell? ⟨R,15,none⟩=some (.slice (some ⟨tb,toff,none⟩) tl tcap):=hR.c 15 aO
 have e0:w.cell? ⟨tb,toff+ix*2,none⟩=some (.int .u32 (tp ix)):=hT.p ix hi
 have e1:w.cell? ⟨tb,toff+ix*2+1,none⟩=some (.int .i64 (tat ix)):=hT.a ix hi
 have lb:=hT.lb
 have nR:¬R=w.heap.size:=aO
 have nb:¬tb=w.heap.size:=aO
 have nb1:¬tb=w.heap.size+1:=aO
 have nR1:¬R=w.heap.size+1:=aO
 have lb1:tb < w.heap.size+1:=aO
 have lR1:R < w.heap.size+1:=aO
 have t0:(0:Int) < tl:=aO
 have t1:(tl:Int)≤140737488355328:=aO
 have hm:(pc:Int)%tl=ix:=aO
 have x0:(0:Int)≤ix:=aO
 have x1:(ix:Int) < tl:=aO
 have p0:(0:Int)≤pc:=aO
 have HR:Hid _:=hR
 have HT:Hid _:=hT
 have HPC:Hid _:=hpc
 have q0:((tl:Int)==0)=false:=by simp;omega
 have q1:¬(tl:Int)=0:=aO
 have q2:¬tl=0:=aO
 have p1:IntKind.u64.wrap (pc:Int)=pc:=IntWalk.u64_in _ aO
 have p2:IntKind.u64.wrap (tl:Int)=tl:=IntWalk.u64_in _ aO
 have p3:Int.tmod (pc:Int) tl=ix:=by rw[Int.tmod_eq_emod_of_nonneg p0];exact hm
 have p4:IntKind.u64.wrap (ix:Int)=ix:=IntWalk.u64_in _ aO
 have HW:Hid _:=hW
 have HM1:Hid _:=hm1
 clear hm1
 have HK5:Hid _:=k5
 have HLI:Hid _:=lI
 clear hR hT hix hpc hW
 go_enter Tryz.func67,Tryz.ntmps67
 go_upto_region 3 with fail
 go_region_held3 (fun W'=>W'.cell? ⟨R,15,none⟩=some (.slice (some ⟨tb,toff,none⟩) tl tcap)∧W'.cell? ⟨tb,toff+ix*2,none⟩=some (.int .u32 (tp ix))∧W'.cell? ⟨tb,toff+ix*2+1,none⟩=some (.int .i64 (tat ix))) ((simp[go_sem,c15,e0,e1,lR,lb,lb1,lR1,nb,nb1,nR,nR1];done)) (fail)
 go_upto_region 4 with fail
 refine zJ (fun W'=>TW w W' R (yB (.slice a len cap) (.slice (some ⟨tb,toff,none⟩) tl tcap) X h) (tp ix) (tat ix) (w.heap.size+1)∧W'.cell? ⟨I,5,none⟩=some (.int .i64 n)) (zDl HR.out (tp ix) (tat ix) I n HLI.out HK5.out) ?_
 clear c15 e0 e1 k5 HK5
 rintro W ⟨hO,k5⟩
 have r0:W.cell? ⟨w.heap.size,0,none⟩=some (.int .i64 0):=zA hO.r 0
 have z0:=zD hO.r 0
 have r1:W.cell? ⟨w.heap.size,1,none⟩=some (.int .i64 0):=zA hO.r 1
 have z1:=zD hO.r 1
 have r2:W.cell? ⟨w.heap.size,2,none⟩=some (.int .u32 0):=zA hO.r 2
 have z2:=zD hO.r 2
 have r3:W.cell? ⟨w.heap.size,3,none⟩=some (.int .u32 0):=zA hO.r 3
 have z3:=zD hO.r 3
 have r4:W.cell? ⟨w.heap.size,4,none⟩=some (.int .i64 0):=zA hO.r 4
 have z4:=zD hO.r 4
 have r5:W.cell? ⟨w.heap.size,5,none⟩=some (.int .i64 0):=zA hO.r 5
 have z5:=zD hO.r 5
 have v0:W.cell? ⟨w.heap.size+1,0,none⟩=some (.int .u32 (tp ix)):=zA hO.o 0
 have v1:W.cell? ⟨w.heap.size+1,1,none⟩=some (.int .i64 (tat ix)):=zA hO.o 1
 have lr:=zE hO.r
 have lo:=zE hO.o
 have lR2:=hO.b.lt
 have lI2:I < W.heap.size:=Nat.lt_of_lt_of_le lI hO.c.size
 have nR2:¬w.heap.size=R:=aO
 have nIr:¬I=w.heap.size:=aO
 have nrI:¬w.heap.size=I:=aO
 have c17:W.cell? ⟨R,17,none⟩=some (.int .i64 h.done):=hO.b.c 17 aO
 have hw2:IntKind.i64.wrap (h.done+n)=h.done+n:=IntWalk.i64_in _ hw
 have HO:Hid _:=hO
 have g1:((tp ix:Int)==(pc:Int))=true:=by have:=HM1.out;simp;omega
 clear hO
 have HE:Hid _:=hE
 clear hE
 go_upto_region 5 with (go_at_call 32;refine(zAi R X a len cap (.slice (some ⟨tb,toff,none⟩) tl tcap) h (tat ix) ws W HO.out.b (yD HW.out HO.out.bel)).mono ?_;rintro e w1 ⟨rfl,hb1⟩;rw[HE.out];have HB1:Hid _:=hb1;clear hb1)
 refine zJ (fun W'=>TW w W' R (yB (.slice a len cap) (.slice (some ⟨tb,toff,none⟩) tl tcap) X h) (tp ix) (tat ix) (w.heap.size+1)∧W'.cell? ⟨I,5,none⟩=some (.int .i64 n)) ⟨HO.out.keep HB1.out,(HB1.out.cell (p:=⟨I,5,none⟩) lI2).trans k5⟩ ?_
 clear HO k5 v0 v1 lr lo lR2 lI2 c17 r0 z0 r1 z1 r2 z2 r3 z3 r4 z4 r5 z5 HB1
 rintro V ⟨hO,k5⟩
 have v1:V.cell? ⟨w.heap.size+1,1,none⟩=some (.int .i64 (tat ix)):=zA hO.o 1
 have lr:=zE hO.r
 have lo:=zE hO.o
 have lR2:=hO.b.lt
 have lI2:I < V.heap.size:=Nat.lt_of_lt_of_le lI hO.c.size
 have nBR:¬w.heap.size+1=R:=aO
 have HNI:Hid _:=hIR
 have HO:Hid _:=hO
 have hIR2:¬I=R:=hIR
 clear hO hIR
 go_region_held3 (fun W'=>W'.cell? ⟨w.heap.size+1,1,none⟩=some (.int .i64 (tat ix))∧W'.cell? ⟨I,5,none⟩=some (.int .i64 n)) (first|(simp[go_sem,v1,k5];done)|(simp[go_sem,y1,y5];done)|(simp[go_sem,y1,y5,nIr,nrI];done)|(simp[go_sem,y1,y5,nIr,nrI];omega)) ((go_at_call 68;refine(zC8 R X a len cap (.slice (some ⟨tb,toff,none⟩) tl tcap) h (tat ix) n ws V.drew HO.out.b.drw (yD (yD HW.out HO.out.bel) (aB.drew)) hw).mono ?_;rintro e w9 ⟨hyes,hno,hc9⟩;obtain⟨rfl,hr9⟩:=hyes HE.out;have hrr:w9.heap[w.heap.size]?=some (.cells (yE ⟨0,0,0,0,0,0⟩) 37):=hc9.keep (show V.drew.heap[w.heap.size]?=_ from HO.out.r) (by simpa using nR2);have r0:w9.cell? ⟨w.heap.size,0,none⟩=some (.int .i64 0):=zA hrr 0;have z0:=zD hrr 0;have r1:w9.cell? ⟨w.heap.size,1,none⟩=some (.int .i64 0):=zA hrr 1;have z1:=zD hrr 1;have r2:w9.cell? ⟨w.heap.size,2,none⟩=some (.int .u32 0):=zA hrr 2;have z2:=zD hrr 2;have r3:w9.cell? ⟨w.heap.size,3,none⟩=some (.int .u32 0):=zA hrr 3;have z3:=zD hrr 3;have r4:w9.cell? ⟨w.heap.size,4,none⟩=some (.int .i64 0):=zA hrr 4;have z4:=zD hrr 4;have r5:w9.cell? ⟨w.heap.size,5,none⟩=some (.int .i64 0):=zA hrr 5;have z5:=zD hrr 5;have lr9:=zE hrr;have y1:w9.cell? ⟨w.heap.size+1,1,none⟩=some (.int .i64 (tat ix)):=(World.cell?_of_block (w:=V) (hc9.block (w.heap.size+1) lo (by simpa using nBR))).trans v1;have y5:w9.cell? ⟨I,5,none⟩=some (.int .i64 n):=(World.cell?_of_block (w:=V) (hc9.block I lI2 (by simpa using hIR2))).trans k5;have HR9:Hid _:=hr9;have HC9:Hid _:=hc9;clear hr9 hc9 hrr hyes hno))
 go_wp2
 refine bodyPost_ret (v:=.agg (yE ⟨0,0,0,0,0,0⟩)) (by simp[results,Tryz.results67,go_sem,r0,r1,r2,r3,r4,r5,lr9]) rfl ⟨⟨rfl,?_⟩,?_⟩
 ·exact(by have hB:=HR9.out;repeat first|with_reducible exact hB|with_reducible refine RB.other ?_ nR2 _ _|with_reducible refine RB.drw ?_)
 ·exact(by have hB:=(HO.out.c.drew).trans HC9.out;repeat first|with_reducible exact hB|with_reducible refine zI.new ?_ aL _ _|with_reducible refine zI.drew ?_)
structure BC(n:Nat)(w:World)(B:Nat)(f:Nat→Value):Prop where
 c:∀ o,o < n→w.cell? ⟨B,o,none⟩=some (f o)
 fz:∀ o,w.frozen? ⟨B,o,none⟩=false
 lt:B < w.heap.size
theorem BC.set{n:Nat}{w:World}{R:Nat}{f:Nat→Value}(h:BC n w R f)(o:Nat)(ho:o < n)(v:Value):BC n (w.setCell ⟨R,o,none⟩ v) R (upd f o v):=by
 refine⟨fun o' ho'=>?_,fun o'=>?_,by simpa using h.lt⟩
 ·by_cases e:o'=o
  ·subst e;rw[World.cell?_setCell_same _ _ _ (h.c o' ho)];simp[upd]
  ·rw[World.cell?_setCell_other _ _ _ _ (by intro h;cases h;exact e rfl),h.c o' ho'];simp[upd,e]
 ·rw[World.frozen?_setCell];exact h.fz o'
theorem BC.chg{n:Nat}{S:List Nat}{w w':World}{R:Nat}{f:Nat→Value}(h:BC n w R f)(c:zI S w w')(hR:R∉S):BC n w' R f:=
 ⟨fun o ho=>(World.cell?_of_block (w:=w) (c.block R h.lt hR)).trans (h.c o ho),fun o=>(World.frozen?_of_block (w:=w) (c.block R h.lt hR)).trans (h.fz o),Nat.lt_of_lt_of_le h.lt c.size⟩
theorem BC.other{n:Nat}{w:World}{R B:Nat}{f:Nat→Value}(h:BC n w R f)(hn:¬B=R)(o:Nat)(v:Value):BC n (w.setCell ⟨B,o,none⟩ v) R f:=
 ⟨fun o' ho=>(World.cell?_setCell_other _ _ _ _ (by intro e;cases e;exact hn rfl)).trans (h.c o' ho),fun o'=>by rw[World.frozen?_setCell];exact h.fz o',by simpa using h.lt⟩
structure HQ where
 c:Nat→Nat
 at_:Int
 left:Int
 done:Int
 ran:Int
 reg:Nat→Nat
 has:Nat→Bool
 sp:Nat→Nat
 held:Nat→Bool
 stuck:Bool
structure QB where
 h:Nat
 r:Nat
 g:Nat
 s:Nat
 d:Nat
def hqF(k:QB)(ws tb mp:Value)(q:HQ)(o:Nat):Value:=
 if o=0 then ws else if o=1 then .int .i64 q.at_ else if o < 14 then .int .u32 (q.c (o - 2)) else if o=14 then mp else if o=15 then .int .i64 q.left else if o=16 then .int .i64 q.done else if o=17 then tb
 else if o=18 then .slice (some ⟨k.r,0,none⟩) 16 16 else if o=19 then .slice (some ⟨k.g,0,none⟩) 16 16 else if o=20 then .slice (some ⟨k.s,0,none⟩) 2048 2048 else if o=21 then .slice (some ⟨k.d,0,none⟩) 2048 2048
 else if o=22 then .int .i64 q.ran else .bool q.stuck
structure QW(w:World)(k:QB)(ws tb mp:Value)(q:HQ):Prop where
 h:BC 24 w k.h (hqF k ws tb mp q)
 r:BC 16 w k.r (fun i=>.int .u32 (q.reg i))
 g:BC 16 w k.g (fun i=>.bool (q.has i))
 s:BC 2048 w k.s (fun i=>.int .u32 (q.sp i))
 d:BC 2048 w k.d (fun i=>.bool (q.held i))
 hr:k.h≠k.r
 hg:k.h≠k.g
 hs:k.h≠k.s
 hd:k.h≠k.d
 rg:k.r≠k.g
 rs:k.r≠k.s
 rd:k.r≠k.d
 gs:k.g≠k.s
 gd:k.g≠k.d
 sd:k.s≠k.d
theorem zJo(k:QB)(ws tb mp:Value)(q:HQ)(b:Bool)(o:Nat)(ho:o < 24):upd (hqF k ws tb mp q) 23 (.bool b) o=hqF k ws tb mp { q with stuck:=b } o:=by
 unfold upd
 by_cases e:o=23
 ·rw[if_pos e];subst e;rfl
 ·rw[if_neg e]
  have:o < 23:=aO
  rcases(by omega:o=0∨o=1∨(2≤o∧o < 14)∨o=14∨o=15∨o=16∨o=17∨o=18∨o=19∨o=20∨o=21∨o=22) with rfl|rfl|h|rfl|rfl|rfl|rfl|rfl|rfl|rfl|rfl|rfl
  ·rfl
  ·rfl
  ·unfold hqF
   simp only[show ¬o=0 by omega,show ¬o=1 by omega,h.2,if_true,if_false]
  all_goals rfl
theorem BC.congr{n:Nat}{w:World}{R:Nat}{f g:Nat→Value}(h:BC n w R f)(e:∀ o,o < n→f o=g o):BC n w R g:=⟨fun o ho=>(h.c o ho).trans (by rw[e o ho]),h.fz,h.lt⟩
theorem QW.stick{w:World}{k:QB}{ws tb mp:Value}{q:HQ}(h:QW w k ws tb mp q)(b:Bool):QW (w.setCell ⟨k.h,23,none⟩ (.bool b)) k ws tb mp { q with stuck:=b }:=
 ⟨(h.h.set 23 aO (.bool b)).congr (fun o ho=>zJo k ws tb mp q b o ho),h.r.other h.hr _ _,h.g.other h.hg _ _,h.s.other h.hs _ _,h.d.other h.hd _ _,h.hr,h.hg,h.hs,h.hd,h.rg,h.rs,h.rd,h.gs,h.gd,h.sd⟩
theorem QW.put{w:World}{k:QB}{ws tb mp:Value}{q:HQ}(h:QW w k ws tb mp q)(r v:Nat)(hr:r < 16):QW ((w.setCell ⟨k.r,r,none⟩ (.int .u32 v)).setCell ⟨k.g,r,none⟩ (.bool true)) k ws tb mp { q with reg:=upd q.reg r v,has:=upd q.has r true }:=
 ⟨(h.h.other (fun e=>h.hr e.symm) _ _).other (fun e=>h.hg e.symm) _ _,((h.r.set r hr (.int .u32 v)).congr (fun o ho=>by by_cases e:o=r<;>simp[upd,e])).other (fun e=>h.rg e.symm) _ _,((h.g.other h.rg _ _).set r hr (.bool true)).congr (fun o ho=>by by_cases e:o=r<;>simp[upd,e]),(h.s.other h.rs _ _).other h.gs _ _,(h.d.other h.rd _ _).other h.gd _ _,h.hr,h.hg,h.hs,h.hd,h.rg,h.rs,h.rd,h.gs,h.gd,h.sd⟩
theorem vH(k:QB)(ws tb mp:Value)(q:HQ)(r:Nat)(w:World)(hq:QW w k ws tb mp q)(hr:r < 16) :
  Calls Tryz.prog 38 #[.pointer (some ⟨k.h,0,none⟩),.int .i64 r] w fun e w'=>e=.returned (.int .u32 (q.reg r))∧QW w' k ws tb mp { q with stuck:=q.stuck || !(q.has r) }∧zI [k.h] w w':=by
 have c18:w.cell? ⟨k.h,18,none⟩=some (.slice (some ⟨k.r,0,none⟩) 16 16):=hq.h.c 18 aO
 have c19:w.cell? ⟨k.h,19,none⟩=some (.slice (some ⟨k.g,0,none⟩) 16 16):=hq.h.c 19 aO
 have c23:w.cell? ⟨k.h,23,none⟩=some (.bool q.stuck):=hq.h.c 23 aO
 have f23:=hq.h.fz 23
 have cr:=hq.r.c r hr
 have cg:=hq.g.c r hr
 have lh:=hq.h.lt
 have lr:=hq.r.lt
 have lg:=hq.g.lt
 have n1:¬k.h=k.r:=hq.hr
 have n2:¬k.r=k.h:=fun e=>hq.hr e.symm
 have r0:(0:Int)≤r:=aO
 have r1:(r:Int) < 16:=aO
 have HQ':Hid _:=hq
 clear hq hr
 cases hh:q.has r
 ·rw[hh] at cg
  go_enter Tryz.func38,Tryz.ntmps38
  go_wp2
  go_ret
  exact⟨rfl,by rw[Bool.not_false,Bool.or_true];exact HQ'.out.stick true,(zI.refl _ _).set aS _ _⟩
 ·rw[hh] at cg
  go_enter Tryz.func38,Tryz.ntmps38
  go_wp2
  go_ret
  exact⟨rfl,by rw[Bool.not_true,Bool.or_false];exact HQ'.out,zI.refl _ _⟩
theorem uG(k:QB)(ws tb mp:Value)(q:HQ)(r v:Nat)(w:World)(hq:QW w k ws tb mp q)(hr:r < 16) :
  Calls Tryz.prog 55 #[.pointer (some ⟨k.h,0,none⟩),.int .i64 r,.int .u32 v] w fun e w'=>e=.returned (.tuple #[])∧QW w' k ws tb mp { q with reg:=upd q.reg r v,has:=upd q.has r true }∧zI [k.r,k.g] w w':=by
 have c18:w.cell? ⟨k.h,18,none⟩=some (.slice (some ⟨k.r,0,none⟩) 16 16):=hq.h.c 18 aO
 have c19:w.cell? ⟨k.h,19,none⟩=some (.slice (some ⟨k.g,0,none⟩) 16 16):=hq.h.c 19 aO
 have cr:=hq.r.c r hr
 have cg:=hq.g.c r hr
 have fr:=hq.r.fz r
 have fg:=hq.g.fz r
 have lh:=hq.h.lt
 have lr:=hq.r.lt
 have lg:=hq.g.lt
 have n1:¬k.h=k.r:=hq.hr
 have n2:¬k.r=k.h:=fun e=>hq.hr e.symm
 have n3:¬k.r=k.g:=hq.rg
 have n4:¬k.g=k.r:=fun e=>hq.rg e.symm
 have n5:¬k.h=k.g:=hq.hg
 have n6:¬k.g=k.h:=fun e=>hq.hg e.symm
 have r0:(0:Int)≤r:=aO
 have r1:(r:Int) < 16:=aO
 have HQ':Hid _:=hq
 have HR:Hid _:=hr
 clear hq hr
 go_enter Tryz.func55,Tryz.ntmps55
 go_wp2
 go_end0
 exact⟨rfl,HQ'.out.put r v HR.out,((zI.refl [k.r,k.g] w).set aS _ _).set aS _ _⟩
theorem uS(k:QB)(a:Option Addr)(len cap:Nat)(tb mp:Value)(q:HQ)(at':Int)(ws:Nat→Nat)(w:World)(hq:QW w k (.slice a len cap) tb mp q)(hw:Wds w a len cap ws) :
  Calls Tryz.prog 22 #[.pointer (some ⟨k.h,0,none⟩),.int .i64 at'] w fun e w'=>e=.returned (.bool (isE ws len at'))∧Below w.heap.size w w':=by
 have c0:w.cell? ⟨k.h,0,none⟩=some (.slice a len cap):=hq.h.c 0 aO
 have lh:=hq.h.lt
 have HC:Hid _:=zAz a len cap at' ws w hw
 clear hq hw
 unfold isE
 generalize eD:yG ws len at'=D at *
 by_cases h0:D.e=0
 ·have g0:(D.e==0)=true:=by simp[h0]
  go_enter Tryz.func22,Tryz.ntmps22
  go_wp2_with (go_at_call 23;refine Calls.mono HC.out ?_;rintro e w1 ⟨rfl,hb1⟩;have HB1:Hid _:=hb1;clear hb1)
  go_ret
  refine⟨?_,HB1.out.alloc HB1.out.size _⟩
  rw[decide_eq_true h0,Bool.true_and]
  by_cases h1:D.x.op=1<;>simp[h1]
 ·have g0:(D.e==0)=false:=by simp[h0]
  go_enter Tryz.func22,Tryz.ntmps22
  go_wp2_with (go_at_call 23;refine Calls.mono HC.out ?_;rintro e w1 ⟨rfl,hb1⟩;have HB1:Hid _:=hb1;clear hb1)
  go_ret
  refine⟨?_,HB1.out.alloc HB1.out.size _⟩
  rw[decide_eq_false h0];rfl
theorem zIg:(Tryz.prog.info? 23).map (fun i=>(i.zero,i.size,i.bytes))=some (some (.int .u32 0),1,4):=by kernel_rfl
theorem zLN:(Tryz.prog.info? 4).map (fun i=>(i.zero,i.size,i.bytes))=some (some (.bool false),1,1):=by kernel_rfl
theorem zJv(z:Value)(n i:Nat)(h:i < n):(madeCells #[z] n)[i]?=some z:=by
 rw[← Array.getElem?_toList,toList_madeCells_one,List.getElem?_replicate,if_pos h]
theorem zCX(w:World)(z:Value)(n:Nat)(T:TypeId):BC n (w.alloc (.cells (madeCells #[z] n) T)) w.heap.size (fun _=>z):=
 ⟨fun o ho=>(zA (heap_alloc_last w _) o).trans (zJv z n o ho),fun o=>zD (heap_alloc_last w _) o,by simp⟩
theorem BC.al{n:Nat}{w:World}{R:Nat}{f:Nat→Value}(h:BC n w R f)(o:Obj):BC n (w.alloc o) R f:=h.chg (S:=[]) ((zI.refl _ _).alloc o) aS
theorem zMI(k k':QB)(ws tb mp:Value)(q q':HQ)(e1:q'.c=q.c)(e2:q'.at_=q.at_)(e3:q'.left=q.left)(e4:q'.done=q.done)(e5:q'.ran=q.ran)(e6:q'.stuck=q.stuck)(o:Nat)(ho:o < 24) :
  upd (upd (upd (upd (hqF k ws tb mp q) 18 (.slice (some ⟨k'.r,0,none⟩) 16 16)) 19 (.slice (some ⟨k'.g,0,none⟩) 16 16)) 20 (.slice (some ⟨k'.s,0,none⟩) 2048 2048)) 21 (.slice (some ⟨k'.d,0,none⟩) 2048 2048) o=hqF k' ws tb mp q' o:=by
 rcases(by omega:o=0∨o=1∨(2≤o∧o < 14)∨o=14∨o=15∨o=16∨o=17∨o=18∨o=19∨o=20∨o=21∨o=22∨o=23) with rfl|rfl|h|rfl|rfl|rfl|rfl|rfl|rfl|rfl|rfl|rfl|rfl
 ·rfl
 ·simp[upd,hqF,e2]
 ·unfold upd hqF
  simp only[show ¬o=0 by omega,show ¬o=1 by omega,show ¬o=18 by omega,show ¬o=19 by omega,show ¬o=20 by omega,show ¬o=21 by omega,h.2,if_true,if_false,e1]
 all_goals simp[upd,hqF,e3,e4,e5,e6]
theorem zKa{f g:Nat→Value}(hf:∀ o,o < 18∨21 < o→f o=g o){a b c d:Value}(o:Nat):upd (upd (upd (upd f 18 a) 19 b) 20 c) 21 d o=upd (upd (upd (upd g 18 a) 19 b) 20 c) 21 d o:=by
 unfold upd
 by_cases h:o < 18∨21 < o
 ·rw[hf o h]
 ·rcases(by omega:o=18∨o=19∨o=20∨o=21) with rfl|rfl|rfl|rfl<;>rfl
theorem zEY(k:QB)(ws tb mp:Value)(q:HQ)(f:Nat→Value)(w:World)(hq:BC 24 w k.h f)(hf:∀ o,o < 18∨21 < o→f o=hqF k ws tb mp q o) :
  Calls Tryz.prog 21 #[.pointer (some ⟨k.h,0,none⟩)] w fun e w'=>e=.returned (.tuple #[])∧QW w' ⟨k.h,w.heap.size,w.heap.size+1,w.heap.size+1+1,w.heap.size+1+1+1⟩ ws tb mp { q with reg:=fun _=>0,has:=fun _=>false,sp:=fun _=>0,held:=fun _=>false }∧zI [k.h] w w':=by
 have m1:∀ w:World,(Instr.makeSlice 22 (.int .i64 16) (.int .i64 16)).run Tryz.prog w=.ok (.slice (some ⟨w.heap.size,0,none⟩) 16 16) (w.alloc (.cells (madeCells #[.int .u32 0] 16) 23)):=fun w=>run_make_row' (P:=Tryz.prog) 22 23 (.int .u32 0) 4 Tryz.underlying22 zIg rfl .i64 .i64 16 aD aD w
 have m2:∀ w:World,(Instr.makeSlice 64 (.int .i64 16) (.int .i64 16)).run Tryz.prog w=.ok (.slice (some ⟨w.heap.size,0,none⟩) 16 16) (w.alloc (.cells (madeCells #[.bool false] 16) 4)):=fun w=>run_make_row' (P:=Tryz.prog) 64 4 (.bool false) 1 Tryz.underlying64 zLN rfl .i64 .i64 16 aD aD w
 have m3:∀ w:World,(Instr.makeSlice 22 (.int .i64 2048) (.int .i64 2048)).run Tryz.prog w=.ok (.slice (some ⟨w.heap.size,0,none⟩) 2048 2048) (w.alloc (.cells (madeCells #[.int .u32 0] 2048) 23)):=fun w=>run_make_row' (P:=Tryz.prog) 22 23 (.int .u32 0) 4 Tryz.underlying22 zIg rfl .i64 .i64 2048 aD aD w
 have m4:∀ w:World,(Instr.makeSlice 64 (.int .i64 2048) (.int .i64 2048)).run Tryz.prog w=.ok (.slice (some ⟨w.heap.size,0,none⟩) 2048 2048) (w.alloc (.cells (madeCells #[.bool false] 2048) 4)):=fun w=>run_make_row' (P:=Tryz.prog) 64 4 (.bool false) 1 Tryz.underlying64 zLN rfl .i64 .i64 2048 aD aD w
 have lh:=hq.lt
 have c18:w.cell? ⟨k.h,18,none⟩=some (f 18):=hq.c 18 aO
 have c19:w.cell? ⟨k.h,19,none⟩=some (f 19):=hq.c 19 aO
 have c20:w.cell? ⟨k.h,20,none⟩=some (f 20):=hq.c 20 aO
 have c21:w.cell? ⟨k.h,21,none⟩=some (f 21):=hq.c 21 aO
 have f18:=hq.fz 18
 have f19:=hq.fz 19
 have f20:=hq.fz 20
 have f21:=hq.fz 21
 have n0:¬k.h=w.heap.size:=aO
 have l1:k.h < w.heap.size+1:=aO
 have l2:k.h < w.heap.size+1+1:=aO
 have l3:k.h < w.heap.size+1+1+1:=aO
 have l4:k.h < w.heap.size+1+1+1+1:=aO
 have HQ':Hid _:=hq
 clear hq
 go_enter Tryz.func21,Tryz.ntmps21
 go_wp2
 go_end0
 refine⟨rfl,⟨?_,?_,?_,?_,?_,?_,?_,?_,?_,?_,?_,?_,?_,?_,?_⟩,?_⟩
 ·have hB:=((((HQ'.out.set 18 aO (.slice (some ⟨w.heap.size,0,none⟩) 16 16)).set 19 aO (.slice (some ⟨w.heap.size+1,0,none⟩) 16 16)).set 20 aO (.slice (some ⟨w.heap.size+1+1,0,none⟩) 2048 2048)).set 21 aO (.slice (some ⟨w.heap.size+1+1+1,0,none⟩) 2048 2048)).congr (fun o ho=>(zKa hf o).trans (zMI k ⟨k.h,w.heap.size,w.heap.size+1,w.heap.size+1+1,w.heap.size+1+1+1⟩ ws tb mp q { q with reg:=fun _=>0,has:=fun _=>false,sp:=fun _=>0,held:=fun _=>false } rfl rfl rfl rfl rfl rfl o ho))
  exact(((hB.al _).al _).al _).al _
 ·have hB:=zCX ((((w.setCell ⟨k.h,18,none⟩ (.slice (some ⟨w.heap.size,0,none⟩) 16 16)).setCell ⟨k.h,19,none⟩ (.slice (some ⟨w.heap.size+1,0,none⟩) 16 16)).setCell ⟨k.h,20,none⟩ (.slice (some ⟨w.heap.size+1+1,0,none⟩) 2048 2048)).setCell ⟨k.h,21,none⟩ (.slice (some ⟨w.heap.size+1+1+1,0,none⟩) 2048 2048)) (.int .u32 0) 16 23
  simp only[World.size_setCell] at hB
  exact((hB.al _).al _).al _
 ·have hB:=zCX (((((w.setCell ⟨k.h,18,none⟩ (.slice (some ⟨w.heap.size,0,none⟩) 16 16)).setCell ⟨k.h,19,none⟩ (.slice (some ⟨w.heap.size+1,0,none⟩) 16 16)).setCell ⟨k.h,20,none⟩ (.slice (some ⟨w.heap.size+1+1,0,none⟩) 2048 2048)).setCell ⟨k.h,21,none⟩ (.slice (some ⟨w.heap.size+1+1+1,0,none⟩) 2048 2048)).alloc (.cells (madeCells #[.int .u32 0] 16) 23)) (.bool false) 16 4
  simp only[World.size_setCell,World.size_alloc] at hB
  exact(hB.al _).al _
 ·have hB:=zCX ((((((w.setCell ⟨k.h,18,none⟩ (.slice (some ⟨w.heap.size,0,none⟩) 16 16)).setCell ⟨k.h,19,none⟩ (.slice (some ⟨w.heap.size+1,0,none⟩) 16 16)).setCell ⟨k.h,20,none⟩ (.slice (some ⟨w.heap.size+1+1,0,none⟩) 2048 2048)).setCell ⟨k.h,21,none⟩ (.slice (some ⟨w.heap.size+1+1+1,0,none⟩) 2048 2048)).alloc (.cells (madeCells #[.int .u32 0] 16) 23)).alloc (.cells (madeCells #[.bool false] 16) 4)) (.int .u32 0) 2048 23
  simp only[World.size_setCell,World.size_alloc] at hB
  exact hB.al _
 ·have hB:=zCX (((((((w.setCell ⟨k.h,18,none⟩ (.slice (some ⟨w.heap.size,0,none⟩) 16 16)).setCell ⟨k.h,19,none⟩ (.slice (some ⟨w.heap.size+1,0,none⟩) 16 16)).setCell ⟨k.h,20,none⟩ (.slice (some ⟨w.heap.size+1+1,0,none⟩) 2048 2048)).setCell ⟨k.h,21,none⟩ (.slice (some ⟨w.heap.size+1+1+1,0,none⟩) 2048 2048)).alloc (.cells (madeCells #[.int .u32 0] 16) 23)).alloc (.cells (madeCells #[.bool false] 16) 4)).alloc (.cells (madeCells #[.int .u32 0] 2048) 23)) (.bool false) 2048 4
  simp only[World.size_setCell,World.size_alloc] at hB
  exact hB
 all_goals first|(dsimp only;omega)|exact((((((((zI.refl [k.h] w).set aS _ _).set aS _ _).set aS _ _).set aS _ _).alloc _).alloc _).alloc _).alloc _
theorem zHm(k:QB)(ws tb mp:Value)(q:HQ)(w:World)(hq:BC 24 w k.h (hqF k ws tb mp q)) :
  Calls Tryz.prog 21 #[.pointer (some ⟨k.h,0,none⟩)] w fun e w'=>e=.returned (.tuple #[])∧QW w' ⟨k.h,w.heap.size,w.heap.size+1,w.heap.size+1+1,w.heap.size+1+1+1⟩ ws tb mp { q with reg:=fun _=>0,has:=fun _=>false,sp:=fun _=>0,held:=fun _=>false }∧zI [k.h] w w':=zEY k ws tb mp q _ w hq (fun _ _=>rfl)
end Go.Proofs.YthcpipfmicbnmaaGreat.Ho
