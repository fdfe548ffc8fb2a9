import Derived.Test.YthcpipfmicbnmaaGreatQU
set_option linter.unusedVariables false
set_option linter.unusedSimpArgs false
set_option maxHeartbeats 2000000
namespace Go.Proofs.YthcpipfmicbnmaaGreat.Ho
open Go.RowKit
set_option maxRecDepth 100000
abbrev uX(kd sk:Int)(ar pc:Nat)(n a:Int):Array Value:=#[.int .i64 kd,.int .i64 sk,.int .u32 ar,.int .u32 pc,.int .i64 n,.int .i64 a]
structure zLL(op:Int):Prop where
 a1:(op==1)=false
 a10:(op==10)=false
 a11:(op==11)=false
 a14:(op==14)=false
 a12:(op==12)=false
 a13:(op==13)=false
 a4:(op==4)=false
 a15:(op==15)=false
 a96:(op==96)=false
 l:op < 80∨90 < op
theorem zC7(w:World)(X Y Z:Obj):(((w.alloc X).alloc Y).alloc Z).drew.heap[w.heap.size+1]?=some Y:=by
 show(((w.heap.push X).push Y).push Z)[w.heap.size+1]?=some Y
 rw[Array.getElem?_push,if_neg aS,Array.getElem?_push,if_pos aS]
theorem QW.oth{w:World}{k:QB}{ws tb mp:Value}{q:HQ}(h:QW w k ws tb mp q){B:Nat}(hB:B∉k.own)(o:Nat)(v:Value):QW (w.setCell ⟨B,o,none⟩ v) k ws tb mp q:=
 h.chg (S:=[B]) ((zI.refl _ _).set aC _ _) (fun x hx e=>by rw[List.mem_singleton] at e;exact hB (e▸hx))
theorem zI.setNew{S:List Nat}{a b:World}(h:zI S a b){B:Nat}(hB:a.heap.size≤B)(o:Nat)(v:Value):zI S a (b.setCell ⟨B,o,none⟩ v):=by
 have h1:zI [B] b (b.setCell ⟨B,o,none⟩ v):=(zI.refl _ _).set aC _ _
 exact⟨h1.os.trans h.os,h1.tape.trans h.tape,h1.output.trans h.output,Nat.le_trans h.size h1.size,fun i hi hs=>(h1.block i (Nat.lt_of_lt_of_le hi h.size) zq7).trans (h.block i hi hs)⟩
theorem uE(k:QB)(ws tb mp:Value)(q q':HQ)(op d a b c n:Int)(kk xx:Nat)(w:World)(hq:QW w k ws tb mp q)(ho:zLL op)(hn0:0≤q.done+n)(hn1:q.done+n≤9223372036854775807)
  (hi:∀ W,QW W k ws tb mp q→Calls Tryz.prog 40 #[.pointer (some ⟨k.h,0,none⟩),.agg (yJ op d a b c n kk xx)] W fun e w'=>e=.returned (.tuple #[])∧QW w' k ws tb mp q'∧zI k.own W w') :
  Calls Tryz.prog 24 #[.pointer (some ⟨k.h,0,none⟩),.agg (yJ op d a b c n kk xx)] w fun e w'=>e=.returned (.agg (uX 0 0 0 0 0 0))∧QW w' k ws tb mp q'∧zI k.own w w':=by
 have lh:=hq.h.lt
 have c16:w.cell? ⟨k.h,16,none⟩=some (.int .i64 q.done):=hq.h.c 16 aO
 obtain⟨a1,a10,a11,a14,a12,a13,a4,a15,a96,l⟩:=ho
 have HI:Hid _:=hi
 have HQ':Hid _:=hq
 have l1:k.h < w.heap.size+1:=aO
 have l2:k.h < w.heap.size+1+1:=aO
 have l3:k.h < w.heap.size+1+1+1:=aO
 clear hq hi
 have nS:∀ S∈k.own,S < w.heap.size:=by
  intro S hS
  simp only[QB.own,List.mem_cons,List.not_mem_nil,or_false] at hS
  rcases hS with rfl|rfl|rfl|rfl|rfl
  ·exact HQ'.out.h.lt
  ·exact HQ'.out.r.lt
  ·exact HQ'.out.g.lt
  ·exact HQ'.out.s.lt
  ·exact HQ'.out.d.lt
 have n4:w.heap.size+1∉k.own:=fun e=>by have:=nS _ e;omega
 clear nS
 have N4:Hid _:=n4
 clear n4
 rcases l with l|l
 all_goals go_enter Tryz.func24,Tryz.ntmps24
 all_goals go_upto_region 1 with fail
 all_goals go_region
 all_goals go_wp2_with (go_at_call 40;refine Calls.mono (HI.out _ ?_) ?_;(exact zq3);rintro e w1 ⟨rfl,hq1,hc1⟩;have b4:w1.heap[w.heap.size+1]?=some (.cells (uX 0 0 0 0 0 0) 37):=hc1.keep (zC7 w _ _ _) N4.out;have lb4:=zE b4;have z0:=zA b4 0;have z1:=zA b4 1;have z2:=zA b4 2;have z3:=zA b4 3;have z4:=zA b4 4;have z5:=zA b4 5;have y0:=zD b4 0;have y1:=zD b4 1;have y2:=zD b4 2;have y3:=zD b4 3;have y4:=zD b4 4;have y5:=zD b4 5;have HQ1:Hid _:=hq1;have HC1:Hid _:=hc1;clear hq1 hc1)
 all_goals(have hc:zI k.own w w1:=zI.trans zq4 HC1.out;exact bodyPost_ret (v:=.agg (uX 0 0 0 0 0 0)) (by simp[results,Tryz.results24,go_sem,z0,z1,z2,z3,z4,z5]) rfl ⟨rfl,(by focus(repeat first|with_reducible exact HQ1.out|with_reducible refine QW.oth ?_ N4.out _ _|with_reducible refine QW.al ?_ _|with_reducible refine QW.dr ?_|with_reducible refine QW.drN ?_ _)),zq61⟩)
theorem zGz(k:QB)(ws tb mp:Value)(q:HQ)(d n b c:Int)(a kk xx:Nat)(w:World)(hq:QW w k ws tb mp q)(hn0:0≤q.done+n)(hn1:q.done+n≤9223372036854775807) :
  Calls Tryz.prog 24 #[.pointer (some ⟨k.h,0,none⟩),.agg (yJ 14 d a b c n kk xx)] w fun e w'=>e=.returned (.agg (uX 1 0 0 kk (q.done+n) 0))∧QW w' k ws tb mp q∧zI k.own w w':=by
 have lh:=hq.h.lt
 have c16:w.cell? ⟨k.h,16,none⟩=some (.int .i64 q.done):=hq.h.c 16 aO
 have c17:w.cell? ⟨k.h,17,none⟩=some (tb):=hq.h.c 17 aO
 have c14:w.cell? ⟨k.h,14,none⟩=some mp:=hq.h.c 14 aO
 have HQ':Hid _:=hq
 have l1:k.h < w.heap.size+1:=aO
 have l2:k.h < w.heap.size+1+1:=aO
 have l3:k.h < w.heap.size+1+1+1:=aO
 clear hq
 go_enter Tryz.func24,Tryz.ntmps24
 go_upto_region 1 with fail
 go_region
 all_goals go_wp2_with (fail)
 all_goals exact bodyPost_ret (v:=.agg (uX 1 0 0 kk (q.done+n) 0)) zq62 rfl ⟨rfl,zq3,zq4⟩
theorem zH7(k:QB)(ws tb mp:Value)(q:HQ)(d n b c:Int)(a kk xx:Nat)(w:World)(hq:QW w k ws tb mp q)(hn0:0≤q.done+n)(hn1:q.done+n≤9223372036854775807) :
  Calls Tryz.prog 24 #[.pointer (some ⟨k.h,0,none⟩),.agg (yJ 12 d a b c n kk xx)] w fun e w'=>e=.returned (.agg (uX 3 d xx kk (q.done+n) 0))∧QW w' k ws tb mp q∧zI k.own w w':=by
 have lh:=hq.h.lt
 have c16:w.cell? ⟨k.h,16,none⟩=some (.int .i64 q.done):=hq.h.c 16 aO
 have c17:w.cell? ⟨k.h,17,none⟩=some (tb):=hq.h.c 17 aO
 have c14:w.cell? ⟨k.h,14,none⟩=some mp:=hq.h.c 14 aO
 have HQ':Hid _:=hq
 have l1:k.h < w.heap.size+1:=aO
 have l2:k.h < w.heap.size+1+1:=aO
 have l3:k.h < w.heap.size+1+1+1:=aO
 clear hq
 go_enter Tryz.func24,Tryz.ntmps24
 go_upto_region 1 with fail
 go_region
 all_goals go_wp2_with (fail)
 all_goals exact bodyPost_ret (v:=.agg (uX 3 d xx kk (q.done+n) 0)) zq62 rfl ⟨rfl,zq3,zq4⟩
end Go.Proofs.YthcpipfmicbnmaaGreat.Ho
