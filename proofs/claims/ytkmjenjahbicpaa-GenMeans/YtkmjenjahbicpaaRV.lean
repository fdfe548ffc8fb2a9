import Derived.Test.YtkmjenjahbicpaaRU
set_option linter.unusedVariables false
set_option linter.unusedSimpArgs false
set_option maxHeartbeats 2000000
namespace Go.Proofs.Ytkmjenjahbicpaa.Ho
open Go.RowKit
set_option maxRecDepth 100000
abbrev lfC(kd sk:Int)(ar pc:Nat)(n a:Int):Array Value:=#[.int .i64 kd,.int .i64 sk,.int .u32 ar,.int .u32 pc,.int .i64 n,.int .i64 a]
structure zOH(op:Int):Prop where
 a1:(op==1)=false
 a10:(op==10)=false
 a11:(op==11)=false
 a14:(op==14)=false
 a12:(op==12)=false
 a13:(op==13)=false
 a4:(op==4)=false
 a15:(op==15)=false
 a96:(op==96)=false
 l:op < 80∨90 < op
theorem zFA(w:World)(X Y Z:Obj):(((w.alloc X).alloc Y).alloc Z).drew.heap[w.heap.size+1]?=some Y:=by
 show(((w.heap.push X).push Y).push Z)[w.heap.size+1]?=some Y
 rw[Array.getElem?_push,if_neg aS,Array.getElem?_push,if_pos aS]
theorem QW.oth{w:World}{k:QB}{ws tb mp:Value}{q:HQ}(h:QW w k ws tb mp q){B:Nat}(hB:B∉k.own)(o:Nat)(v:Value):QW (w.setCell ⟨B,o,none⟩ v) k ws tb mp q:=
 h.chg (S:=[B]) ((zJ.refl _ _).set aC _ _) (fun x hx e=>by rw[List.mem_singleton] at e;exact hB (e▸hx))
theorem zJ.setNew{S:List Nat}{a b:World}(h:zJ S a b){B:Nat}(hB:a.heap.size≤B)(o:Nat)(v:Value):zJ S a (b.setCell ⟨B,o,none⟩ v):=by
 have h1:zJ [B] b (b.setCell ⟨B,o,none⟩ v):=(zJ.refl _ _).set aC _ _
 exact⟨h1.os.trans h.os,h1.tape.trans h.tape,h1.output.trans h.output,Nat.le_trans h.size h1.size,fun i hi hs=>(h1.block i (Nat.lt_of_lt_of_le hi h.size) zq19).trans (h.block i hi hs)⟩
theorem zA4(k:QB)(ws tb mp:Value)(q q':HQ)(op d a b c n:Int)(kk xx:Nat)(w:World)(hq:QW w k ws tb mp q)(ho:zOH op)(hn0:0≤q.done+n)(hn1:q.done+n≤9223372036854775807)
  (hi:∀ W,QW W k ws tb mp q→Calls Try.prog 66 #[.pointer (some ⟨k.h,0,none⟩),.agg (cdC op d a b c n kk xx)] W fun e w'=>e=.returned (.tuple #[])∧QW w' k ws tb mp q'∧zJ k.own W w') :
  Calls Try.prog 35 #[.pointer (some ⟨k.h,0,none⟩),.agg (cdC op d a b c n kk xx)] w fun e w'=>e=.returned (.agg (lfC 0 0 0 0 0 0))∧QW w' k ws tb mp q'∧zJ k.own w w':=by
 have lh:=hq.h.lt
 have c16:w.cell? ⟨k.h,16,none⟩=some (.int .i64 q.done):=hq.h.c 16 aO
 obtain⟨a1,a10,a11,a14,a12,a13,a4,a15,a96,l⟩:=ho
 have HI:Hid _:=hi
 have HQ':Hid _:=hq
 have l1:k.h < w.heap.size+1:=aO
 have l2:k.h < w.heap.size+1+1:=aO
 have l3:k.h < w.heap.size+1+1+1:=aO
 clear hq hi
 have nS:∀ S∈k.own,S < w.heap.size:=by
  intro S hS
  simp only[QB.own,List.mem_cons,List.not_mem_nil,or_false] at hS
  rcases hS with rfl|rfl|rfl|rfl|rfl
  ·exact HQ'.out.h.lt
  ·exact HQ'.out.r.lt
  ·exact HQ'.out.g.lt
  ·exact HQ'.out.s.lt
  ·exact HQ'.out.d.lt
 have n4:w.heap.size+1∉k.own:=fun e=>by have:=nS _ e;omega
 clear nS
 have N4:Hid _:=n4
 clear n4
 rcases l with l|l
 all_goals go_enter Try.func35,Try.ntmps35
 all_goals go_upto_region 1 with fail
 all_goals go_region
 all_goals go_wp2_with (go_at_call 66;refine Calls.mono (HI.out _ ?_) ?_;(exact zq4);rintro e w1 ⟨rfl,hq1,hc1⟩;have b4:w1.heap[w.heap.size+1]?=some (.cells (lfC 0 0 0 0 0 0) 48):=hc1.keep (zFA w _ _ _) N4.out;have lb4:=zE b4;have z0:=zA b4 0;have z1:=zA b4 1;have z2:=zA b4 2;have z3:=zA b4 3;have z4:=zA b4 4;have z5:=zA b4 5;have y0:=zD b4 0;have y1:=zD b4 1;have y2:=zD b4 2;have y3:=zD b4 3;have y4:=zD b4 4;have y5:=zD b4 5;have HQ1:Hid _:=hq1;have HC1:Hid _:=hc1;clear hq1 hc1)
 all_goals(have hc:zJ k.own w w1:=zJ.trans zq3 HC1.out;exact bodyPost_ret (v:=.agg (lfC 0 0 0 0 0 0)) (by simp[results,Try.results35,go_sem,z0,z1,z2,z3,z4,z5]) rfl ⟨rfl,(by focus(repeat first|with_reducible exact HQ1.out|with_reducible refine QW.oth ?_ N4.out _ _|with_reducible refine QW.al ?_ _|with_reducible refine QW.dr ?_|with_reducible refine QW.drN ?_ _)),zq41⟩)
end Go.Proofs.Ytkmjenjahbicpaa.Ho
