import Derived.Test.YthcpipfmicbnmaaGreatQV
set_option linter.unusedVariables false
set_option linter.unusedSimpArgs false
set_option maxHeartbeats 2000000
namespace Go.Proofs.YthcpipfmicbnmaaGreat.Ho
open Go.RowKit
set_option maxRecDepth 100000
theorem zFP(k:QB)(ws tb mp:Value)(q:HQ)(d a b c n:Int)(kk xx:Nat)(w:World)(hq:QW w k ws tb mp q)(hn0:0≤q.done+n)(hn1:q.done+n≤9223372036854775807)(ht:∀ W,zI [] w W→Calls Tryz.prog 10 #[mp] W fun e w'=>e=.returned (.bool true)∧W=w') :
  Calls Tryz.prog 24 #[.pointer (some ⟨k.h,0,none⟩),.agg (yJ 10 d a b c n kk xx)] w fun e w'=>e=.returned (.agg (uX 1 0 0 kk (q.done+n) 0))∧QW w' k ws tb mp q∧zI k.own w w':=by
 have lh:=hq.h.lt
 have c16:w.cell? ⟨k.h,16,none⟩=some (.int .i64 q.done):=hq.h.c 16 aO
 have c15:w.cell? ⟨k.h,15,none⟩=some (.int .i64 q.left):=hq.h.c 15 aO
 have c22:w.cell? ⟨k.h,22,none⟩=some (.int .i64 q.ran):=hq.h.c 22 aO
 have c14:w.cell? ⟨k.h,14,none⟩=some mp:=hq.h.c 14 aO
 have l1:k.h < w.heap.size+1:=aO
 have l2:k.h < w.heap.size+1+1:=aO
 have l3:k.h < w.heap.size+1+1+1:=aO
 have HT:Hid _:=ht
 have HQ':Hid _:=hq
 clear hq ht
 go_enter Tryz.func24,Tryz.ntmps24
 go_upto_region 1 with fail
 go_region
 all_goals go_wp2_with (go_at_call 10;refine Calls.mono (HT.out _ ?_) ?_;(exact zq4);rintro e w1 ⟨rfl,rfl⟩)
 all_goals exact bodyPost_ret (v:=.agg (uX 1 0 0 kk (q.done+n) 0)) zq62 rfl ⟨rfl,zq3,zq4⟩
theorem zFO(k:QB)(ws tb mp:Value)(q:HQ)(d a b c n:Int)(kk xx:Nat)(w:World)(hq:QW w k ws tb mp q)(hn0:0≤q.done+n)(hn1:q.done+n≤9223372036854775807)(ht:∀ W,zI [] w W→Calls Tryz.prog 10 #[mp] W fun e w'=>e=.returned (.bool false)∧W=w') :
  Calls Tryz.prog 24 #[.pointer (some ⟨k.h,0,none⟩),.agg (yJ 10 d a b c n kk xx)] w fun e w'=>e=.returned (.agg (uX 0 0 0 0 0 0))∧QW w' k ws tb mp q∧zI k.own w w':=by
 have lh:=hq.h.lt
 have c16:w.cell? ⟨k.h,16,none⟩=some (.int .i64 q.done):=hq.h.c 16 aO
 have c15:w.cell? ⟨k.h,15,none⟩=some (.int .i64 q.left):=hq.h.c 15 aO
 have c22:w.cell? ⟨k.h,22,none⟩=some (.int .i64 q.ran):=hq.h.c 22 aO
 have c14:w.cell? ⟨k.h,14,none⟩=some mp:=hq.h.c 14 aO
 have l1:k.h < w.heap.size+1:=aO
 have l2:k.h < w.heap.size+1+1:=aO
 have l3:k.h < w.heap.size+1+1+1:=aO
 have HT:Hid _:=ht
 have HQ':Hid _:=hq
 clear hq ht
 go_enter Tryz.func24,Tryz.ntmps24
 go_upto_region 1 with fail
 go_region
 all_goals go_wp2_with (go_at_call 10;refine Calls.mono (HT.out _ ?_) ?_;(exact zq4);rintro e w1 ⟨rfl,rfl⟩)
 all_goals exact bodyPost_ret (v:=.agg (uX 0 0 0 0 0 0)) zq62 rfl ⟨rfl,zq3,zq4⟩
theorem zKY(w:World)(X Y Z:Obj)(j:Nat):((((w.alloc X).alloc Y).alloc Z).drewN j).heap[w.heap.size+1]?=some Y:=zC7 w X Y Z
theorem zGy(k:QB)(ws tb mp:Value)(q:HQ)(d a b c n:Int)(kk xx:Nat)(w:World)(hq:QW w k ws tb mp q)(hn0:0≤q.done+n)(hn1:q.done+n≤9223372036854775807)(ht:∀ W,zI [] w W→Calls Tryz.prog 10 #[mp] W fun e w'=>e=.returned (.bool false)∧W=w')(hl0:0≤q.left - q.done)(hl1:q.left - q.done≤9223372036854775807)(hl:n≤q.left - q.done)(hr:q.ran < 1048576) :
  Calls Tryz.prog 24 #[.pointer (some ⟨k.h,0,none⟩),.agg (yJ 1 d a b c n kk xx)] w fun e w'=>e=.returned (.agg (uX 0 0 0 0 0 0))∧(∃ k',k'.h=k.h∧(∀ x∈k'.own,x=k.h∨w.heap.size≤x)∧QW w' k' ws tb mp { q with reg:=fun _=>0,has:=fun _=>false,sp:=fun _=>0,held:=fun _=>false })∧zI [k.h] w w':=by
 have lh:=hq.h.lt
 have c16:w.cell? ⟨k.h,16,none⟩=some (.int .i64 q.done):=hq.h.c 16 aO
 have c15:w.cell? ⟨k.h,15,none⟩=some (.int .i64 q.left):=hq.h.c 15 aO
 have c22:w.cell? ⟨k.h,22,none⟩=some (.int .i64 q.ran):=hq.h.c 22 aO
 have c14:w.cell? ⟨k.h,14,none⟩=some mp:=hq.h.c 14 aO
 have l1:k.h < w.heap.size+1:=aO
 have l2:k.h < w.heap.size+1+1:=aO
 have l3:k.h < w.heap.size+1+1+1:=aO
 have HT:Hid _:=ht
 have N4:Hid (w.heap.size+1∉[k.h]):=by show w.heap.size+1∉[k.h];simp;omega
 have HQ':Hid _:=hq
 clear hq ht
 go_enter Tryz.func24,Tryz.ntmps24
 go_upto_region 1 with fail
 go_region
 all_goals go_upto_region 9 with (go_at_call 10;refine Calls.mono (HT.out _ ?_) ?_;(exact zq4);rintro e w1 ⟨rfl,rfl⟩)
 all_goals go_quiet (fail)
 all_goals go_wp2_with (go_at_call 21;refine Calls.mono (zHm k ws tb mp q _ ?_) ?_;(focus(show BC 24 _ _ _;refine QW.h (?_:QW _ k ws tb mp q);focus(repeat first|with_reducible exact HQ'.out|with_reducible refine QW.al ?_ _|with_reducible refine QW.dr ?_|with_reducible refine QW.drN ?_ _)));rintro e w1 ⟨rfl,hq1,hc1⟩;have b4:w1.heap[w.heap.size+1]?=some (.cells (uX 0 0 0 0 0 0) 37):=hc1.keep (zKY w _ _ _ _) N4.out;have lb4:=zE b4;have z0:=zA b4 0;have z1:=zA b4 1;have z2:=zA b4 2;have z3:=zA b4 3;have z4:=zA b4 4;have z5:=zA b4 5;have y0:=zD b4 0;have y1:=zD b4 1;have y2:=zD b4 2;have y3:=zD b4 3;have y4:=zD b4 4;have y5:=zD b4 5;have HQ1:Hid _:=hq1;have HC1:Hid _:=hc1;clear hq1 hc1)
 all_goals(
  have hc:zI [k.h] w w1:=zI.trans zq4 HC1.out
  have HQ2:QW w1 ⟨k.h,w.heap.size+1+1+1,w.heap.size+1+1+1+1,w.heap.size+1+1+1+1+1,w.heap.size+1+1+1+1+1+1⟩ ws tb mp { q with reg:=fun _=>0,has:=fun _=>false,sp:=fun _=>0,held:=fun _=>false }:=by
   have h:=HQ1.out
   have e:∀ (X Y Z:Obj) (j:Nat),((((w.alloc X).alloc Y).alloc Z).drewN j).heap.size=w.heap.size+1+1+1:=fun X Y Z j=>by
    show(((w.heap.push X).push Y).push Z).size=_
    simp
   simp only[e] at h
   exact h
  have hn:w.heap.size+1∉(⟨k.h,w.heap.size+1+1+1,w.heap.size+1+1+1+1,w.heap.size+1+1+1+1+1,w.heap.size+1+1+1+1+1+1⟩:QB).own:=by
   intro e
   simp only[QB.own,List.mem_cons,List.not_mem_nil,or_false] at e
   omega
  exact bodyPost_ret (v:=.agg (uX 0 0 0 0 0 0)) (by simp[results,Tryz.results24,go_sem,z0,z1,z2,z3,z4,z5]) rfl ⟨rfl,⟨(⟨k.h,w.heap.size+1+1+1,w.heap.size+1+1+1+1,w.heap.size+1+1+1+1+1,w.heap.size+1+1+1+1+1+1⟩:QB),rfl,fun x hx=>by simp only[QB.own,List.mem_cons,List.not_mem_nil,or_false] at hx;omega,(by focus(repeat first|with_reducible exact HQ2|with_reducible refine QW.oth ?_ hn _ _|with_reducible refine QW.al ?_ _|with_reducible refine QW.dr ?_|with_reducible refine QW.drN ?_ _))⟩,zq61⟩)
theorem zBA{w:World}{k:QB}{ws tb mp:Value}{q:HQ}(h:QW w k ws tb mp q):∀ x∈k.own,x < w.heap.size:=by
 intro x hx
 simp only[QB.own,List.mem_cons,List.not_mem_nil,or_false] at hx
 rcases hx with rfl|rfl|rfl|rfl|rfl
 ·exact h.h.lt
 ·exact h.r.lt
 ·exact h.g.lt
 ·exact h.s.lt
 ·exact h.d.lt
theorem zFI(k:QB)(ws tb mp:Value)(q:HQ)(d a b c n:Int)(kk xx:Nat)(w:World)(hq:QW w k ws tb mp q)(hn0:0≤q.done+n)(hn1:q.done+n≤9223372036854775807)(ht:∀ W,zI [] w W→Calls Tryz.prog 10 #[mp] W fun e w'=>e=.returned (.bool true)∧W=w') :
  Calls Tryz.prog 24 #[.pointer (some ⟨k.h,0,none⟩),.agg (yJ 1 d a b c n kk xx)] w fun e w'=>e=.returned (.agg (uX 1 0 0 kk q.done 0))∧QW w' k ws tb mp q∧zI k.own w w':=by
 have lh:=hq.h.lt
 have c16:w.cell? ⟨k.h,16,none⟩=some (.int .i64 q.done):=hq.h.c 16 aO
 have c15:w.cell? ⟨k.h,15,none⟩=some (.int .i64 q.left):=hq.h.c 15 aO
 have c22:w.cell? ⟨k.h,22,none⟩=some (.int .i64 q.ran):=hq.h.c 22 aO
 have c14:w.cell? ⟨k.h,14,none⟩=some mp:=hq.h.c 14 aO
 have l1:k.h < w.heap.size+1:=aO
 have l2:k.h < w.heap.size+1+1:=aO
 have l3:k.h < w.heap.size+1+1+1:=aO
 have HT:Hid _:=ht
 have N1:Hid (w.heap.size+1∉k.own):=show w.heap.size+1∉k.own from fun e=>by have:=zBA hq _ e;omega
 have N2:Hid (w.heap.size+1+1∉k.own):=show w.heap.size+1+1∉k.own from fun e=>by have:=zBA hq _ e;omega
 have HQ':Hid _:=hq
 clear hq ht
 go_enter Tryz.func24,Tryz.ntmps24
 go_upto_region 1 with fail
 go_region
 all_goals go_wp2_with (go_at_call 10;refine Calls.mono (HT.out _ ?_) ?_;(exact zq4);rintro e w1 ⟨rfl,rfl⟩)
 all_goals exact bodyPost_ret (v:=.agg (uX 1 0 0 kk q.done 0)) zq62 rfl ⟨rfl,by(focus(repeat first|with_reducible exact HQ'.out|with_reducible refine QW.oth ?_ N1.out _ _|with_reducible refine QW.oth ?_ N2.out _ _|with_reducible refine QW.al ?_ _|with_reducible refine QW.dr ?_|with_reducible refine QW.drN ?_ _)),zq28⟩
theorem zFJ(k:QB)(ws tb mp:Value)(q:HQ)(d a b c n:Int)(kk xx:Nat)(w:World)(hq:QW w k ws tb mp q)(hn0:0≤q.done+n)(hn1:q.done+n≤9223372036854775807)(ht:∀ W,zI [] w W→Calls Tryz.prog 10 #[mp] W fun e w'=>e=.returned (.bool false)∧W=w')(hlw:IntKind.i64.wrap (q.left - q.done)=q.left - q.done)(hl:q.left - q.done < n) :
  Calls Tryz.prog 24 #[.pointer (some ⟨k.h,0,none⟩),.agg (yJ 1 d a b c n kk xx)] w fun e w'=>e=.returned (.agg (uX 4 0 0 kk q.done 0))∧QW w' k ws tb mp q∧zI k.own w w':=by
 have lh:=hq.h.lt
 have c16:w.cell? ⟨k.h,16,none⟩=some (.int .i64 q.done):=hq.h.c 16 aO
 have c15:w.cell? ⟨k.h,15,none⟩=some (.int .i64 q.left):=hq.h.c 15 aO
 have c22:w.cell? ⟨k.h,22,none⟩=some (.int .i64 q.ran):=hq.h.c 22 aO
 have c14:w.cell? ⟨k.h,14,none⟩=some mp:=hq.h.c 14 aO
 have l1:k.h < w.heap.size+1:=aO
 have l2:k.h < w.heap.size+1+1:=aO
 have l3:k.h < w.heap.size+1+1+1:=aO
 have HT:Hid _:=ht
 have N1:Hid (w.heap.size+1∉k.own):=show w.heap.size+1∉k.own from fun e=>by have:=zBA hq _ e;omega
 have N2:Hid (w.heap.size+1+1∉k.own):=show w.heap.size+1+1∉k.own from fun e=>by have:=zBA hq _ e;omega
 have HQ':Hid _:=hq
 clear hq ht
 go_enter Tryz.func24,Tryz.ntmps24
 go_upto_region 1 with fail
 go_region
 all_goals go_upto_region 9 with (go_at_call 10;refine Calls.mono (HT.out _ ?_) ?_;(exact zq4);rintro e w1 ⟨rfl,rfl⟩)
 all_goals go_quiet (fail)
 all_goals go_wp2
 all_goals exact bodyPost_ret (v:=.agg (uX 4 0 0 kk q.done 0)) zq62 rfl ⟨rfl,by(focus(repeat first|with_reducible exact HQ'.out|with_reducible refine QW.oth ?_ N1.out _ _|with_reducible refine QW.oth ?_ N2.out _ _|with_reducible refine QW.al ?_ _|with_reducible refine QW.dr ?_|with_reducible refine QW.drN ?_ _)),zq28⟩
theorem zFK(k:QB)(ws tb mp:Value)(q:HQ)(d a b c n:Int)(kk xx:Nat)(w:World)(hq:QW w k ws tb mp q)(hn0:0≤q.done+n)(hn1:q.done+n≤9223372036854775807)(ht:∀ W,zI [] w W→Calls Tryz.prog 10 #[mp] W fun e w'=>e=.returned (.bool false)∧W=w')(hlw:IntKind.i64.wrap (q.left - q.done)=q.left - q.done)(hl:n≤q.left - q.done)(hr:1048576≤q.ran) :
  Calls Tryz.prog 24 #[.pointer (some ⟨k.h,0,none⟩),.agg (yJ 1 d a b c n kk xx)] w fun e w'=>e=.returned (.agg (uX 6 0 0 kk q.done 0))∧QW w' k ws tb mp q∧zI k.own w w':=by
 have lh:=hq.h.lt
 have c16:w.cell? ⟨k.h,16,none⟩=some (.int .i64 q.done):=hq.h.c 16 aO
 have c15:w.cell? ⟨k.h,15,none⟩=some (.int .i64 q.left):=hq.h.c 15 aO
 have c22:w.cell? ⟨k.h,22,none⟩=some (.int .i64 q.ran):=hq.h.c 22 aO
 have c14:w.cell? ⟨k.h,14,none⟩=some mp:=hq.h.c 14 aO
 have l1:k.h < w.heap.size+1:=aO
 have l2:k.h < w.heap.size+1+1:=aO
 have l3:k.h < w.heap.size+1+1+1:=aO
 have HT:Hid _:=ht
 have N1:Hid (w.heap.size+1∉k.own):=show w.heap.size+1∉k.own from fun e=>by have:=zBA hq _ e;omega
 have N2:Hid (w.heap.size+1+1∉k.own):=show w.heap.size+1+1∉k.own from fun e=>by have:=zBA hq _ e;omega
 have HQ':Hid _:=hq
 clear hq ht
 go_enter Tryz.func24,Tryz.ntmps24
 go_upto_region 1 with fail
 go_region
 all_goals go_upto_region 9 with (go_at_call 10;refine Calls.mono (HT.out _ ?_) ?_;(exact zq4);rintro e w1 ⟨rfl,rfl⟩)
 all_goals go_quiet (fail)
 all_goals go_wp2
 all_goals exact bodyPost_ret (v:=.agg (uX 6 0 0 kk q.done 0)) zq62 rfl ⟨rfl,by(focus(repeat first|with_reducible exact HQ'.out|with_reducible refine QW.oth ?_ N1.out _ _|with_reducible refine QW.oth ?_ N2.out _ _|with_reducible refine QW.al ?_ _|with_reducible refine QW.dr ?_|with_reducible refine QW.drN ?_ _)),zq28⟩
end Go.Proofs.YthcpipfmicbnmaaGreat.Ho
