import Derived.Test.YtkmjenjahbicpaaRV
set_option linter.unusedVariables false
set_option linter.unusedSimpArgs false
set_option maxHeartbeats 2000000
namespace Go.Proofs.Ytkmjenjahbicpaa.Ho
open Go.RowKit
set_option maxRecDepth 100000
theorem zHR(k:QB)(ws tb mp:Value)(q:HQ)(d n b c:Int)(a kk xx:Nat)(w:World)(hq:QW w k ws tb mp q)(hn0:0≤q.done+n)(hn1:q.done+n≤9223372036854775807) :
  Calls Try.prog 35 #[.pointer (some ⟨k.h,0,none⟩),.agg (cdC 14 d a b c n kk xx)] w fun e w'=>e=.returned (.agg (lfC 1 0 0 kk (q.done+n) 0))∧QW w' k ws tb mp q∧zJ k.own w w':=by
 have lh:=hq.h.lt
 have c16:w.cell? ⟨k.h,16,none⟩=some (.int .i64 q.done):=hq.h.c 16 aO
 have c17:w.cell? ⟨k.h,17,none⟩=some (tb):=hq.h.c 17 aO
 have c14:w.cell? ⟨k.h,14,none⟩=some mp:=hq.h.c 14 aO
 have HQ':Hid _:=hq
 have l1:k.h < w.heap.size+1:=aO
 have l2:k.h < w.heap.size+1+1:=aO
 have l3:k.h < w.heap.size+1+1+1:=aO
 clear hq
 go_enter Try.func35,Try.ntmps35
 go_upto_region 1 with fail
 go_region
 all_goals go_wp2_with (fail)
 all_goals exact bodyPost_ret (v:=.agg (lfC 1 0 0 kk (q.done+n) 0)) zq33 rfl ⟨rfl,zq4,zq3⟩
theorem zMC(k:QB)(ws tb mp:Value)(q:HQ)(d n b c:Int)(a kk xx:Nat)(w:World)(hq:QW w k ws tb mp q)(hn0:0≤q.done+n)(hn1:q.done+n≤9223372036854775807)(ha:a < 16)(hh:q.has a=true)(hv:(q.reg a==0)=false) :
  Calls Try.prog 35 #[.pointer (some ⟨k.h,0,none⟩),.agg (cdC 11 d a b c n kk xx)] w fun e w'=>e=.returned (.agg (lfC 1 0 0 kk (q.done+n) 0))∧QW w' k ws tb mp q∧zJ k.own w w':=by
 have lh:=hq.h.lt
 have c16:w.cell? ⟨k.h,16,none⟩=some (.int .i64 q.done):=hq.h.c 16 aO
 have c17:w.cell? ⟨k.h,17,none⟩=some (tb):=hq.h.c 17 aO
 have c14:w.cell? ⟨k.h,14,none⟩=some mp:=hq.h.c 14 aO
 have HA:Hid _:=ha
 have HH:Hid _:=hh
 have hv2:(((q.reg a:Nat):Int)==0)=false:=by
   have:q.reg a≠0:=by simpa using hv
   simpa using this
 have HQ':Hid _:=hq
 have l1:k.h < w.heap.size+1:=aO
 have l2:k.h < w.heap.size+1+1:=aO
 have l3:k.h < w.heap.size+1+1+1:=aO
 clear hq ha hh
 go_enter Try.func35,Try.ntmps35
 go_upto_region 1 with fail
 go_region
 all_goals go_wp2_with (go_at_call 64;refine Calls.mono (vM k ws tb mp q a _ ?_ HA.out HH.out) ?_;(exact zq4);rintro e w1 ⟨rfl,rfl⟩)
 all_goals exact bodyPost_ret (v:=.agg (lfC 1 0 0 kk (q.done+n) 0)) zq33 rfl ⟨rfl,zq4,zq3⟩
theorem zMB(k:QB)(ws tb mp:Value)(q:HQ)(d n b c:Int)(a kk xx:Nat)(w:World)(hq:QW w k ws tb mp q)(hn0:0≤q.done+n)(hn1:q.done+n≤9223372036854775807)(ha:a < 16)(hh:q.has a=true)(hv:q.reg a=0) :
  Calls Try.prog 35 #[.pointer (some ⟨k.h,0,none⟩),.agg (cdC 11 d a b c n kk xx)] w fun e w'=>e=.returned (.agg (lfC 0 0 0 0 0 0))∧QW w' k ws tb mp q∧zJ k.own w w':=by
 have lh:=hq.h.lt
 have c16:w.cell? ⟨k.h,16,none⟩=some (.int .i64 q.done):=hq.h.c 16 aO
 have c17:w.cell? ⟨k.h,17,none⟩=some (tb):=hq.h.c 17 aO
 have c14:w.cell? ⟨k.h,14,none⟩=some mp:=hq.h.c 14 aO
 have HA:Hid _:=ha
 have HH:Hid _:=hh
 have hv2:(((q.reg a:Nat):Int)==0)=true:=by simp[hv]
 have HQ':Hid _:=hq
 have l1:k.h < w.heap.size+1:=aO
 have l2:k.h < w.heap.size+1+1:=aO
 have l3:k.h < w.heap.size+1+1+1:=aO
 clear hq ha hh
 go_enter Try.func35,Try.ntmps35
 go_upto_region 1 with fail
 go_region
 all_goals go_wp2_with (go_at_call 64;refine Calls.mono (vM k ws tb mp q a _ ?_ HA.out HH.out) ?_;(exact zq4);rintro e w1 ⟨rfl,rfl⟩)
 all_goals exact bodyPost_ret (v:=.agg (lfC 0 0 0 0 0 0)) zq33 rfl ⟨rfl,zq4,zq3⟩
theorem zJ3(k:QB)(ws tb mp:Value)(q:HQ)(d n b c:Int)(a kk xx:Nat)(w:World)(hq:QW w k ws tb mp q)(hn0:0≤q.done+n)(hn1:q.done+n≤9223372036854775807) :
  Calls Try.prog 35 #[.pointer (some ⟨k.h,0,none⟩),.agg (cdC 12 d a b c n kk xx)] w fun e w'=>e=.returned (.agg (lfC 3 d xx kk (q.done+n) 0))∧QW w' k ws tb mp q∧zJ k.own w w':=by
 have lh:=hq.h.lt
 have c16:w.cell? ⟨k.h,16,none⟩=some (.int .i64 q.done):=hq.h.c 16 aO
 have c17:w.cell? ⟨k.h,17,none⟩=some (tb):=hq.h.c 17 aO
 have c14:w.cell? ⟨k.h,14,none⟩=some mp:=hq.h.c 14 aO
 have HQ':Hid _:=hq
 have l1:k.h < w.heap.size+1:=aO
 have l2:k.h < w.heap.size+1+1:=aO
 have l3:k.h < w.heap.size+1+1+1:=aO
 clear hq
 go_enter Try.func35,Try.ntmps35
 go_upto_region 1 with fail
 go_region
 all_goals go_wp2_with (fail)
 all_goals exact bodyPost_ret (v:=.agg (lfC 3 d xx kk (q.done+n) 0)) zq33 rfl ⟨rfl,zq4,zq3⟩
theorem zJ2(k:QB)(ws tb mp:Value)(q:HQ)(d n b c:Int)(a kk xx:Nat)(w:World)(hq:QW w k ws tb mp q)(hn0:0≤q.done+n)(hn1:q.done+n≤9223372036854775807)(ha:a < 16)(hh:q.has a=true)(hv:(q.reg a==0)=false) :
  Calls Try.prog 35 #[.pointer (some ⟨k.h,0,none⟩),.agg (cdC 13 d a b c n kk xx)] w fun e w'=>e=.returned (.agg (lfC 3 d xx kk (q.done+n) 0))∧QW w' k ws tb mp q∧zJ k.own w w':=by
 have lh:=hq.h.lt
 have c16:w.cell? ⟨k.h,16,none⟩=some (.int .i64 q.done):=hq.h.c 16 aO
 have c17:w.cell? ⟨k.h,17,none⟩=some (tb):=hq.h.c 17 aO
 have c14:w.cell? ⟨k.h,14,none⟩=some mp:=hq.h.c 14 aO
 have HA:Hid _:=ha
 have HH:Hid _:=hh
 have hv2:(((q.reg a:Nat):Int)==0)=false:=by
   have:q.reg a≠0:=by simpa using hv
   simpa using this
 have HQ':Hid _:=hq
 have l1:k.h < w.heap.size+1:=aO
 have l2:k.h < w.heap.size+1+1:=aO
 have l3:k.h < w.heap.size+1+1+1:=aO
 clear hq ha hh
 go_enter Try.func35,Try.ntmps35
 go_upto_region 1 with fail
 go_region
 all_goals go_wp2_with (go_at_call 64;refine Calls.mono (vM k ws tb mp q a _ ?_ HA.out HH.out) ?_;(exact zq4);rintro e w1 ⟨rfl,rfl⟩)
 all_goals exact bodyPost_ret (v:=.agg (lfC 3 d xx kk (q.done+n) 0)) zq33 rfl ⟨rfl,zq4,zq3⟩
theorem zJ1(k:QB)(ws tb mp:Value)(q:HQ)(d n b c:Int)(a kk xx:Nat)(w:World)(hq:QW w k ws tb mp q)(hn0:0≤q.done+n)(hn1:q.done+n≤9223372036854775807)(ha:a < 16)(hh:q.has a=true)(hv:q.reg a=0) :
  Calls Try.prog 35 #[.pointer (some ⟨k.h,0,none⟩),.agg (cdC 13 d a b c n kk xx)] w fun e w'=>e=.returned (.agg (lfC 0 0 0 0 0 0))∧QW w' k ws tb mp q∧zJ k.own w w':=by
 have lh:=hq.h.lt
 have c16:w.cell? ⟨k.h,16,none⟩=some (.int .i64 q.done):=hq.h.c 16 aO
 have c17:w.cell? ⟨k.h,17,none⟩=some (tb):=hq.h.c 17 aO
 have c14:w.cell? ⟨k.h,14,none⟩=some mp:=hq.h.c 14 aO
 have HA:Hid _:=ha
 have HH:Hid _:=hh
 have hv2:(((q.reg a:Nat):Int)==0)=true:=by simp[hv]
 have HQ':Hid _:=hq
 have l1:k.h < w.heap.size+1:=aO
 have l2:k.h < w.heap.size+1+1:=aO
 have l3:k.h < w.heap.size+1+1+1:=aO
 clear hq ha hh
 go_enter Try.func35,Try.ntmps35
 go_upto_region 1 with fail
 go_region
 all_goals go_wp2_with (go_at_call 64;refine Calls.mono (vM k ws tb mp q a _ ?_ HA.out HH.out) ?_;(exact zq4);rintro e w1 ⟨rfl,rfl⟩)
 all_goals exact bodyPost_ret (v:=.agg (lfC 0 0 0 0 0 0)) zq33 rfl ⟨rfl,zq4,zq3⟩
theorem zGR(k:QB)(ws mp:Value)(q:HQ)(d n b c:Int)(a kk xx:Nat)(w:World)(hq:QW w k ws (.slice none 0 0) mp q)(hn0:0≤q.done+n)(hn1:q.done+n≤9223372036854775807)(ha:a < 16)(hh:q.has a=true) :
  Calls Try.prog 35 #[.pointer (some ⟨k.h,0,none⟩),.agg (cdC 4 d a b c n kk xx)] w fun e w'=>e=.returned (.agg (lfC 2 0 0 (q.reg a) (q.done+n) 0))∧QW w' k ws (.slice none 0 0) mp q∧zJ k.own w w':=by
 have lh:=hq.h.lt
 have c16:w.cell? ⟨k.h,16,none⟩=some (.int .i64 q.done):=hq.h.c 16 aO
 have c17:w.cell? ⟨k.h,17,none⟩=some ((.slice none 0 0)):=hq.h.c 17 aO
 have c14:w.cell? ⟨k.h,14,none⟩=some mp:=hq.h.c 14 aO
 have HA:Hid _:=ha
 have HH:Hid _:=hh
 have HQ':Hid _:=hq
 have l1:k.h < w.heap.size+1:=aO
 have l2:k.h < w.heap.size+1+1:=aO
 have l3:k.h < w.heap.size+1+1+1:=aO
 clear hq ha hh
 go_enter Try.func35,Try.ntmps35
 go_upto_region 1 with fail
 go_region
 all_goals go_wp2_with (go_at_call 64;refine Calls.mono (vM k ws (.slice none 0 0) mp q a _ ?_ HA.out HH.out) ?_;(exact zq4);rintro e w1 ⟨rfl,rfl⟩)
 all_goals exact bodyPost_ret (v:=.agg (lfC 2 0 0 (q.reg a) (q.done+n) 0)) zq33 rfl ⟨rfl,zq4,zq3⟩
end Go.Proofs.Ytkmjenjahbicpaa.Ho
