import Derived.Test.YthcpipfmicbnmaaGreatQT
set_option linter.unusedVariables false
set_option linter.unusedSimpArgs false
set_option maxHeartbeats 1000000
namespace Go.Proofs.YthcpipfmicbnmaaGreat.Ho
open Go.RowKit
set_option maxRecDepth 100000
theorem zMR(k:QB)(ws tb mp:Value)(q:HQ)(d a n:Nat)(b c:Int)(kk xx:Nat)(w:World)(hq:QW w k ws tb mp q)(ha:a < 16)(hn:n < 12)(hh:q.has a=true)(hs:q.stuck=false) :
  Calls Tryz.prog 40 #[.pointer (some ⟨k.h,0,none⟩),.agg (yJ 7 d a b c n kk xx)] w fun e w'=>e=.returned (.tuple #[])∧QW w' k ws tb mp { q with c:=upd q.c n (q.reg a) }∧zI k.own w w':=by
 have HF:∀ w,Hid (Calls Tryz.prog 35 #[.int .i64 7] w fun e w'=>e=.returned (.tuple #[.string ⟨#[97,110]⟩,.int .i64 12,.int .i64 1])∧w=w'):=fun w=>yH 7 w
 have lh:=hq.h.lt
 have lr:=hq.r.lt
 have lg:=hq.g.lt
 have ls:=hq.s.lt
 have ld:=hq.d.lt
 have n0:(0:Int)≤n:=aO
 have c23:w.cell? ⟨k.h,23,none⟩=some (.bool q.stuck):=hq.h.c 23 aO
 rw[hs] at c23
 have cc:w.cell? ⟨k.h,2+n,none⟩=some (.int .u32 (q.c n)):=(hq.h.c (2+n) aO).trans (by rw[zKj _ _ _ _ _ n hn])
 have fc:=hq.h.fz (2+n)
 have n1:(n:Int) < 12:=aO
 have HA:Hid _:=ha
 have HN:Hid _:=hn
 have HH:Hid _:=hh
 clear ha hn hh hs
 have HQ':Hid _:=hq
 clear hq
 go_enter Tryz.func40,Tryz.ntmps40
 go_upto_region 29 with (first|(go_at_call 35;refine Calls.mono (HF _).out ?_;rintro e w1 ⟨rfl,rfl⟩)|(go_at_call 38;refine Calls.mono (zC0 k ws tb mp q a _ zq3 HA.out HH.out) ?_;rintro e w1 ⟨rfl,rfl⟩))
 go_region
 all_goals(try go_wp2)
 all_goals go_end0
 all_goals exact⟨rfl,(by focus(repeat first|with_reducible exact(HQ'.out.slot n _ HN.out)|with_reducible refine QW.al ?_ _|with_reducible refine QW.dr ?_|with_reducible refine QW.drN ?_ _)),zq63⟩
theorem zMS(k:QB)(ws tb mp:Value)(q:HQ)(d a n:Nat)(b c:Int)(kk xx:Nat)(w:World)(hq:QW w k ws tb mp q)(ha:a < 16)(hn:n < 2048)(hh:q.has a=true) :
  Calls Tryz.prog 40 #[.pointer (some ⟨k.h,0,none⟩),.agg (yJ 9 d a b c n kk xx)] w fun e w'=>e=.returned (.tuple #[])∧QW w' k ws tb mp { q with sp:=upd q.sp n (q.reg a),held:=upd q.held n true }∧zI k.own w w':=by
 have HF:∀ w,Hid (Calls Tryz.prog 35 #[.int .i64 9] w fun e w'=>e=.returned (.tuple #[.string ⟨#[97,110]⟩,.int .i64 2048,.int .i64 1])∧w=w'):=fun w=>yH 9 w
 have lh:=hq.h.lt
 have lr:=hq.r.lt
 have lg:=hq.g.lt
 have ls:=hq.s.lt
 have ld:=hq.d.lt
 have n0:(0:Int)≤n:=aO
 have c20:w.cell? ⟨k.h,20,none⟩=some (.slice (some ⟨k.s,0,none⟩) 2048 2048):=hq.h.c 20 aO
 have c21:w.cell? ⟨k.h,21,none⟩=some (.slice (some ⟨k.d,0,none⟩) 2048 2048):=hq.h.c 21 aO
 have cs:=hq.s.c n hn
 have cd:=hq.d.c n hn
 have fs:=hq.s.fz n
 have fd:=hq.d.fz n
 have m1:¬k.h=k.s:=hq.hs
 have m2:¬k.s=k.h:=fun e=>hq.hs e.symm
 have m3:¬k.d=k.s:=fun e=>hq.sd e.symm
 have m4:¬k.s=k.d:=hq.sd
 have m5:¬k.h=k.d:=hq.hd
 have n1:(n:Int) < 2048:=aO
 have HA:Hid _:=ha
 have HN:Hid _:=hn
 have HH:Hid _:=hh
 clear ha hn hh
 have HQ':Hid _:=hq
 clear hq
 go_enter Tryz.func40,Tryz.ntmps40
 go_upto_region 35 with (go_at_call 35;refine Calls.mono (HF _).out ?_;rintro e w1 ⟨rfl,rfl⟩)
 go_region_with (go_at_call 38;refine Calls.mono (zC0 k ws tb mp q a _ zq3 HA.out HH.out) ?_;rintro e w1 ⟨rfl,rfl⟩)
 all_goals go_upto_region 36 with fail
 all_goals go_region
 all_goals(try go_wp2)
 all_goals go_end0
 all_goals exact⟨rfl,(by focus(repeat first|with_reducible exact(HQ'.out.spill n _ HN.out)|with_reducible refine QW.al ?_ _|with_reducible refine QW.dr ?_|with_reducible refine QW.drN ?_ _)),(by focus(repeat first|with_reducible exact(zI.set (zI.set (zI.refl _ _) (zLT k) _ _) (zLS k) _ _)|with_reducible exact zI.refl _ _|with_reducible refine zI.alloc ?_ _|with_reducible refine zI.drew ?_|with_reducible refine zI.dN ?_ _))⟩
end Go.Proofs.YthcpipfmicbnmaaGreat.Ho
