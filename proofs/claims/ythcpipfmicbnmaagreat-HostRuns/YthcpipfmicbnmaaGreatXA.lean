import Derived.Test.YthcpipfmicbnmaaGreatQU
import Derived.Test.YthcpipfmicbnmaaGreatQV
import Derived.Deep.RegionHeld3
set_option linter.unusedVariables false
set_option linter.unusedSimpArgs false
set_option maxHeartbeats 4000000
namespace Go.Proofs.YthcpipfmicbnmaaGreat.Ho
open Go.RowKit
set_option maxRecDepth 100000
theorem zHe(k:QB)(ws tb mp:Value)(q:HQ)(r:Nat)(w:World)(hq:QW w k ws tb mp q)(hr:r < 16)(hh:q.has r=false) :
  Calls Tryz.prog 38 #[.pointer (some ⟨k.h,0,none⟩),.int .i64 r] w fun e w'=>e=.returned (.int .u32 (q.reg r))∧w.setCell ⟨k.h,23,none⟩ (.bool true)=w':=by
 have c18:w.cell? ⟨k.h,18,none⟩=some (.slice (some ⟨k.r,0,none⟩) 16 16):=hq.h.c 18 aO
 have c19:w.cell? ⟨k.h,19,none⟩=some (.slice (some ⟨k.g,0,none⟩) 16 16):=hq.h.c 19 aO
 have c23:w.cell? ⟨k.h,23,none⟩=some (.bool q.stuck):=hq.h.c 23 aO
 have f23:=hq.h.fz 23
 have cr:=hq.r.c r hr
 have cg:=hq.g.c r hr
 rw[hh] at cg
 have lh:=hq.h.lt
 have lr:=hq.r.lt
 have lg:=hq.g.lt
 have n1:¬k.h=k.r:=hq.hr
 have n2:¬k.r=k.h:=fun e=>hq.hr e.symm
 have r0:(0:Int)≤r:=aO
 have r1:(r:Int) < 16:=aO
 clear hq hr hh
 go_enter Tryz.func38,Tryz.ntmps38
 go_wp2
 go_ret
 exact⟨rfl,rfl⟩
theorem zK5(k:QB)(ws tb mp:Value)(q:HQ)(d a n:Nat)(b c:Int)(kk xx:Nat)(w:World)(hq:QW w k ws tb mp q)(ha:a < 16)(hh:q.has a=false) :
  Calls Tryz.prog 40 #[.pointer (some ⟨k.h,0,none⟩),.agg (yJ 7 d a b c n kk xx)] w fun e w'=>e=.returned (.tuple #[])∧QW w' k ws tb mp { q with stuck:=true }∧zI k.own w w':=by
 have HF:∀ w,Hid (Calls Tryz.prog 35 #[.int .i64 7] w fun e w'=>e=.returned (.tuple #[.string ⟨#[97,110]⟩,.int .i64 12,.int .i64 1])∧w=w'):=fun w=>yH 7 w
 have lh:=hq.h.lt
 have c23:w.cell? ⟨k.h,23,none⟩=some (.bool q.stuck):=hq.h.c 23 aO
 have HA:Hid _:=ha
 have HH:Hid _:=hh
 clear ha hh
 have HQ':Hid _:=hq
 clear hq
 go_enter Tryz.func40,Tryz.ntmps40
 go_wp2_with (first|(go_at_call 35;refine Calls.mono (HF _).out ?_;rintro e w1 ⟨rfl,rfl⟩)|(go_at_call 38;refine Calls.mono (zHe k ws tb mp q a _ zq3 HA.out HH.out) ?_;rintro e w1 ⟨rfl,rfl⟩))
 go_end0
 exact⟨rfl,(by focus(repeat first|with_reducible exact(HQ'.out.stick true)|with_reducible refine QW.al ?_ _|with_reducible refine QW.dr ?_|with_reducible refine QW.drN ?_ _)),zq63⟩
theorem zK6(k:QB)(ws tb mp:Value)(q:HQ)(d a n:Nat)(b c:Int)(kk xx:Nat)(w:World)(hq:QW w k ws tb mp q)(ha:a < 16)(hn:n < 2048)(hh:q.has a=false) :
  Calls Tryz.prog 40 #[.pointer (some ⟨k.h,0,none⟩),.agg (yJ 9 d a b c n kk xx)] w fun e w'=>e=.returned (.tuple #[])∧QW w' k ws tb mp { q with stuck:=true,sp:=upd q.sp n (q.reg a),held:=upd q.held n true }∧zI k.own w w':=by
 have HF:∀ w,Hid (Calls Tryz.prog 35 #[.int .i64 9] w fun e w'=>e=.returned (.tuple #[.string ⟨#[97,110]⟩,.int .i64 2048,.int .i64 1])∧w=w'):=fun w=>yH 9 w
 have lh:=hq.h.lt
 have lr:=hq.r.lt
 have lg:=hq.g.lt
 have ls:=hq.s.lt
 have ld:=hq.d.lt
 have n0:(0:Int)≤n:=aO
 have c20:w.cell? ⟨k.h,20,none⟩=some (.slice (some ⟨k.s,0,none⟩) 2048 2048):=hq.h.c 20 aO
 have c21:w.cell? ⟨k.h,21,none⟩=some (.slice (some ⟨k.d,0,none⟩) 2048 2048):=hq.h.c 21 aO
 have cs:=hq.s.c n hn
 have cd:=hq.d.c n hn
 have fs:=hq.s.fz n
 have fd:=hq.d.fz n
 have m1:¬k.h=k.s:=hq.hs
 have m2:¬k.s=k.h:=fun e=>hq.hs e.symm
 have m3:¬k.d=k.s:=fun e=>hq.sd e.symm
 have m4:¬k.s=k.d:=hq.sd
 have m5:¬k.h=k.d:=hq.hd
 have m6:¬k.d=k.h:=fun e=>hq.hd e.symm
 have n1:(n:Int) < 2048:=aO
 have HA:Hid _:=ha
 have HN:Hid _:=hn
 have HH:Hid _:=hh
 clear ha hn hh
 have HQ':Hid _:=hq
 clear hq
 go_enter Tryz.func40,Tryz.ntmps40
 go_upto_region 35 with (go_at_call 35;refine Calls.mono (HF _).out ?_;rintro e w1 ⟨rfl,rfl⟩)
 go_region_with (go_at_call 38;refine Calls.mono (zHe k ws tb mp q a _ zq3 HA.out HH.out) ?_;rintro e w1 ⟨rfl,rfl⟩)
 all_goals go_upto_region 36 with fail
 all_goals go_region
 all_goals(try go_wp2)
 all_goals go_end0
 all_goals exact⟨rfl,(by focus(repeat first|with_reducible exact((HQ'.out.stick true).spill n _ HN.out)|with_reducible refine QW.al ?_ _|with_reducible refine QW.dr ?_|with_reducible refine QW.drN ?_ _)),(by focus(repeat first|with_reducible exact(zI.set (zI.set (zI.set (zI.refl _ _) (zAQ k) _ _) (zLT k) _ _) (zLS k) _ _)|with_reducible exact zI.refl _ _|with_reducible refine zI.alloc ?_ _|with_reducible refine zI.drew ?_|with_reducible refine zI.dN ?_ _))⟩
theorem zK4(k:QB)(ws tb mp:Value)(q:HQ)(d a n:Nat)(b c:Int)(kk xx:Nat)(w:World)(hq:QW w k ws tb mp q)(hd:d < 16)(hn:n < 2048)(hh:q.held n=false) :
  Calls Tryz.prog 40 #[.pointer (some ⟨k.h,0,none⟩),.agg (yJ 8 d a b c n kk xx)] w fun e w'=>e=.returned (.tuple #[])∧QW w' k ws tb mp { q with stuck:=true,reg:=upd q.reg d (q.sp n),has:=upd q.has d true }∧zI k.own w w':=by
 have HF:∀ w,Hid (Calls Tryz.prog 35 #[.int .i64 8] w fun e w'=>e=.returned (.tuple #[.string ⟨#[100,110]⟩,.int .i64 2048,.int .i64 1])∧w=w'):=fun w=>yH 8 w
 have lh:=hq.h.lt
 have lr:=hq.r.lt
 have lg:=hq.g.lt
 have ls:=hq.s.lt
 have ld:=hq.d.lt
 have n0:(0:Int)≤n:=aO
 have c20:w.cell? ⟨k.h,20,none⟩=some (.slice (some ⟨k.s,0,none⟩) 2048 2048):=hq.h.c 20 aO
 have c21:w.cell? ⟨k.h,21,none⟩=some (.slice (some ⟨k.d,0,none⟩) 2048 2048):=hq.h.c 21 aO
 have c23:w.cell? ⟨k.h,23,none⟩=some (.bool q.stuck):=hq.h.c 23 aO
 have f23:=hq.h.fz 23
 have cs:=hq.s.c n hn
 have cd:=hq.d.c n hn
 rw[hh] at cd
 have m1:¬k.h=k.s:=hq.hs
 have m2:¬k.s=k.h:=fun e=>hq.hs e.symm
 have n1:(n:Int) < 2048:=aO
 have HD:Hid _:=hd
 clear hd hn hh
 have HQ':Hid _:=hq
 clear hq
 go_enter Tryz.func40,Tryz.ntmps40
 go_upto_region 31 with (go_at_call 35;refine Calls.mono (HF _).out ?_;rintro e w1 ⟨rfl,rfl⟩)
 go_quiet (fail)
 go_upto_region 33 with fail
 go_region_with (go_at_call 55;refine Calls.mono (uG k ws tb mp { q with stuck:=true } d (q.sp n) _ (by(focus(repeat first|with_reducible exact HQ'.out|with_reducible refine QW.stick (q:=q) ?_ true|with_reducible refine QW.al ?_ _|with_reducible refine QW.dr ?_|with_reducible refine QW.drN ?_ _))) HD.out) ?_;rintro e w1 ⟨rfl,hq1,hc1⟩;have HQ1:Hid _:=hq1;have HC1:Hid _:=hc1;clear hq1 hc1)
 all_goals(try go_wp2)
 all_goals go_end0
 all_goals exact⟨rfl,HQ1.out,zI.trans (by(focus(repeat first|with_reducible exact zI.refl _ _|with_reducible refine zI.set ?_ (zAQ k) _ _|with_reducible refine zI.alloc ?_ _|with_reducible refine zI.drew ?_|with_reducible refine zI.dN ?_ _))) (HC1.out.mono zq56)⟩
theorem lty{w:World}{X:Nat}{o:Obj}(h:w.heap[X]?=some o):X < w.heap.size:=by
 rcases Nat.lt_or_ge X w.heap.size with g|g
 ·exact g
 ·rw[Array.getElem?_eq_none g] at h;cases h
structure JX(w W:World)(k:QB)(ws tb mp:Value)(q:HQ)(C:Array Value):Prop where
 q:QW W k ws tb mp q
 b0:W.heap[w.heap.size]?=some (.cells C 69)
 ch:zI k.own w W
theorem JX.gt{w W w1:World}{k:QB}{ws tb mp:Value}{q q1:HQ}{C:Array Value}(h:JX w W k ws tb mp q C)(lh:k.h < w.heap.size)(hq:QW w1 k ws tb mp q1)(c:zI [k.h] W w1):JX w w1 k ws tb mp q1 C:=
 ⟨hq,(c.block _ (lty h.b0) zq7).trans h.b0,h.ch.trans (c.mono zq56)⟩
theorem JX.st{w W w1:World}{k:QB}{ws tb mp:Value}{q q1:HQ}{C:Array Value}(h:JX w W k ws tb mp q C)(hr:k.r < w.heap.size)(hg:k.g < w.heap.size)(hq:QW w1 k ws tb mp q1)(c:zI [k.r,k.g] W w1):JX w w1 k ws tb mp q1 C:=
 ⟨hq,(c.block _ (lty h.b0) zq7).trans h.b0,h.ch.trans (c.mono zq56)⟩
theorem JX.dr{w W:World}{k:QB}{ws tb mp:Value}{q:HQ}{C:Array Value}(h:JX w W k ws tb mp q C):JX w W.drew k ws tb mp q C:=⟨h.q.dr,h.b0,h.ch.drew⟩
theorem zIu(k:QB)(ws tb mp:Value)(q:HQ)(d a:Nat)(b c n:Int)(kk xx:Nat)(w:World)(hq:QW w k ws tb mp q)(hd:d < 16)(ha:a < 16) :
  Calls Tryz.prog 40 #[.pointer (some ⟨k.h,0,none⟩),.agg (yJ 3 d a b c n kk xx)] w fun e w'=>e=.returned (.tuple #[])∧QW w' k ws tb mp { q with stuck:=q.stuck || !(q.has a),reg:=upd q.reg d (q.reg a),has:=upd q.has d true }∧zI k.own w w':=by
 have HF:∀ w,Hid (Calls Tryz.prog 35 #[.int .i64 3] w fun e w'=>e=.returned (.tuple #[.string ⟨#[100,97]⟩,.int .i64 0,.int .i64 1])∧w=w'):=fun w=>yH 3 w
 have lh:=hq.h.lt
 have HQ':Hid _:=hq
 have HD:Hid _:=hd
 have HA:Hid _:=ha
 have HLH:Hid _:=hq.h.lt
 have HLR:Hid _:=hq.r.lt
 have HLG:Hid _:=hq.g.lt
 clear hq hd ha
 go_enter Tryz.func40,Tryz.ntmps40
 go_upto_region 23 with (go_at_call 35;refine Calls.mono (HF _).out ?_;rintro e w1 ⟨rfl,rfl⟩)
 refine zJ (fun W'=>JX w W' k ws tb mp q (yJ 3 d a b c n kk xx)) ⟨zq3,heap_alloc_last w _,zq4⟩ ?_
 intro wx hW
 have HW:Hid _:=hW
 have od:wx.cell? ⟨w.heap.size,1,none⟩=some (.int .i64 d):=zA hW.b0 1
 have oa:wx.cell? ⟨w.heap.size,2,none⟩=some (.int .i64 a):=zA hW.b0 2
 have ol:=lty hW.b0
 clear hW lh
 go_region_held3 (fun W'=>W'.cell? ⟨w.heap.size,1,none⟩=some (.int .i64 d)∧W'.cell? ⟨w.heap.size,2,none⟩=some (.int .i64 a)) (first|(simp[go_sem,rd,ra,rl];done)|(simp[go_sem,pd,pa,pl];done)|(simp[go_sem,od,oa,ol];done))
  (first
  | (go_at_call 38;refine Calls.mono (vH k ws tb mp q a _ ?_ HA.out) ?_;(exact(by focus(repeat first|with_reducible exact HW.out.q|with_reducible refine QW.al ?_ _|with_reducible refine QW.dr ?_|with_reducible refine QW.drN ?_ _)));rintro e w1 ⟨rfl,hq1,hc1⟩;have HW1:Hid (JX w w1 k ws tb mp { q with stuck:=q.stuck || !(q.has a) } (yJ 3 d a b c n kk xx)):=HW.out.dr.gt HLH.out hq1 hc1;have pd:w1.cell? ⟨w.heap.size,1,none⟩=some (.int .i64 d):=zA HW1.out.b0 1;have pa:w1.cell? ⟨w.heap.size,2,none⟩=some (.int .i64 a):=zA HW1.out.b0 2;have pl:=lty HW1.out.b0;clear hq1 hc1)
  | (go_at_call 55;have HXX:=HW1;refine Calls.mono (uG k ws tb mp { q with stuck:=q.stuck || !(q.has a) } d (q.reg a) _ ?_ HD.out) ?_;(exact zq13);rintro e w2 ⟨rfl,hq2,hc2⟩;have HW2:Hid (JX w w2 k ws tb mp { q with stuck:=q.stuck || !(q.has a),reg:=upd q.reg d (q.reg a),has:=upd q.has d true } (yJ 3 d a b c n kk xx)):=HW1.out.st HLR.out HLG.out hq2 hc2;have rd:w2.cell? ⟨w.heap.size,1,none⟩=some (.int .i64 d):=zA HW2.out.b0 1;have ra:w2.cell? ⟨w.heap.size,2,none⟩=some (.int .i64 a):=zA HW2.out.b0 2;have rl:=lty HW2.out.b0;clear hq2 hc2))
 all_goals(try go_wp2)
 all_goals go_end0
 all_goals exact⟨rfl,HW2.out.q,HW2.out.ch⟩
end Go.Proofs.YthcpipfmicbnmaaGreat.Ho
