import Derived.Test.YthcpipfmicbnmaaGreatRH
import Derived.Deep.QuietTactic
import Derived.BigQuiet
set_option linter.unusedVariables false
set_option linter.unusedSimpArgs false
set_option maxHeartbeats 1000000
namespace Go.Proofs.YthcpipfmicbnmaaGreat.Ho
open Go.RowKit
set_option maxRecDepth 100000
theorem zI.dN{S:List Nat}{a b:World}(h:zI S a b)(n:Nat):zI S a (b.drewN n):=h.trans ⟨rfl,rfl,rfl,Nat.le_refl _,fun _ _ _=>rfl⟩
def QB.own(k:QB):List Nat:=[k.h,k.r,k.g,k.s,k.d]
theorem QW.chg{w w':World}{k:QB}{ws tb mp:Value}{q:HQ}(h:QW w k ws tb mp q){S:List Nat}(c:zI S w w')(hS:∀ x∈k.own,x∉S):QW w' k ws tb mp q:=
 ⟨h.h.chg c (hS _ zq56),h.r.chg c (hS _ zq56),h.g.chg c (hS _ zq56),h.s.chg c (hS _ zq56),h.d.chg c (hS _ zq56),h.hr,h.hg,h.hs,h.hd,h.rg,h.rs,h.rd,h.gs,h.gd,h.sd⟩
theorem zAQ(k:QB):k.h∈k.own:=by simp[QB.own]
theorem zLT(k:QB):k.s∈k.own:=by simp[QB.own]
theorem zLS(k:QB):k.d∈k.own:=by simp[QB.own]
theorem QW.al{w:World}{k:QB}{ws tb mp:Value}{q:HQ}(h:QW w k ws tb mp q)(o:Obj):QW (w.alloc o) k ws tb mp q:=h.chg (S:=[]) ((zI.refl _ _).alloc o) (fun _ _=>by simp)
theorem QW.dr{w:World}{k:QB}{ws tb mp:Value}{q:HQ}(h:QW w k ws tb mp q):QW w.drew k ws tb mp q:=h.chg (S:=[]) ((zI.refl _ _).drew) (fun _ _=>by simp)
theorem QW.drN{w:World}{k:QB}{ws tb mp:Value}{q:HQ}(h:QW w k ws tb mp q)(n:Nat):QW (w.drewN n) k ws tb mp q:=h.chg (S:=[]) ((zI.refl _ _).dN n) (fun _ _=>by simp)
abbrev yJ(op d a b c n:Int)(k x:Nat):Array Value:=#[.int .i64 op,.int .i64 d,.int .i64 a,.int .i64 b,.int .i64 c,.int .i64 n,.int .u32 k,.int .u32 x]
theorem zOC(k:QB)(ws tb mp:Value)(q:HQ)(d:Nat)(a b c n:Int)(kk xx:Nat)(w:World)(hq:QW w k ws tb mp q)(hd:d < 16) :
  Calls Tryz.prog 40 #[.pointer (some ⟨k.h,0,none⟩),.agg (yJ 2 d a b c n kk xx)] w fun e w'=>e=.returned (.tuple #[])∧QW w' k ws tb mp { q with reg:=upd q.reg d kk,has:=upd q.has d true }∧zI k.own w w':=by
 have HF:∀ w,Hid (Calls Tryz.prog 35 #[.int .i64 2] w fun e w'=>e=.returned (.tuple #[.string ⟨#[100]⟩,.int .i64 0,.int .i64 2])∧w=w'):=fun w=>yH 2 w
 have lh:=hq.h.lt
 have HQ':Hid _:=hq
 have HD:Hid _:=hd
 clear hq hd
 go_enter Tryz.func40,Tryz.ntmps40
 go_wp2_with (first|(go_at_call 35;refine Calls.mono (HF _).out ?_;rintro e w1 ⟨rfl,rfl⟩)|(go_at_call 55;refine Calls.mono (uG k ws tb mp q d kk _ zq3 HD.out) ?_;rintro e w1 ⟨rfl,hq1,hc1⟩;have HQ1:Hid _:=hq1;have HC1:Hid _:=hc1;clear hq1 hc1))
 go_end0
 exact⟨rfl,HQ1.out,zI.trans zq40 (HC1.out.mono zq56)⟩
theorem zC0(k:QB)(ws tb mp:Value)(q:HQ)(r:Nat)(w:World)(hq:QW w k ws tb mp q)(hr:r < 16)(hh:q.has r=true) :
  Calls Tryz.prog 38 #[.pointer (some ⟨k.h,0,none⟩),.int .i64 r] w fun e w'=>e=.returned (.int .u32 (q.reg r))∧w=w':=by
 have c18:w.cell? ⟨k.h,18,none⟩=some (.slice (some ⟨k.r,0,none⟩) 16 16):=hq.h.c 18 aO
 have c19:w.cell? ⟨k.h,19,none⟩=some (.slice (some ⟨k.g,0,none⟩) 16 16):=hq.h.c 19 aO
 have cr:=hq.r.c r hr
 have cg:=hq.g.c r hr
 rw[hh] at cg
 have lh:=hq.h.lt
 have lr:=hq.r.lt
 have lg:=hq.g.lt
 have r0:(0:Int)≤r:=aO
 have r1:(r:Int) < 16:=aO
 clear hq hr hh
 go_enter Tryz.func38,Tryz.ntmps38
 go_wp2
 go_ret
 exact⟨rfl,rfl⟩
theorem zKj(k:QB)(ws tb mp:Value)(q:HQ)(n:Nat)(h:n < 12):hqF k ws tb mp q (2+n)=.int .u32 (q.c n):=by
 unfold hqF
 rw[if_neg aO,if_neg aO,if_pos aO,show 2+n - 2=n by omega]
theorem zK1(k:QB)(ws tb mp:Value)(q:HQ)(n v:Nat)(h:n < 12)(o:Nat)(ho:o < 24):upd (hqF k ws tb mp q) (2+n) (.int .u32 v) o=hqF k ws tb mp { q with c:=upd q.c n v } o:=by
 unfold upd
 by_cases e:o=2+n
 ·rw[if_pos e];subst e
  rw[zKj _ _ _ _ _ n h];simp[upd]
 ·rw[if_neg e]
  unfold hqF
  by_cases e0:o=0
  ·simp only[e0,if_true]
  ·by_cases e1:o=1
   ·simp only[e1,if_true,if_false]
   ·by_cases e2:o < 14
    ·have:¬o - 2=n:=aO
     simp only[e0,e1,e2,if_true,if_false,upd,this]
    ·simp only[e0,e1,e2,if_false]
theorem QW.slot{w:World}{k:QB}{ws tb mp:Value}{q:HQ}(h:QW w k ws tb mp q)(n v:Nat)(hn:n < 12):QW (w.setCell ⟨k.h,2+n,none⟩ (.int .u32 v)) k ws tb mp { q with c:=upd q.c n v }:=
 ⟨(h.h.set (2+n) aO (.int .u32 v)).congr (fun o ho=>zK1 k ws tb mp q n v hn o ho),h.r.other h.hr _ _,h.g.other h.hg _ _,h.s.other h.hs _ _,h.d.other h.hd _ _,h.hr,h.hg,h.hs,h.hd,h.rg,h.rs,h.rd,h.gs,h.gd,h.sd⟩
theorem QW.spill{w:World}{k:QB}{ws tb mp:Value}{q:HQ}(h:QW w k ws tb mp q)(n v:Nat)(hn:n < 2048):QW ((w.setCell ⟨k.s,n,none⟩ (.int .u32 v)).setCell ⟨k.d,n,none⟩ (.bool true)) k ws tb mp { q with sp:=upd q.sp n v,held:=upd q.held n true }:=
 ⟨(h.h.other (fun e=>h.hs e.symm) _ _).other (fun e=>h.hd e.symm) _ _,(h.r.other (fun e=>h.rs e.symm) _ _).other (fun e=>h.rd e.symm) _ _,(h.g.other (fun e=>h.gs e.symm) _ _).other (fun e=>h.gd e.symm) _ _,((h.s.set n hn (.int .u32 v)).congr (fun o ho=>by by_cases e:o=n<;>simp[upd,e])).other (fun e=>h.sd e.symm) _ _,((h.d.other h.sd _ _).set n hn (.bool true)).congr (fun o ho=>by by_cases e:o=n<;>simp[upd,e]),h.hr,h.hg,h.hs,h.hd,h.rg,h.rs,h.rd,h.gs,h.gd,h.sd⟩
theorem zMN(k:QB)(ws tb mp:Value)(q:HQ)(d a n:Nat)(b c:Int)(kk xx:Nat)(w:World)(hq:QW w k ws tb mp q)(hd:d < 16)(hn:n < 12) :
  Calls Tryz.prog 40 #[.pointer (some ⟨k.h,0,none⟩),.agg (yJ 6 d a b c n kk xx)] w fun e w'=>e=.returned (.tuple #[])∧QW w' k ws tb mp { q with reg:=upd q.reg d (q.c n),has:=upd q.has d true }∧zI k.own w w':=by
 have HF:∀ w,Hid (Calls Tryz.prog 35 #[.int .i64 6] w fun e w'=>e=.returned (.tuple #[.string ⟨#[100,110]⟩,.int .i64 12,.int .i64 1])∧w=w'):=fun w=>yH 6 w
 have lh:=hq.h.lt
 have lr:=hq.r.lt
 have lg:=hq.g.lt
 have ls:=hq.s.lt
 have ld:=hq.d.lt
 have n0:(0:Int)≤n:=aO
 have cc:w.cell? ⟨k.h,2+n,none⟩=some (.int .u32 (q.c n)):=(hq.h.c (2+n) aO).trans (by rw[zKj _ _ _ _ _ n hn])
 have n1:(n:Int) < 12:=aO
 have HD:Hid _:=hd
 clear hd hn
 have HQ':Hid _:=hq
 clear hq
 go_enter Tryz.func40,Tryz.ntmps40
 go_upto_region 25 with (go_at_call 35;refine Calls.mono (HF _).out ?_;rintro e w1 ⟨rfl,rfl⟩)
 go_region_with (go_at_call 55;refine Calls.mono (uG k ws tb mp q d (q.c n) _ zq3 HD.out) ?_;rintro e w1 ⟨rfl,hq1,hc1⟩;have HQ1:Hid _:=hq1;have HC1:Hid _:=hc1;clear hq1 hc1)
 all_goals(try go_wp2)
 all_goals go_end0
 all_goals exact⟨rfl,HQ1.out,zI.trans zq40 (HC1.out.mono zq56)⟩
theorem zMO(k:QB)(ws tb mp:Value)(q:HQ)(d a n:Nat)(b c:Int)(kk xx:Nat)(w:World)(hq:QW w k ws tb mp q)(hd:d < 16)(hn:n < 2048)(hh:q.held n=true) :
  Calls Tryz.prog 40 #[.pointer (some ⟨k.h,0,none⟩),.agg (yJ 8 d a b c n kk xx)] w fun e w'=>e=.returned (.tuple #[])∧QW w' k ws tb mp { q with reg:=upd q.reg d (q.sp n),has:=upd q.has d true }∧zI k.own w w':=by
 have HF:∀ w,Hid (Calls Tryz.prog 35 #[.int .i64 8] w fun e w'=>e=.returned (.tuple #[.string ⟨#[100,110]⟩,.int .i64 2048,.int .i64 1])∧w=w'):=fun w=>yH 8 w
 have lh:=hq.h.lt
 have lr:=hq.r.lt
 have lg:=hq.g.lt
 have ls:=hq.s.lt
 have ld:=hq.d.lt
 have n0:(0:Int)≤n:=aO
 have c20:w.cell? ⟨k.h,20,none⟩=some (.slice (some ⟨k.s,0,none⟩) 2048 2048):=hq.h.c 20 aO
 have c21:w.cell? ⟨k.h,21,none⟩=some (.slice (some ⟨k.d,0,none⟩) 2048 2048):=hq.h.c 21 aO
 have cs:=hq.s.c n hn
 have cd:=hq.d.c n hn
 rw[hh] at cd
 have n1:(n:Int) < 2048:=aO
 have HD:Hid _:=hd
 clear hd hn hh
 have HQ':Hid _:=hq
 clear hq
 go_enter Tryz.func40,Tryz.ntmps40
 go_upto_region 31 with (go_at_call 35;refine Calls.mono (HF _).out ?_;rintro e w1 ⟨rfl,rfl⟩)
 go_quiet (fail)
 go_upto_region 33 with fail
 go_region_with (go_at_call 55;refine Calls.mono (uG k ws tb mp q d (q.sp n) _ zq3 HD.out) ?_;rintro e w1 ⟨rfl,hq1,hc1⟩;have HQ1:Hid _:=hq1;have HC1:Hid _:=hc1;clear hq1 hc1)
 all_goals(try go_wp2)
 all_goals go_end0
 all_goals exact⟨rfl,HQ1.out,zI.trans zq40 (HC1.out.mono zq56)⟩
end Go.Proofs.YthcpipfmicbnmaaGreat.Ho
