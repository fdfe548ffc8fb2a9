import Derived.Test.YtkmjenjahbicpaaRX
set_option linter.unusedVariables false
set_option linter.unusedSimpArgs false
set_option maxHeartbeats 4000000
namespace Go.Proofs.Ytkmjenjahbicpaa.Ho
open Go.RowKit
set_option maxRecDepth 100000
abbrev ovC(kd wv:Int):Array Value:=#[.int .i64 kd,.int .i64 wv,.int .i64 0,.int .i64 0,.int .i64 0,.int .u32 0,.int .i64 0]
structure IW(w W:World)(k:QB)(ws tb mp:Value)(q:HQ)(C:Array Value)(kd wv:Int):Prop where
 q:QW W k ws tb mp q
 b0:W.heap[w.heap.size]?=some (.cells C 80)
 b1:W.heap[w.heap.size+1]?=some (.cells (ovC kd wv) 52)
 ch:zJ [] w W
theorem zJ.bel{S:List Nat}{w w':World}(h:Below w.heap.size w w'):zJ S w w':=⟨h.os,h.tape,h.output,h.size,fun i hi _=>h.block i hi⟩
theorem IW.nx{w W w1:World}{k:QB}{ws tb mp:Value}{q:HQ}{C:Array Value}{kd wv:Int}(h:IW w W k ws tb mp q C kd wv)(b:Below W.heap.size W w1):IW w w1 k ws tb mp q C kd wv:=
 ⟨h.q.chg (S:=[]) (zJ.bel b) (fun _ _=>by simp),(b.block _ (ltb h.b0)).trans h.b0,(b.block _ (ltb h.b1)).trans h.b1,h.ch.trans (zJ.bel b)⟩
structure IB(w W:World)(C:Array Value)(kd wv:Int):Prop where
 b0:W.heap[w.heap.size]?=some (.cells C 80)
 b1:W.heap[w.heap.size+1]?=some (.cells (ovC kd wv) 52)
theorem IW.st{w W w1:World}{k:QB}{ws tb mp:Value}{q:HQ}{C:Array Value}{kd wv:Int}(h:IW w W k ws tb mp q C kd wv){r g:Nat}(b:zJ [r,g] W w1)(hr:r < w.heap.size)(hg:g < w.heap.size):IB w w1 C kd wv:=
 ⟨(b.block _ (ltb h.b0) zq19).trans h.b0,(b.block _ (ltb h.b1) zq19).trans h.b1⟩
theorem zQi(k:QB)(ws tb mp:Value)(q:HQ)(d a b c:Nat)(n:Int)(kk xx v:Nat)(w:World)(hq:QW w k ws tb mp q)(hd:d < 16)(ha:a < 16)(hha:q.has a=true)(hb:b < 16)(hhb:q.has b=true)(hc:c < 16)(hhc:q.has c=true)
  (hv:∀ W,Calls Try.prog 31 #[.agg (ovC 6 0),.int .u32 (q.reg a),.int .u32 (q.reg b),.int .u32 (q.reg c)] W fun e w'=>e=.returned (.int .u32 v)∧Below W.heap.size W w') :
  Calls Try.prog 66 #[.pointer (some ⟨k.h,0,none⟩),.agg (cdC 5 d a b c n kk xx)] w fun e w'=>e=.returned (.tuple #[])∧QW w' k ws tb mp { q with reg:=upd q.reg d v,has:=upd q.has d true }∧zJ k.own w w':=by
 have HF:∀ w,Hid (Calls Try.prog 61 #[.int .i64 5] w fun e w'=>e=.returned (.tuple #[.string ⟨#[100,97,98,99]⟩,.int .i64 0,.int .i64 1])∧w=w'):=fun w=>yJ 5 w
 have lh:=hq.h.lt
 have HQ':Hid _:=hq
 have HD:Hid _:=hd
 have HV:Hid _:=hv
 have Ha:Hid _:=ha
 have HHa:Hid _:=hha
 clear ha hha
 have Hb:Hid _:=hb
 have HHb:Hid _:=hhb
 clear hb hhb
 have Hc:Hid _:=hc
 have HHc:Hid _:=hhc
 clear hc hhc
 have HLR:Hid _:=hq.r.lt
 have HLG:Hid _:=hq.g.lt
 clear hq hd hv
 go_enter Try.func66,Try.ntmps66
 go_upto_region 6 with first
  | (go_at_call 61;refine Calls.mono (HF _).out ?_;rintro e w1 ⟨rfl,rfl⟩)
  | (go_at_call 64;refine Calls.mono (vM k ws tb mp q a _ ?_ Ha.out HHa.out) ?_;(exact zq4);rintro e w1 ⟨rfl,rfl⟩)
 go_upto_region 8 with first
  | (go_at_call 62;refine Calls.mono (zCY _) ?_;rintro e w1 ⟨rfl,rfl⟩)
  | (go_at_call 64;refine Calls.mono (vM k ws tb mp q b _ ?_ Hb.out HHb.out) ?_;(exact zq4);rintro e w1 ⟨rfl,rfl⟩)
 go_upto_region 19 with first
  | (go_at_call 62;refine Calls.mono (zCZ _) ?_;rintro e w1 ⟨rfl,rfl⟩)
  | (go_at_call 64;refine Calls.mono (vM k ws tb mp q c _ ?_ Hc.out HHc.out) ?_;(exact zq4);rintro e w1 ⟨rfl,rfl⟩)
 refine zI (fun W'=>IW w W' k ws tb mp q (cdC 5 d a b c n kk xx) 6 0) ⟨zq4,(hpa w _ _).1,(hpa w _ _).2,zq3⟩ ?_
 intro wx hW
 have HW:Hid _:=hW
 have od:wx.cell? ⟨w.heap.size,1,none⟩=some (.int .i64 d):=yI hW.b0 1
 have o0:wx.cell? ⟨w.heap.size+1,0,none⟩=some (.int .i64 6):=yI hW.b1 0
 have o1:wx.cell? ⟨w.heap.size+1,1,none⟩=some (.int .i64 0):=yI hW.b1 1
 have o2:wx.cell? ⟨w.heap.size+1,2,none⟩=some (.int .i64 0):=yI hW.b1 2
 have o3:wx.cell? ⟨w.heap.size+1,3,none⟩=some (.int .i64 0):=yI hW.b1 3
 have o4:wx.cell? ⟨w.heap.size+1,4,none⟩=some (.int .i64 0):=yI hW.b1 4
 have o5:wx.cell? ⟨w.heap.size+1,5,none⟩=some (.int .u32 0):=yI hW.b1 5
 have o6:wx.cell? ⟨w.heap.size+1,6,none⟩=some (.int .i64 0):=yI hW.b1 6
 have ol:=ltb hW.b0
 have om:=ltb hW.b1
 clear hW lh
 go_region_held3 (fun W'=>W'.cell? ⟨w.heap.size,1,none⟩=some (.int .i64 d)∧W'.cell? ⟨w.heap.size+1,0,none⟩=some (.int .i64 6)∧W'.cell? ⟨w.heap.size+1,1,none⟩=some (.int .i64 0)∧W'.cell? ⟨w.heap.size+1,2,none⟩=some (.int .i64 0)∧W'.cell? ⟨w.heap.size+1,3,none⟩=some (.int .i64 0)∧W'.cell? ⟨w.heap.size+1,4,none⟩=some (.int .i64 0)∧W'.cell? ⟨w.heap.size+1,5,none⟩=some (.int .u32 0)∧W'.cell? ⟨w.heap.size+1,6,none⟩=some (.int .i64 0)) (first|(simp[go_sem,rd,r0,r1,r2,r3,r4,r5,r6,rl,rm];done)|(simp[go_sem,pd,p0,p1,p2,p3,p4,p5,p6,pl,pm];done)|(simp[go_sem,od,o0,o1,o2,o3,o4,o5,o6,ol,om];done))
  (first
  | (go_at_call 31;refine Calls.mono (HV.out _) ?_;rintro e w1 ⟨rfl,hb1⟩;have HW1:Hid (IW w w1 k ws tb mp q (cdC 5 d a b c n kk xx) 6 0):=HW.out.nx (vE hb1);have pd:w1.cell? ⟨w.heap.size,1,none⟩=some (.int .i64 d):=yI HW1.out.b0 1;have p0:w1.cell? ⟨w.heap.size+1,0,none⟩=some (.int .i64 6):=yI HW1.out.b1 0;have p1:w1.cell? ⟨w.heap.size+1,1,none⟩=some (.int .i64 0):=yI HW1.out.b1 1;have p2:w1.cell? ⟨w.heap.size+1,2,none⟩=some (.int .i64 0):=yI HW1.out.b1 2;have p3:w1.cell? ⟨w.heap.size+1,3,none⟩=some (.int .i64 0):=yI HW1.out.b1 3;have p4:w1.cell? ⟨w.heap.size+1,4,none⟩=some (.int .i64 0):=yI HW1.out.b1 4;have p5:w1.cell? ⟨w.heap.size+1,5,none⟩=some (.int .u32 0):=yI HW1.out.b1 5;have p6:w1.cell? ⟨w.heap.size+1,6,none⟩=some (.int .i64 0):=yI HW1.out.b1 6;have pl:=ltb HW1.out.b0;have pm:=ltb HW1.out.b1;clear hb1)
  | (go_at_call 86;have HXX:=HW1;refine Calls.mono (zAq k ws tb mp q d v _ ?_ HD.out) ?_;(exact zq15);rintro e w2 ⟨rfl,hq2,hc2⟩;have HQ2:Hid _:=hq2;have HC2:Hid _:=hc2;have rd:w2.cell? ⟨w.heap.size,1,none⟩=some (.int .i64 d):=yI (HW1.out.st hc2 HLR.out HLG.out).b0 1;have r0:w2.cell? ⟨w.heap.size+1,0,none⟩=some (.int .i64 6):=yI (HW1.out.st hc2 HLR.out HLG.out).b1 0;have r1:w2.cell? ⟨w.heap.size+1,1,none⟩=some (.int .i64 0):=yI (HW1.out.st hc2 HLR.out HLG.out).b1 1;have r2:w2.cell? ⟨w.heap.size+1,2,none⟩=some (.int .i64 0):=yI (HW1.out.st hc2 HLR.out HLG.out).b1 2;have r3:w2.cell? ⟨w.heap.size+1,3,none⟩=some (.int .i64 0):=yI (HW1.out.st hc2 HLR.out HLG.out).b1 3;have r4:w2.cell? ⟨w.heap.size+1,4,none⟩=some (.int .i64 0):=yI (HW1.out.st hc2 HLR.out HLG.out).b1 4;have r5:w2.cell? ⟨w.heap.size+1,5,none⟩=some (.int .u32 0):=yI (HW1.out.st hc2 HLR.out HLG.out).b1 5;have r6:w2.cell? ⟨w.heap.size+1,6,none⟩=some (.int .i64 0):=yI (HW1.out.st hc2 HLR.out HLG.out).b1 6;have rl:=ltb (HW1.out.st hc2 HLR.out HLG.out).b0;have rm:=ltb (HW1.out.st hc2 HLR.out HLG.out).b1;clear hq2 hc2))
 all_goals(try go_wp2)
 all_goals go_end0
 all_goals exact⟨rfl,HQ2.out,((HW1.out.ch.mono aS).trans (zJ.trans zq3 (HC2.out.mono zq43)))⟩
theorem zQe(k:QB)(ws tb mp:Value)(q:HQ)(op wv:Int)(ho1:16≤op)(ho2:op≤31)(hwv:op - 16=wv)(d a b c:Nat)(n:Int)(kk xx v:Nat)(w:World)(hq:QW w k ws tb mp q)(hd:d < 16)(ha:a < 16)(hha:q.has a=true)(hb:b < 16)(hhb:q.has b=true)
  (hv:∀ W,Calls Try.prog 31 #[.agg (ovC 4 wv),.int .u32 (q.reg a),.int .u32 (q.reg b),.int .u32 0] W fun e w'=>e=.returned (.int .u32 v)∧Below W.heap.size W w') :
  Calls Try.prog 66 #[.pointer (some ⟨k.h,0,none⟩),.agg (cdC op d a b c n kk xx)] w fun e w'=>e=.returned (.tuple #[])∧QW w' k ws tb mp { q with reg:=upd q.reg d v,has:=upd q.has d true }∧zJ k.own w w':=by
 have HF:∀ w,Hid (Calls Try.prog 61 #[.int .i64 op] w fun e w'=>e=.returned (.tuple #[.string ⟨#[100,97,98]⟩,.int .i64 0,.int .i64 1])∧w=w'):=fun w=>by have h:=yJ op w;rw[show yV op=⟨#[100,97,98],0,1⟩ from by unfold yV;repeat(first|rw[if_pos aO]|rw[if_neg aO])] at h;exact h
 have lh:=hq.h.lt
 have e2:(op==2)=false:=by simp;omega
 have e3:(op==3)=false:=by simp;omega
 have e6:(op==6)=false:=by simp;omega
 have e7:(op==7)=false:=by simp;omega
 have e8:(op==8)=false:=by simp;omega
 have e9:(op==9)=false:=by simp;omega
 have e97:(op==97)=false:=by simp;omega
 have g64:¬64≤op:=aO
 have g48:¬48≤op:=aO
 have g32:¬32≤op:=aO
 have HQ':Hid _:=hq
 have HD:Hid _:=hd
 have HV:Hid _:=hv
 have Ha:Hid _:=ha
 have HHa:Hid _:=hha
 clear ha hha
 have Hb:Hid _:=hb
 have HHb:Hid _:=hhb
 clear hb hhb
 have HLR:Hid _:=hq.r.lt
 have HLG:Hid _:=hq.g.lt
 clear hq hd hv
 go_enter Try.func66,Try.ntmps66
 go_upto_region 6 with first
  | (go_at_call 61;refine Calls.mono (HF _).out ?_;rintro e w1 ⟨rfl,rfl⟩)
  | (go_at_call 64;refine Calls.mono (vM k ws tb mp q a _ ?_ Ha.out HHa.out) ?_;(exact zq4);rintro e w1 ⟨rfl,rfl⟩)
 go_upto_region 8 with first
  | (go_at_call 62;refine Calls.mono (zFg _) ?_;rintro e w1 ⟨rfl,rfl⟩)
  | (go_at_call 64;refine Calls.mono (vM k ws tb mp q b _ ?_ Hb.out HHb.out) ?_;(exact zq4);rintro e w1 ⟨rfl,rfl⟩)
 go_upto_region 19 with first
  | (go_at_call 62;refine Calls.mono (zFh _) ?_;rintro e w1 ⟨rfl,rfl⟩)
 refine zI (fun W'=>IW w W' k ws tb mp q (cdC op d a b c n kk xx) 4 wv) ⟨zq4,(hpa w _ _).1,(hpa w _ _).2,zq3⟩ ?_
 intro wx hW
 have HW:Hid _:=hW
 have od:wx.cell? ⟨w.heap.size,1,none⟩=some (.int .i64 d):=yI hW.b0 1
 have o0:wx.cell? ⟨w.heap.size+1,0,none⟩=some (.int .i64 4):=yI hW.b1 0
 have o1:wx.cell? ⟨w.heap.size+1,1,none⟩=some (.int .i64 wv):=yI hW.b1 1
 have o2:wx.cell? ⟨w.heap.size+1,2,none⟩=some (.int .i64 0):=yI hW.b1 2
 have o3:wx.cell? ⟨w.heap.size+1,3,none⟩=some (.int .i64 0):=yI hW.b1 3
 have o4:wx.cell? ⟨w.heap.size+1,4,none⟩=some (.int .i64 0):=yI hW.b1 4
 have o5:wx.cell? ⟨w.heap.size+1,5,none⟩=some (.int .u32 0):=yI hW.b1 5
 have o6:wx.cell? ⟨w.heap.size+1,6,none⟩=some (.int .i64 0):=yI hW.b1 6
 have ol:=ltb hW.b0
 have om:=ltb hW.b1
 clear hW lh
 go_region_held3 (fun W'=>W'.cell? ⟨w.heap.size,1,none⟩=some (.int .i64 d)∧W'.cell? ⟨w.heap.size+1,0,none⟩=some (.int .i64 4)∧W'.cell? ⟨w.heap.size+1,1,none⟩=some (.int .i64 wv)∧W'.cell? ⟨w.heap.size+1,2,none⟩=some (.int .i64 0)∧W'.cell? ⟨w.heap.size+1,3,none⟩=some (.int .i64 0)∧W'.cell? ⟨w.heap.size+1,4,none⟩=some (.int .i64 0)∧W'.cell? ⟨w.heap.size+1,5,none⟩=some (.int .u32 0)∧W'.cell? ⟨w.heap.size+1,6,none⟩=some (.int .i64 0)) (first|(simp[go_sem,rd,r0,r1,r2,r3,r4,r5,r6,rl,rm];done)|(simp[go_sem,pd,p0,p1,p2,p3,p4,p5,p6,pl,pm];done)|(simp[go_sem,od,o0,o1,o2,o3,o4,o5,o6,ol,om];done))
  (first
  | (go_at_call 31;refine Calls.mono (HV.out _) ?_;rintro e w1 ⟨rfl,hb1⟩;have HW1:Hid (IW w w1 k ws tb mp q (cdC op d a b c n kk xx) 4 wv):=HW.out.nx (vE hb1);have pd:w1.cell? ⟨w.heap.size,1,none⟩=some (.int .i64 d):=yI HW1.out.b0 1;have p0:w1.cell? ⟨w.heap.size+1,0,none⟩=some (.int .i64 4):=yI HW1.out.b1 0;have p1:w1.cell? ⟨w.heap.size+1,1,none⟩=some (.int .i64 wv):=yI HW1.out.b1 1;have p2:w1.cell? ⟨w.heap.size+1,2,none⟩=some (.int .i64 0):=yI HW1.out.b1 2;have p3:w1.cell? ⟨w.heap.size+1,3,none⟩=some (.int .i64 0):=yI HW1.out.b1 3;have p4:w1.cell? ⟨w.heap.size+1,4,none⟩=some (.int .i64 0):=yI HW1.out.b1 4;have p5:w1.cell? ⟨w.heap.size+1,5,none⟩=some (.int .u32 0):=yI HW1.out.b1 5;have p6:w1.cell? ⟨w.heap.size+1,6,none⟩=some (.int .i64 0):=yI HW1.out.b1 6;have pl:=ltb HW1.out.b0;have pm:=ltb HW1.out.b1;clear hb1)
  | (go_at_call 86;have HXX:=HW1;refine Calls.mono (zAq k ws tb mp q d v _ ?_ HD.out) ?_;(exact zq15);rintro e w2 ⟨rfl,hq2,hc2⟩;have HQ2:Hid _:=hq2;have HC2:Hid _:=hc2;have rd:w2.cell? ⟨w.heap.size,1,none⟩=some (.int .i64 d):=yI (HW1.out.st hc2 HLR.out HLG.out).b0 1;have r0:w2.cell? ⟨w.heap.size+1,0,none⟩=some (.int .i64 4):=yI (HW1.out.st hc2 HLR.out HLG.out).b1 0;have r1:w2.cell? ⟨w.heap.size+1,1,none⟩=some (.int .i64 wv):=yI (HW1.out.st hc2 HLR.out HLG.out).b1 1;have r2:w2.cell? ⟨w.heap.size+1,2,none⟩=some (.int .i64 0):=yI (HW1.out.st hc2 HLR.out HLG.out).b1 2;have r3:w2.cell? ⟨w.heap.size+1,3,none⟩=some (.int .i64 0):=yI (HW1.out.st hc2 HLR.out HLG.out).b1 3;have r4:w2.cell? ⟨w.heap.size+1,4,none⟩=some (.int .i64 0):=yI (HW1.out.st hc2 HLR.out HLG.out).b1 4;have r5:w2.cell? ⟨w.heap.size+1,5,none⟩=some (.int .u32 0):=yI (HW1.out.st hc2 HLR.out HLG.out).b1 5;have r6:w2.cell? ⟨w.heap.size+1,6,none⟩=some (.int .i64 0):=yI (HW1.out.st hc2 HLR.out HLG.out).b1 6;have rl:=ltb (HW1.out.st hc2 HLR.out HLG.out).b0;have rm:=ltb (HW1.out.st hc2 HLR.out HLG.out).b1;clear hq2 hc2))
 all_goals(try go_wp2)
 all_goals go_end0
 all_goals exact⟨rfl,HQ2.out,((HW1.out.ch.mono aS).trans (zJ.trans zq3 (HC2.out.mono zq43)))⟩
theorem zSa(k:QB)(ws tb mp:Value)(q:HQ)(op wv:Int)(ho1:32≤op)(ho2:op≤38)(hwv:op - 32=wv)(d a b c:Nat)(n:Int)(kk xx v:Nat)(w:World)(hq:QW w k ws tb mp q)(hd:d < 16)(ha:a < 16)(hha:q.has a=true)
  (hv:∀ W,Calls Try.prog 31 #[.agg (ovC 5 wv),.int .u32 (q.reg a),.int .u32 0,.int .u32 0] W fun e w'=>e=.returned (.int .u32 v)∧Below W.heap.size W w') :
  Calls Try.prog 66 #[.pointer (some ⟨k.h,0,none⟩),.agg (cdC op d a b c n kk xx)] w fun e w'=>e=.returned (.tuple #[])∧QW w' k ws tb mp { q with reg:=upd q.reg d v,has:=upd q.has d true }∧zJ k.own w w':=by
 have HF:∀ w,Hid (Calls Try.prog 61 #[.int .i64 op] w fun e w'=>e=.returned (.tuple #[.string ⟨#[100,97]⟩,.int .i64 0,.int .i64 1])∧w=w'):=fun w=>by have h:=yJ op w;rw[show yV op=⟨#[100,97],0,1⟩ from by unfold yV;repeat(first|rw[if_pos aO]|rw[if_neg aO])] at h;exact h
 have lh:=hq.h.lt
 have e2:(op==2)=false:=by simp;omega
 have e3:(op==3)=false:=by simp;omega
 have e6:(op==6)=false:=by simp;omega
 have e7:(op==7)=false:=by simp;omega
 have e8:(op==8)=false:=by simp;omega
 have e9:(op==9)=false:=by simp;omega
 have e97:(op==97)=false:=by simp;omega
 have g64:¬64≤op:=aO
 have g48:¬48≤op:=aO
 have HQ':Hid _:=hq
 have HD:Hid _:=hd
 have HV:Hid _:=hv
 have Ha:Hid _:=ha
 have HHa:Hid _:=hha
 clear ha hha
 have HLR:Hid _:=hq.r.lt
 have HLG:Hid _:=hq.g.lt
 clear hq hd hv
 go_enter Try.func66,Try.ntmps66
 go_upto_region 6 with first
  | (go_at_call 61;refine Calls.mono (HF _).out ?_;rintro e w1 ⟨rfl,rfl⟩)
  | (go_at_call 64;refine Calls.mono (vM k ws tb mp q a _ ?_ Ha.out HHa.out) ?_;(exact zq4);rintro e w1 ⟨rfl,rfl⟩)
 go_upto_region 8 with first
  | (go_at_call 62;refine Calls.mono (zEp _) ?_;rintro e w1 ⟨rfl,rfl⟩)
 go_upto_region 19 with first
  | (go_at_call 62;refine Calls.mono (zEq _) ?_;rintro e w1 ⟨rfl,rfl⟩)
 refine zI (fun W'=>IW w W' k ws tb mp q (cdC op d a b c n kk xx) 5 wv) ⟨zq4,(hpa w _ _).1,(hpa w _ _).2,zq3⟩ ?_
 intro wx hW
 have HW:Hid _:=hW
 have od:wx.cell? ⟨w.heap.size,1,none⟩=some (.int .i64 d):=yI hW.b0 1
 have o0:wx.cell? ⟨w.heap.size+1,0,none⟩=some (.int .i64 5):=yI hW.b1 0
 have o1:wx.cell? ⟨w.heap.size+1,1,none⟩=some (.int .i64 wv):=yI hW.b1 1
 have o2:wx.cell? ⟨w.heap.size+1,2,none⟩=some (.int .i64 0):=yI hW.b1 2
 have o3:wx.cell? ⟨w.heap.size+1,3,none⟩=some (.int .i64 0):=yI hW.b1 3
 have o4:wx.cell? ⟨w.heap.size+1,4,none⟩=some (.int .i64 0):=yI hW.b1 4
 have o5:wx.cell? ⟨w.heap.size+1,5,none⟩=some (.int .u32 0):=yI hW.b1 5
 have o6:wx.cell? ⟨w.heap.size+1,6,none⟩=some (.int .i64 0):=yI hW.b1 6
 have ol:=ltb hW.b0
 have om:=ltb hW.b1
 clear hW lh
 go_region_held3 (fun W'=>W'.cell? ⟨w.heap.size,1,none⟩=some (.int .i64 d)∧W'.cell? ⟨w.heap.size+1,0,none⟩=some (.int .i64 5)∧W'.cell? ⟨w.heap.size+1,1,none⟩=some (.int .i64 wv)∧W'.cell? ⟨w.heap.size+1,2,none⟩=some (.int .i64 0)∧W'.cell? ⟨w.heap.size+1,3,none⟩=some (.int .i64 0)∧W'.cell? ⟨w.heap.size+1,4,none⟩=some (.int .i64 0)∧W'.cell? ⟨w.heap.size+1,5,none⟩=some (.int .u32 0)∧W'.cell? ⟨w.heap.size+1,6,none⟩=some (.int .i64 0)) (first|(simp[go_sem,rd,r0,r1,r2,r3,r4,r5,r6,rl,rm];done)|(simp[go_sem,pd,p0,p1,p2,p3,p4,p5,p6,pl,pm];done)|(simp[go_sem,od,o0,o1,o2,o3,o4,o5,o6,ol,om];done))
  (first
  | (go_at_call 31;refine Calls.mono (HV.out _) ?_;rintro e w1 ⟨rfl,hb1⟩;have HW1:Hid (IW w w1 k ws tb mp q (cdC op d a b c n kk xx) 5 wv):=HW.out.nx (vE hb1);have pd:w1.cell? ⟨w.heap.size,1,none⟩=some (.int .i64 d):=yI HW1.out.b0 1;have p0:w1.cell? ⟨w.heap.size+1,0,none⟩=some (.int .i64 5):=yI HW1.out.b1 0;have p1:w1.cell? ⟨w.heap.size+1,1,none⟩=some (.int .i64 wv):=yI HW1.out.b1 1;have p2:w1.cell? ⟨w.heap.size+1,2,none⟩=some (.int .i64 0):=yI HW1.out.b1 2;have p3:w1.cell? ⟨w.heap.size+1,3,none⟩=some (.int .i64 0):=yI HW1.out.b1 3;have p4:w1.cell? ⟨w.heap.size+1,4,none⟩=some (.int .i64 0):=yI HW1.out.b1 4;have p5:w1.cell? ⟨w.heap.size+1,5,none⟩=some (.int .u32 0):=yI HW1.out.b1 5;have p6:w1.cell? ⟨w.heap.size+1,6,none⟩=some (.int .i64 0):=yI HW1.out.b1 6;have pl:=ltb HW1.out.b0;have pm:=ltb HW1.out.b1;clear hb1)
  | (go_at_call 86;have HXX:=HW1;refine Calls.mono (zAq k ws tb mp q d v _ ?_ HD.out) ?_;(exact zq15);rintro e w2 ⟨rfl,hq2,hc2⟩;have HQ2:Hid _:=hq2;have HC2:Hid _:=hc2;have rd:w2.cell? ⟨w.heap.size,1,none⟩=some (.int .i64 d):=yI (HW1.out.st hc2 HLR.out HLG.out).b0 1;have r0:w2.cell? ⟨w.heap.size+1,0,none⟩=some (.int .i64 5):=yI (HW1.out.st hc2 HLR.out HLG.out).b1 0;have r1:w2.cell? ⟨w.heap.size+1,1,none⟩=some (.int .i64 wv):=yI (HW1.out.st hc2 HLR.out HLG.out).b1 1;have r2:w2.cell? ⟨w.heap.size+1,2,none⟩=some (.int .i64 0):=yI (HW1.out.st hc2 HLR.out HLG.out).b1 2;have r3:w2.cell? ⟨w.heap.size+1,3,none⟩=some (.int .i64 0):=yI (HW1.out.st hc2 HLR.out HLG.out).b1 3;have r4:w2.cell? ⟨w.heap.size+1,4,none⟩=some (.int .i64 0):=yI (HW1.out.st hc2 HLR.out HLG.out).b1 4;have r5:w2.cell? ⟨w.heap.size+1,5,none⟩=some (.int .u32 0):=yI (HW1.out.st hc2 HLR.out HLG.out).b1 5;have r6:w2.cell? ⟨w.heap.size+1,6,none⟩=some (.int .i64 0):=yI (HW1.out.st hc2 HLR.out HLG.out).b1 6;have rl:=ltb (HW1.out.st hc2 HLR.out HLG.out).b0;have rm:=ltb (HW1.out.st hc2 HLR.out HLG.out).b1;clear hq2 hc2))
 all_goals(try go_wp2)
 all_goals go_end0
 all_goals exact⟨rfl,HQ2.out,((HW1.out.ch.mono aS).trans (zJ.trans zq3 (HC2.out.mono zq43)))⟩
theorem zLN(k:QB)(ws tb mp:Value)(q:HQ)(op wv:Int)(ho1:48≤op)(ho2:op≤60)(hwv:op - 48=wv)(d a b c:Nat)(n:Int)(kk xx v:Nat)(w:World)(hq:QW w k ws tb mp q)(hd:d < 16)(ha:a < 16)(hha:q.has a=true)(hb:b < 16)(hhb:q.has b=true)(hc:c < 16)(hhc:q.has c=true)
  (hv:∀ W,Calls Try.prog 31 #[.agg (ovC 7 wv),.int .u32 (q.reg a),.int .u32 (q.reg b),.int .u32 (q.reg c)] W fun e w'=>e=.returned (.int .u32 v)∧Below W.heap.size W w') :
  Calls Try.prog 66 #[.pointer (some ⟨k.h,0,none⟩),.agg (cdC op d a b c n kk xx)] w fun e w'=>e=.returned (.tuple #[])∧QW w' k ws tb mp { q with reg:=upd q.reg d v,has:=upd q.has d true }∧zJ k.own w w':=by
 have HF:∀ w,Hid (Calls Try.prog 61 #[.int .i64 op] w fun e w'=>e=.returned (.tuple #[.string ⟨#[100,97,98,99]⟩,.int .i64 0,.int .i64 1])∧w=w'):=fun w=>by have h:=yJ op w;rw[show yV op=⟨#[100,97,98,99],0,1⟩ from by unfold yV;repeat(first|rw[if_pos aO]|rw[if_neg aO])] at h;exact h
 have lh:=hq.h.lt
 have e2:(op==2)=false:=by simp;omega
 have e3:(op==3)=false:=by simp;omega
 have e6:(op==6)=false:=by simp;omega
 have e7:(op==7)=false:=by simp;omega
 have e8:(op==8)=false:=by simp;omega
 have e9:(op==9)=false:=by simp;omega
 have e97:(op==97)=false:=by simp;omega
 have g64:¬64≤op:=aO
 have HQ':Hid _:=hq
 have HD:Hid _:=hd
 have HV:Hid _:=hv
 have Ha:Hid _:=ha
 have HHa:Hid _:=hha
 clear ha hha
 have Hb:Hid _:=hb
 have HHb:Hid _:=hhb
 clear hb hhb
 have Hc:Hid _:=hc
 have HHc:Hid _:=hhc
 clear hc hhc
 have HLR:Hid _:=hq.r.lt
 have HLG:Hid _:=hq.g.lt
 clear hq hd hv
 go_enter Try.func66,Try.ntmps66
 go_upto_region 6 with first
  | (go_at_call 61;refine Calls.mono (HF _).out ?_;rintro e w1 ⟨rfl,rfl⟩)
  | (go_at_call 64;refine Calls.mono (vM k ws tb mp q a _ ?_ Ha.out HHa.out) ?_;(exact zq4);rintro e w1 ⟨rfl,rfl⟩)
 go_upto_region 8 with first
  | (go_at_call 62;refine Calls.mono (zCY _) ?_;rintro e w1 ⟨rfl,rfl⟩)
  | (go_at_call 64;refine Calls.mono (vM k ws tb mp q b _ ?_ Hb.out HHb.out) ?_;(exact zq4);rintro e w1 ⟨rfl,rfl⟩)
 go_upto_region 19 with first
  | (go_at_call 62;refine Calls.mono (zCZ _) ?_;rintro e w1 ⟨rfl,rfl⟩)
  | (go_at_call 64;refine Calls.mono (vM k ws tb mp q c _ ?_ Hc.out HHc.out) ?_;(exact zq4);rintro e w1 ⟨rfl,rfl⟩)
 refine zI (fun W'=>IW w W' k ws tb mp q (cdC op d a b c n kk xx) 7 wv) ⟨zq4,(hpa w _ _).1,(hpa w _ _).2,zq3⟩ ?_
 intro wx hW
 have HW:Hid _:=hW
 have od:wx.cell? ⟨w.heap.size,1,none⟩=some (.int .i64 d):=yI hW.b0 1
 have o0:wx.cell? ⟨w.heap.size+1,0,none⟩=some (.int .i64 7):=yI hW.b1 0
 have o1:wx.cell? ⟨w.heap.size+1,1,none⟩=some (.int .i64 wv):=yI hW.b1 1
 have o2:wx.cell? ⟨w.heap.size+1,2,none⟩=some (.int .i64 0):=yI hW.b1 2
 have o3:wx.cell? ⟨w.heap.size+1,3,none⟩=some (.int .i64 0):=yI hW.b1 3
 have o4:wx.cell? ⟨w.heap.size+1,4,none⟩=some (.int .i64 0):=yI hW.b1 4
 have o5:wx.cell? ⟨w.heap.size+1,5,none⟩=some (.int .u32 0):=yI hW.b1 5
 have o6:wx.cell? ⟨w.heap.size+1,6,none⟩=some (.int .i64 0):=yI hW.b1 6
 have ol:=ltb hW.b0
 have om:=ltb hW.b1
 clear hW lh
 go_region_held3 (fun W'=>W'.cell? ⟨w.heap.size,1,none⟩=some (.int .i64 d)∧W'.cell? ⟨w.heap.size+1,0,none⟩=some (.int .i64 7)∧W'.cell? ⟨w.heap.size+1,1,none⟩=some (.int .i64 wv)∧W'.cell? ⟨w.heap.size+1,2,none⟩=some (.int .i64 0)∧W'.cell? ⟨w.heap.size+1,3,none⟩=some (.int .i64 0)∧W'.cell? ⟨w.heap.size+1,4,none⟩=some (.int .i64 0)∧W'.cell? ⟨w.heap.size+1,5,none⟩=some (.int .u32 0)∧W'.cell? ⟨w.heap.size+1,6,none⟩=some (.int .i64 0)) (first|(simp[go_sem,rd,r0,r1,r2,r3,r4,r5,r6,rl,rm];done)|(simp[go_sem,pd,p0,p1,p2,p3,p4,p5,p6,pl,pm];done)|(simp[go_sem,od,o0,o1,o2,o3,o4,o5,o6,ol,om];done))
  (first
  | (go_at_call 31;refine Calls.mono (HV.out _) ?_;rintro e w1 ⟨rfl,hb1⟩;have HW1:Hid (IW w w1 k ws tb mp q (cdC op d a b c n kk xx) 7 wv):=HW.out.nx (vE hb1);have pd:w1.cell? ⟨w.heap.size,1,none⟩=some (.int .i64 d):=yI HW1.out.b0 1;have p0:w1.cell? ⟨w.heap.size+1,0,none⟩=some (.int .i64 7):=yI HW1.out.b1 0;have p1:w1.cell? ⟨w.heap.size+1,1,none⟩=some (.int .i64 wv):=yI HW1.out.b1 1;have p2:w1.cell? ⟨w.heap.size+1,2,none⟩=some (.int .i64 0):=yI HW1.out.b1 2;have p3:w1.cell? ⟨w.heap.size+1,3,none⟩=some (.int .i64 0):=yI HW1.out.b1 3;have p4:w1.cell? ⟨w.heap.size+1,4,none⟩=some (.int .i64 0):=yI HW1.out.b1 4;have p5:w1.cell? ⟨w.heap.size+1,5,none⟩=some (.int .u32 0):=yI HW1.out.b1 5;have p6:w1.cell? ⟨w.heap.size+1,6,none⟩=some (.int .i64 0):=yI HW1.out.b1 6;have pl:=ltb HW1.out.b0;have pm:=ltb HW1.out.b1;clear hb1)
  | (go_at_call 86;have HXX:=HW1;refine Calls.mono (zAq k ws tb mp q d v _ ?_ HD.out) ?_;(exact zq15);rintro e w2 ⟨rfl,hq2,hc2⟩;have HQ2:Hid _:=hq2;have HC2:Hid _:=hc2;have rd:w2.cell? ⟨w.heap.size,1,none⟩=some (.int .i64 d):=yI (HW1.out.st hc2 HLR.out HLG.out).b0 1;have r0:w2.cell? ⟨w.heap.size+1,0,none⟩=some (.int .i64 7):=yI (HW1.out.st hc2 HLR.out HLG.out).b1 0;have r1:w2.cell? ⟨w.heap.size+1,1,none⟩=some (.int .i64 wv):=yI (HW1.out.st hc2 HLR.out HLG.out).b1 1;have r2:w2.cell? ⟨w.heap.size+1,2,none⟩=some (.int .i64 0):=yI (HW1.out.st hc2 HLR.out HLG.out).b1 2;have r3:w2.cell? ⟨w.heap.size+1,3,none⟩=some (.int .i64 0):=yI (HW1.out.st hc2 HLR.out HLG.out).b1 3;have r4:w2.cell? ⟨w.heap.size+1,4,none⟩=some (.int .i64 0):=yI (HW1.out.st hc2 HLR.out HLG.out).b1 4;have r5:w2.cell? ⟨w.heap.size+1,5,none⟩=some (.int .u32 0):=yI (HW1.out.st hc2 HLR.out HLG.out).b1 5;have r6:w2.cell? ⟨w.heap.size+1,6,none⟩=some (.int .i64 0):=yI (HW1.out.st hc2 HLR.out HLG.out).b1 6;have rl:=ltb (HW1.out.st hc2 HLR.out HLG.out).b0;have rm:=ltb (HW1.out.st hc2 HLR.out HLG.out).b1;clear hq2 hc2))
 all_goals(try go_wp2)
 all_goals go_end0
 all_goals exact⟨rfl,HQ2.out,((HW1.out.ch.mono aS).trans (zJ.trans zq3 (HC2.out.mono zq43)))⟩
theorem zNN(k:QB)(ws tb mp:Value)(q:HQ)(op wv:Int)(ho1:64≤op)(ho2:op≤79)(hwv:op - 64=wv)(d a b c:Nat)(n:Int)(kk xx v:Nat)(w:World)(hq:QW w k ws tb mp q)(hd:d < 16)(ha:a < 16)(hha:q.has a=true)
  (hv:∀ W,Calls Try.prog 31 #[.agg (ovC 8 wv),.int .u32 (q.reg a),.int .u32 0,.int .u32 0] W fun e w'=>e=.returned (.int .u32 v)∧Below W.heap.size W w') :
  Calls Try.prog 66 #[.pointer (some ⟨k.h,0,none⟩),.agg (cdC op d a b c n kk xx)] w fun e w'=>e=.returned (.tuple #[])∧QW w' k ws tb mp { q with reg:=upd q.reg d v,has:=upd q.has d true }∧zJ k.own w w':=by
 have HF:∀ w,Hid (Calls Try.prog 61 #[.int .i64 op] w fun e w'=>e=.returned (.tuple #[.string ⟨#[100,97]⟩,.int .i64 0,.int .i64 1])∧w=w'):=fun w=>by have h:=yJ op w;rw[show yV op=⟨#[100,97],0,1⟩ from by unfold yV;repeat(first|rw[if_pos aO]|rw[if_neg aO])] at h;exact h
 have lh:=hq.h.lt
 have e2:(op==2)=false:=by simp;omega
 have e3:(op==3)=false:=by simp;omega
 have e6:(op==6)=false:=by simp;omega
 have e7:(op==7)=false:=by simp;omega
 have e8:(op==8)=false:=by simp;omega
 have e9:(op==9)=false:=by simp;omega
 have e97:(op==97)=false:=by simp;omega
 have HQ':Hid _:=hq
 have HD:Hid _:=hd
 have HV:Hid _:=hv
 have Ha:Hid _:=ha
 have HHa:Hid _:=hha
 clear ha hha
 have HLR:Hid _:=hq.r.lt
 have HLG:Hid _:=hq.g.lt
 clear hq hd hv
 go_enter Try.func66,Try.ntmps66
 go_upto_region 6 with first
  | (go_at_call 61;refine Calls.mono (HF _).out ?_;rintro e w1 ⟨rfl,rfl⟩)
  | (go_at_call 64;refine Calls.mono (vM k ws tb mp q a _ ?_ Ha.out HHa.out) ?_;(exact zq4);rintro e w1 ⟨rfl,rfl⟩)
 go_upto_region 8 with first
  | (go_at_call 62;refine Calls.mono (zEp _) ?_;rintro e w1 ⟨rfl,rfl⟩)
 go_upto_region 19 with first
  | (go_at_call 62;refine Calls.mono (zEq _) ?_;rintro e w1 ⟨rfl,rfl⟩)
 refine zI (fun W'=>IW w W' k ws tb mp q (cdC op d a b c n kk xx) 8 wv) ⟨zq4,(hpa w _ _).1,(hpa w _ _).2,zq3⟩ ?_
 intro wx hW
 have HW:Hid _:=hW
 have od:wx.cell? ⟨w.heap.size,1,none⟩=some (.int .i64 d):=yI hW.b0 1
 have o0:wx.cell? ⟨w.heap.size+1,0,none⟩=some (.int .i64 8):=yI hW.b1 0
 have o1:wx.cell? ⟨w.heap.size+1,1,none⟩=some (.int .i64 wv):=yI hW.b1 1
 have o2:wx.cell? ⟨w.heap.size+1,2,none⟩=some (.int .i64 0):=yI hW.b1 2
 have o3:wx.cell? ⟨w.heap.size+1,3,none⟩=some (.int .i64 0):=yI hW.b1 3
 have o4:wx.cell? ⟨w.heap.size+1,4,none⟩=some (.int .i64 0):=yI hW.b1 4
 have o5:wx.cell? ⟨w.heap.size+1,5,none⟩=some (.int .u32 0):=yI hW.b1 5
 have o6:wx.cell? ⟨w.heap.size+1,6,none⟩=some (.int .i64 0):=yI hW.b1 6
 have ol:=ltb hW.b0
 have om:=ltb hW.b1
 clear hW lh
 go_region_held3 (fun W'=>W'.cell? ⟨w.heap.size,1,none⟩=some (.int .i64 d)∧W'.cell? ⟨w.heap.size+1,0,none⟩=some (.int .i64 8)∧W'.cell? ⟨w.heap.size+1,1,none⟩=some (.int .i64 wv)∧W'.cell? ⟨w.heap.size+1,2,none⟩=some (.int .i64 0)∧W'.cell? ⟨w.heap.size+1,3,none⟩=some (.int .i64 0)∧W'.cell? ⟨w.heap.size+1,4,none⟩=some (.int .i64 0)∧W'.cell? ⟨w.heap.size+1,5,none⟩=some (.int .u32 0)∧W'.cell? ⟨w.heap.size+1,6,none⟩=some (.int .i64 0)) (first|(simp[go_sem,rd,r0,r1,r2,r3,r4,r5,r6,rl,rm];done)|(simp[go_sem,pd,p0,p1,p2,p3,p4,p5,p6,pl,pm];done)|(simp[go_sem,od,o0,o1,o2,o3,o4,o5,o6,ol,om];done))
  (first
  | (go_at_call 31;refine Calls.mono (HV.out _) ?_;rintro e w1 ⟨rfl,hb1⟩;have HW1:Hid (IW w w1 k ws tb mp q (cdC op d a b c n kk xx) 8 wv):=HW.out.nx (vE hb1);have pd:w1.cell? ⟨w.heap.size,1,none⟩=some (.int .i64 d):=yI HW1.out.b0 1;have p0:w1.cell? ⟨w.heap.size+1,0,none⟩=some (.int .i64 8):=yI HW1.out.b1 0;have p1:w1.cell? ⟨w.heap.size+1,1,none⟩=some (.int .i64 wv):=yI HW1.out.b1 1;have p2:w1.cell? ⟨w.heap.size+1,2,none⟩=some (.int .i64 0):=yI HW1.out.b1 2;have p3:w1.cell? ⟨w.heap.size+1,3,none⟩=some (.int .i64 0):=yI HW1.out.b1 3;have p4:w1.cell? ⟨w.heap.size+1,4,none⟩=some (.int .i64 0):=yI HW1.out.b1 4;have p5:w1.cell? ⟨w.heap.size+1,5,none⟩=some (.int .u32 0):=yI HW1.out.b1 5;have p6:w1.cell? ⟨w.heap.size+1,6,none⟩=some (.int .i64 0):=yI HW1.out.b1 6;have pl:=ltb HW1.out.b0;have pm:=ltb HW1.out.b1;clear hb1)
  | (go_at_call 86;have HXX:=HW1;refine Calls.mono (zAq k ws tb mp q d v _ ?_ HD.out) ?_;(exact zq15);rintro e w2 ⟨rfl,hq2,hc2⟩;have HQ2:Hid _:=hq2;have HC2:Hid _:=hc2;have rd:w2.cell? ⟨w.heap.size,1,none⟩=some (.int .i64 d):=yI (HW1.out.st hc2 HLR.out HLG.out).b0 1;have r0:w2.cell? ⟨w.heap.size+1,0,none⟩=some (.int .i64 8):=yI (HW1.out.st hc2 HLR.out HLG.out).b1 0;have r1:w2.cell? ⟨w.heap.size+1,1,none⟩=some (.int .i64 wv):=yI (HW1.out.st hc2 HLR.out HLG.out).b1 1;have r2:w2.cell? ⟨w.heap.size+1,2,none⟩=some (.int .i64 0):=yI (HW1.out.st hc2 HLR.out HLG.out).b1 2;have r3:w2.cell? ⟨w.heap.size+1,3,none⟩=some (.int .i64 0):=yI (HW1.out.st hc2 HLR.out HLG.out).b1 3;have r4:w2.cell? ⟨w.heap.size+1,4,none⟩=some (.int .i64 0):=yI (HW1.out.st hc2 HLR.out HLG.out).b1 4;have r5:w2.cell? ⟨w.heap.size+1,5,none⟩=some (.int .u32 0):=yI (HW1.out.st hc2 HLR.out HLG.out).b1 5;have r6:w2.cell? ⟨w.heap.size+1,6,none⟩=some (.int .i64 0):=yI (HW1.out.st hc2 HLR.out HLG.out).b1 6;have rl:=ltb (HW1.out.st hc2 HLR.out HLG.out).b0;have rm:=ltb (HW1.out.st hc2 HLR.out HLG.out).b1;clear hq2 hc2))
 all_goals(try go_wp2)
 all_goals go_end0
 all_goals exact⟨rfl,HQ2.out,((HW1.out.ch.mono aS).trans (zJ.trans zq3 (HC2.out.mono zq43)))⟩
end Go.Proofs.Ytkmjenjahbicpaa.Ho
