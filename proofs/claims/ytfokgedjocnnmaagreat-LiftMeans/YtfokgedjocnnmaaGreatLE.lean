import Derived.Test.YtfokgedjocnnmaaGreatLC
import Derived.Handy
set_option linter.unusedVariables false
set_option linter.unusedSimpArgs false
set_option maxHeartbeats 4000000
namespace Go.Proofs.YtfokgedjocnnmaaGreat
open Go.RowKit
set_option maxRecDepth 100000
theorem tell1(k:BK)(U:Nat)(x:XI)(l:List OpR)(m:Int)(kk P cap:Nat)(A:Array Value)(va:Int)(w:World)(h:TU w k U x l)(hm:Ln l m)(hmx:m+40 < 90000)(hP:w.heap[P]?=some (.cells A 3))(hA0:A[0]?=some (.int .i64 va))(hnP:P≠k.B)(hkk:kk < 100) :
    Calls Tryz.prog 78 #[.pointer (some ⟨U,0,none⟩),.int .i64 kk,.slice (some ⟨P,0,none⟩) 1 cap] w fun e w'=>e=.returned (.tuple #[])∧Em w w' k U x (((l++[⟨1,0,0,0,0,kk,0⟩])++[⟨3,8,m,0,0,0,0⟩])++[⟨3,9,va,0,0,0,0⟩]):=by
  obtain⟨u0,u1,u2,u3,u4,u5,u6,u7,u8,u9⟩:=h.cells
  have HP0:Hid _:=hP
  have HNP:Hid _:=hnP
  have g0:(0:Int)≤(kk:Int):=zo
  have g1:(kk:Int) < 100:=zo
  have HA0:Hid _:=hA0
  have pp0_0:w.cell? ⟨P,0,none⟩=some (.int .i64 va):=(row_cell hP 0).trans hA0
  clear hP hnP hkk hA0
  have HT:Hid _:=h
  have HM0:Hid (Ln l m):=hm
  have HM1:Hid (Ln (l++[⟨1,0,0,0,0,kk,0⟩]) (m+1)):=HM0.out.next zo _
  have HM2:Hid (Ln ((l++[⟨1,0,0,0,0,kk,0⟩])++[⟨3,8,m,0,0,0,0⟩]) (m+1+1)):=HM1.out.next zo _
  have HM3:Hid (Ln (((l++[⟨1,0,0,0,0,kk,0⟩])++[⟨3,8,m,0,0,0,0⟩])++[⟨3,9,va,0,0,0,0⟩]) (m+1+1+1)):=HM2.out.next zo _
  clear h hm
  clear hmx
  go_enter Tryz.func78,Tryz.ntmps78
  go_wp2_with (first
      | (have HQ2:=H1;go_at_call 50;refine(put_m k U x _ (m+1) 8 (m) _ H1.out.t HM1.out).mono ?_;rintro e w2 ⟨rfl,h2⟩;have H2:Hid _:=h2;obtain⟨q0,q1,q2,q3,q4,q5,q6,q7,q8,q9⟩:=h2.t.cells;have HP2:Hid (w2.heap[P]?=some (.cells A 3)):=h2.kp.keep _ _ _ HP1.out HNP.out (by decide);have pp2_0:w2.cell? ⟨P,0,none⟩=some (.int .i64 va):=(row_cell HP2.out 0).trans HA0.out;clear h2 HQ2)
      | (go_at_call 49;refine(number_m k U x _ (m) kk _ ?_ HM0.out).mono ?_;(have hT:=HT.out;(exact zq16));rintro e w1 ⟨rfl,h1⟩;have H1:Hid _:=h1;obtain⟨v0,v1,v2,v3,v4,v5,v6,v7,v8,v9⟩:=h1.t.cells;have HP1:Hid (w1.heap[P]?=some (.cells A 3)):=h1.kp.keep _ _ _ HP0.out HNP.out (by decide);have pp1_0:w1.cell? ⟨P,0,none⟩=some (.int .i64 va):=(row_cell HP1.out 0).trans HA0.out;clear h1))
  refine wp_loop_rounds 2 ?_
  rw[rounds_succ]
  go_wp2_with (have HQ3:=H2;go_at_call 50;refine(put_m k U x _ (m+1+1) 9 (va) _ H2.out.t HM2.out).mono ?_;rintro e w3 ⟨rfl,h3⟩;have H3:Hid _:=h3;obtain⟨r0,r1,r2,r3,r4,r5,r6,r7,r8,r9⟩:=h3.t.cells;have HP3:Hid (w3.heap[P]?=some (.cells A 3)):=h3.kp.keep _ _ _ HP2.out HNP.out (by decide);have pp3_0:w3.cell? ⟨P,0,none⟩=some (.int .i64 va):=(row_cell HP3.out 0).trans HA0.out;clear h3 HQ3)
  rw[rounds_succ]
  go_wp2_with fail
  go_end0
  exact⟨rfl,by first|exact(((H1.out)).trans H2.out).trans H3.out|exact(((Em.first HT.out H1.out)).trans H2.out).trans H3.out|exact(((Em.firstA HT.out H1.out)).trans H2.out).trans H3.out⟩
theorem tell2(k:BK)(U:Nat)(x:XI)(l:List OpR)(m:Int)(kk P cap:Nat)(A:Array Value)(va vb:Int)(w:World)(h:TU w k U x l)(hm:Ln l m)(hmx:m+40 < 90000)(hP:w.heap[P]?=some (.cells A 3))(hA0:A[0]?=some (.int .i64 va))(hA1:A[1]?=some (.int .i64 vb))(hnP:P≠k.B)(hkk:kk < 100) :
    Calls Tryz.prog 78 #[.pointer (some ⟨U,0,none⟩),.int .i64 kk,.slice (some ⟨P,0,none⟩) 2 cap] w fun e w'=>e=.returned (.tuple #[])∧Em w w' k U x ((((l++[⟨1,0,0,0,0,kk,0⟩])++[⟨3,8,m,0,0,0,0⟩])++[⟨3,9,va,0,0,0,0⟩])++[⟨3,10,vb,0,0,0,0⟩]):=by
  obtain⟨u0,u1,u2,u3,u4,u5,u6,u7,u8,u9⟩:=h.cells
  have HP0:Hid _:=hP
  have HNP:Hid _:=hnP
  have g0:(0:Int)≤(kk:Int):=zo
  have g1:(kk:Int) < 100:=zo
  have HA0:Hid _:=hA0
  have HA1:Hid _:=hA1
  have pp0_0:w.cell? ⟨P,0,none⟩=some (.int .i64 va):=(row_cell hP 0).trans hA0
  have pp0_1:w.cell? ⟨P,1,none⟩=some (.int .i64 vb):=(row_cell hP 1).trans hA1
  clear hP hnP hkk hA0 hA1
  have HT:Hid _:=h
  have HM0:Hid (Ln l m):=hm
  have HM1:Hid (Ln (l++[⟨1,0,0,0,0,kk,0⟩]) (m+1)):=HM0.out.next zo _
  have HM2:Hid (Ln ((l++[⟨1,0,0,0,0,kk,0⟩])++[⟨3,8,m,0,0,0,0⟩]) (m+1+1)):=HM1.out.next zo _
  have HM3:Hid (Ln (((l++[⟨1,0,0,0,0,kk,0⟩])++[⟨3,8,m,0,0,0,0⟩])++[⟨3,9,va,0,0,0,0⟩]) (m+1+1+1)):=HM2.out.next zo _
  have HM4:Hid (Ln ((((l++[⟨1,0,0,0,0,kk,0⟩])++[⟨3,8,m,0,0,0,0⟩])++[⟨3,9,va,0,0,0,0⟩])++[⟨3,10,vb,0,0,0,0⟩]) (m+1+1+1+1)):=HM3.out.next zo _
  clear h hm
  clear hmx
  go_enter Tryz.func78,Tryz.ntmps78
  go_wp2_with (first
      | (have HQ2:=H1;go_at_call 50;refine(put_m k U x _ (m+1) 8 (m) _ H1.out.t HM1.out).mono ?_;rintro e w2 ⟨rfl,h2⟩;have H2:Hid _:=h2;obtain⟨q0,q1,q2,q3,q4,q5,q6,q7,q8,q9⟩:=h2.t.cells;have HP2:Hid (w2.heap[P]?=some (.cells A 3)):=h2.kp.keep _ _ _ HP1.out HNP.out (by decide);have pp2_0:w2.cell? ⟨P,0,none⟩=some (.int .i64 va):=(row_cell HP2.out 0).trans HA0.out;have pp2_1:w2.cell? ⟨P,1,none⟩=some (.int .i64 vb):=(row_cell HP2.out 1).trans HA1.out;clear h2 HQ2)
      | (go_at_call 49;refine(number_m k U x _ (m) kk _ ?_ HM0.out).mono ?_;(have hT:=HT.out;(exact zq16));rintro e w1 ⟨rfl,h1⟩;have H1:Hid _:=h1;obtain⟨v0,v1,v2,v3,v4,v5,v6,v7,v8,v9⟩:=h1.t.cells;have HP1:Hid (w1.heap[P]?=some (.cells A 3)):=h1.kp.keep _ _ _ HP0.out HNP.out (by decide);have pp1_0:w1.cell? ⟨P,0,none⟩=some (.int .i64 va):=(row_cell HP1.out 0).trans HA0.out;have pp1_1:w1.cell? ⟨P,1,none⟩=some (.int .i64 vb):=(row_cell HP1.out 1).trans HA1.out;clear h1))
  refine wp_loop_rounds 3 ?_
  rw[rounds_succ]
  go_wp2_with (have HQ3:=H2;go_at_call 50;refine(put_m k U x _ (m+1+1) 9 (va) _ H2.out.t HM2.out).mono ?_;rintro e w3 ⟨rfl,h3⟩;have H3:Hid _:=h3;obtain⟨r0,r1,r2,r3,r4,r5,r6,r7,r8,r9⟩:=h3.t.cells;have HP3:Hid (w3.heap[P]?=some (.cells A 3)):=h3.kp.keep _ _ _ HP2.out HNP.out (by decide);have pp3_0:w3.cell? ⟨P,0,none⟩=some (.int .i64 va):=(row_cell HP3.out 0).trans HA0.out;have pp3_1:w3.cell? ⟨P,1,none⟩=some (.int .i64 vb):=(row_cell HP3.out 1).trans HA1.out;clear h3 HQ3)
  rw[rounds_succ]
  go_wp2_with (have HQ4:=H3;go_at_call 50;refine(put_m k U x _ (m+1+1+1) 10 (vb) _ H3.out.t HM3.out).mono ?_;rintro e w4 ⟨rfl,h4⟩;have H4:Hid _:=h4;obtain⟨s0,s1,s2,s3,s4,s5,s6,s7,s8,s9⟩:=h4.t.cells;have HP4:Hid (w4.heap[P]?=some (.cells A 3)):=h4.kp.keep _ _ _ HP3.out HNP.out (by decide);have pp4_0:w4.cell? ⟨P,0,none⟩=some (.int .i64 va):=(row_cell HP4.out 0).trans HA0.out;have pp4_1:w4.cell? ⟨P,1,none⟩=some (.int .i64 vb):=(row_cell HP4.out 1).trans HA1.out;clear h4 HQ4)
  rw[rounds_succ]
  go_wp2_with fail
  go_end0
  exact⟨rfl,by first|exact((((H1.out)).trans H2.out).trans H3.out).trans H4.out|exact((((Em.first HT.out H1.out)).trans H2.out).trans H3.out).trans H4.out|exact((((Em.firstA HT.out H1.out)).trans H2.out).trans H3.out).trans H4.out⟩
theorem tell3(k:BK)(U:Nat)(x:XI)(l:List OpR)(m:Int)(kk P cap:Nat)(A:Array Value)(va vb vc:Int)(w:World)(h:TU w k U x l)(hm:Ln l m)(hmx:m+40 < 90000)(hP:w.heap[P]?=some (.cells A 3))(hA0:A[0]?=some (.int .i64 va))(hA1:A[1]?=some (.int .i64 vb))(hA2:A[2]?=some (.int .i64 vc))(hnP:P≠k.B)(hkk:kk < 100) :
    Calls Tryz.prog 78 #[.pointer (some ⟨U,0,none⟩),.int .i64 kk,.slice (some ⟨P,0,none⟩) 3 cap] w fun e w'=>e=.returned (.tuple #[])∧Em w w' k U x (((((l++[⟨1,0,0,0,0,kk,0⟩])++[⟨3,8,m,0,0,0,0⟩])++[⟨3,9,va,0,0,0,0⟩])++[⟨3,10,vb,0,0,0,0⟩])++[⟨3,11,vc,0,0,0,0⟩]):=by
  obtain⟨u0,u1,u2,u3,u4,u5,u6,u7,u8,u9⟩:=h.cells
  have HP0:Hid _:=hP
  have HNP:Hid _:=hnP
  have g0:(0:Int)≤(kk:Int):=zo
  have g1:(kk:Int) < 100:=zo
  have HA0:Hid _:=hA0
  have HA1:Hid _:=hA1
  have HA2:Hid _:=hA2
  have pp0_0:w.cell? ⟨P,0,none⟩=some (.int .i64 va):=(row_cell hP 0).trans hA0
  have pp0_1:w.cell? ⟨P,1,none⟩=some (.int .i64 vb):=(row_cell hP 1).trans hA1
  have pp0_2:w.cell? ⟨P,2,none⟩=some (.int .i64 vc):=(row_cell hP 2).trans hA2
  clear hP hnP hkk hA0 hA1 hA2
  have HT:Hid _:=h
  have HM0:Hid (Ln l m):=hm
  have HM1:Hid (Ln (l++[⟨1,0,0,0,0,kk,0⟩]) (m+1)):=HM0.out.next zo _
  have HM2:Hid (Ln ((l++[⟨1,0,0,0,0,kk,0⟩])++[⟨3,8,m,0,0,0,0⟩]) (m+1+1)):=HM1.out.next zo _
  have HM3:Hid (Ln (((l++[⟨1,0,0,0,0,kk,0⟩])++[⟨3,8,m,0,0,0,0⟩])++[⟨3,9,va,0,0,0,0⟩]) (m+1+1+1)):=HM2.out.next zo _
  have HM4:Hid (Ln ((((l++[⟨1,0,0,0,0,kk,0⟩])++[⟨3,8,m,0,0,0,0⟩])++[⟨3,9,va,0,0,0,0⟩])++[⟨3,10,vb,0,0,0,0⟩]) (m+1+1+1+1)):=HM3.out.next zo _
  have HM5:Hid (Ln (((((l++[⟨1,0,0,0,0,kk,0⟩])++[⟨3,8,m,0,0,0,0⟩])++[⟨3,9,va,0,0,0,0⟩])++[⟨3,10,vb,0,0,0,0⟩])++[⟨3,11,vc,0,0,0,0⟩]) (m+1+1+1+1+1)):=HM4.out.next zo _
  clear h hm
  clear hmx
  go_enter Tryz.func78,Tryz.ntmps78
  go_wp2_with (first
      | (have HQ2:=H1;go_at_call 50;refine(put_m k U x _ (m+1) 8 (m) _ H1.out.t HM1.out).mono ?_;rintro e w2 ⟨rfl,h2⟩;have H2:Hid _:=h2;obtain⟨q0,q1,q2,q3,q4,q5,q6,q7,q8,q9⟩:=h2.t.cells;have HP2:Hid (w2.heap[P]?=some (.cells A 3)):=h2.kp.keep _ _ _ HP1.out HNP.out (by decide);have pp2_0:w2.cell? ⟨P,0,none⟩=some (.int .i64 va):=(row_cell HP2.out 0).trans HA0.out;have pp2_1:w2.cell? ⟨P,1,none⟩=some (.int .i64 vb):=(row_cell HP2.out 1).trans HA1.out;have pp2_2:w2.cell? ⟨P,2,none⟩=some (.int .i64 vc):=(row_cell HP2.out 2).trans HA2.out;clear h2 HQ2)
      | (go_at_call 49;refine(number_m k U x _ (m) kk _ ?_ HM0.out).mono ?_;(have hT:=HT.out;(exact zq16));rintro e w1 ⟨rfl,h1⟩;have H1:Hid _:=h1;obtain⟨v0,v1,v2,v3,v4,v5,v6,v7,v8,v9⟩:=h1.t.cells;have HP1:Hid (w1.heap[P]?=some (.cells A 3)):=h1.kp.keep _ _ _ HP0.out HNP.out (by decide);have pp1_0:w1.cell? ⟨P,0,none⟩=some (.int .i64 va):=(row_cell HP1.out 0).trans HA0.out;have pp1_1:w1.cell? ⟨P,1,none⟩=some (.int .i64 vb):=(row_cell HP1.out 1).trans HA1.out;have pp1_2:w1.cell? ⟨P,2,none⟩=some (.int .i64 vc):=(row_cell HP1.out 2).trans HA2.out;clear h1))
  refine wp_loop_rounds 4 ?_
  rw[rounds_succ]
  go_wp2_with (have HQ3:=H2;go_at_call 50;refine(put_m k U x _ (m+1+1) 9 (va) _ H2.out.t HM2.out).mono ?_;rintro e w3 ⟨rfl,h3⟩;have H3:Hid _:=h3;obtain⟨r0,r1,r2,r3,r4,r5,r6,r7,r8,r9⟩:=h3.t.cells;have HP3:Hid (w3.heap[P]?=some (.cells A 3)):=h3.kp.keep _ _ _ HP2.out HNP.out (by decide);have pp3_0:w3.cell? ⟨P,0,none⟩=some (.int .i64 va):=(row_cell HP3.out 0).trans HA0.out;have pp3_1:w3.cell? ⟨P,1,none⟩=some (.int .i64 vb):=(row_cell HP3.out 1).trans HA1.out;have pp3_2:w3.cell? ⟨P,2,none⟩=some (.int .i64 vc):=(row_cell HP3.out 2).trans HA2.out;clear h3 HQ3)
  rw[rounds_succ]
  go_wp2_with (have HQ4:=H3;go_at_call 50;refine(put_m k U x _ (m+1+1+1) 10 (vb) _ H3.out.t HM3.out).mono ?_;rintro e w4 ⟨rfl,h4⟩;have H4:Hid _:=h4;obtain⟨s0,s1,s2,s3,s4,s5,s6,s7,s8,s9⟩:=h4.t.cells;have HP4:Hid (w4.heap[P]?=some (.cells A 3)):=h4.kp.keep _ _ _ HP3.out HNP.out (by decide);have pp4_0:w4.cell? ⟨P,0,none⟩=some (.int .i64 va):=(row_cell HP4.out 0).trans HA0.out;have pp4_1:w4.cell? ⟨P,1,none⟩=some (.int .i64 vb):=(row_cell HP4.out 1).trans HA1.out;have pp4_2:w4.cell? ⟨P,2,none⟩=some (.int .i64 vc):=(row_cell HP4.out 2).trans HA2.out;clear h4 HQ4)
  rw[rounds_succ]
  go_wp2_with (have HQ5:=H4;go_at_call 50;refine(put_m k U x _ (m+1+1+1+1) 11 (vc) _ H4.out.t HM4.out).mono ?_;rintro e w5 ⟨rfl,h5⟩;have H5:Hid _:=h5;obtain⟨t0,t1,t2,t3,t4,t5,t6,t7,t8,t9⟩:=h5.t.cells;have HP5:Hid (w5.heap[P]?=some (.cells A 3)):=h5.kp.keep _ _ _ HP4.out HNP.out (by decide);have pp5_0:w5.cell? ⟨P,0,none⟩=some (.int .i64 va):=(row_cell HP5.out 0).trans HA0.out;have pp5_1:w5.cell? ⟨P,1,none⟩=some (.int .i64 vb):=(row_cell HP5.out 1).trans HA1.out;have pp5_2:w5.cell? ⟨P,2,none⟩=some (.int .i64 vc):=(row_cell HP5.out 2).trans HA2.out;clear h5 HQ5)
  rw[rounds_succ]
  go_wp2_with fail
  go_end0
  exact⟨rfl,by first|exact(((((H1.out)).trans H2.out).trans H3.out).trans H4.out).trans H5.out|exact(((((Em.first HT.out H1.out)).trans H2.out).trans H3.out).trans H4.out).trans H5.out|exact(((((Em.firstA HT.out H1.out)).trans H2.out).trans H3.out).trans H4.out).trans H5.out⟩
theorem TU.ltB{w:World}{k:BK}{U:Nat}{x:XI}{l:List OpR}(h:TU w k U x l):k.B < w.heap.size:=by obtain⟨sv,hs⟩:=h.lb.ex;exact row_lt hs.b
theorem Em.firstAD{w w':World}{k:BK}{U:Nat}{x:XI}{l l':List OpR}{o:Obj}(h:TU w k U x l)(g:Em (w.alloc o).drew w' k U x l'):Em w w' k U x l':=((Em.refl h).alloc o).drew.trans g
theorem pushes14(k:BK)(U:Nat)(x:XI)(l:List OpR)(m:Int)  (w:World)(h:TU w k U x l)(hm:Ln l m)(hmx:m+80 < 90000)(hd:0≤x.done∧x.done≤64)(hop:x.op=14) :
    Calls Tryz.prog 46 #[.pointer (some ⟨U,0,none⟩)] w fun e w'=>e=.returned (.tuple #[])∧Em w w' k U x (qa29 l m x):=by
  obtain⟨u0,u1,u2,u3,u4,u5,u6,u7,u8,u9⟩:=h.cells
  have lU:=row_lt h.bU
  have HNP:Hid (w.heap.size≠k.B):=show w.heap.size≠k.B by have:=h.ltB;omega
  have HP0:Hid ((w.alloc (.cells #[.int .i64 x.op,.int .i64 x.D,.int .i64 x.S,.int .i64 x.O,.int .u32 x.im] 58)).heap[w.heap.size]?=some (.cells #[.int .i64 x.op,.int .i64 x.D,.int .i64 x.S,.int .i64 x.O,.int .u32 x.im] 58)):=heap_alloc_last w _
  have HDN:Hid _:=hd
  have HMX:Hid (m+80 < 90000):=hmx
  have HWR:Hid _:=wrap_done x.done hd.1 hd.2
  have k14:(x.op==14)=true:=by simp[hop]
  clear hop
  have HT:Hid _:=h
  have HM0:Hid (Ln l m):=hm
  have HM1:Hid (Ln (l++[⟨2,x.S,0,0,0,0,0⟩]) (m+1)):=HM0.out.next zo _
  have HM2:Hid (Ln ((l++[⟨2,x.S,0,0,0,0,0⟩])++[⟨2,7,0,0,0,0,0⟩]) (m+1+1)):=HM1.out.next zo _
  have HM3:Hid (Ln (((l++[⟨2,x.S,0,0,0,0,0⟩])++[⟨2,7,0,0,0,0,0⟩])++[⟨1,0,0,0,0,4,0⟩]) (m+1+1+1)):=HM2.out.next zo _
  have HM4:Hid (Ln ((((l++[⟨2,x.S,0,0,0,0,0⟩])++[⟨2,7,0,0,0,0,0⟩])++[⟨1,0,0,0,0,4,0⟩])++[⟨4,1,m+1,m+1+1,0,0,0⟩]) (m+1+1+1+1)):=HM3.out.next zo _
  have HM5:Hid (Ln (qa9 l m x) (m+1+1+1+1+1)):=HM4.out.next zo _
  have HM6:Hid (Ln ((qa9 l m x)++[⟨3,7,m+1+1+1,0,0,0,0⟩]) (m+1+1+1+1+1+1)):=HM5.out.next zo _
  have HM7:Hid (Ln (qa29 l m x) (m+1+1+1+1+1+1+1)):=HM6.out.next zo _
  clear h hm hd
  clear hmx
  go_enter Tryz.func46,Tryz.ntmps46
  go_upto_region 3 with fail
  go_region_held3 (fun W'=>W'.cell? ⟨U,0,none⟩=some (.func (Fn.func 18) #[] #[.pointer (some ⟨k.B,0,none⟩)])∧W'.cell? ⟨U,1,none⟩=some (.func (Fn.func 19) #[] #[.pointer (some ⟨k.L,0,none⟩)])∧W'.cell? ⟨U,2,none⟩=some (.int .i64 x.op)∧W'.cell? ⟨U,3,none⟩=some (.int .i64 x.D)∧W'.cell? ⟨U,4,none⟩=some (.int .i64 x.S)∧W'.cell? ⟨U,5,none⟩=some (.int .i64 x.O)∧W'.cell? ⟨U,6,none⟩=some (.int .u32 x.im)∧W'.cell? ⟨U,7,none⟩=some (.int .u32 x.pc)∧W'.cell? ⟨U,8,none⟩=some (.int .u32 x.next)∧W'.cell? ⟨U,9,none⟩=some (.int .i64 x.done)∧W'.cell? ⟨w.heap.size,0,none⟩=some (.int .i64 x.op)∧W'.cell? ⟨w.heap.size,1,none⟩=some (.int .i64 x.D)∧W'.cell? ⟨w.heap.size,2,none⟩=some (.int .i64 x.S)∧W'.cell? ⟨w.heap.size,3,none⟩=some (.int .i64 x.O)∧W'.cell? ⟨w.heap.size,4,none⟩=some (.int .u32 x.im)) (first|(simp[go_sem,r0,r1,r2,r3,r4,r5,r6,r7,r8,r9,rx0,rx1,rx2,rx3,rx4];done)|(simp[go_sem,q0,q1,q2,q3,q4,q5,q6,q7,q8,q9,qx0,qx1,qx2,qx3,qx4];done)|(simp[go_sem,v0,v1,v2,v3,v4,v5,v6,v7,v8,v9,vx0,vx1,vx2,vx3,vx4];done)|(simp[go_sem,u0,u1,u2,u3,u4,u5,u6,u7,u8,u9,lU];done))
    (first
      | (have HQ2:=H1;go_at_call 75;refine(push_m k U x _ (m+1) (m) _ ?_ HM1.out zq9).mono ?_;(have hT:=H1.out.t;(exact zq11));rintro e w2 ⟨rfl,h2⟩;have H2:Hid (Em w1 w2 k U x ((qa9 l m x)++[⟨3,7,m+1+1+1,0,0,0,0⟩])):=zq29;obtain⟨q0,q1,q2,q3,q4,q5,q6,q7,q8,q9⟩:=h2.t.cells;have HP2:Hid (hx w2 w x):=h2.kp.keep _ _ _ HP1.out HNP.out (by decide);obtain⟨qx0,qx1,qx2,qx3,qx4⟩:=ins_cells HP2.out;clear h2 HQ2)
      | (go_at_call 19;refine(read_m k U x _ (m) x.S _ ?_ HM0.out).mono ?_;(have hT:=HT.out;(exact zq15));rintro e w1 ⟨rfl,h1⟩;have H1:Hid _:=h1;obtain⟨v0,v1,v2,v3,v4,v5,v6,v7,v8,v9⟩:=h1.t.cells;have HP1:Hid (hx w1 w x):=h1.kp.keep _ _ _ HP0.out HNP.out (by decide);obtain⟨vx0,vx1,vx2,vx3,vx4⟩:=ins_cells HP1.out;clear h1))
  all_goals go_wp2_with (first
      | (have HQ3:=H2;go_at_call 54;refine(watch_m k U x _ (m+1+1+1+1+1+1) _ ?_ HM6.out HDN.out).mono ?_;(have hT:=H2.out.t;(exact zq11));rintro e w3 ⟨rfl,h3⟩;have H3:Hid (Em w2 w3 k U x (qa29 l m x)):=zq33;obtain⟨r0,r1,r2,r3,r4,r5,r6,r7,r8,r9⟩:=h3.t.cells;have HP3:Hid (hx w3 w x):=h3.kp.keep _ _ _ HP2.out HNP.out (by decide);obtain⟨rx0,rx1,rx2,rx3,rx4⟩:=ins_cells HP3.out;clear h3 HQ3))
  all_goals go_end0
  all_goals exact⟨rfl,by first|exact(((Em.firstA HT.out H1.out)).trans H2.out).trans H3.out|exact(((Em.firstAD HT.out H1.out)).trans H2.out).trans H3.out⟩
theorem pushes3(k:BK)(U:Nat)(x:XI)(l:List OpR)(m:Int)  (w:World)(h:TU w k U x l)(hm:Ln l m)(hmx:m+80 < 90000)(hd:0≤x.done∧x.done≤64)(hop:x.op=3) :
    Calls Tryz.prog 46 #[.pointer (some ⟨U,0,none⟩)] w fun e w'=>e=.returned (.tuple #[])∧Em w w' k U x (qa28 l m x):=by
  obtain⟨u0,u1,u2,u3,u4,u5,u6,u7,u8,u9⟩:=h.cells
  have lU:=row_lt h.bU
  have HNP:Hid (w.heap.size≠k.B):=show w.heap.size≠k.B by have:=h.ltB;omega
  have HP0:Hid ((w.alloc (.cells #[.int .i64 x.op,.int .i64 x.D,.int .i64 x.S,.int .i64 x.O,.int .u32 x.im] 58)).heap[w.heap.size]?=some (.cells #[.int .i64 x.op,.int .i64 x.D,.int .i64 x.S,.int .i64 x.O,.int .u32 x.im] 58)):=heap_alloc_last w _
  have HDN:Hid _:=hd
  have HMX:Hid (m+80 < 90000):=hmx
  have HWR:Hid _:=wrap_done x.done hd.1 hd.2
  have k14:(x.op==14)=false:=by simp[hop]
  have k3:(x.op==3)=true:=by simp[hop]
  clear hop
  have HT:Hid _:=h
  have HM0:Hid (Ln l m):=hm
  have HM1:Hid (Ln (l++[⟨17,0,0,0,0,0,0⟩]) (m+1)):=HM0.out.next zo _
  have HM2:Hid (Ln ((l++[⟨17,0,0,0,0,0,0⟩])++[⟨2,7,0,0,0,0,0⟩]) (m+1+1)):=HM1.out.next zo _
  have HM3:Hid (Ln (((l++[⟨17,0,0,0,0,0,0⟩])++[⟨2,7,0,0,0,0,0⟩])++[⟨1,0,0,0,0,4,0⟩]) (m+1+1+1)):=HM2.out.next zo _
  have HM4:Hid (Ln ((((l++[⟨17,0,0,0,0,0,0⟩])++[⟨2,7,0,0,0,0,0⟩])++[⟨1,0,0,0,0,4,0⟩])++[⟨4,1,m+1,m+1+1,0,0,0⟩]) (m+1+1+1+1)):=HM3.out.next zo _
  have HM5:Hid (Ln (qa10 l m x) (m+1+1+1+1+1)):=HM4.out.next zo _
  have HM6:Hid (Ln ((qa10 l m x)++[⟨3,7,m+1+1+1,0,0,0,0⟩]) (m+1+1+1+1+1+1)):=HM5.out.next zo _
  have HM7:Hid (Ln (qa28 l m x) (m+1+1+1+1+1+1+1)):=HM6.out.next zo _
  clear h hm hd
  clear hmx
  go_enter Tryz.func46,Tryz.ntmps46
  all_goals go_wp2_with (first
      | (have HQ3:=H2;go_at_call 54;refine(watch_m k U x _ (m+1+1+1+1+1+1) _ ?_ HM6.out HDN.out).mono ?_;(have hT:=H2.out.t;(exact zq11));rintro e w3 ⟨rfl,h3⟩;have H3:Hid (Em w2 w3 k U x (qa28 l m x)):=zq33;obtain⟨r0,r1,r2,r3,r4,r5,r6,r7,r8,r9⟩:=h3.t.cells;have HP3:Hid (hx w3 w x):=h3.kp.keep _ _ _ HP2.out HNP.out (by decide);obtain⟨rx0,rx1,rx2,rx3,rx4⟩:=ins_cells HP3.out;clear h3 HQ3)
      | (have HQ2:=H1;go_at_call 75;refine(push_m k U x _ (m+1) (m) _ ?_ HM1.out zq9).mono ?_;(have hT:=H1.out.t;(exact zq11));rintro e w2 ⟨rfl,h2⟩;have H2:Hid (Em w1 w2 k U x ((qa10 l m x)++[⟨3,7,m+1+1+1,0,0,0,0⟩])):=zq29;obtain⟨q0,q1,q2,q3,q4,q5,q6,q7,q8,q9⟩:=h2.t.cells;have HP2:Hid (hx w2 w x):=h2.kp.keep _ _ _ HP1.out HNP.out (by decide);obtain⟨qx0,qx1,qx2,qx3,qx4⟩:=ins_cells HP2.out;clear h2 HQ2)
      | (go_at_call 76;refine(now_m k U x _ (m) _ ?_ HM0.out).mono ?_;(have hT:=HT.out;(exact zq15));rintro e w1 ⟨rfl,h1⟩;have H1:Hid _:=h1;obtain⟨v0,v1,v2,v3,v4,v5,v6,v7,v8,v9⟩:=h1.t.cells;have HP1:Hid (hx w1 w x):=h1.kp.keep _ _ _ HP0.out HNP.out (by decide);obtain⟨vx0,vx1,vx2,vx3,vx4⟩:=ins_cells HP1.out;clear h1))
  all_goals go_end0
  all_goals exact⟨rfl,by first|exact(((Em.firstA HT.out H1.out)).trans H2.out).trans H3.out|exact(((Em.firstAD HT.out H1.out)).trans H2.out).trans H3.out⟩
theorem jump9(k:BK)(U:Nat)(x:XI)(l:List OpR)(m:Int)  (w:World)(h:TU w k U x l)(hm:Ln l m)(hmx:m+80 < 90000)(hd:0≤x.done∧x.done≤64)(hop:x.op=9) :
    Calls Tryz.prog 45 #[.pointer (some ⟨U,0,none⟩)] w fun e w'=>e=.returned (.tuple #[])∧Em w w' k U x ((l++[⟨2,x.S,0,0,0,0,0⟩])++[⟨16,0,m,0,0,0,x.done+1⟩]):=by
  obtain⟨u0,u1,u2,u3,u4,u5,u6,u7,u8,u9⟩:=h.cells
  have lU:=row_lt h.bU
  have HNP:Hid (w.heap.size≠k.B):=show w.heap.size≠k.B by have:=h.ltB;omega
  have HP0:Hid ((w.alloc (.cells #[.int .i64 x.op,.int .i64 x.D,.int .i64 x.S,.int .i64 x.O,.int .u32 x.im] 58)).heap[w.heap.size]?=some (.cells #[.int .i64 x.op,.int .i64 x.D,.int .i64 x.S,.int .i64 x.O,.int .u32 x.im] 58)):=heap_alloc_last w _
  have HDN:Hid _:=hd
  have HMX:Hid (m+80 < 90000):=hmx
  have HWR:Hid _:=wrap_done x.done hd.1 hd.2
  have k6:(x.op==6)=false:=by simp[hop]
  have k7:(x.op==7)=false:=by simp[hop]
  have k12:(x.op==12)=false:=by simp[hop]
  have k13:(x.op==13)=false:=by simp[hop]
  have k9:(x.op==9)=true:=by simp[hop]
  clear hop
  have HT:Hid _:=h
  have HM0:Hid (Ln l m):=hm
  have HM1:Hid (Ln (l++[⟨2,x.S,0,0,0,0,0⟩]) (m+1)):=HM0.out.next zo _
  have HM2:Hid (Ln ((l++[⟨2,x.S,0,0,0,0,0⟩])++[⟨16,0,m,0,0,0,x.done+1⟩]) (m+1+1)):=HM1.out.next zo _
  clear h hm hd
  clear hmx
  go_enter Tryz.func45,Tryz.ntmps45
  go_upto_region 10 with fail
  go_region_with (first
      | (have HQ2:=H1;go_at_call 74;refine(goesTo_m k U x _ (m+1) (m) _ ?_ HM1.out HDN.out).mono ?_;(have hT:=H1.out.t;(exact zq11));rintro e w2 ⟨rfl,h2⟩;have H2:Hid (Em w1 w2 k U x ((l++[⟨2,x.S,0,0,0,0,0⟩])++[⟨16,0,m,0,0,0,x.done+1⟩])):=zq29;obtain⟨q0,q1,q2,q3,q4,q5,q6,q7,q8,q9⟩:=h2.t.cells;have HP2:Hid (hx w2 w x):=h2.kp.keep _ _ _ HP1.out HNP.out (by decide);obtain⟨qx0,qx1,qx2,qx3,qx4⟩:=ins_cells HP2.out;clear h2 HQ2)
      | (go_at_call 19;refine(read_m k U x _ (m) x.S _ ?_ HM0.out).mono ?_;(have hT:=HT.out;(exact zq15));rintro e w1 ⟨rfl,h1⟩;have H1:Hid _:=h1;obtain⟨v0,v1,v2,v3,v4,v5,v6,v7,v8,v9⟩:=h1.t.cells;have HP1:Hid (hx w1 w x):=h1.kp.keep _ _ _ HP0.out HNP.out (by decide);obtain⟨vx0,vx1,vx2,vx3,vx4⟩:=ins_cells HP1.out;clear h1))
  all_goals go_wp2_with fail
  all_goals go_end0
  all_goals exact⟨rfl,by first|exact((Em.firstA HT.out H1.out)).trans H2.out|exact((Em.firstAD HT.out H1.out)).trans H2.out⟩
theorem jump11(k:BK)(U:Nat)(x:XI)(l:List OpR)(m:Int)  (w:World)(h:TU w k U x l)(hm:Ln l m)(hmx:m+80 < 90000)(hd:0≤x.done∧x.done≤64)(hop:x.op=11) :
    Calls Tryz.prog 45 #[.pointer (some ⟨U,0,none⟩)] w fun e w'=>e=.returned (.tuple #[])∧Em w w' k U x ((qa0 l m x)++[⟨16,0,m+1+1+1,0,0,0,x.done+1⟩]):=by
  obtain⟨u0,u1,u2,u3,u4,u5,u6,u7,u8,u9⟩:=h.cells
  have lU:=row_lt h.bU
  have HNP:Hid (w.heap.size≠k.B):=show w.heap.size≠k.B by have:=h.ltB;omega
  have HP0:Hid ((w.alloc (.cells #[.int .i64 x.op,.int .i64 x.D,.int .i64 x.S,.int .i64 x.O,.int .u32 x.im] 58)).heap[w.heap.size]?=some (.cells #[.int .i64 x.op,.int .i64 x.D,.int .i64 x.S,.int .i64 x.O,.int .u32 x.im] 58)):=heap_alloc_last w _
  have HDN:Hid _:=hd
  have HMX:Hid (m+80 < 90000):=hmx
  have HWR:Hid _:=wrap_done x.done hd.1 hd.2
  have k6:(x.op==6)=false:=by simp[hop]
  have k7:(x.op==7)=false:=by simp[hop]
  have k12:(x.op==12)=false:=by simp[hop]
  have k13:(x.op==13)=false:=by simp[hop]
  have k9:(x.op==9)=false:=by simp[hop]
  have k11:(x.op==11)=true:=by simp[hop]
  clear hop
  have HT:Hid _:=h
  have HM0:Hid (Ln l m):=hm
  have HM1:Hid (Ln (l++[⟨2,x.S,0,0,0,0,0⟩]) (m+1)):=HM0.out.next zo _
  have HM2:Hid (Ln (qa19 l m x) (m+1+1)):=HM1.out.next zo _
  have HM3:Hid (Ln (qa4 l m x) (m+1+1+1)):=HM2.out.next zo _
  have HM4:Hid (Ln (qa0 l m x) (m+1+1+1+1)):=HM3.out.next zo _
  have HM5:Hid (Ln ((qa0 l m x)++[⟨16,0,m+1+1+1,0,0,0,x.done+1⟩]) (m+1+1+1+1+1)):=HM4.out.next zo _
  clear h hm hd
  clear hmx
  go_enter Tryz.func45,Tryz.ntmps45
  all_goals go_wp2_with (first
      | (have HQ3:=H2;go_at_call 74;refine(goesTo_m k U x _ (m+1+1+1+1) (m+1+1+1) _ ?_ HM4.out HDN.out).mono ?_;(have hT:=H2.out.t;(exact zq11));rintro e w3 ⟨rfl,h3⟩;have H3:Hid (Em w2 w3 k U x ((qa0 l m x)++[⟨16,0,m+1+1+1,0,0,0,x.done+1⟩])):=zq33;obtain⟨r0,r1,r2,r3,r4,r5,r6,r7,r8,r9⟩:=h3.t.cells;have HP3:Hid (hx w3 w x):=h3.kp.keep _ _ _ HP2.out HNP.out (by decide);obtain⟨rx0,rx1,rx2,rx3,rx4⟩:=ins_cells HP3.out;clear h3 HQ3)
      | (have HQ2:=H1;go_at_call 51;refine(load_m k U x _ (m+1+1+1) 4 (m+1+1) _ ?_ HM3.out).mono ?_;(have hT:=H1.out.t;(exact zq11));rintro e w2 ⟨rfl,h2⟩;have H2:Hid (Em w1 w2 k U x (qa0 l m x)):=zq29;obtain⟨q0,q1,q2,q3,q4,q5,q6,q7,q8,q9⟩:=h2.t.cells;have HP2:Hid (hx w2 w x):=h2.kp.keep _ _ _ HP1.out HNP.out (by decide);obtain⟨qx0,qx1,qx2,qx3,qx4⟩:=ins_cells HP2.out;clear h2 HQ2)
      | (go_at_call 52;refine(at_m k U x _ (m) _ ?_ HM0.out zq9).mono ?_;(have hT:=HT.out;(exact zq15));rintro e w1 ⟨rfl,h1⟩;have H1:Hid _:=h1;obtain⟨v0,v1,v2,v3,v4,v5,v6,v7,v8,v9⟩:=h1.t.cells;have HP1:Hid (hx w1 w x):=h1.kp.keep _ _ _ HP0.out HNP.out (by decide);obtain⟨vx0,vx1,vx2,vx3,vx4⟩:=ins_cells HP1.out;clear h1))
  all_goals go_end0
  all_goals exact⟨rfl,by first|exact(((Em.firstA HT.out H1.out)).trans H2.out).trans H3.out|exact(((Em.firstAD HT.out H1.out)).trans H2.out).trans H3.out⟩
theorem pushes10(k:BK)(U:Nat)(x:XI)(l:List OpR)(m:Int)  (w:World)(h:TU w k U x l)(hm:Ln l m)(hmx:m+80 < 90000)(hd:0≤x.done∧x.done≤64)(hop:x.op=10) :
    Calls Tryz.prog 46 #[.pointer (some ⟨U,0,none⟩)] w fun e w'=>e=.returned (.tuple #[])∧Em w w' k U x (qa30 l m x):=by
  obtain⟨u0,u1,u2,u3,u4,u5,u6,u7,u8,u9⟩:=h.cells
  have lU:=row_lt h.bU
  have HNP:Hid (w.heap.size≠k.B):=show w.heap.size≠k.B by have:=h.ltB;omega
  have HP0:Hid ((w.alloc (.cells #[.int .i64 x.op,.int .i64 x.D,.int .i64 x.S,.int .i64 x.O,.int .u32 x.im] 58)).heap[w.heap.size]?=some (.cells #[.int .i64 x.op,.int .i64 x.D,.int .i64 x.S,.int .i64 x.O,.int .u32 x.im] 58)):=heap_alloc_last w _
  have HDN:Hid _:=hd
  have HMX:Hid (m+80 < 90000):=hmx
  have HWR:Hid _:=wrap_done x.done hd.1 hd.2
  have k14:(x.op==14)=false:=by simp[hop]
  have k3:(x.op==3)=false:=by simp[hop]
  have k8:(x.op==8)=false:=by simp[hop]
  have k10:(x.op==10)=true:=by simp[hop]
  clear hop
  have HT:Hid _:=h
  have HM0:Hid (Ln l m):=hm
  have HM1:Hid (Ln (l++[⟨2,x.S,0,0,0,0,0⟩]) (m+1)):=HM0.out.next zo _
  have HM2:Hid (Ln (qa26 l m x) (m+1+1)):=HM1.out.next zo _
  have HM3:Hid (Ln ((qa26 l m x)++[⟨2,7,0,0,0,0,0⟩]) (m+1+1+1)):=HM2.out.next zo _
  have HM4:Hid (Ln (((qa26 l m x)++[⟨2,7,0,0,0,0,0⟩])++[⟨1,0,0,0,0,4,0⟩]) (m+1+1+1+1)):=HM3.out.next zo _
  have HM5:Hid (Ln ((((qa26 l m x)++[⟨2,7,0,0,0,0,0⟩])++[⟨1,0,0,0,0,4,0⟩])++[⟨4,1,m+1+1,m+1+1+1,0,0,0⟩]) (m+1+1+1+1+1)):=HM4.out.next zo _
  have HM6:Hid (Ln (qa6 l m x) (m+1+1+1+1+1+1)):=HM5.out.next zo _
  have HM7:Hid (Ln ((qa6 l m x)++[⟨3,7,m+1+1+1+1,0,0,0,0⟩]) (m+1+1+1+1+1+1+1)):=HM6.out.next zo _
  have HM8:Hid (Ln (qa30 l m x) (m+1+1+1+1+1+1+1+1)):=HM7.out.next zo _
  clear h hm hd
  clear hmx
  go_enter Tryz.func46,Tryz.ntmps46
  go_upto_region 12 with fail
  go_region_held3 (fun W'=>W'.cell? ⟨U,0,none⟩=some (.func (Fn.func 18) #[] #[.pointer (some ⟨k.B,0,none⟩)])∧W'.cell? ⟨U,1,none⟩=some (.func (Fn.func 19) #[] #[.pointer (some ⟨k.L,0,none⟩)])∧W'.cell? ⟨U,2,none⟩=some (.int .i64 x.op)∧W'.cell? ⟨U,3,none⟩=some (.int .i64 x.D)∧W'.cell? ⟨U,4,none⟩=some (.int .i64 x.S)∧W'.cell? ⟨U,5,none⟩=some (.int .i64 x.O)∧W'.cell? ⟨U,6,none⟩=some (.int .u32 x.im)∧W'.cell? ⟨U,7,none⟩=some (.int .u32 x.pc)∧W'.cell? ⟨U,8,none⟩=some (.int .u32 x.next)∧W'.cell? ⟨U,9,none⟩=some (.int .i64 x.done)∧W'.cell? ⟨w.heap.size,0,none⟩=some (.int .i64 x.op)∧W'.cell? ⟨w.heap.size,1,none⟩=some (.int .i64 x.D)∧W'.cell? ⟨w.heap.size,2,none⟩=some (.int .i64 x.S)∧W'.cell? ⟨w.heap.size,3,none⟩=some (.int .i64 x.O)∧W'.cell? ⟨w.heap.size,4,none⟩=some (.int .u32 x.im)) (first|(simp[go_sem,s0,s1,s2,s3,s4,s5,s6,s7,s8,s9,sx0,sx1,sx2,sx3,sx4];done)|(simp[go_sem,r0,r1,r2,r3,r4,r5,r6,r7,r8,r9,rx0,rx1,rx2,rx3,rx4];done)|(simp[go_sem,q0,q1,q2,q3,q4,q5,q6,q7,q8,q9,qx0,qx1,qx2,qx3,qx4];done)|(simp[go_sem,v0,v1,v2,v3,v4,v5,v6,v7,v8,v9,vx0,vx1,vx2,vx3,vx4];done)|(simp[go_sem,u0,u1,u2,u3,u4,u5,u6,u7,u8,u9,lU];done))
    (first
      | (go_at_call 19;refine(read_m k U x _ (m) x.S _ ?_ HM0.out).mono ?_;(have hT:=HT.out;(exact zq15));rintro e w1 ⟨rfl,h1⟩;have H1:Hid _:=h1;obtain⟨v0,v1,v2,v3,v4,v5,v6,v7,v8,v9⟩:=h1.t.cells;have HP1:Hid (hx w1 w x):=h1.kp.keep _ _ _ HP0.out HNP.out (by decide);obtain⟨vx0,vx1,vx2,vx3,vx4⟩:=ins_cells HP1.out;clear h1))
  all_goals go_wp2_with (first
      | (have HQ4:=H3;go_at_call 74;refine(goesTo_m k U x _ (m+1+1+1+1+1+1+1) (m) _ ?_ HM7.out HDN.out).mono ?_;(have hT:=H3.out.t;(exact zq11));rintro e w4 ⟨rfl,h4⟩;have H4:Hid (Em w3 w4 k U x (qa30 l m x)):=(by first|exact h4|exact Em.first H3.out.t h4);obtain⟨s0,s1,s2,s3,s4,s5,s6,s7,s8,s9⟩:=h4.t.cells;have HP4:Hid (hx w4 w x):=h4.kp.keep _ _ _ HP3.out HNP.out (by decide);obtain⟨sx0,sx1,sx2,sx3,sx4⟩:=ins_cells HP4.out;clear h4 HQ4)
      | (have HQ3:=H2;go_at_call 75;refine(push_m k U x _ (m+1+1) (m+1) _ ?_ HM2.out zq9).mono ?_;(have hT:=H2.out.t;(exact zq11));rintro e w3 ⟨rfl,h3⟩;have H3:Hid (Em w2 w3 k U x ((qa6 l m x)++[⟨3,7,m+1+1+1+1,0,0,0,0⟩])):=zq33;obtain⟨r0,r1,r2,r3,r4,r5,r6,r7,r8,r9⟩:=h3.t.cells;have HP3:Hid (hx w3 w x):=h3.kp.keep _ _ _ HP2.out HNP.out (by decide);obtain⟨rx0,rx1,rx2,rx3,rx4⟩:=ins_cells HP3.out;clear h3 HQ3)
      | (have HQ2:=H1;go_at_call 49;refine(number_m k U x _ (m+1) x.next _ ?_ HM1.out).mono ?_;(have hT:=H1.out.t;(exact zq11));rintro e w2 ⟨rfl,h2⟩;have H2:Hid (Em w1 w2 k U x (qa26 l m x)):=zq29;obtain⟨q0,q1,q2,q3,q4,q5,q6,q7,q8,q9⟩:=h2.t.cells;have HP2:Hid (hx w2 w x):=h2.kp.keep _ _ _ HP1.out HNP.out (by decide);obtain⟨qx0,qx1,qx2,qx3,qx4⟩:=ins_cells HP2.out;clear h2 HQ2))
  all_goals go_end0
  all_goals exact⟨rfl,by first|exact((((Em.firstA HT.out H1.out)).trans H2.out).trans H3.out).trans H4.out|exact((((Em.firstAD HT.out H1.out)).trans H2.out).trans H3.out).trans H4.out⟩
end Go.Proofs.YtfokgedjocnnmaaGreat
