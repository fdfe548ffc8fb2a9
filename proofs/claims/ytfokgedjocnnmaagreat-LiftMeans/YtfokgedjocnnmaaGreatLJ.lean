import Derived.Test.YtfokgedjocnnmaaGreatLH
set_option linter.unusedVariables false
set_option linter.unusedSimpArgs false
set_option maxHeartbeats 4000000
namespace Go.Proofs.YtfokgedjocnnmaaGreat
open Go.RowKit
set_option maxRecDepth 100000
theorem swaps24(k:BK)(U:Nat)(x:XI)(l:List OpR)(m:Int)  (w:World)(h:TU w k U x l)(hm:Ln l m)(hmx:m+80 < 90000)(hd:0≤x.done∧x.done≤64)(hop:x.op=24) :
    Calls Tryz.prog 55 #[.pointer (some ⟨U,0,none⟩)] w fun e w'=>e=.returned (.tuple #[])∧Em w w' k U x (qa18 l m x):=by
  obtain⟨u0,u1,u2,u3,u4,u5,u6,u7,u8,u9⟩:=h.cells
  have lU:=row_lt h.bU
  have HDN:Hid _:=hd
  have HMX:Hid (m+80 < 90000):=hmx
  have HWR:Hid _:=wrap_done x.done hd.1 hd.2
  have k24:(x.op==24)=true:=by simp[hop]
  clear hop
  have HT:Hid _:=h
  have HM0:Hid (Ln l m):=hm
  have HM1:Hid (Ln (l++[⟨2,x.S,0,0,0,0,0⟩]) (m+1)):=HM0.out.next zo _
  have HM2:Hid (Ln (qa19 l m x) (m+1+1)):=HM1.out.next zo _
  have HM3:Hid (Ln (qa4 l m x) (m+1+1+1)):=HM2.out.next zo _
  have HM4:Hid (Ln (qa0 l m x) (m+1+1+1+1)):=HM3.out.next zo _
  have HM5:Hid (Ln (qa15 l m x) (m+1+1+1+1+1)):=HM4.out.next zo _
  have HM6:Hid (Ln ((qa15 l m x)++[⟨10,2,m+1+1,m+1+1+1+1,0,x.pc,x.done⟩]) (m+1+1+1+1+1+1)):=HM5.out.next zo _
  have HM7:Hid (Ln (qa18 l m x) (m+1+1+1+1+1+1+1)):=HM6.out.next zo _
  clear h hm hd
  clear hmx
  go_enter Tryz.func55,Tryz.ntmps55
  go_upto_region 2 with (first
      | (have HQ2:=H1;go_at_call 51;refine(load_m k U x _ (m+1+1+1) 4 (m+1+1) _ ?_ HM3.out).mono ?_;(have hT:=H1.out.t;(exact zq1));rintro e w2 ⟨rfl,h2⟩;have H2:Hid (Em w1 w2 k U x (qa0 l m x)):=(show Em _ _ _ _ _ _ from(have hT:=H1.out.t;have hE:=h2;zq0));obtain⟨q0,q1,q2,q3,q4,q5,q6,q7,q8,q9⟩:=h2.t.cells;have qU:=row_lt H2.out.t.bU;clear h2 HQ2)
      | (go_at_call 52;refine(at_m k U x _ (m) _ ?_ HM0.out zq9).mono ?_;(have hT:=HT.out;(exact zq1));rintro e w1 ⟨rfl,h1⟩;have H1:Hid (Em w w1 k U x (qa4 l m x)):=(show Em _ _ _ _ _ _ from(have hT:=HT.out;have hE:=h1;zq0));obtain⟨v0,v1,v2,v3,v4,v5,v6,v7,v8,v9⟩:=h1.t.cells;have vU:=row_lt H1.out.t.bU;clear h1))
  go_region_held3 (fun W'=>W'.cell? ⟨U,0,none⟩=some (.func (Fn.func 18) #[] #[.pointer (some ⟨k.B,0,none⟩)])∧W'.cell? ⟨U,1,none⟩=some (.func (Fn.func 19) #[] #[.pointer (some ⟨k.L,0,none⟩)])∧W'.cell? ⟨U,2,none⟩=some (.int .i64 x.op)∧W'.cell? ⟨U,3,none⟩=some (.int .i64 x.D)∧W'.cell? ⟨U,4,none⟩=some (.int .i64 x.S)∧W'.cell? ⟨U,5,none⟩=some (.int .i64 x.O)∧W'.cell? ⟨U,6,none⟩=some (.int .u32 x.im)∧W'.cell? ⟨U,7,none⟩=some (.int .u32 x.pc)∧W'.cell? ⟨U,8,none⟩=some (.int .u32 x.next)∧W'.cell? ⟨U,9,none⟩=some (.int .i64 x.done)) (first|(simp[go_sem,t0,t1,t2,t3,t4,t5,t6,t7,t8,t9];done)|(simp[go_sem,s0,s1,s2,s3,s4,s5,s6,s7,s8,s9];done)|(simp[go_sem,r0,r1,r2,r3,r4,r5,r6,r7,r8,r9];done)|(simp[go_sem,q0,q1,q2,q3,q4,q5,q6,q7,q8,q9];done)|(simp[go_sem,v0,v1,v2,v3,v4,v5,v6,v7,v8,v9];done)|(simp[go_sem,u0,u1,u2,u3,u4,u5,u6,u7,u8,u9,lU];done))
    (first
      | (have HQ3:=H2;go_at_call 19;refine(read_m k U x _ (m+1+1+1+1) x.D _ ?_ HM4.out).mono ?_;(have hT:=H2.out.t;(exact zq1));rintro e w3 ⟨rfl,h3⟩;have H3:Hid (Em w2 w3 k U x (qa15 l m x)):=(show Em _ _ _ _ _ _ from(have hT:=H2.out.t;have hE:=h3;zq0));obtain⟨r0,r1,r2,r3,r4,r5,r6,r7,r8,r9⟩:=h3.t.cells;have rU:=row_lt H3.out.t.bU;clear h3 HQ3))
  all_goals go_wp2_with (first
      | (have HQ5:=H4;go_at_call 50;refine(put_m k U x _ (m+1+1+1+1+1+1) x.D (m+1+1+1) _ ?_ HM6.out).mono ?_;(have hT:=H4.out.t;(exact zq1));rintro e w5 ⟨rfl,h5⟩;have H5:Hid (Em w4 w5 k U x (qa18 l m x)):=(show Em _ _ _ _ _ _ from(have hT:=H4.out.t;have hE:=h5;zq0));obtain⟨t0,t1,t2,t3,t4,t5,t6,t7,t8,t9⟩:=h5.t.cells;have tU:=row_lt H5.out.t.bU;clear h5 HQ5)
      | (have HQ4:=H3;go_at_call 53;refine(store_m k U x _ (m+1+1+1+1+1) 2 (m+1+1) (m+1+1+1+1) _ ?_ HM5.out).mono ?_;(have hT:=H3.out.t;(exact zq1));rintro e w4 ⟨rfl,h4⟩;have H4:Hid (Em w3 w4 k U x ((qa15 l m x)++[⟨10,2,m+1+1,m+1+1+1+1,0,x.pc,x.done⟩])):=(show Em _ _ _ _ _ _ from(have hT:=H3.out.t;have hE:=h4;zq0));obtain⟨s0,s1,s2,s3,s4,s5,s6,s7,s8,s9⟩:=h4.t.cells;have sU:=row_lt H4.out.t.bU;clear h4 HQ4))
  all_goals go_end0
  all_goals exact⟨rfl,((((H1.out).trans H2.out).trans H3.out).trans H4.out).trans H5.out⟩
theorem swaps25(k:BK)(U:Nat)(x:XI)(l:List OpR)(m:Int)  (w:World)(h:TU w k U x l)(hm:Ln l m)(hmx:m+80 < 90000)(hd:0≤x.done∧x.done≤64)(hop:x.op=25) :
    Calls Tryz.prog 55 #[.pointer (some ⟨U,0,none⟩)] w fun e w'=>e=.returned (.tuple #[])∧Em w w' k U x (qa21 l m x):=by
  obtain⟨u0,u1,u2,u3,u4,u5,u6,u7,u8,u9⟩:=h.cells
  have lU:=row_lt h.bU
  have HDN:Hid _:=hd
  have HMX:Hid (m+80 < 90000):=hmx
  have HWR:Hid _:=wrap_done x.done hd.1 hd.2
  have k24:(x.op==24)=false:=by simp[hop]
  have k25:(x.op==25)=true:=by simp[hop]
  clear hop
  have HT:Hid _:=h
  have HM0:Hid (Ln l m):=hm
  have HM1:Hid (Ln (l++[⟨2,x.S,0,0,0,0,0⟩]) (m+1)):=HM0.out.next zo _
  have HM2:Hid (Ln (qa19 l m x) (m+1+1)):=HM1.out.next zo _
  have HM3:Hid (Ln (qa4 l m x) (m+1+1+1)):=HM2.out.next zo _
  have HM4:Hid (Ln (qa0 l m x) (m+1+1+1+1)):=HM3.out.next zo _
  have HM5:Hid (Ln (qa15 l m x) (m+1+1+1+1+1)):=HM4.out.next zo _
  have HM6:Hid (Ln ((qa15 l m x)++[⟨4,0,m+1+1+1,m+1+1+1+1,0,0,0⟩]) (m+1+1+1+1+1+1)):=HM5.out.next zo _
  have HM7:Hid (Ln (qa17 l m x) (m+1+1+1+1+1+1+1)):=HM6.out.next zo _
  have HM8:Hid (Ln ((qa17 l m x)++[⟨3,x.D,m+1+1+1,0,0,0,0⟩]) (m+1+1+1+1+1+1+1+1)):=HM7.out.next zo _
  have HM9:Hid (Ln (((qa17 l m x)++[⟨3,x.D,m+1+1+1,0,0,0,0⟩])++[⟨1,0,0,0,0,1,0⟩]) (m+1+1+1+1+1+1+1+1+1)):=HM8.out.next zo _
  have HM10:Hid (Ln (qa5 l m x) (m+1+1+1+1+1+1+1+1+1+1)):=HM9.out.next zo _
  have HM11:Hid (Ln ((qa5 l m x)++[⟨3,9,m+1+1+1,0,0,0,0⟩]) (m+1+1+1+1+1+1+1+1+1+1+1)):=HM10.out.next zo _
  have HM12:Hid (Ln (qa21 l m x) (m+1+1+1+1+1+1+1+1+1+1+1+1)):=HM11.out.next zo _
  clear h hm hd
  clear hmx
  go_enter Tryz.func55,Tryz.ntmps55
  go_upto_region 2 with (first
      | (have HQ2:=H1;go_at_call 51;refine(load_m k U x _ (m+1+1+1) 4 (m+1+1) _ ?_ HM3.out).mono ?_;(have hT:=H1.out.t;(exact zq1));rintro e w2 ⟨rfl,h2⟩;have H2:Hid (Em w1 w2 k U x (qa0 l m x)):=(show Em _ _ _ _ _ _ from(have hT:=H1.out.t;have hE:=h2;zq0));obtain⟨q0,q1,q2,q3,q4,q5,q6,q7,q8,q9⟩:=h2.t.cells;have qU:=row_lt H2.out.t.bU;clear h2 HQ2)
      | (go_at_call 52;refine(at_m k U x _ (m) _ ?_ HM0.out zq9).mono ?_;(have hT:=HT.out;(exact zq1));rintro e w1 ⟨rfl,h1⟩;have H1:Hid (Em w w1 k U x (qa4 l m x)):=(show Em _ _ _ _ _ _ from(have hT:=HT.out;have hE:=h1;zq0));obtain⟨v0,v1,v2,v3,v4,v5,v6,v7,v8,v9⟩:=h1.t.cells;have vU:=row_lt H1.out.t.bU;clear h1))
  go_region_held3 (fun W'=>W'.cell? ⟨U,0,none⟩=some (.func (Fn.func 18) #[] #[.pointer (some ⟨k.B,0,none⟩)])∧W'.cell? ⟨U,1,none⟩=some (.func (Fn.func 19) #[] #[.pointer (some ⟨k.L,0,none⟩)])∧W'.cell? ⟨U,2,none⟩=some (.int .i64 x.op)∧W'.cell? ⟨U,3,none⟩=some (.int .i64 x.D)∧W'.cell? ⟨U,4,none⟩=some (.int .i64 x.S)∧W'.cell? ⟨U,5,none⟩=some (.int .i64 x.O)∧W'.cell? ⟨U,6,none⟩=some (.int .u32 x.im)∧W'.cell? ⟨U,7,none⟩=some (.int .u32 x.pc)∧W'.cell? ⟨U,8,none⟩=some (.int .u32 x.next)∧W'.cell? ⟨U,9,none⟩=some (.int .i64 x.done)) (first|(simp[go_sem,z0,z1,z2,z3,z4,z5,z6,z7,z8,z9];done)|(simp[go_sem,y0,y1,y2,y3,y4,y5,y6,y7,y8,y9];done)|(simp[go_sem,t0,t1,t2,t3,t4,t5,t6,t7,t8,t9];done)|(simp[go_sem,s0,s1,s2,s3,s4,s5,s6,s7,s8,s9];done)|(simp[go_sem,r0,r1,r2,r3,r4,r5,r6,r7,r8,r9];done)|(simp[go_sem,q0,q1,q2,q3,q4,q5,q6,q7,q8,q9];done)|(simp[go_sem,v0,v1,v2,v3,v4,v5,v6,v7,v8,v9];done)|(simp[go_sem,u0,u1,u2,u3,u4,u5,u6,u7,u8,u9,lU];done))
    (first
      | (have HQ3:=H2;go_at_call 19;refine(read_m k U x _ (m+1+1+1+1) x.D _ ?_ HM4.out).mono ?_;(have hT:=H2.out.t;(exact zq1));rintro e w3 ⟨rfl,h3⟩;have H3:Hid (Em w2 w3 k U x (qa15 l m x)):=(show Em _ _ _ _ _ _ from(have hT:=H2.out.t;have hE:=h3;zq0));obtain⟨r0,r1,r2,r3,r4,r5,r6,r7,r8,r9⟩:=h3.t.cells;have rU:=row_lt H3.out.t.bU;clear h3 HQ3))
  all_goals go_wp2_with (first
      | (have HQ7:=H6;go_at_call 78;refine(tell2 k U x _ (m+1+1+1+1+1+1+1+1) 1 _ _ #[.int .i64 (m+1+1+1),.int .i64 (m+1+1+1+1)] (m+1+1+1) (m+1+1+1+1) _ ?_ HM8.out zq9 ?_ rfl rfl ?_ (by decide)).mono ?_;(have hT:=H6.out.t;(exact zq1));(focus(exact heap_alloc_last _ _));(focus(have:=H6.out.t.ltB;omega));rintro e w7 ⟨rfl,h7⟩;have H7:Hid (Em w6 w7 k U x (qa21 l m x)):=(show Em _ _ _ _ _ _ from(have hT:=H6.out.t;have hE:=h7;zq0));obtain⟨z0,z1,z2,z3,z4,z5,z6,z7,z8,z9⟩:=h7.t.cells;have zU:=row_lt H7.out.t.bU;clear h7 HQ7)
      | (have HQ6:=H5;go_at_call 50;refine(put_m k U x _ (m+1+1+1+1+1+1+1) x.D (m+1+1+1) _ ?_ HM7.out).mono ?_;(have hT:=H5.out.t;(exact zq1));rintro e w6 ⟨rfl,h6⟩;have H6:Hid (Em w5 w6 k U x ((qa17 l m x)++[⟨3,x.D,m+1+1+1,0,0,0,0⟩])):=(show Em _ _ _ _ _ _ from(have hT:=H5.out.t;have hE:=h6;zq0));obtain⟨y0,y1,y2,y3,y4,y5,y6,y7,y8,y9⟩:=h6.t.cells;have yU:=row_lt H6.out.t.bU;clear h6 HQ6)
      | (have HQ5:=H4;go_at_call 53;refine(store_m k U x _ (m+1+1+1+1+1+1) 2 (m+1+1) (m+1+1+1+1+1) _ ?_ HM6.out).mono ?_;(have hT:=H4.out.t;(exact zq1));rintro e w5 ⟨rfl,h5⟩;have H5:Hid (Em w4 w5 k U x (qa17 l m x)):=(show Em _ _ _ _ _ _ from(have hT:=H4.out.t;have hE:=h5;zq0));obtain⟨t0,t1,t2,t3,t4,t5,t6,t7,t8,t9⟩:=h5.t.cells;have tU:=row_lt H5.out.t.bU;clear h5 HQ5)
      | (have HQ4:=H3;go_at_call 77;refine(bin_m k U x _ (m+1+1+1+1+1) 0 (m+1+1+1) (m+1+1+1+1) _ ?_ HM5.out).mono ?_;(have hT:=H3.out.t;(exact zq1));rintro e w4 ⟨rfl,h4⟩;have H4:Hid (Em w3 w4 k U x ((qa15 l m x)++[⟨4,0,m+1+1+1,m+1+1+1+1,0,0,0⟩])):=(show Em _ _ _ _ _ _ from(have hT:=H3.out.t;have hE:=h4;zq0));obtain⟨s0,s1,s2,s3,s4,s5,s6,s7,s8,s9⟩:=h4.t.cells;have sU:=row_lt H4.out.t.bU;clear h4 HQ4))
  all_goals go_end0
  all_goals exact⟨rfl,((((((H1.out).trans H2.out).trans H3.out).trans H4.out).trans H5.out).trans H6.out).trans H7.out⟩
theorem swaps26(k:BK)(U:Nat)(x:XI)(l:List OpR)(m:Int)  (w:World)(h:TU w k U x l)(hm:Ln l m)(hmx:m+80 < 90000)(hd:0≤x.done∧x.done≤64)(hop:x.op=26) :
    Calls Tryz.prog 55 #[.pointer (some ⟨U,0,none⟩)] w fun e w'=>e=.returned (.tuple #[])∧Em w w' k U x ((qa13 l m x)++[⟨3,10,m+1+1+1,0,0,0,0⟩]):=by
  obtain⟨u0,u1,u2,u3,u4,u5,u6,u7,u8,u9⟩:=h.cells
  have lU:=row_lt h.bU
  have HDN:Hid _:=hd
  have HMX:Hid (m+80 < 90000):=hmx
  have HWR:Hid _:=wrap_done x.done hd.1 hd.2
  have k24:(x.op==24)=false:=by simp[hop]
  have k25:(x.op==25)=false:=by simp[hop]
  have k26:(x.op==26)=true:=by simp[hop]
  clear hop
  have HT:Hid _:=h
  have HM0:Hid (Ln l m):=hm
  have HM1:Hid (Ln (l++[⟨2,x.S,0,0,0,0,0⟩]) (m+1)):=HM0.out.next zo _
  have HM2:Hid (Ln (qa19 l m x) (m+1+1)):=HM1.out.next zo _
  have HM3:Hid (Ln (qa4 l m x) (m+1+1+1)):=HM2.out.next zo _
  have HM4:Hid (Ln (qa0 l m x) (m+1+1+1+1)):=HM3.out.next zo _
  have HM5:Hid (Ln (qa15 l m x) (m+1+1+1+1+1)):=HM4.out.next zo _
  have HM6:Hid (Ln ((qa15 l m x)++[⟨2,0,0,0,0,0,0⟩]) (m+1+1+1+1+1+1)):=HM5.out.next zo _
  have HM7:Hid (Ln (qa25 l m x) (m+1+1+1+1+1+1+1)):=HM6.out.next zo _
  have HM8:Hid (Ln ((qa25 l m x)++[⟨6,0,m+1+1+1+1+1+1,m+1+1+1+1,m+1+1+1,0,0⟩]) (m+1+1+1+1+1+1+1+1)):=HM7.out.next zo _
  have HM9:Hid (Ln (qa1 l m x) (m+1+1+1+1+1+1+1+1+1)):=HM8.out.next zo _
  have HM10:Hid (Ln ((qa1 l m x)++[⟨3,0,m+1+1+1,0,0,0,0⟩]) (m+1+1+1+1+1+1+1+1+1+1)):=HM9.out.next zo _
  have HM11:Hid (Ln (((qa1 l m x)++[⟨3,0,m+1+1+1,0,0,0,0⟩])++[⟨1,0,0,0,0,3,0⟩]) (m+1+1+1+1+1+1+1+1+1+1+1)):=HM10.out.next zo _
  have HM12:Hid (Ln ((((qa1 l m x)++[⟨3,0,m+1+1+1,0,0,0,0⟩])++[⟨1,0,0,0,0,3,0⟩])++[⟨3,8,m+1+1+1+1+1+1+1+1+1+1,0,0,0,0⟩]) (m+1+1+1+1+1+1+1+1+1+1+1+1)):=HM11.out.next zo _
  have HM13:Hid (Ln (qa13 l m x) (m+1+1+1+1+1+1+1+1+1+1+1+1+1)):=HM12.out.next zo _
  have HM14:Hid (Ln ((qa13 l m x)++[⟨3,10,m+1+1+1,0,0,0,0⟩]) (m+1+1+1+1+1+1+1+1+1+1+1+1+1+1)):=HM13.out.next zo _
  clear h hm hd
  clear hmx
  go_enter Tryz.func55,Tryz.ntmps55
  go_upto_region 2 with (first
      | (have HQ2:=H1;go_at_call 51;refine(load_m k U x _ (m+1+1+1) 4 (m+1+1) _ ?_ HM3.out).mono ?_;(have hT:=H1.out.t;(exact zq1));rintro e w2 ⟨rfl,h2⟩;have H2:Hid (Em w1 w2 k U x (qa0 l m x)):=(show Em _ _ _ _ _ _ from(have hT:=H1.out.t;have hE:=h2;zq0));obtain⟨q0,q1,q2,q3,q4,q5,q6,q7,q8,q9⟩:=h2.t.cells;have qU:=row_lt H2.out.t.bU;clear h2 HQ2)
      | (go_at_call 52;refine(at_m k U x _ (m) _ ?_ HM0.out zq9).mono ?_;(have hT:=HT.out;(exact zq1));rintro e w1 ⟨rfl,h1⟩;have H1:Hid (Em w w1 k U x (qa4 l m x)):=(show Em _ _ _ _ _ _ from(have hT:=HT.out;have hE:=h1;zq0));obtain⟨v0,v1,v2,v3,v4,v5,v6,v7,v8,v9⟩:=h1.t.cells;have vU:=row_lt H1.out.t.bU;clear h1))
  go_region_held3 (fun W'=>W'.cell? ⟨U,0,none⟩=some (.func (Fn.func 18) #[] #[.pointer (some ⟨k.B,0,none⟩)])∧W'.cell? ⟨U,1,none⟩=some (.func (Fn.func 19) #[] #[.pointer (some ⟨k.L,0,none⟩)])∧W'.cell? ⟨U,2,none⟩=some (.int .i64 x.op)∧W'.cell? ⟨U,3,none⟩=some (.int .i64 x.D)∧W'.cell? ⟨U,4,none⟩=some (.int .i64 x.S)∧W'.cell? ⟨U,5,none⟩=some (.int .i64 x.O)∧W'.cell? ⟨U,6,none⟩=some (.int .u32 x.im)∧W'.cell? ⟨U,7,none⟩=some (.int .u32 x.pc)∧W'.cell? ⟨U,8,none⟩=some (.int .u32 x.next)∧W'.cell? ⟨U,9,none⟩=some (.int .i64 x.done)) (first|(simp[go_sem,d0,d1,d2,d3,d4,d5,d6,d7,d8,d9];done)|(simp[go_sem,c0,c1,c2,c3,c4,c5,c6,c7,c8,c9];done)|(simp[go_sem,z0,z1,z2,z3,z4,z5,z6,z7,z8,z9];done)|(simp[go_sem,y0,y1,y2,y3,y4,y5,y6,y7,y8,y9];done)|(simp[go_sem,t0,t1,t2,t3,t4,t5,t6,t7,t8,t9];done)|(simp[go_sem,s0,s1,s2,s3,s4,s5,s6,s7,s8,s9];done)|(simp[go_sem,r0,r1,r2,r3,r4,r5,r6,r7,r8,r9];done)|(simp[go_sem,q0,q1,q2,q3,q4,q5,q6,q7,q8,q9];done)|(simp[go_sem,v0,v1,v2,v3,v4,v5,v6,v7,v8,v9];done)|(simp[go_sem,u0,u1,u2,u3,u4,u5,u6,u7,u8,u9,lU];done))
    (first
      | (have HQ3:=H2;go_at_call 19;refine(read_m k U x _ (m+1+1+1+1) x.D _ ?_ HM4.out).mono ?_;(have hT:=H2.out.t;(exact zq1));rintro e w3 ⟨rfl,h3⟩;have H3:Hid (Em w2 w3 k U x (qa15 l m x)):=(show Em _ _ _ _ _ _ from(have hT:=H2.out.t;have hE:=h3;zq0));obtain⟨r0,r1,r2,r3,r4,r5,r6,r7,r8,r9⟩:=h3.t.cells;have rU:=row_lt H3.out.t.bU;clear h3 HQ3))
  all_goals go_wp2_with (first
      | (have HQ9:=H8;go_at_call 78;refine(tell2 k U x _ (m+1+1+1+1+1+1+1+1+1+1) 3 _ _ #[.int .i64 (m+1+1+1+1+1),.int .i64 (m+1+1+1)] (m+1+1+1+1+1) (m+1+1+1) _ ?_ HM10.out zq9 ?_ rfl rfl ?_ (by decide)).mono ?_;(have hT:=H8.out.t;(exact zq1));(focus(exact heap_alloc_last _ _));(focus(have:=H8.out.t.ltB;omega));rintro e w9 ⟨rfl,h9⟩;have H9:Hid (Em w8 w9 k U x ((qa13 l m x)++[⟨3,10,m+1+1+1,0,0,0,0⟩])):=(show Em _ _ _ _ _ _ from(have hT:=H8.out.t;have hE:=h9;zq0));obtain⟨d0,d1,d2,d3,d4,d5,d6,d7,d8,d9⟩:=h9.t.cells;have dU:=row_lt H9.out.t.bU;clear h9 HQ9)
      | (have HQ8:=H7;go_at_call 50;refine(put_m k U x _ (m+1+1+1+1+1+1+1+1+1) 0 (m+1+1+1) _ ?_ HM9.out).mono ?_;(have hT:=H7.out.t;(exact zq1));rintro e w8 ⟨rfl,h8⟩;have H8:Hid (Em w7 w8 k U x ((qa1 l m x)++[⟨3,0,m+1+1+1,0,0,0,0⟩])):=(show Em _ _ _ _ _ _ from(have hT:=H7.out.t;have hE:=h8;zq0));obtain⟨c0,c1,c2,c3,c4,c5,c6,c7,c8,c9⟩:=h8.t.cells;have cU:=row_lt H8.out.t.bU;clear h8 HQ8)
      | (have HQ7:=H6;go_at_call 53;refine(store_m k U x _ (m+1+1+1+1+1+1+1+1) 2 (m+1+1) (m+1+1+1+1+1+1+1) _ ?_ HM8.out).mono ?_;(have hT:=H6.out.t;(exact zq1));rintro e w7 ⟨rfl,h7⟩;have H7:Hid (Em w6 w7 k U x (qa1 l m x)):=(show Em _ _ _ _ _ _ from(have hT:=H6.out.t;have hE:=h7;zq0));obtain⟨z0,z1,z2,z3,z4,z5,z6,z7,z8,z9⟩:=h7.t.cells;have zU:=row_lt H7.out.t.bU;clear h7 HQ7)
      | (have HQ6:=H5;go_at_call 18;refine(lay_m k U x _ (m+1+1+1+1+1+1+1) ⟨6,0,m+1+1+1+1+1+1,m+1+1+1+1,m+1+1+1,0,0⟩ _ ?_ HM7.out).mono ?_;(have hT:=H5.out.t;(exact zq1));rintro e w6 ⟨rfl,h6⟩;have H6:Hid (Em w5 w6 k U x ((qa25 l m x)++[⟨6,0,m+1+1+1+1+1+1,m+1+1+1+1,m+1+1+1,0,0⟩])):=(show Em _ _ _ _ _ _ from(have hT:=H5.out.t;have hE:=h6;zq0));obtain⟨y0,y1,y2,y3,y4,y5,y6,y7,y8,y9⟩:=h6.t.cells;have yU:=row_lt H6.out.t.bU;clear h6 HQ6)
      | (have HQ5:=H4;go_at_call 77;refine(bin_m k U x _ (m+1+1+1+1+1+1) 13 (m+1+1+1+1+1) (m+1+1+1) _ ?_ HM6.out).mono ?_;(have hT:=H4.out.t;(exact zq1));rintro e w5 ⟨rfl,h5⟩;have H5:Hid (Em w4 w5 k U x (qa25 l m x)):=(show Em _ _ _ _ _ _ from(have hT:=H4.out.t;have hE:=h5;zq0));obtain⟨t0,t1,t2,t3,t4,t5,t6,t7,t8,t9⟩:=h5.t.cells;have tU:=row_lt H5.out.t.bU;clear h5 HQ5)
      | (have HQ4:=H3;go_at_call 19;refine(read_m k U x _ (m+1+1+1+1+1) 0 _ ?_ HM5.out).mono ?_;(have hT:=H3.out.t;(exact zq1));rintro e w4 ⟨rfl,h4⟩;have H4:Hid (Em w3 w4 k U x ((qa15 l m x)++[⟨2,0,0,0,0,0,0⟩])):=(show Em _ _ _ _ _ _ from(have hT:=H3.out.t;have hE:=h4;zq0));obtain⟨s0,s1,s2,s3,s4,s5,s6,s7,s8,s9⟩:=h4.t.cells;have sU:=row_lt H4.out.t.bU;clear h4 HQ4))
  all_goals go_end0
  all_goals exact⟨rfl,((((((((H1.out).trans H2.out).trans H3.out).trans H4.out).trans H5.out).trans H6.out).trans H7.out).trans H8.out).trans H9.out⟩
end Go.Proofs.YtfokgedjocnnmaaGreat
