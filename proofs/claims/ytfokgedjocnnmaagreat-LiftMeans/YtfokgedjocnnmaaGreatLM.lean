import Derived.Test.YtfokgedjocnnmaaGreatLP
import Derived.Test.YtfokgedjocnnmaaGreatLI
import Derived.Test.YtfokgedjocnnmaaGreatLI3
set_option linter.unusedVariables false
set_option linter.unusedSimpArgs false
set_option maxHeartbeats 4000000
namespace Go.Proofs.YtfokgedjocnnmaaGreat
open Go.RowKit
set_option maxRecDepth 100000
theorem reck7(k:BK)(U:Nat)(x:XI)(l:List OpR)(m:Int)(b:Int)(w:World)(h:TU w k U x l)(hm:Ln l m)(hmx:m+120 < 90000)(hd:0≤x.done∧x.done≤64)(hO:x.O=7) :
    Calls Tryz.prog 48 #[.pointer (some ⟨U,0,none⟩),.int .i64 b] w fun e w'=>e=.returned (.tuple #[])∧Em w w' k U x ((qa32 l m x)++[⟨3,10,b,0,0,0,0⟩]):=by
  obtain⟨u0,u1,u2,u3,u4,u5,u6,u7,u8,u9⟩:=h.cells
  have lU:=row_lt h.bU
  have HDN:Hid _:=hd
  have HMX:Hid (m+120 < 90000):=hmx
  have HWR:Hid _:=wrap_done x.done hd.1 hd.2
  have o7:(x.O==7)=true:=by simp[hO]
  clear hO
  have HT:Hid _:=h
  have HM0:Hid (Ln l m):=hm
  have HM1:Hid (Ln (l++[⟨2,x.D,0,0,0,0,0⟩]) (m+1)):=HM0.out.next zo _
  have HM2:Hid (Ln ((l++[⟨2,x.D,0,0,0,0,0⟩])++[⟨1,0,0,0,0,3,0⟩]) (m+1+1)):=HM1.out.next zo _
  have HM3:Hid (Ln (((l++[⟨2,x.D,0,0,0,0,0⟩])++[⟨1,0,0,0,0,3,0⟩])++[⟨3,8,m+1,0,0,0,0⟩]) (m+1+1+1)):=HM2.out.next zo _
  have HM4:Hid (Ln (qa32 l m x) (m+1+1+1+1)):=HM3.out.next zo _
  have HM5:Hid (Ln ((qa32 l m x)++[⟨3,10,b,0,0,0,0⟩]) (m+1+1+1+1+1)):=HM4.out.next zo _
  clear h hm hd
  clear hmx
  go_enter Tryz.func48,Tryz.ntmps48
  go_upto_region 0 with fail
  go_region_held3 (fun W'=>W'.cell? ⟨U,0,none⟩=some (.func (Fn.func 18) #[] #[.pointer (some ⟨k.B,0,none⟩)])∧W'.cell? ⟨U,1,none⟩=some (.func (Fn.func 19) #[] #[.pointer (some ⟨k.L,0,none⟩)])∧W'.cell? ⟨U,2,none⟩=some (.int .i64 x.op)∧W'.cell? ⟨U,3,none⟩=some (.int .i64 x.D)∧W'.cell? ⟨U,4,none⟩=some (.int .i64 x.S)∧W'.cell? ⟨U,5,none⟩=some (.int .i64 x.O)∧W'.cell? ⟨U,6,none⟩=some (.int .u32 x.im)∧W'.cell? ⟨U,7,none⟩=some (.int .u32 x.pc)∧W'.cell? ⟨U,8,none⟩=some (.int .u32 x.next)∧W'.cell? ⟨U,9,none⟩=some (.int .i64 x.done)) (first|(simp[go_sem,q0,q1,q2,q3,q4,q5,q6,q7,q8,q9];done)|(simp[go_sem,v0,v1,v2,v3,v4,v5,v6,v7,v8,v9];done)|(simp[go_sem,u0,u1,u2,u3,u4,u5,u6,u7,u8,u9,lU];done))
    (first
      | (go_at_call 19;refine(read_m k U x _ (m) x.D _ ?_ HM0.out).mono ?_;(have hT:=HT.out;(exact zq1));rintro e w1 ⟨rfl,h1⟩;have H1:Hid (Em w w1 k U x (l++[⟨2,x.D,0,0,0,0,0⟩])):=(show Em _ _ _ _ _ _ from(have hT:=HT.out;have hE:=h1;zq0));obtain⟨v0,v1,v2,v3,v4,v5,v6,v7,v8,v9⟩:=h1.t.cells;have vU:=row_lt H1.out.t.bU;clear h1))
  all_goals go_wp2_with (first
      | (have HQ2:=H1;go_at_call 78;refine(tell2 k U x _ (m+1) 3 _ _ #[.int .i64 (m),.int .i64 (b)] (m) (b) _ ?_ HM1.out zq9 ?_ rfl rfl ?_ (by decide)).mono ?_;(have hT:=H1.out.t;(exact zq1));(focus(exact heap_alloc_last _ _));(focus(have:=H1.out.t.ltB;omega));rintro e w2 ⟨rfl,h2⟩;have H2:Hid (Em w1 w2 k U x ((qa32 l m x)++[⟨3,10,b,0,0,0,0⟩])):=(show Em _ _ _ _ _ _ from(have hT:=H1.out.t;have hE:=h2;zq0));obtain⟨q0,q1,q2,q3,q4,q5,q6,q7,q8,q9⟩:=h2.t.cells;have qU:=row_lt H2.out.t.bU;clear h2 HQ2))
  all_goals go_end0
  all_goals exact⟨rfl,(H1.out).trans H2.out⟩
theorem reck8(k:BK)(U:Nat)(x:XI)(l:List OpR)(m:Int)(b:Int)(w:World)(h:TU w k U x l)(hm:Ln l m)(hmx:m+120 < 90000)(hd:0≤x.done∧x.done≤64)(hO:x.O=8) :
    Calls Tryz.prog 48 #[.pointer (some ⟨U,0,none⟩),.int .i64 b] w fun e w'=>e=.returned (.tuple #[])∧Em w w' k U x (((((l++[⟨2,x.D,0,0,0,0,0⟩])++[⟨4,2,m,b,0,0,0⟩])++[⟨1,0,0,0,0,5,0⟩])++[⟨3,8,m+1+1,0,0,0,0⟩])++[⟨3,9,m+1,0,0,0,0⟩]):=by
  obtain⟨u0,u1,u2,u3,u4,u5,u6,u7,u8,u9⟩:=h.cells
  have lU:=row_lt h.bU
  have HDN:Hid _:=hd
  have HMX:Hid (m+120 < 90000):=hmx
  have HWR:Hid _:=wrap_done x.done hd.1 hd.2
  have o7:(x.O==7)=false:=by simp[hO]
  have o8:(x.O==8)=true:=by simp[hO]
  clear hO
  have HT:Hid _:=h
  have HM0:Hid (Ln l m):=hm
  have HM1:Hid (Ln (l++[⟨2,x.D,0,0,0,0,0⟩]) (m+1)):=HM0.out.next zo _
  have HM2:Hid (Ln ((l++[⟨2,x.D,0,0,0,0,0⟩])++[⟨4,2,m,b,0,0,0⟩]) (m+1+1)):=HM1.out.next zo _
  have HM3:Hid (Ln (((l++[⟨2,x.D,0,0,0,0,0⟩])++[⟨4,2,m,b,0,0,0⟩])++[⟨1,0,0,0,0,5,0⟩]) (m+1+1+1)):=HM2.out.next zo _
  have HM4:Hid (Ln ((((l++[⟨2,x.D,0,0,0,0,0⟩])++[⟨4,2,m,b,0,0,0⟩])++[⟨1,0,0,0,0,5,0⟩])++[⟨3,8,m+1+1,0,0,0,0⟩]) (m+1+1+1+1)):=HM3.out.next zo _
  have HM5:Hid (Ln (((((l++[⟨2,x.D,0,0,0,0,0⟩])++[⟨4,2,m,b,0,0,0⟩])++[⟨1,0,0,0,0,5,0⟩])++[⟨3,8,m+1+1,0,0,0,0⟩])++[⟨3,9,m+1,0,0,0,0⟩]) (m+1+1+1+1+1)):=HM4.out.next zo _
  clear h hm hd
  clear hmx
  go_enter Tryz.func48,Tryz.ntmps48
  go_upto_region 0 with fail
  go_region_held3 (fun W'=>W'.cell? ⟨U,0,none⟩=some (.func (Fn.func 18) #[] #[.pointer (some ⟨k.B,0,none⟩)])∧W'.cell? ⟨U,1,none⟩=some (.func (Fn.func 19) #[] #[.pointer (some ⟨k.L,0,none⟩)])∧W'.cell? ⟨U,2,none⟩=some (.int .i64 x.op)∧W'.cell? ⟨U,3,none⟩=some (.int .i64 x.D)∧W'.cell? ⟨U,4,none⟩=some (.int .i64 x.S)∧W'.cell? ⟨U,5,none⟩=some (.int .i64 x.O)∧W'.cell? ⟨U,6,none⟩=some (.int .u32 x.im)∧W'.cell? ⟨U,7,none⟩=some (.int .u32 x.pc)∧W'.cell? ⟨U,8,none⟩=some (.int .u32 x.next)∧W'.cell? ⟨U,9,none⟩=some (.int .i64 x.done)) (first|(simp[go_sem,r0,r1,r2,r3,r4,r5,r6,r7,r8,r9];done)|(simp[go_sem,q0,q1,q2,q3,q4,q5,q6,q7,q8,q9];done)|(simp[go_sem,v0,v1,v2,v3,v4,v5,v6,v7,v8,v9];done)|(simp[go_sem,u0,u1,u2,u3,u4,u5,u6,u7,u8,u9,lU];done))
    (first
      | (go_at_call 19;refine(read_m k U x _ (m) x.D _ ?_ HM0.out).mono ?_;(have hT:=HT.out;(exact zq1));rintro e w1 ⟨rfl,h1⟩;have H1:Hid (Em w w1 k U x (l++[⟨2,x.D,0,0,0,0,0⟩])):=(show Em _ _ _ _ _ _ from(have hT:=HT.out;have hE:=h1;zq0));obtain⟨v0,v1,v2,v3,v4,v5,v6,v7,v8,v9⟩:=h1.t.cells;have vU:=row_lt H1.out.t.bU;clear h1))
  all_goals go_wp2_with (first
      | (have HQ3:=H2;go_at_call 78;refine(tell1 k U x _ (m+1+1) 5 _ _ #[.int .i64 (m+1)] (m+1) _ ?_ HM2.out zq9 ?_ rfl ?_ (by decide)).mono ?_;(have hT:=H2.out.t;(exact zq1));(focus(exact heap_alloc_last _ _));(focus(have:=H2.out.t.ltB;omega));rintro e w3 ⟨rfl,h3⟩;have H3:Hid (Em w2 w3 k U x (((((l++[⟨2,x.D,0,0,0,0,0⟩])++[⟨4,2,m,b,0,0,0⟩])++[⟨1,0,0,0,0,5,0⟩])++[⟨3,8,m+1+1,0,0,0,0⟩])++[⟨3,9,m+1,0,0,0,0⟩])):=(show Em _ _ _ _ _ _ from(have hT:=H2.out.t;have hE:=h3;zq0));obtain⟨r0,r1,r2,r3,r4,r5,r6,r7,r8,r9⟩:=h3.t.cells;have rU:=row_lt H3.out.t.bU;clear h3 HQ3)
      | (have HQ2:=H1;go_at_call 77;refine(bin_m k U x _ (m+1) 2 (m) (b) _ ?_ HM1.out).mono ?_;(have hT:=H1.out.t;(exact zq1));rintro e w2 ⟨rfl,h2⟩;have H2:Hid (Em w1 w2 k U x ((l++[⟨2,x.D,0,0,0,0,0⟩])++[⟨4,2,m,b,0,0,0⟩])):=(show Em _ _ _ _ _ _ from(have hT:=H1.out.t;have hE:=h2;zq0));obtain⟨q0,q1,q2,q3,q4,q5,q6,q7,q8,q9⟩:=h2.t.cells;have qU:=row_lt H2.out.t.bU;clear h2 HQ2))
  all_goals go_end0
  all_goals exact⟨rfl,((H1.out).trans H2.out).trans H3.out⟩
theorem reckB(k:BK)(U:Nat)(x:XI)(l:List OpR)(m:Int)(b:Int)(O:Nat)(gb:Int)(gk:Nat)(w:World)(h:TU w k U x l)(hm:Ln l m)(hmx:m+120 < 90000)(hd:0≤x.done∧x.done≤64)(hO:x.O=O)(hrow:ChRow O gb gk 0)(n7:x.O≠7)(n8:x.O≠8)(n14:x.O≠14)(n15:x.O≠15) :
    Calls Tryz.prog 48 #[.pointer (some ⟨U,0,none⟩),.int .i64 b] w fun e w'=>e=.returned (.tuple #[])∧Em w w' k U x (((((((l++[⟨2,x.D,0,0,0,0,0⟩])++[⟨4,gb,m,b,0,0,0⟩])++[⟨3,x.D,m+1,0,0,0,0⟩])++[⟨1,0,0,0,0,gk,0⟩])++[⟨3,8,m+1+1+1,0,0,0,0⟩])++[⟨3,9,m,0,0,0,0⟩])++[⟨3,10,b,0,0,0,0⟩]):=by
  obtain⟨u0,u1,u2,u3,u4,u5,u6,u7,u8,u9⟩:=h.cells
  have lU:=row_lt h.bU
  have HDN:Hid _:=hd
  have HMX:Hid (m+120 < 90000):=hmx
  have HWR:Hid _:=wrap_done x.done hd.1 hd.2
  have HO:Hid _:=hO
  have HROW:Hid _:=hrow
  have o7:(x.O==7)=false:=by simp;exact n7
  have o8:(x.O==8)=false:=by simp;exact n8
  have o14:(x.O==14)=false:=by simp;exact n14
  have o15:(x.O==15)=false:=by simp;exact n15
  clear hO hrow n7 n8 n14 n15
  have HT:Hid _:=h
  have HM0:Hid (Ln l m):=hm
  have HM1:Hid (Ln (l++[⟨2,x.D,0,0,0,0,0⟩]) (m+1)):=HM0.out.next zo _
  have HM2:Hid (Ln ((l++[⟨2,x.D,0,0,0,0,0⟩])++[⟨4,gb,m,b,0,0,0⟩]) (m+1+1)):=HM1.out.next zo _
  have HM3:Hid (Ln (((l++[⟨2,x.D,0,0,0,0,0⟩])++[⟨4,gb,m,b,0,0,0⟩])++[⟨3,x.D,m+1,0,0,0,0⟩]) (m+1+1+1)):=HM2.out.next zo _
  have HM4:Hid (Ln ((((l++[⟨2,x.D,0,0,0,0,0⟩])++[⟨4,gb,m,b,0,0,0⟩])++[⟨3,x.D,m+1,0,0,0,0⟩])++[⟨1,0,0,0,0,gk,0⟩]) (m+1+1+1+1)):=HM3.out.next zo _
  have HM5:Hid (Ln (((((l++[⟨2,x.D,0,0,0,0,0⟩])++[⟨4,gb,m,b,0,0,0⟩])++[⟨3,x.D,m+1,0,0,0,0⟩])++[⟨1,0,0,0,0,gk,0⟩])++[⟨3,8,m+1+1+1,0,0,0,0⟩]) (m+1+1+1+1+1)):=HM4.out.next zo _
  have HM6:Hid (Ln ((((((l++[⟨2,x.D,0,0,0,0,0⟩])++[⟨4,gb,m,b,0,0,0⟩])++[⟨3,x.D,m+1,0,0,0,0⟩])++[⟨1,0,0,0,0,gk,0⟩])++[⟨3,8,m+1+1+1,0,0,0,0⟩])++[⟨3,9,m,0,0,0,0⟩]) (m+1+1+1+1+1+1)):=HM5.out.next zo _
  have HM7:Hid (Ln (((((((l++[⟨2,x.D,0,0,0,0,0⟩])++[⟨4,gb,m,b,0,0,0⟩])++[⟨3,x.D,m+1,0,0,0,0⟩])++[⟨1,0,0,0,0,gk,0⟩])++[⟨3,8,m+1+1+1,0,0,0,0⟩])++[⟨3,9,m,0,0,0,0⟩])++[⟨3,10,b,0,0,0,0⟩]) (m+1+1+1+1+1+1+1)):=HM6.out.next zo _
  clear h hm hd
  clear hmx
  go_enter Tryz.func48,Tryz.ntmps48
  go_upto_region 0 with fail
  go_region_held3 (fun W'=>W'.cell? ⟨U,0,none⟩=some (.func (Fn.func 18) #[] #[.pointer (some ⟨k.B,0,none⟩)])∧W'.cell? ⟨U,1,none⟩=some (.func (Fn.func 19) #[] #[.pointer (some ⟨k.L,0,none⟩)])∧W'.cell? ⟨U,2,none⟩=some (.int .i64 x.op)∧W'.cell? ⟨U,3,none⟩=some (.int .i64 x.D)∧W'.cell? ⟨U,4,none⟩=some (.int .i64 x.S)∧W'.cell? ⟨U,5,none⟩=some (.int .i64 x.O)∧W'.cell? ⟨U,6,none⟩=some (.int .u32 x.im)∧W'.cell? ⟨U,7,none⟩=some (.int .u32 x.pc)∧W'.cell? ⟨U,8,none⟩=some (.int .u32 x.next)∧W'.cell? ⟨U,9,none⟩=some (.int .i64 x.done)) (first|(simp[go_sem,q0,q1,q2,q3,q4,q5,q6,q7,q8,q9];done)|(simp[go_sem,v0,v1,v2,v3,v4,v5,v6,v7,v8,v9];done)|(simp[go_sem,u0,u1,u2,u3,u4,u5,u6,u7,u8,u9,lU];done))
    (first
      | (go_at_call 19;refine(read_m k U x _ (m) x.D _ ?_ HM0.out).mono ?_;(have hT:=HT.out;(exact zq1));rintro e w1 ⟨rfl,h1⟩;have H1:Hid (Em w w1 k U x (l++[⟨2,x.D,0,0,0,0,0⟩])):=(show Em _ _ _ _ _ _ from(have hT:=HT.out;have hE:=h1;zq0));obtain⟨v0,v1,v2,v3,v4,v5,v6,v7,v8,v9⟩:=h1.t.cells;have vU:=row_lt H1.out.t.bU;clear h1))
  all_goals go_wp2_with (first
      | (have HQ2:=H1;go_at_call 80;refine(chgB k U x _ (m+1) (m) (b) O gb gk _ ?_ HM1.out zq9 HDN.out HO.out HROW.out).mono ?_;(have hT:=H1.out.t;(exact zq1));rintro e w2 ⟨rfl,h2⟩;have H2:Hid (Em w1 w2 k U x (((((((l++[⟨2,x.D,0,0,0,0,0⟩])++[⟨4,gb,m,b,0,0,0⟩])++[⟨3,x.D,m+1,0,0,0,0⟩])++[⟨1,0,0,0,0,gk,0⟩])++[⟨3,8,m+1+1+1,0,0,0,0⟩])++[⟨3,9,m,0,0,0,0⟩])++[⟨3,10,b,0,0,0,0⟩])):=(show Em _ _ _ _ _ _ from(have hT:=H1.out.t;have hE:=h2;zq0));obtain⟨q0,q1,q2,q3,q4,q5,q6,q7,q8,q9⟩:=h2.t.cells;have qU:=row_lt H2.out.t.bU;clear h2 HQ2))
  all_goals go_end0
  all_goals exact⟨rfl,(H1.out).trans H2.out⟩
theorem reckV(k:BK)(U:Nat)(x:XI)(l:List OpR)(m:Int)(b:Int)(O:Nat)(gb:Int)(gk:Nat)(w:World)(h:TU w k U x l)(hm:Ln l m)(hmx:m+120 < 90000)(hd:0≤x.done∧x.done≤64)(hO:x.O=O)(hrow:ChRow O gb gk 1)(n7:x.O≠7)(n8:x.O≠8)(n14:x.O≠14)(n15:x.O≠15) :
    Calls Tryz.prog 48 #[.pointer (some ⟨U,0,none⟩),.int .i64 b] w fun e w'=>e=.returned (.tuple #[])∧Em w w' k U x ((((((l++[⟨2,x.D,0,0,0,0,0⟩])++[⟨4,gb,m,b,0,0,0⟩])++[⟨3,x.D,m+1,0,0,0,0⟩])++[⟨1,0,0,0,0,gk,0⟩])++[⟨3,8,m+1+1+1,0,0,0,0⟩])++[⟨3,9,m+1,0,0,0,0⟩]):=by
  obtain⟨u0,u1,u2,u3,u4,u5,u6,u7,u8,u9⟩:=h.cells
  have lU:=row_lt h.bU
  have HDN:Hid _:=hd
  have HMX:Hid (m+120 < 90000):=hmx
  have HWR:Hid _:=wrap_done x.done hd.1 hd.2
  have HO:Hid _:=hO
  have HROW:Hid _:=hrow
  have o7:(x.O==7)=false:=by simp;exact n7
  have o8:(x.O==8)=false:=by simp;exact n8
  have o14:(x.O==14)=false:=by simp;exact n14
  have o15:(x.O==15)=false:=by simp;exact n15
  clear hO hrow n7 n8 n14 n15
  have HT:Hid _:=h
  have HM0:Hid (Ln l m):=hm
  have HM1:Hid (Ln (l++[⟨2,x.D,0,0,0,0,0⟩]) (m+1)):=HM0.out.next zo _
  have HM2:Hid (Ln ((l++[⟨2,x.D,0,0,0,0,0⟩])++[⟨4,gb,m,b,0,0,0⟩]) (m+1+1)):=HM1.out.next zo _
  have HM3:Hid (Ln (((l++[⟨2,x.D,0,0,0,0,0⟩])++[⟨4,gb,m,b,0,0,0⟩])++[⟨3,x.D,m+1,0,0,0,0⟩]) (m+1+1+1)):=HM2.out.next zo _
  have HM4:Hid (Ln ((((l++[⟨2,x.D,0,0,0,0,0⟩])++[⟨4,gb,m,b,0,0,0⟩])++[⟨3,x.D,m+1,0,0,0,0⟩])++[⟨1,0,0,0,0,gk,0⟩]) (m+1+1+1+1)):=HM3.out.next zo _
  have HM5:Hid (Ln (((((l++[⟨2,x.D,0,0,0,0,0⟩])++[⟨4,gb,m,b,0,0,0⟩])++[⟨3,x.D,m+1,0,0,0,0⟩])++[⟨1,0,0,0,0,gk,0⟩])++[⟨3,8,m+1+1+1,0,0,0,0⟩]) (m+1+1+1+1+1)):=HM4.out.next zo _
  have HM6:Hid (Ln ((((((l++[⟨2,x.D,0,0,0,0,0⟩])++[⟨4,gb,m,b,0,0,0⟩])++[⟨3,x.D,m+1,0,0,0,0⟩])++[⟨1,0,0,0,0,gk,0⟩])++[⟨3,8,m+1+1+1,0,0,0,0⟩])++[⟨3,9,m+1,0,0,0,0⟩]) (m+1+1+1+1+1+1)):=HM5.out.next zo _
  clear h hm hd
  clear hmx
  go_enter Tryz.func48,Tryz.ntmps48
  go_upto_region 0 with fail
  go_region_held3 (fun W'=>W'.cell? ⟨U,0,none⟩=some (.func (Fn.func 18) #[] #[.pointer (some ⟨k.B,0,none⟩)])∧W'.cell? ⟨U,1,none⟩=some (.func (Fn.func 19) #[] #[.pointer (some ⟨k.L,0,none⟩)])∧W'.cell? ⟨U,2,none⟩=some (.int .i64 x.op)∧W'.cell? ⟨U,3,none⟩=some (.int .i64 x.D)∧W'.cell? ⟨U,4,none⟩=some (.int .i64 x.S)∧W'.cell? ⟨U,5,none⟩=some (.int .i64 x.O)∧W'.cell? ⟨U,6,none⟩=some (.int .u32 x.im)∧W'.cell? ⟨U,7,none⟩=some (.int .u32 x.pc)∧W'.cell? ⟨U,8,none⟩=some (.int .u32 x.next)∧W'.cell? ⟨U,9,none⟩=some (.int .i64 x.done)) (first|(simp[go_sem,q0,q1,q2,q3,q4,q5,q6,q7,q8,q9];done)|(simp[go_sem,v0,v1,v2,v3,v4,v5,v6,v7,v8,v9];done)|(simp[go_sem,u0,u1,u2,u3,u4,u5,u6,u7,u8,u9,lU];done))
    (first
      | (go_at_call 19;refine(read_m k U x _ (m) x.D _ ?_ HM0.out).mono ?_;(have hT:=HT.out;(exact zq1));rintro e w1 ⟨rfl,h1⟩;have H1:Hid (Em w w1 k U x (l++[⟨2,x.D,0,0,0,0,0⟩])):=(show Em _ _ _ _ _ _ from(have hT:=HT.out;have hE:=h1;zq0));obtain⟨v0,v1,v2,v3,v4,v5,v6,v7,v8,v9⟩:=h1.t.cells;have vU:=row_lt H1.out.t.bU;clear h1))
  all_goals go_wp2_with (first
      | (have HQ2:=H1;go_at_call 80;refine(chgV k U x _ (m+1) (m) (b) O gb gk _ ?_ HM1.out zq9 HDN.out HO.out HROW.out).mono ?_;(have hT:=H1.out.t;(exact zq1));rintro e w2 ⟨rfl,h2⟩;have H2:Hid (Em w1 w2 k U x ((((((l++[⟨2,x.D,0,0,0,0,0⟩])++[⟨4,gb,m,b,0,0,0⟩])++[⟨3,x.D,m+1,0,0,0,0⟩])++[⟨1,0,0,0,0,gk,0⟩])++[⟨3,8,m+1+1+1,0,0,0,0⟩])++[⟨3,9,m+1,0,0,0,0⟩])):=(show Em _ _ _ _ _ _ from(have hT:=H1.out.t;have hE:=h2;zq0));obtain⟨q0,q1,q2,q3,q4,q5,q6,q7,q8,q9⟩:=h2.t.cells;have qU:=row_lt H2.out.t.bU;clear h2 HQ2))
  all_goals go_end0
  all_goals exact⟨rfl,(H1.out).trans H2.out⟩
theorem reckF(k:BK)(U:Nat)(x:XI)(l:List OpR)(m:Int)(b:Int)(O:Nat)(gb:Int)(gk:Nat)(w:World)(h:TU w k U x l)(hm:Ln l m)(hmx:m+120 < 90000)(hd:0≤x.done∧x.done≤64)(hO:x.O=O)(hrow:ChRow O gb gk 2)(n7:x.O≠7)(n8:x.O≠8)(n14:x.O≠14)(n15:x.O≠15) :
    Calls Tryz.prog 48 #[.pointer (some ⟨U,0,none⟩),.int .i64 b] w fun e w'=>e=.returned (.tuple #[])∧Em w w' k U x (((((((((l++[⟨2,x.D,0,0,0,0,0⟩])++[⟨4,gb,m,b,0,0,0⟩])++[⟨17,0,0,0,0,0,0⟩])++[⟨3,x.D,m+1,0,0,0,0⟩])++[⟨1,0,0,0,0,gk,0⟩])++[⟨3,8,m+1+1+1+1,0,0,0,0⟩])++[⟨3,9,m,0,0,0,0⟩])++[⟨3,10,b,0,0,0,0⟩])++[⟨3,11,m+1+1,0,0,0,0⟩]):=by
  obtain⟨u0,u1,u2,u3,u4,u5,u6,u7,u8,u9⟩:=h.cells
  have lU:=row_lt h.bU
  have HDN:Hid _:=hd
  have HMX:Hid (m+120 < 90000):=hmx
  have HWR:Hid _:=wrap_done x.done hd.1 hd.2
  have HO:Hid _:=hO
  have HROW:Hid _:=hrow
  have o7:(x.O==7)=false:=by simp;exact n7
  have o8:(x.O==8)=false:=by simp;exact n8
  have o14:(x.O==14)=false:=by simp;exact n14
  have o15:(x.O==15)=false:=by simp;exact n15
  clear hO hrow n7 n8 n14 n15
  have HT:Hid _:=h
  have HM0:Hid (Ln l m):=hm
  have HM1:Hid (Ln (l++[⟨2,x.D,0,0,0,0,0⟩]) (m+1)):=HM0.out.next zo _
  have HM2:Hid (Ln ((l++[⟨2,x.D,0,0,0,0,0⟩])++[⟨4,gb,m,b,0,0,0⟩]) (m+1+1)):=HM1.out.next zo _
  have HM3:Hid (Ln (((l++[⟨2,x.D,0,0,0,0,0⟩])++[⟨4,gb,m,b,0,0,0⟩])++[⟨17,0,0,0,0,0,0⟩]) (m+1+1+1)):=HM2.out.next zo _
  have HM4:Hid (Ln ((((l++[⟨2,x.D,0,0,0,0,0⟩])++[⟨4,gb,m,b,0,0,0⟩])++[⟨17,0,0,0,0,0,0⟩])++[⟨3,x.D,m+1,0,0,0,0⟩]) (m+1+1+1+1)):=HM3.out.next zo _
  have HM5:Hid (Ln (((((l++[⟨2,x.D,0,0,0,0,0⟩])++[⟨4,gb,m,b,0,0,0⟩])++[⟨17,0,0,0,0,0,0⟩])++[⟨3,x.D,m+1,0,0,0,0⟩])++[⟨1,0,0,0,0,gk,0⟩]) (m+1+1+1+1+1)):=HM4.out.next zo _
  have HM6:Hid (Ln ((((((l++[⟨2,x.D,0,0,0,0,0⟩])++[⟨4,gb,m,b,0,0,0⟩])++[⟨17,0,0,0,0,0,0⟩])++[⟨3,x.D,m+1,0,0,0,0⟩])++[⟨1,0,0,0,0,gk,0⟩])++[⟨3,8,m+1+1+1+1,0,0,0,0⟩]) (m+1+1+1+1+1+1)):=HM5.out.next zo _
  have HM7:Hid (Ln (((((((l++[⟨2,x.D,0,0,0,0,0⟩])++[⟨4,gb,m,b,0,0,0⟩])++[⟨17,0,0,0,0,0,0⟩])++[⟨3,x.D,m+1,0,0,0,0⟩])++[⟨1,0,0,0,0,gk,0⟩])++[⟨3,8,m+1+1+1+1,0,0,0,0⟩])++[⟨3,9,m,0,0,0,0⟩]) (m+1+1+1+1+1+1+1)):=HM6.out.next zo _
  have HM8:Hid (Ln ((((((((l++[⟨2,x.D,0,0,0,0,0⟩])++[⟨4,gb,m,b,0,0,0⟩])++[⟨17,0,0,0,0,0,0⟩])++[⟨3,x.D,m+1,0,0,0,0⟩])++[⟨1,0,0,0,0,gk,0⟩])++[⟨3,8,m+1+1+1+1,0,0,0,0⟩])++[⟨3,9,m,0,0,0,0⟩])++[⟨3,10,b,0,0,0,0⟩]) (m+1+1+1+1+1+1+1+1)):=HM7.out.next zo _
  have HM9:Hid (Ln (((((((((l++[⟨2,x.D,0,0,0,0,0⟩])++[⟨4,gb,m,b,0,0,0⟩])++[⟨17,0,0,0,0,0,0⟩])++[⟨3,x.D,m+1,0,0,0,0⟩])++[⟨1,0,0,0,0,gk,0⟩])++[⟨3,8,m+1+1+1+1,0,0,0,0⟩])++[⟨3,9,m,0,0,0,0⟩])++[⟨3,10,b,0,0,0,0⟩])++[⟨3,11,m+1+1,0,0,0,0⟩]) (m+1+1+1+1+1+1+1+1+1)):=HM8.out.next zo _
  clear h hm hd
  clear hmx
  go_enter Tryz.func48,Tryz.ntmps48
  go_upto_region 0 with fail
  go_region_held3 (fun W'=>W'.cell? ⟨U,0,none⟩=some (.func (Fn.func 18) #[] #[.pointer (some ⟨k.B,0,none⟩)])∧W'.cell? ⟨U,1,none⟩=some (.func (Fn.func 19) #[] #[.pointer (some ⟨k.L,0,none⟩)])∧W'.cell? ⟨U,2,none⟩=some (.int .i64 x.op)∧W'.cell? ⟨U,3,none⟩=some (.int .i64 x.D)∧W'.cell? ⟨U,4,none⟩=some (.int .i64 x.S)∧W'.cell? ⟨U,5,none⟩=some (.int .i64 x.O)∧W'.cell? ⟨U,6,none⟩=some (.int .u32 x.im)∧W'.cell? ⟨U,7,none⟩=some (.int .u32 x.pc)∧W'.cell? ⟨U,8,none⟩=some (.int .u32 x.next)∧W'.cell? ⟨U,9,none⟩=some (.int .i64 x.done)) (first|(simp[go_sem,q0,q1,q2,q3,q4,q5,q6,q7,q8,q9];done)|(simp[go_sem,v0,v1,v2,v3,v4,v5,v6,v7,v8,v9];done)|(simp[go_sem,u0,u1,u2,u3,u4,u5,u6,u7,u8,u9,lU];done))
    (first
      | (go_at_call 19;refine(read_m k U x _ (m) x.D _ ?_ HM0.out).mono ?_;(have hT:=HT.out;(exact zq1));rintro e w1 ⟨rfl,h1⟩;have H1:Hid (Em w w1 k U x (l++[⟨2,x.D,0,0,0,0,0⟩])):=(show Em _ _ _ _ _ _ from(have hT:=HT.out;have hE:=h1;zq0));obtain⟨v0,v1,v2,v3,v4,v5,v6,v7,v8,v9⟩:=h1.t.cells;have vU:=row_lt H1.out.t.bU;clear h1))
  all_goals go_wp2_with (first
      | (have HQ2:=H1;go_at_call 80;refine(chgF k U x _ (m+1) (m) (b) O gb gk _ ?_ HM1.out zq9 HDN.out HO.out HROW.out).mono ?_;(have hT:=H1.out.t;(exact zq1));rintro e w2 ⟨rfl,h2⟩;have H2:Hid (Em w1 w2 k U x (((((((((l++[⟨2,x.D,0,0,0,0,0⟩])++[⟨4,gb,m,b,0,0,0⟩])++[⟨17,0,0,0,0,0,0⟩])++[⟨3,x.D,m+1,0,0,0,0⟩])++[⟨1,0,0,0,0,gk,0⟩])++[⟨3,8,m+1+1+1+1,0,0,0,0⟩])++[⟨3,9,m,0,0,0,0⟩])++[⟨3,10,b,0,0,0,0⟩])++[⟨3,11,m+1+1,0,0,0,0⟩])):=(show Em _ _ _ _ _ _ from(have hT:=H1.out.t;have hE:=h2;zq0));obtain⟨q0,q1,q2,q3,q4,q5,q6,q7,q8,q9⟩:=h2.t.cells;have qU:=row_lt H2.out.t.bU;clear h2 HQ2))
  all_goals go_end0
  all_goals exact⟨rfl,(H1.out).trans H2.out⟩
theorem reckC(k:BK)(U:Nat)(x:XI)(l:List OpR)(m:Int)(b:Int)(O:Nat)(gb:Int)(gk:Nat)(w:World)(h:TU w k U x l)(hm:Ln l m)(hmx:m+120 < 90000)(hd:0≤x.done∧x.done≤64)(hO:x.O=O)(hrow:ChRow O gb gk 3)(n7:x.O≠7)(n8:x.O≠8)(n14:x.O≠14)(n15:x.O≠15) :
    Calls Tryz.prog 48 #[.pointer (some ⟨U,0,none⟩),.int .i64 b] w fun e w'=>e=.returned (.tuple #[])∧Em w w' k U x (((((((((((l++[⟨2,x.D,0,0,0,0,0⟩])++[⟨4,gb,m,b,0,0,0⟩])++[⟨17,0,0,0,0,0,0⟩])++[⟨8,2,m+1+1,0,0,0,0⟩])++[⟨4,gb,m+1,m+1+1+1,0,0,0⟩])++[⟨3,x.D,m+1+1+1+1,0,0,0,0⟩])++[⟨1,0,0,0,0,gk,0⟩])++[⟨3,8,m+1+1+1+1+1+1,0,0,0,0⟩])++[⟨3,9,m,0,0,0,0⟩])++[⟨3,10,b,0,0,0,0⟩])++[⟨3,11,m+1+1,0,0,0,0⟩]):=by
  obtain⟨u0,u1,u2,u3,u4,u5,u6,u7,u8,u9⟩:=h.cells
  have lU:=row_lt h.bU
  have HDN:Hid _:=hd
  have HMX:Hid (m+120 < 90000):=hmx
  have HWR:Hid _:=wrap_done x.done hd.1 hd.2
  have HO:Hid _:=hO
  have HROW:Hid _:=hrow
  have o7:(x.O==7)=false:=by simp;exact n7
  have o8:(x.O==8)=false:=by simp;exact n8
  have o14:(x.O==14)=false:=by simp;exact n14
  have o15:(x.O==15)=false:=by simp;exact n15
  clear hO hrow n7 n8 n14 n15
  have HT:Hid _:=h
  have HM0:Hid (Ln l m):=hm
  have HM1:Hid (Ln (l++[⟨2,x.D,0,0,0,0,0⟩]) (m+1)):=HM0.out.next zo _
  have HM2:Hid (Ln ((l++[⟨2,x.D,0,0,0,0,0⟩])++[⟨4,gb,m,b,0,0,0⟩]) (m+1+1)):=HM1.out.next zo _
  have HM3:Hid (Ln (((l++[⟨2,x.D,0,0,0,0,0⟩])++[⟨4,gb,m,b,0,0,0⟩])++[⟨17,0,0,0,0,0,0⟩]) (m+1+1+1)):=HM2.out.next zo _
  have HM4:Hid (Ln ((((l++[⟨2,x.D,0,0,0,0,0⟩])++[⟨4,gb,m,b,0,0,0⟩])++[⟨17,0,0,0,0,0,0⟩])++[⟨8,2,m+1+1,0,0,0,0⟩]) (m+1+1+1+1)):=HM3.out.next zo _
  have HM5:Hid (Ln (((((l++[⟨2,x.D,0,0,0,0,0⟩])++[⟨4,gb,m,b,0,0,0⟩])++[⟨17,0,0,0,0,0,0⟩])++[⟨8,2,m+1+1,0,0,0,0⟩])++[⟨4,gb,m+1,m+1+1+1,0,0,0⟩]) (m+1+1+1+1+1)):=HM4.out.next zo _
  have HM6:Hid (Ln ((((((l++[⟨2,x.D,0,0,0,0,0⟩])++[⟨4,gb,m,b,0,0,0⟩])++[⟨17,0,0,0,0,0,0⟩])++[⟨8,2,m+1+1,0,0,0,0⟩])++[⟨4,gb,m+1,m+1+1+1,0,0,0⟩])++[⟨3,x.D,m+1+1+1+1,0,0,0,0⟩]) (m+1+1+1+1+1+1)):=HM5.out.next zo _
  have HM7:Hid (Ln (((((((l++[⟨2,x.D,0,0,0,0,0⟩])++[⟨4,gb,m,b,0,0,0⟩])++[⟨17,0,0,0,0,0,0⟩])++[⟨8,2,m+1+1,0,0,0,0⟩])++[⟨4,gb,m+1,m+1+1+1,0,0,0⟩])++[⟨3,x.D,m+1+1+1+1,0,0,0,0⟩])++[⟨1,0,0,0,0,gk,0⟩]) (m+1+1+1+1+1+1+1)):=HM6.out.next zo _
  have HM8:Hid (Ln ((((((((l++[⟨2,x.D,0,0,0,0,0⟩])++[⟨4,gb,m,b,0,0,0⟩])++[⟨17,0,0,0,0,0,0⟩])++[⟨8,2,m+1+1,0,0,0,0⟩])++[⟨4,gb,m+1,m+1+1+1,0,0,0⟩])++[⟨3,x.D,m+1+1+1+1,0,0,0,0⟩])++[⟨1,0,0,0,0,gk,0⟩])++[⟨3,8,m+1+1+1+1+1+1,0,0,0,0⟩]) (m+1+1+1+1+1+1+1+1)):=HM7.out.next zo _
  have HM9:Hid (Ln (((((((((l++[⟨2,x.D,0,0,0,0,0⟩])++[⟨4,gb,m,b,0,0,0⟩])++[⟨17,0,0,0,0,0,0⟩])++[⟨8,2,m+1+1,0,0,0,0⟩])++[⟨4,gb,m+1,m+1+1+1,0,0,0⟩])++[⟨3,x.D,m+1+1+1+1,0,0,0,0⟩])++[⟨1,0,0,0,0,gk,0⟩])++[⟨3,8,m+1+1+1+1+1+1,0,0,0,0⟩])++[⟨3,9,m,0,0,0,0⟩]) (m+1+1+1+1+1+1+1+1+1)):=HM8.out.next zo _
  have HM10:Hid (Ln ((((((((((l++[⟨2,x.D,0,0,0,0,0⟩])++[⟨4,gb,m,b,0,0,0⟩])++[⟨17,0,0,0,0,0,0⟩])++[⟨8,2,m+1+1,0,0,0,0⟩])++[⟨4,gb,m+1,m+1+1+1,0,0,0⟩])++[⟨3,x.D,m+1+1+1+1,0,0,0,0⟩])++[⟨1,0,0,0,0,gk,0⟩])++[⟨3,8,m+1+1+1+1+1+1,0,0,0,0⟩])++[⟨3,9,m,0,0,0,0⟩])++[⟨3,10,b,0,0,0,0⟩]) (m+1+1+1+1+1+1+1+1+1+1)):=HM9.out.next zo _
  have HM11:Hid (Ln (((((((((((l++[⟨2,x.D,0,0,0,0,0⟩])++[⟨4,gb,m,b,0,0,0⟩])++[⟨17,0,0,0,0,0,0⟩])++[⟨8,2,m+1+1,0,0,0,0⟩])++[⟨4,gb,m+1,m+1+1+1,0,0,0⟩])++[⟨3,x.D,m+1+1+1+1,0,0,0,0⟩])++[⟨1,0,0,0,0,gk,0⟩])++[⟨3,8,m+1+1+1+1+1+1,0,0,0,0⟩])++[⟨3,9,m,0,0,0,0⟩])++[⟨3,10,b,0,0,0,0⟩])++[⟨3,11,m+1+1,0,0,0,0⟩]) (m+1+1+1+1+1+1+1+1+1+1+1)):=HM10.out.next zo _
  clear h hm hd
  clear hmx
  go_enter Tryz.func48,Tryz.ntmps48
  go_upto_region 0 with fail
  go_region_held3 (fun W'=>W'.cell? ⟨U,0,none⟩=some (.func (Fn.func 18) #[] #[.pointer (some ⟨k.B,0,none⟩)])∧W'.cell? ⟨U,1,none⟩=some (.func (Fn.func 19) #[] #[.pointer (some ⟨k.L,0,none⟩)])∧W'.cell? ⟨U,2,none⟩=some (.int .i64 x.op)∧W'.cell? ⟨U,3,none⟩=some (.int .i64 x.D)∧W'.cell? ⟨U,4,none⟩=some (.int .i64 x.S)∧W'.cell? ⟨U,5,none⟩=some (.int .i64 x.O)∧W'.cell? ⟨U,6,none⟩=some (.int .u32 x.im)∧W'.cell? ⟨U,7,none⟩=some (.int .u32 x.pc)∧W'.cell? ⟨U,8,none⟩=some (.int .u32 x.next)∧W'.cell? ⟨U,9,none⟩=some (.int .i64 x.done)) (first|(simp[go_sem,q0,q1,q2,q3,q4,q5,q6,q7,q8,q9];done)|(simp[go_sem,v0,v1,v2,v3,v4,v5,v6,v7,v8,v9];done)|(simp[go_sem,u0,u1,u2,u3,u4,u5,u6,u7,u8,u9,lU];done))
    (first
      | (go_at_call 19;refine(read_m k U x _ (m) x.D _ ?_ HM0.out).mono ?_;(have hT:=HT.out;(exact zq1));rintro e w1 ⟨rfl,h1⟩;have H1:Hid (Em w w1 k U x (l++[⟨2,x.D,0,0,0,0,0⟩])):=(show Em _ _ _ _ _ _ from(have hT:=HT.out;have hE:=h1;zq0));obtain⟨v0,v1,v2,v3,v4,v5,v6,v7,v8,v9⟩:=h1.t.cells;have vU:=row_lt H1.out.t.bU;clear h1))
  all_goals go_wp2_with (first
      | (have HQ2:=H1;go_at_call 80;refine(chgC k U x _ (m+1) (m) (b) O gb gk _ ?_ HM1.out zq9 HDN.out HO.out HROW.out).mono ?_;(have hT:=H1.out.t;(exact zq1));rintro e w2 ⟨rfl,h2⟩;have H2:Hid (Em w1 w2 k U x (((((((((((l++[⟨2,x.D,0,0,0,0,0⟩])++[⟨4,gb,m,b,0,0,0⟩])++[⟨17,0,0,0,0,0,0⟩])++[⟨8,2,m+1+1,0,0,0,0⟩])++[⟨4,gb,m+1,m+1+1+1,0,0,0⟩])++[⟨3,x.D,m+1+1+1+1,0,0,0,0⟩])++[⟨1,0,0,0,0,gk,0⟩])++[⟨3,8,m+1+1+1+1+1+1,0,0,0,0⟩])++[⟨3,9,m,0,0,0,0⟩])++[⟨3,10,b,0,0,0,0⟩])++[⟨3,11,m+1+1,0,0,0,0⟩])):=(show Em _ _ _ _ _ _ from(have hT:=H1.out.t;have hE:=h2;zq0));obtain⟨q0,q1,q2,q3,q4,q5,q6,q7,q8,q9⟩:=h2.t.cells;have qU:=row_lt H2.out.t.bU;clear h2 HQ2))
  all_goals go_end0
  all_goals exact⟨rfl,(H1.out).trans H2.out⟩
theorem reck14(k:BK)(U:Nat)(x:XI)(l:List OpR)(m:Int)(b:Int)(O:Nat)(gb:Int)(gk:Nat)(w:World)(h:TU w k U x l)(hm:Ln l m)(hmx:m+120 < 90000)(hd:0≤x.done∧x.done≤64)(hO:x.O=O)(hrow:ChRow O gb gk 1)(hv:x.O=14) :
    Calls Tryz.prog 48 #[.pointer (some ⟨U,0,none⟩),.int .i64 b] w fun e w'=>e=.returned (.tuple #[])∧Em w w' k U x ((((((((l++[⟨2,x.D,0,0,0,0,0⟩])++[⟨5,6,b,0,0,0,0⟩])++[⟨13,7,m+1,0,0,x.pc,x.done⟩])++[⟨4,gb,m,b,0,0,0⟩])++[⟨3,x.D,m+1+1+1,0,0,0,0⟩])++[⟨1,0,0,0,0,gk,0⟩])++[⟨3,8,m+1+1+1+1+1,0,0,0,0⟩])++[⟨3,9,m+1+1+1,0,0,0,0⟩]):=by
  obtain⟨u0,u1,u2,u3,u4,u5,u6,u7,u8,u9⟩:=h.cells
  have lU:=row_lt h.bU
  have HDN:Hid _:=hd
  have HMX:Hid (m+120 < 90000):=hmx
  have HWR:Hid _:=wrap_done x.done hd.1 hd.2
  have HO:Hid _:=hO
  have HROW:Hid _:=hrow
  have o7:(x.O==7)=false:=by simp[hv]
  have o8:(x.O==8)=false:=by simp[hv]
  have o14:(x.O==14)=true:=by simp[hv]
  clear hO hrow hv
  have HT:Hid _:=h
  have HM0:Hid (Ln l m):=hm
  have HM1:Hid (Ln (l++[⟨2,x.D,0,0,0,0,0⟩]) (m+1)):=HM0.out.next zo _
  have HM2:Hid (Ln ((l++[⟨2,x.D,0,0,0,0,0⟩])++[⟨5,6,b,0,0,0,0⟩]) (m+1+1)):=HM1.out.next zo _
  have HM3:Hid (Ln (((l++[⟨2,x.D,0,0,0,0,0⟩])++[⟨5,6,b,0,0,0,0⟩])++[⟨13,7,m+1,0,0,x.pc,x.done⟩]) (m+1+1+1)):=HM2.out.next zo _
  have HM4:Hid (Ln ((((l++[⟨2,x.D,0,0,0,0,0⟩])++[⟨5,6,b,0,0,0,0⟩])++[⟨13,7,m+1,0,0,x.pc,x.done⟩])++[⟨4,gb,m,b,0,0,0⟩]) (m+1+1+1+1)):=HM3.out.next zo _
  have HM5:Hid (Ln (((((l++[⟨2,x.D,0,0,0,0,0⟩])++[⟨5,6,b,0,0,0,0⟩])++[⟨13,7,m+1,0,0,x.pc,x.done⟩])++[⟨4,gb,m,b,0,0,0⟩])++[⟨3,x.D,m+1+1+1,0,0,0,0⟩]) (m+1+1+1+1+1)):=HM4.out.next zo _
  have HM6:Hid (Ln ((((((l++[⟨2,x.D,0,0,0,0,0⟩])++[⟨5,6,b,0,0,0,0⟩])++[⟨13,7,m+1,0,0,x.pc,x.done⟩])++[⟨4,gb,m,b,0,0,0⟩])++[⟨3,x.D,m+1+1+1,0,0,0,0⟩])++[⟨1,0,0,0,0,gk,0⟩]) (m+1+1+1+1+1+1)):=HM5.out.next zo _
  have HM7:Hid (Ln (((((((l++[⟨2,x.D,0,0,0,0,0⟩])++[⟨5,6,b,0,0,0,0⟩])++[⟨13,7,m+1,0,0,x.pc,x.done⟩])++[⟨4,gb,m,b,0,0,0⟩])++[⟨3,x.D,m+1+1+1,0,0,0,0⟩])++[⟨1,0,0,0,0,gk,0⟩])++[⟨3,8,m+1+1+1+1+1,0,0,0,0⟩]) (m+1+1+1+1+1+1+1)):=HM6.out.next zo _
  have HM8:Hid (Ln ((((((((l++[⟨2,x.D,0,0,0,0,0⟩])++[⟨5,6,b,0,0,0,0⟩])++[⟨13,7,m+1,0,0,x.pc,x.done⟩])++[⟨4,gb,m,b,0,0,0⟩])++[⟨3,x.D,m+1+1+1,0,0,0,0⟩])++[⟨1,0,0,0,0,gk,0⟩])++[⟨3,8,m+1+1+1+1+1,0,0,0,0⟩])++[⟨3,9,m+1+1+1,0,0,0,0⟩]) (m+1+1+1+1+1+1+1+1)):=HM7.out.next zo _
  clear h hm hd
  clear hmx
  go_enter Tryz.func48,Tryz.ntmps48
  go_upto_region 0 with fail
  go_region_held3 (fun W'=>W'.cell? ⟨U,0,none⟩=some (.func (Fn.func 18) #[] #[.pointer (some ⟨k.B,0,none⟩)])∧W'.cell? ⟨U,1,none⟩=some (.func (Fn.func 19) #[] #[.pointer (some ⟨k.L,0,none⟩)])∧W'.cell? ⟨U,2,none⟩=some (.int .i64 x.op)∧W'.cell? ⟨U,3,none⟩=some (.int .i64 x.D)∧W'.cell? ⟨U,4,none⟩=some (.int .i64 x.S)∧W'.cell? ⟨U,5,none⟩=some (.int .i64 x.O)∧W'.cell? ⟨U,6,none⟩=some (.int .u32 x.im)∧W'.cell? ⟨U,7,none⟩=some (.int .u32 x.pc)∧W'.cell? ⟨U,8,none⟩=some (.int .u32 x.next)∧W'.cell? ⟨U,9,none⟩=some (.int .i64 x.done)) (first|(simp[go_sem,s0,s1,s2,s3,s4,s5,s6,s7,s8,s9];done)|(simp[go_sem,r0,r1,r2,r3,r4,r5,r6,r7,r8,r9];done)|(simp[go_sem,q0,q1,q2,q3,q4,q5,q6,q7,q8,q9];done)|(simp[go_sem,v0,v1,v2,v3,v4,v5,v6,v7,v8,v9];done)|(simp[go_sem,u0,u1,u2,u3,u4,u5,u6,u7,u8,u9,lU];done))
    (first
      | (go_at_call 19;refine(read_m k U x _ (m) x.D _ ?_ HM0.out).mono ?_;(have hT:=HT.out;(exact zq1));rintro e w1 ⟨rfl,h1⟩;have H1:Hid (Em w w1 k U x (l++[⟨2,x.D,0,0,0,0,0⟩])):=(show Em _ _ _ _ _ _ from(have hT:=HT.out;have hE:=h1;zq0));obtain⟨v0,v1,v2,v3,v4,v5,v6,v7,v8,v9⟩:=h1.t.cells;have vU:=row_lt H1.out.t.bU;clear h1))
  go_upto_region 9 with fail
  go_region_held3 (fun W'=>W'.cell? ⟨U,0,none⟩=some (.func (Fn.func 18) #[] #[.pointer (some ⟨k.B,0,none⟩)])∧W'.cell? ⟨U,1,none⟩=some (.func (Fn.func 19) #[] #[.pointer (some ⟨k.L,0,none⟩)])∧W'.cell? ⟨U,2,none⟩=some (.int .i64 x.op)∧W'.cell? ⟨U,3,none⟩=some (.int .i64 x.D)∧W'.cell? ⟨U,4,none⟩=some (.int .i64 x.S)∧W'.cell? ⟨U,5,none⟩=some (.int .i64 x.O)∧W'.cell? ⟨U,6,none⟩=some (.int .u32 x.im)∧W'.cell? ⟨U,7,none⟩=some (.int .u32 x.pc)∧W'.cell? ⟨U,8,none⟩=some (.int .u32 x.next)∧W'.cell? ⟨U,9,none⟩=some (.int .i64 x.done)) (first|(simp[go_sem,s0,s1,s2,s3,s4,s5,s6,s7,s8,s9];done)|(simp[go_sem,r0,r1,r2,r3,r4,r5,r6,r7,r8,r9];done)|(simp[go_sem,q0,q1,q2,q3,q4,q5,q6,q7,q8,q9];done)|(simp[go_sem,v0,v1,v2,v3,v4,v5,v6,v7,v8,v9];done)|(simp[go_sem,u0,u1,u2,u3,u4,u5,u6,u7,u8,u9,lU];done))
    (first
      | (have HQ3:=H2;go_at_call 18;refine(lay_m k U x _ (m+1+1) ⟨13,7,m+1,0,0,x.pc,x.done⟩ _ ?_ HM2.out).mono ?_;(have hT:=H2.out.t;(exact zq1));rintro e w3 ⟨rfl,h3⟩;have H3:Hid (Em w2 w3 k U x (((l++[⟨2,x.D,0,0,0,0,0⟩])++[⟨5,6,b,0,0,0,0⟩])++[⟨13,7,m+1,0,0,x.pc,x.done⟩])):=(show Em _ _ _ _ _ _ from(have hT:=H2.out.t;have hE:=h3;zq0));obtain⟨r0,r1,r2,r3,r4,r5,r6,r7,r8,r9⟩:=h3.t.cells;have rU:=row_lt H3.out.t.bU;clear h3 HQ3)
      | (have HQ2:=H1;go_at_call 79;refine(un_m k U x _ (m+1) 6 (b) _ ?_ HM1.out).mono ?_;(have hT:=H1.out.t;(exact zq1));rintro e w2 ⟨rfl,h2⟩;have H2:Hid (Em w1 w2 k U x ((l++[⟨2,x.D,0,0,0,0,0⟩])++[⟨5,6,b,0,0,0,0⟩])):=(show Em _ _ _ _ _ _ from(have hT:=H1.out.t;have hE:=h2;zq0));obtain⟨q0,q1,q2,q3,q4,q5,q6,q7,q8,q9⟩:=h2.t.cells;have qU:=row_lt H2.out.t.bU;clear h2 HQ2))
  all_goals go_wp2_with (first
      | (have HQ4:=H3;go_at_call 80;refine(chgV k U x _ (m+1+1+1) (m) (b) O gb gk _ ?_ HM3.out zq9 HDN.out HO.out HROW.out).mono ?_;(have hT:=H3.out.t;(exact zq1));rintro e w4 ⟨rfl,h4⟩;have H4:Hid (Em w3 w4 k U x ((((((((l++[⟨2,x.D,0,0,0,0,0⟩])++[⟨5,6,b,0,0,0,0⟩])++[⟨13,7,m+1,0,0,x.pc,x.done⟩])++[⟨4,gb,m,b,0,0,0⟩])++[⟨3,x.D,m+1+1+1,0,0,0,0⟩])++[⟨1,0,0,0,0,gk,0⟩])++[⟨3,8,m+1+1+1+1+1,0,0,0,0⟩])++[⟨3,9,m+1+1+1,0,0,0,0⟩])):=(show Em _ _ _ _ _ _ from(have hT:=H3.out.t;have hE:=h4;zq0));obtain⟨s0,s1,s2,s3,s4,s5,s6,s7,s8,s9⟩:=h4.t.cells;have sU:=row_lt H4.out.t.bU;clear h4 HQ4))
  all_goals go_end0
  all_goals exact⟨rfl,(((H1.out).trans H2.out).trans H3.out).trans H4.out⟩
theorem reck15(k:BK)(U:Nat)(x:XI)(l:List OpR)(m:Int)(b:Int)(O:Nat)(gb:Int)(gk:Nat)(w:World)(h:TU w k U x l)(hm:Ln l m)(hmx:m+120 < 90000)(hd:0≤x.done∧x.done≤64)(hO:x.O=O)(hrow:ChRow O gb gk 1)(hv:x.O=15) :
    Calls Tryz.prog 48 #[.pointer (some ⟨U,0,none⟩),.int .i64 b] w fun e w'=>e=.returned (.tuple #[])∧Em w w' k U x ((((((((l++[⟨2,x.D,0,0,0,0,0⟩])++[⟨5,6,b,0,0,0,0⟩])++[⟨13,7,m+1,0,0,x.pc,x.done⟩])++[⟨4,gb,m,b,0,0,0⟩])++[⟨3,x.D,m+1+1+1,0,0,0,0⟩])++[⟨1,0,0,0,0,gk,0⟩])++[⟨3,8,m+1+1+1+1+1,0,0,0,0⟩])++[⟨3,9,m+1+1+1,0,0,0,0⟩]):=by
  obtain⟨u0,u1,u2,u3,u4,u5,u6,u7,u8,u9⟩:=h.cells
  have lU:=row_lt h.bU
  have HDN:Hid _:=hd
  have HMX:Hid (m+120 < 90000):=hmx
  have HWR:Hid _:=wrap_done x.done hd.1 hd.2
  have HO:Hid _:=hO
  have HROW:Hid _:=hrow
  have o7:(x.O==7)=false:=by simp[hv]
  have o8:(x.O==8)=false:=by simp[hv]
  have o14:(x.O==14)=false:=by simp[hv]
  have o15:(x.O==15)=true:=by simp[hv]
  clear hO hrow hv
  have HT:Hid _:=h
  have HM0:Hid (Ln l m):=hm
  have HM1:Hid (Ln (l++[⟨2,x.D,0,0,0,0,0⟩]) (m+1)):=HM0.out.next zo _
  have HM2:Hid (Ln ((l++[⟨2,x.D,0,0,0,0,0⟩])++[⟨5,6,b,0,0,0,0⟩]) (m+1+1)):=HM1.out.next zo _
  have HM3:Hid (Ln (((l++[⟨2,x.D,0,0,0,0,0⟩])++[⟨5,6,b,0,0,0,0⟩])++[⟨13,7,m+1,0,0,x.pc,x.done⟩]) (m+1+1+1)):=HM2.out.next zo _
  have HM4:Hid (Ln ((((l++[⟨2,x.D,0,0,0,0,0⟩])++[⟨5,6,b,0,0,0,0⟩])++[⟨13,7,m+1,0,0,x.pc,x.done⟩])++[⟨4,gb,m,b,0,0,0⟩]) (m+1+1+1+1)):=HM3.out.next zo _
  have HM5:Hid (Ln (((((l++[⟨2,x.D,0,0,0,0,0⟩])++[⟨5,6,b,0,0,0,0⟩])++[⟨13,7,m+1,0,0,x.pc,x.done⟩])++[⟨4,gb,m,b,0,0,0⟩])++[⟨3,x.D,m+1+1+1,0,0,0,0⟩]) (m+1+1+1+1+1)):=HM4.out.next zo _
  have HM6:Hid (Ln ((((((l++[⟨2,x.D,0,0,0,0,0⟩])++[⟨5,6,b,0,0,0,0⟩])++[⟨13,7,m+1,0,0,x.pc,x.done⟩])++[⟨4,gb,m,b,0,0,0⟩])++[⟨3,x.D,m+1+1+1,0,0,0,0⟩])++[⟨1,0,0,0,0,gk,0⟩]) (m+1+1+1+1+1+1)):=HM5.out.next zo _
  have HM7:Hid (Ln (((((((l++[⟨2,x.D,0,0,0,0,0⟩])++[⟨5,6,b,0,0,0,0⟩])++[⟨13,7,m+1,0,0,x.pc,x.done⟩])++[⟨4,gb,m,b,0,0,0⟩])++[⟨3,x.D,m+1+1+1,0,0,0,0⟩])++[⟨1,0,0,0,0,gk,0⟩])++[⟨3,8,m+1+1+1+1+1,0,0,0,0⟩]) (m+1+1+1+1+1+1+1)):=HM6.out.next zo _
  have HM8:Hid (Ln ((((((((l++[⟨2,x.D,0,0,0,0,0⟩])++[⟨5,6,b,0,0,0,0⟩])++[⟨13,7,m+1,0,0,x.pc,x.done⟩])++[⟨4,gb,m,b,0,0,0⟩])++[⟨3,x.D,m+1+1+1,0,0,0,0⟩])++[⟨1,0,0,0,0,gk,0⟩])++[⟨3,8,m+1+1+1+1+1,0,0,0,0⟩])++[⟨3,9,m+1+1+1,0,0,0,0⟩]) (m+1+1+1+1+1+1+1+1)):=HM7.out.next zo _
  clear h hm hd
  clear hmx
  go_enter Tryz.func48,Tryz.ntmps48
  go_upto_region 0 with fail
  go_region_held3 (fun W'=>W'.cell? ⟨U,0,none⟩=some (.func (Fn.func 18) #[] #[.pointer (some ⟨k.B,0,none⟩)])∧W'.cell? ⟨U,1,none⟩=some (.func (Fn.func 19) #[] #[.pointer (some ⟨k.L,0,none⟩)])∧W'.cell? ⟨U,2,none⟩=some (.int .i64 x.op)∧W'.cell? ⟨U,3,none⟩=some (.int .i64 x.D)∧W'.cell? ⟨U,4,none⟩=some (.int .i64 x.S)∧W'.cell? ⟨U,5,none⟩=some (.int .i64 x.O)∧W'.cell? ⟨U,6,none⟩=some (.int .u32 x.im)∧W'.cell? ⟨U,7,none⟩=some (.int .u32 x.pc)∧W'.cell? ⟨U,8,none⟩=some (.int .u32 x.next)∧W'.cell? ⟨U,9,none⟩=some (.int .i64 x.done)) (first|(simp[go_sem,s0,s1,s2,s3,s4,s5,s6,s7,s8,s9];done)|(simp[go_sem,r0,r1,r2,r3,r4,r5,r6,r7,r8,r9];done)|(simp[go_sem,q0,q1,q2,q3,q4,q5,q6,q7,q8,q9];done)|(simp[go_sem,v0,v1,v2,v3,v4,v5,v6,v7,v8,v9];done)|(simp[go_sem,u0,u1,u2,u3,u4,u5,u6,u7,u8,u9,lU];done))
    (first
      | (go_at_call 19;refine(read_m k U x _ (m) x.D _ ?_ HM0.out).mono ?_;(have hT:=HT.out;(exact zq1));rintro e w1 ⟨rfl,h1⟩;have H1:Hid (Em w w1 k U x (l++[⟨2,x.D,0,0,0,0,0⟩])):=(show Em _ _ _ _ _ _ from(have hT:=HT.out;have hE:=h1;zq0));obtain⟨v0,v1,v2,v3,v4,v5,v6,v7,v8,v9⟩:=h1.t.cells;have vU:=row_lt H1.out.t.bU;clear h1))
  go_upto_region 9 with fail
  go_region_held3 (fun W'=>W'.cell? ⟨U,0,none⟩=some (.func (Fn.func 18) #[] #[.pointer (some ⟨k.B,0,none⟩)])∧W'.cell? ⟨U,1,none⟩=some (.func (Fn.func 19) #[] #[.pointer (some ⟨k.L,0,none⟩)])∧W'.cell? ⟨U,2,none⟩=some (.int .i64 x.op)∧W'.cell? ⟨U,3,none⟩=some (.int .i64 x.D)∧W'.cell? ⟨U,4,none⟩=some (.int .i64 x.S)∧W'.cell? ⟨U,5,none⟩=some (.int .i64 x.O)∧W'.cell? ⟨U,6,none⟩=some (.int .u32 x.im)∧W'.cell? ⟨U,7,none⟩=some (.int .u32 x.pc)∧W'.cell? ⟨U,8,none⟩=some (.int .u32 x.next)∧W'.cell? ⟨U,9,none⟩=some (.int .i64 x.done)) (first|(simp[go_sem,s0,s1,s2,s3,s4,s5,s6,s7,s8,s9];done)|(simp[go_sem,r0,r1,r2,r3,r4,r5,r6,r7,r8,r9];done)|(simp[go_sem,q0,q1,q2,q3,q4,q5,q6,q7,q8,q9];done)|(simp[go_sem,v0,v1,v2,v3,v4,v5,v6,v7,v8,v9];done)|(simp[go_sem,u0,u1,u2,u3,u4,u5,u6,u7,u8,u9,lU];done))
    (first
      | (have HQ3:=H2;go_at_call 18;refine(lay_m k U x _ (m+1+1) ⟨13,7,m+1,0,0,x.pc,x.done⟩ _ ?_ HM2.out).mono ?_;(have hT:=H2.out.t;(exact zq1));rintro e w3 ⟨rfl,h3⟩;have H3:Hid (Em w2 w3 k U x (((l++[⟨2,x.D,0,0,0,0,0⟩])++[⟨5,6,b,0,0,0,0⟩])++[⟨13,7,m+1,0,0,x.pc,x.done⟩])):=(show Em _ _ _ _ _ _ from(have hT:=H2.out.t;have hE:=h3;zq0));obtain⟨r0,r1,r2,r3,r4,r5,r6,r7,r8,r9⟩:=h3.t.cells;have rU:=row_lt H3.out.t.bU;clear h3 HQ3)
      | (have HQ2:=H1;go_at_call 79;refine(un_m k U x _ (m+1) 6 (b) _ ?_ HM1.out).mono ?_;(have hT:=H1.out.t;(exact zq1));rintro e w2 ⟨rfl,h2⟩;have H2:Hid (Em w1 w2 k U x ((l++[⟨2,x.D,0,0,0,0,0⟩])++[⟨5,6,b,0,0,0,0⟩])):=(show Em _ _ _ _ _ _ from(have hT:=H1.out.t;have hE:=h2;zq0));obtain⟨q0,q1,q2,q3,q4,q5,q6,q7,q8,q9⟩:=h2.t.cells;have qU:=row_lt H2.out.t.bU;clear h2 HQ2))
  all_goals go_wp2_with (first
      | (have HQ4:=H3;go_at_call 80;refine(chgV k U x _ (m+1+1+1) (m) (b) O gb gk _ ?_ HM3.out zq9 HDN.out HO.out HROW.out).mono ?_;(have hT:=H3.out.t;(exact zq1));rintro e w4 ⟨rfl,h4⟩;have H4:Hid (Em w3 w4 k U x ((((((((l++[⟨2,x.D,0,0,0,0,0⟩])++[⟨5,6,b,0,0,0,0⟩])++[⟨13,7,m+1,0,0,x.pc,x.done⟩])++[⟨4,gb,m,b,0,0,0⟩])++[⟨3,x.D,m+1+1+1,0,0,0,0⟩])++[⟨1,0,0,0,0,gk,0⟩])++[⟨3,8,m+1+1+1+1+1,0,0,0,0⟩])++[⟨3,9,m+1+1+1,0,0,0,0⟩])):=(show Em _ _ _ _ _ _ from(have hT:=H3.out.t;have hE:=h4;zq0));obtain⟨s0,s1,s2,s3,s4,s5,s6,s7,s8,s9⟩:=h4.t.cells;have sU:=row_lt H4.out.t.bU;clear h4 HQ4))
  all_goals go_end0
  all_goals exact⟨rfl,(((H1.out).trans H2.out).trans H3.out).trans H4.out⟩
theorem reck_any(k:BK)(U:Nat)(x:XI)(l:List OpR)(m:Int)(b:Int)(w:World)(h:TU w k U x l)(hm:Ln l m)(hmx:m+120 < 90000)(hd:0≤x.done∧x.done≤64)(hO:0≤x.O∧x.O < 16) :
    Calls Tryz.prog 48 #[.pointer (some ⟨U,0,none⟩),.int .i64 b] w fun e w'=>e=.returned (.tuple #[])∧Em w w' k U x (l++reckOps x.O.toNat x.D b x.pc x.done m):=by
  obtain⟨O,hq⟩:∃ O:Nat,x.O=O:=⟨x.O.toNat,by omega⟩
  have hlt:O < 16:=zo
  rw[show x.O.toNat=O by omega]
  match O,hlt,hq with
  | 0,_,hq=>
    refine(reckB k U x l m b 0 0 1 w h hm hmx hd hq chRow0 zo zo zo zo).mono ?_
    rintro e w' ⟨rfl,h1⟩
    exact⟨rfl,by simpa only [reckOps,List.append_assoc,List.cons_append,List.nil_append] using h1⟩
  | 1,_,hq=>
    refine(reckC k U x l m b 1 0 2 w h hm hmx hd hq chRow1 zo zo zo zo).mono ?_
    rintro e w' ⟨rfl,h1⟩
    exact⟨rfl,by simpa only [reckOps,List.append_assoc,List.cons_append,List.nil_append] using h1⟩
  | 2,_,hq=>
    refine(reckB k U x l m b 2 1 3 w h hm hmx hd hq chRow2 zo zo zo zo).mono ?_
    rintro e w' ⟨rfl,h1⟩
    exact⟨rfl,by simpa only [reckOps,List.append_assoc,List.cons_append,List.nil_append] using h1⟩
  | 3,_,hq=>
    refine(reckC k U x l m b 3 1 4 w h hm hmx hd hq chRow3 zo zo zo zo).mono ?_
    rintro e w' ⟨rfl,h1⟩
    exact⟨rfl,by simpa only [reckOps,List.append_assoc,List.cons_append,List.nil_append] using h1⟩
  | 4,_,hq=>
    refine(reckV k U x l m b 4 2 5 w h hm hmx hd hq chRow4 zo zo zo zo).mono ?_
    rintro e w' ⟨rfl,h1⟩
    exact⟨rfl,by simpa only [reckOps,List.append_assoc,List.cons_append,List.nil_append] using h1⟩
  | 5,_,hq=>
    refine(reckV k U x l m b 5 3 5 w h hm hmx hd hq chRow5 zo zo zo zo).mono ?_
    rintro e w' ⟨rfl,h1⟩
    exact⟨rfl,by simpa only [reckOps,List.append_assoc,List.cons_append,List.nil_append] using h1⟩
  | 6,_,hq=>
    refine(reckV k U x l m b 6 4 5 w h hm hmx hd hq chRow6 zo zo zo zo).mono ?_
    rintro e w' ⟨rfl,h1⟩
    exact⟨rfl,by simpa only [reckOps,List.append_assoc,List.cons_append,List.nil_append] using h1⟩
  | 7,_,hq=>
    refine(reck7 k U x l m b w h hm hmx hd hq).mono ?_
    rintro e w' ⟨rfl,h1⟩
    exact⟨rfl,by simpa only [reckOps,List.append_assoc,List.cons_append,List.nil_append] using h1⟩
  | 8,_,hq=>
    refine(reck8 k U x l m b w h hm hmx hd hq).mono ?_
    rintro e w' ⟨rfl,h1⟩
    exact⟨rfl,by simpa only [reckOps,List.append_assoc,List.cons_append,List.nil_append] using h1⟩
  | 9,_,hq=>
    refine(reckF k U x l m b 9 5 6 w h hm hmx hd hq chRow9 zo zo zo zo).mono ?_
    rintro e w' ⟨rfl,h1⟩
    exact⟨rfl,by simpa only [reckOps,List.append_assoc,List.cons_append,List.nil_append] using h1⟩
  | 10,_,hq=>
    refine(reckF k U x l m b 10 6 7 w h hm hmx hd hq chRow10 zo zo zo zo).mono ?_
    rintro e w' ⟨rfl,h1⟩
    exact⟨rfl,by simpa only [reckOps,List.append_assoc,List.cons_append,List.nil_append] using h1⟩
  | 11,_,hq=>
    refine(reckF k U x l m b 11 7 8 w h hm hmx hd hq chRow11 zo zo zo zo).mono ?_
    rintro e w' ⟨rfl,h1⟩
    exact⟨rfl,by simpa only [reckOps,List.append_assoc,List.cons_append,List.nil_append] using h1⟩
  | 12,_,hq=>
    refine(reckF k U x l m b 12 8 9 w h hm hmx hd hq chRow12 zo zo zo zo).mono ?_
    rintro e w' ⟨rfl,h1⟩
    exact⟨rfl,by simpa only [reckOps,List.append_assoc,List.cons_append,List.nil_append] using h1⟩
  | 13,_,hq=>
    refine(reckB k U x l m b 13 9 10 w h hm hmx hd hq chRow13 zo zo zo zo).mono ?_
    rintro e w' ⟨rfl,h1⟩
    exact⟨rfl,by simpa only [reckOps,List.append_assoc,List.cons_append,List.nil_append] using h1⟩
  | 14,_,hq=>
    refine(reck14 k U x l m b 14 11 5 w h hm hmx hd hq chRow14 hq).mono ?_
    rintro e w' ⟨rfl,h1⟩
    exact⟨rfl,by simpa only [reckOps,List.append_assoc,List.cons_append,List.nil_append] using h1⟩
  | 15,_,hq=>
    refine(reck15 k U x l m b 15 12 5 w h hm hmx hd hq chRow15 hq).mono ?_
    rintro e w' ⟨rfl,h1⟩
    exact⟨rfl,by simpa only [reckOps,List.append_assoc,List.cons_append,List.nil_append] using h1⟩
  | n+16,h,_=>exact absurd h zo
end Go.Proofs.YtfokgedjocnnmaaGreat
