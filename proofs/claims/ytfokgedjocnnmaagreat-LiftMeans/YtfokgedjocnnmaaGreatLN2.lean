import Derived.Test.YtfokgedjocnnmaaGreatLG
import Derived.Test.YtfokgedjocnnmaaGreatLJ
set_option linter.unusedVariables false
set_option linter.unusedSimpArgs false
set_option maxHeartbeats 4000000
namespace Go.Proofs.YtfokgedjocnnmaaGreat
open Go.RowKit
set_option maxRecDepth 100000
theorem do15(k:BK)(U:Nat)(x:XI)(l:List OpR)(m:Int)  (w:World)(h:TU w k U x l)(hm:Ln l m)(hmx:m+160 < 90000)(hd:0≤x.done∧x.done≤64)(hop:x.op=15) :
  Calls Tryz.prog 21 #[.pointer (some ⟨U,0,none⟩)] w fun e w'=>e=.returned (.tuple #[])∧Em w w' k U x ((qa3 l m x)++[⟨3,x.D,m+1,0,0,0,0⟩]):=by
 obtain⟨u0,u1,u2,u3,u4,u5,u6,u7,u8,u9⟩:=h.cells
 have lU:=row_lt h.bU
 have HNx:Hid (w.heap.size≠k.B):=show w.heap.size≠k.B by have:=h.ltB;omega
 have HPx0:=hpx w x
 have HDN:Hid _:=hd
 have HMX:Hid (m+160 < 90000):=hmx
 have HWR:Hid _:=wrap_done x.done hd.1 hd.2
 have HOP:Hid _:=hop
 have k1:(x.op==1)=false:=by simp[hop]
 have k5:(x.op==5)=false:=by simp[hop]
 have k6:(x.op==6)=false:=by simp[hop]
 have k7:(x.op==7)=false:=by simp[hop]
 have k12:(x.op==12)=false:=by simp[hop]
 have k13:(x.op==13)=false:=by simp[hop]
 have k9:(x.op==9)=false:=by simp[hop]
 have k11:(x.op==11)=false:=by simp[hop]
 have k14:(x.op==14)=false:=by simp[hop]
 have k3:(x.op==3)=false:=by simp[hop]
 have k8:(x.op==8)=false:=by simp[hop]
 have k10:(x.op==10)=false:=by simp[hop]
 have k15:(x.op==15)=true:=by simp[hop]
 clear hop
 have HT:Hid _:=h
 have HM0:Hid (Ln l m):=hm
 have HM1:Hid (Ln (l++[⟨2,7,0,0,0,0,0⟩]) (m+1)):=HM0.out.next zo _
 have HM2:Hid (Ln (qa16 l m x) (m+1+1)):=HM1.out.next zo _
 have HM3:Hid (Ln ((qa16 l m x)++[⟨1,0,0,0,0,4,0⟩]) (m+1+1+1)):=HM2.out.next zo _
 have HM4:Hid (Ln (qa33 l m x) (m+1+1+1+1)):=HM3.out.next zo _
 have HM5:Hid (Ln (qa3 l m x) (m+1+1+1+1+1)):=HM4.out.next zo _
 have HM6:Hid (Ln ((qa3 l m x)++[⟨3,x.D,m+1,0,0,0,0⟩]) (m+1+1+1+1+1+1)):=HM5.out.next zo _
 clear h hm hd
 clear hmx
 go_enter Tryz.func21,Tryz.ntmps21
 all_goals go_wp2_with (first
   | (go_at_call 47;refine(pops15 k U x _ (m) _ ?_ HM0.out zq9 HDN.out HOP.out).mono ?_;(have hT:=HT.out;(exact zq1));rintro e w1 ⟨rfl,h1⟩;have H1:Hid (Em w w1 k U x ((qa3 l m x)++[⟨3,x.D,m+1,0,0,0,0⟩])):=(show Em _ _ _ _ _ _ from(have hT:=HT.out;have hE:=h1;zq0));obtain⟨v0,v1,v2,v3,v4,v5,v6,v7,v8,v9⟩:=h1.t.cells;have HPx1:Hid (hx w1 w x):=h1.kp.keep _ _ _ HPx0.out HNx.out (by decide);obtain⟨vx0,vx1,vx2,vx3,vx4⟩:=ins_cells HPx1.out;have vlx:=row_lt HPx1.out;have vU:=row_lt H1.out.t.bU;clear h1))
 all_goals go_end0
 all_goals exact⟨rfl,H1.out⟩
theorem do4(k:BK)(U:Nat)(x:XI)(l:List OpR)(m:Int)  (w:World)(h:TU w k U x l)(hm:Ln l m)(hmx:m+160 < 90000)(hd:0≤x.done∧x.done≤64)(hop:x.op=4) :
  Calls Tryz.prog 21 #[.pointer (some ⟨U,0,none⟩)] w fun e w'=>e=.returned (.tuple #[])∧Em w w' k U x ((qa24 l m x)++[⟨3,11,m+1,0,0,0,0⟩]):=by
 obtain⟨u0,u1,u2,u3,u4,u5,u6,u7,u8,u9⟩:=h.cells
 have lU:=row_lt h.bU
 have HNx:Hid (w.heap.size≠k.B):=show w.heap.size≠k.B by have:=h.ltB;omega
 have HPx0:=hpx w x
 have HDN:Hid _:=hd
 have HMX:Hid (m+160 < 90000):=hmx
 have HWR:Hid _:=wrap_done x.done hd.1 hd.2
 have HOP:Hid _:=hop
 have k1:(x.op==1)=false:=by simp[hop]
 have k5:(x.op==5)=false:=by simp[hop]
 have k6:(x.op==6)=false:=by simp[hop]
 have k7:(x.op==7)=false:=by simp[hop]
 have k12:(x.op==12)=false:=by simp[hop]
 have k13:(x.op==13)=false:=by simp[hop]
 have k9:(x.op==9)=false:=by simp[hop]
 have k11:(x.op==11)=false:=by simp[hop]
 have k14:(x.op==14)=false:=by simp[hop]
 have k3:(x.op==3)=false:=by simp[hop]
 have k8:(x.op==8)=false:=by simp[hop]
 have k10:(x.op==10)=false:=by simp[hop]
 have k15:(x.op==15)=false:=by simp[hop]
 have k4:(x.op==4)=true:=by simp[hop]
 clear hop
 have HT:Hid _:=h
 have HM0:Hid (Ln l m):=hm
 have HM1:Hid (Ln (l++[⟨2,7,0,0,0,0,0⟩]) (m+1)):=HM0.out.next zo _
 have HM2:Hid (Ln (qa16 l m x) (m+1+1)):=HM1.out.next zo _
 have HM3:Hid (Ln ((qa16 l m x)++[⟨1,0,0,0,0,4,0⟩]) (m+1+1+1)):=HM2.out.next zo _
 have HM4:Hid (Ln (qa33 l m x) (m+1+1+1+1)):=HM3.out.next zo _
 have HM5:Hid (Ln (qa3 l m x) (m+1+1+1+1+1)):=HM4.out.next zo _
 have HM6:Hid (Ln ((qa3 l m x)++[⟨1,0,0,0,0,0,0⟩]) (m+1+1+1+1+1+1)):=HM5.out.next zo _
 have HM7:Hid (Ln (qa24 l m x) (m+1+1+1+1+1+1+1)):=HM6.out.next zo _
 have HM8:Hid (Ln ((qa24 l m x)++[⟨3,11,m+1,0,0,0,0⟩]) (m+1+1+1+1+1+1+1+1)):=HM7.out.next zo _
 clear h hm hd
 clear hmx
 go_enter Tryz.func21,Tryz.ntmps21
 all_goals go_wp2_with (first
   | (go_at_call 47;refine(pops4 k U x _ (m) _ ?_ HM0.out zq9 HDN.out HOP.out).mono ?_;(have hT:=HT.out;(exact zq1));rintro e w1 ⟨rfl,h1⟩;have H1:Hid (Em w w1 k U x ((qa24 l m x)++[⟨3,11,m+1,0,0,0,0⟩])):=(show Em _ _ _ _ _ _ from(have hT:=HT.out;have hE:=h1;zq0));obtain⟨v0,v1,v2,v3,v4,v5,v6,v7,v8,v9⟩:=h1.t.cells;have HPx1:Hid (hx w1 w x):=h1.kp.keep _ _ _ HPx0.out HNx.out (by decide);obtain⟨vx0,vx1,vx2,vx3,vx4⟩:=ins_cells HPx1.out;have vlx:=row_lt HPx1.out;have vU:=row_lt H1.out.t.bU;clear h1))
 all_goals go_end0
 all_goals exact⟨rfl,H1.out⟩
theorem do2(k:BK)(U:Nat)(x:XI)(l:List OpR)(m:Int)  (w:World)(h:TU w k U x l)(hm:Ln l m)(hmx:m+160 < 90000)(hd:0≤x.done∧x.done≤64)(hop:x.op=2) :
  Calls Tryz.prog 21 #[.pointer (some ⟨U,0,none⟩)] w fun e w'=>e=.returned (.tuple #[])∧Em w w' k U x ((qa3 l m x)++[⟨16,0,m+1,0,0,0,x.done+1⟩]):=by
 obtain⟨u0,u1,u2,u3,u4,u5,u6,u7,u8,u9⟩:=h.cells
 have lU:=row_lt h.bU
 have HNx:Hid (w.heap.size≠k.B):=show w.heap.size≠k.B by have:=h.ltB;omega
 have HPx0:=hpx w x
 have HDN:Hid _:=hd
 have HMX:Hid (m+160 < 90000):=hmx
 have HWR:Hid _:=wrap_done x.done hd.1 hd.2
 have HOP:Hid _:=hop
 have k1:(x.op==1)=false:=by simp[hop]
 have k5:(x.op==5)=false:=by simp[hop]
 have k6:(x.op==6)=false:=by simp[hop]
 have k7:(x.op==7)=false:=by simp[hop]
 have k12:(x.op==12)=false:=by simp[hop]
 have k13:(x.op==13)=false:=by simp[hop]
 have k9:(x.op==9)=false:=by simp[hop]
 have k11:(x.op==11)=false:=by simp[hop]
 have k14:(x.op==14)=false:=by simp[hop]
 have k3:(x.op==3)=false:=by simp[hop]
 have k8:(x.op==8)=false:=by simp[hop]
 have k10:(x.op==10)=false:=by simp[hop]
 have k15:(x.op==15)=false:=by simp[hop]
 have k4:(x.op==4)=false:=by simp[hop]
 have k2:(x.op==2)=true:=by simp[hop]
 clear hop
 have HT:Hid _:=h
 have HM0:Hid (Ln l m):=hm
 have HM1:Hid (Ln (l++[⟨2,7,0,0,0,0,0⟩]) (m+1)):=HM0.out.next zo _
 have HM2:Hid (Ln (qa16 l m x) (m+1+1)):=HM1.out.next zo _
 have HM3:Hid (Ln ((qa16 l m x)++[⟨1,0,0,0,0,4,0⟩]) (m+1+1+1)):=HM2.out.next zo _
 have HM4:Hid (Ln (qa33 l m x) (m+1+1+1+1)):=HM3.out.next zo _
 have HM5:Hid (Ln (qa3 l m x) (m+1+1+1+1+1)):=HM4.out.next zo _
 have HM6:Hid (Ln ((qa3 l m x)++[⟨16,0,m+1,0,0,0,x.done+1⟩]) (m+1+1+1+1+1+1)):=HM5.out.next zo _
 clear h hm hd
 clear hmx
 go_enter Tryz.func21,Tryz.ntmps21
 all_goals go_wp2_with (first
   | (go_at_call 47;refine(pops2 k U x _ (m) _ ?_ HM0.out zq9 HDN.out HOP.out).mono ?_;(have hT:=HT.out;(exact zq1));rintro e w1 ⟨rfl,h1⟩;have H1:Hid (Em w w1 k U x ((qa3 l m x)++[⟨16,0,m+1,0,0,0,x.done+1⟩])):=(show Em _ _ _ _ _ _ from(have hT:=HT.out;have hE:=h1;zq0));obtain⟨v0,v1,v2,v3,v4,v5,v6,v7,v8,v9⟩:=h1.t.cells;have HPx1:Hid (hx w1 w x):=h1.kp.keep _ _ _ HPx0.out HNx.out (by decide);obtain⟨vx0,vx1,vx2,vx3,vx4⟩:=ins_cells HPx1.out;have vlx:=row_lt HPx1.out;have vU:=row_lt H1.out.t.bU;clear h1))
 all_goals go_end0
 all_goals exact⟨rfl,H1.out⟩
theorem do24(k:BK)(U:Nat)(x:XI)(l:List OpR)(m:Int)  (w:World)(h:TU w k U x l)(hm:Ln l m)(hmx:m+160 < 90000)(hd:0≤x.done∧x.done≤64)(hop:x.op=24) :
  Calls Tryz.prog 21 #[.pointer (some ⟨U,0,none⟩)] w fun e w'=>e=.returned (.tuple #[])∧Em w w' k U x ((qa18 l m x)++[⟨11,0,0,0,0,x.next,x.done+1⟩]):=by
 obtain⟨u0,u1,u2,u3,u4,u5,u6,u7,u8,u9⟩:=h.cells
 have lU:=row_lt h.bU
 have HNx:Hid (w.heap.size≠k.B):=show w.heap.size≠k.B by have:=h.ltB;omega
 have HPx0:=hpx w x
 have HDN:Hid _:=hd
 have HMX:Hid (m+160 < 90000):=hmx
 have HWR:Hid _:=wrap_done x.done hd.1 hd.2
 have HOP:Hid _:=hop
 have k1:(x.op==1)=false:=by simp[hop]
 have k5:(x.op==5)=false:=by simp[hop]
 have k6:(x.op==6)=false:=by simp[hop]
 have k7:(x.op==7)=false:=by simp[hop]
 have k12:(x.op==12)=false:=by simp[hop]
 have k13:(x.op==13)=false:=by simp[hop]
 have k9:(x.op==9)=false:=by simp[hop]
 have k11:(x.op==11)=false:=by simp[hop]
 have k14:(x.op==14)=false:=by simp[hop]
 have k3:(x.op==3)=false:=by simp[hop]
 have k8:(x.op==8)=false:=by simp[hop]
 have k10:(x.op==10)=false:=by simp[hop]
 have k15:(x.op==15)=false:=by simp[hop]
 have k4:(x.op==4)=false:=by simp[hop]
 have k2:(x.op==2)=false:=by simp[hop]
 have k27:(x.op==27)=false:=by simp[hop]
 have k28:(x.op==28)=false:=by simp[hop]
 have k29:(x.op==29)=false:=by simp[hop]
 have k30:(x.op==30)=false:=by simp[hop]
 have k31:(x.op==31)=false:=by simp[hop]
 have k24:(x.op==24)=true:=by simp[hop]
 clear hop
 have HT:Hid _:=h
 have HM0:Hid (Ln l m):=hm
 have HM1:Hid (Ln (l++[⟨2,x.S,0,0,0,0,0⟩]) (m+1)):=HM0.out.next zo _
 have HM2:Hid (Ln (qa19 l m x) (m+1+1)):=HM1.out.next zo _
 have HM3:Hid (Ln (qa4 l m x) (m+1+1+1)):=HM2.out.next zo _
 have HM4:Hid (Ln (qa0 l m x) (m+1+1+1+1)):=HM3.out.next zo _
 have HM5:Hid (Ln (qa15 l m x) (m+1+1+1+1+1)):=HM4.out.next zo _
 have HM6:Hid (Ln ((qa15 l m x)++[⟨10,2,m+1+1,m+1+1+1+1,0,x.pc,x.done⟩]) (m+1+1+1+1+1+1)):=HM5.out.next zo _
 have HM7:Hid (Ln (qa18 l m x) (m+1+1+1+1+1+1+1)):=HM6.out.next zo _
 have HM8:Hid (Ln ((qa18 l m x)++[⟨11,0,0,0,0,x.next,x.done+1⟩]) (m+1+1+1+1+1+1+1+1)):=HM7.out.next zo _
 clear h hm hd
 clear hmx
 go_enter Tryz.func21,Tryz.ntmps21
 all_goals go_wp2_with (first
   | (have HQ2:=H1;go_at_call 54;refine(watch_m k U x _ (m+1+1+1+1+1+1+1) _ ?_ HM7.out HDN.out).mono ?_;(have hT:=H1.out.t;(exact zq1));rintro e w2 ⟨rfl,h2⟩;have H2:Hid (Em w1 w2 k U x ((qa18 l m x)++[⟨11,0,0,0,0,x.next,x.done+1⟩])):=(show Em _ _ _ _ _ _ from(have hT:=H1.out.t;have hE:=h2;zq0));obtain⟨q0,q1,q2,q3,q4,q5,q6,q7,q8,q9⟩:=h2.t.cells;have HPx2:Hid (hx w2 w x):=H2.out.kp.keep _ _ _ HPx1.out HNx.out (by decide);obtain⟨qx0,qx1,qx2,qx3,qx4⟩:=ins_cells HPx2.out;have qlx:=row_lt HPx2.out;have qU:=row_lt H2.out.t.bU;clear h2 HQ2)
   | (go_at_call 55;refine(swaps24 k U x _ (m) _ ?_ HM0.out zq9 HDN.out HOP.out).mono ?_;(have hT:=HT.out;(exact zq1));rintro e w1 ⟨rfl,h1⟩;have H1:Hid (Em w w1 k U x (qa18 l m x)):=(show Em _ _ _ _ _ _ from(have hT:=HT.out;have hE:=h1;zq0));obtain⟨v0,v1,v2,v3,v4,v5,v6,v7,v8,v9⟩:=h1.t.cells;have HPx1:Hid (hx w1 w x):=h1.kp.keep _ _ _ HPx0.out HNx.out (by decide);obtain⟨vx0,vx1,vx2,vx3,vx4⟩:=ins_cells HPx1.out;have vlx:=row_lt HPx1.out;have vU:=row_lt H1.out.t.bU;clear h1))
 all_goals go_end0
 all_goals exact⟨rfl,(H1.out).trans H2.out⟩
theorem do25(k:BK)(U:Nat)(x:XI)(l:List OpR)(m:Int)  (w:World)(h:TU w k U x l)(hm:Ln l m)(hmx:m+160 < 90000)(hd:0≤x.done∧x.done≤64)(hop:x.op=25) :
  Calls Tryz.prog 21 #[.pointer (some ⟨U,0,none⟩)] w fun e w'=>e=.returned (.tuple #[])∧Em w w' k U x ((qa21 l m x)++[⟨11,0,0,0,0,x.next,x.done+1⟩]):=by
 obtain⟨u0,u1,u2,u3,u4,u5,u6,u7,u8,u9⟩:=h.cells
 have lU:=row_lt h.bU
 have HNx:Hid (w.heap.size≠k.B):=show w.heap.size≠k.B by have:=h.ltB;omega
 have HPx0:=hpx w x
 have HDN:Hid _:=hd
 have HMX:Hid (m+160 < 90000):=hmx
 have HWR:Hid _:=wrap_done x.done hd.1 hd.2
 have HOP:Hid _:=hop
 have k1:(x.op==1)=false:=by simp[hop]
 have k5:(x.op==5)=false:=by simp[hop]
 have k6:(x.op==6)=false:=by simp[hop]
 have k7:(x.op==7)=false:=by simp[hop]
 have k12:(x.op==12)=false:=by simp[hop]
 have k13:(x.op==13)=false:=by simp[hop]
 have k9:(x.op==9)=false:=by simp[hop]
 have k11:(x.op==11)=false:=by simp[hop]
 have k14:(x.op==14)=false:=by simp[hop]
 have k3:(x.op==3)=false:=by simp[hop]
 have k8:(x.op==8)=false:=by simp[hop]
 have k10:(x.op==10)=false:=by simp[hop]
 have k15:(x.op==15)=false:=by simp[hop]
 have k4:(x.op==4)=false:=by simp[hop]
 have k2:(x.op==2)=false:=by simp[hop]
 have k27:(x.op==27)=false:=by simp[hop]
 have k28:(x.op==28)=false:=by simp[hop]
 have k29:(x.op==29)=false:=by simp[hop]
 have k30:(x.op==30)=false:=by simp[hop]
 have k31:(x.op==31)=false:=by simp[hop]
 have k24:(x.op==24)=false:=by simp[hop]
 have k25:(x.op==25)=true:=by simp[hop]
 clear hop
 have HT:Hid _:=h
 have HM0:Hid (Ln l m):=hm
 have HM1:Hid (Ln (l++[⟨2,x.S,0,0,0,0,0⟩]) (m+1)):=HM0.out.next zo _
 have HM2:Hid (Ln (qa19 l m x) (m+1+1)):=HM1.out.next zo _
 have HM3:Hid (Ln (qa4 l m x) (m+1+1+1)):=HM2.out.next zo _
 have HM4:Hid (Ln (qa0 l m x) (m+1+1+1+1)):=HM3.out.next zo _
 have HM5:Hid (Ln (qa15 l m x) (m+1+1+1+1+1)):=HM4.out.next zo _
 have HM6:Hid (Ln ((qa15 l m x)++[⟨4,0,m+1+1+1,m+1+1+1+1,0,0,0⟩]) (m+1+1+1+1+1+1)):=HM5.out.next zo _
 have HM7:Hid (Ln (qa17 l m x) (m+1+1+1+1+1+1+1)):=HM6.out.next zo _
 have HM8:Hid (Ln ((qa17 l m x)++[⟨3,x.D,m+1+1+1,0,0,0,0⟩]) (m+1+1+1+1+1+1+1+1)):=HM7.out.next zo _
 have HM9:Hid (Ln (((qa17 l m x)++[⟨3,x.D,m+1+1+1,0,0,0,0⟩])++[⟨1,0,0,0,0,1,0⟩]) (m+1+1+1+1+1+1+1+1+1)):=HM8.out.next zo _
 have HM10:Hid (Ln (qa5 l m x) (m+1+1+1+1+1+1+1+1+1+1)):=HM9.out.next zo _
 have HM11:Hid (Ln ((qa5 l m x)++[⟨3,9,m+1+1+1,0,0,0,0⟩]) (m+1+1+1+1+1+1+1+1+1+1+1)):=HM10.out.next zo _
 have HM12:Hid (Ln (qa21 l m x) (m+1+1+1+1+1+1+1+1+1+1+1+1)):=HM11.out.next zo _
 have HM13:Hid (Ln ((qa21 l m x)++[⟨11,0,0,0,0,x.next,x.done+1⟩]) (m+1+1+1+1+1+1+1+1+1+1+1+1+1)):=HM12.out.next zo _
 clear h hm hd
 clear hmx
 go_enter Tryz.func21,Tryz.ntmps21
 all_goals go_wp2_with (first
   | (have HQ2:=H1;go_at_call 54;refine(watch_m k U x _ (m+1+1+1+1+1+1+1+1+1+1+1+1) _ ?_ HM12.out HDN.out).mono ?_;(have hT:=H1.out.t;(exact zq1));rintro e w2 ⟨rfl,h2⟩;have H2:Hid (Em w1 w2 k U x ((qa21 l m x)++[⟨11,0,0,0,0,x.next,x.done+1⟩])):=(show Em _ _ _ _ _ _ from(have hT:=H1.out.t;have hE:=h2;zq0));obtain⟨q0,q1,q2,q3,q4,q5,q6,q7,q8,q9⟩:=h2.t.cells;have HPx2:Hid (hx w2 w x):=H2.out.kp.keep _ _ _ HPx1.out HNx.out (by decide);obtain⟨qx0,qx1,qx2,qx3,qx4⟩:=ins_cells HPx2.out;have qlx:=row_lt HPx2.out;have qU:=row_lt H2.out.t.bU;clear h2 HQ2)
   | (go_at_call 55;refine(swaps25 k U x _ (m) _ ?_ HM0.out zq9 HDN.out HOP.out).mono ?_;(have hT:=HT.out;(exact zq1));rintro e w1 ⟨rfl,h1⟩;have H1:Hid (Em w w1 k U x (qa21 l m x)):=(show Em _ _ _ _ _ _ from(have hT:=HT.out;have hE:=h1;zq0));obtain⟨v0,v1,v2,v3,v4,v5,v6,v7,v8,v9⟩:=h1.t.cells;have HPx1:Hid (hx w1 w x):=h1.kp.keep _ _ _ HPx0.out HNx.out (by decide);obtain⟨vx0,vx1,vx2,vx3,vx4⟩:=ins_cells HPx1.out;have vlx:=row_lt HPx1.out;have vU:=row_lt H1.out.t.bU;clear h1))
 all_goals go_end0
 all_goals exact⟨rfl,(H1.out).trans H2.out⟩
theorem do26(k:BK)(U:Nat)(x:XI)(l:List OpR)(m:Int)  (w:World)(h:TU w k U x l)(hm:Ln l m)(hmx:m+160 < 90000)(hd:0≤x.done∧x.done≤64)(hop:x.op=26) :
  Calls Tryz.prog 21 #[.pointer (some ⟨U,0,none⟩)] w fun e w'=>e=.returned (.tuple #[])∧Em w w' k U x (((qa13 l m x)++[⟨3,10,m+1+1+1,0,0,0,0⟩])++[⟨11,0,0,0,0,x.next,x.done+1⟩]):=by
 obtain⟨u0,u1,u2,u3,u4,u5,u6,u7,u8,u9⟩:=h.cells
 have lU:=row_lt h.bU
 have HNx:Hid (w.heap.size≠k.B):=show w.heap.size≠k.B by have:=h.ltB;omega
 have HPx0:=hpx w x
 have HDN:Hid _:=hd
 have HMX:Hid (m+160 < 90000):=hmx
 have HWR:Hid _:=wrap_done x.done hd.1 hd.2
 have HOP:Hid _:=hop
 have k1:(x.op==1)=false:=by simp[hop]
 have k5:(x.op==5)=false:=by simp[hop]
 have k6:(x.op==6)=false:=by simp[hop]
 have k7:(x.op==7)=false:=by simp[hop]
 have k12:(x.op==12)=false:=by simp[hop]
 have k13:(x.op==13)=false:=by simp[hop]
 have k9:(x.op==9)=false:=by simp[hop]
 have k11:(x.op==11)=false:=by simp[hop]
 have k14:(x.op==14)=false:=by simp[hop]
 have k3:(x.op==3)=false:=by simp[hop]
 have k8:(x.op==8)=false:=by simp[hop]
 have k10:(x.op==10)=false:=by simp[hop]
 have k15:(x.op==15)=false:=by simp[hop]
 have k4:(x.op==4)=false:=by simp[hop]
 have k2:(x.op==2)=false:=by simp[hop]
 have k27:(x.op==27)=false:=by simp[hop]
 have k28:(x.op==28)=false:=by simp[hop]
 have k29:(x.op==29)=false:=by simp[hop]
 have k30:(x.op==30)=false:=by simp[hop]
 have k31:(x.op==31)=false:=by simp[hop]
 have k24:(x.op==24)=false:=by simp[hop]
 have k25:(x.op==25)=false:=by simp[hop]
 have k26:(x.op==26)=true:=by simp[hop]
 clear hop
 have HT:Hid _:=h
 have HM0:Hid (Ln l m):=hm
 have HM1:Hid (Ln (l++[⟨2,x.S,0,0,0,0,0⟩]) (m+1)):=HM0.out.next zo _
 have HM2:Hid (Ln (qa19 l m x) (m+1+1)):=HM1.out.next zo _
 have HM3:Hid (Ln (qa4 l m x) (m+1+1+1)):=HM2.out.next zo _
 have HM4:Hid (Ln (qa0 l m x) (m+1+1+1+1)):=HM3.out.next zo _
 have HM5:Hid (Ln (qa15 l m x) (m+1+1+1+1+1)):=HM4.out.next zo _
 have HM6:Hid (Ln ((qa15 l m x)++[⟨2,0,0,0,0,0,0⟩]) (m+1+1+1+1+1+1)):=HM5.out.next zo _
 have HM7:Hid (Ln (qa25 l m x) (m+1+1+1+1+1+1+1)):=HM6.out.next zo _
 have HM8:Hid (Ln ((qa25 l m x)++[⟨6,0,m+1+1+1+1+1+1,m+1+1+1+1,m+1+1+1,0,0⟩]) (m+1+1+1+1+1+1+1+1)):=HM7.out.next zo _
 have HM9:Hid (Ln (qa1 l m x) (m+1+1+1+1+1+1+1+1+1)):=HM8.out.next zo _
 have HM10:Hid (Ln ((qa1 l m x)++[⟨3,0,m+1+1+1,0,0,0,0⟩]) (m+1+1+1+1+1+1+1+1+1+1)):=HM9.out.next zo _
 have HM11:Hid (Ln (((qa1 l m x)++[⟨3,0,m+1+1+1,0,0,0,0⟩])++[⟨1,0,0,0,0,3,0⟩]) (m+1+1+1+1+1+1+1+1+1+1+1)):=HM10.out.next zo _
 have HM12:Hid (Ln ((((qa1 l m x)++[⟨3,0,m+1+1+1,0,0,0,0⟩])++[⟨1,0,0,0,0,3,0⟩])++[⟨3,8,m+1+1+1+1+1+1+1+1+1+1,0,0,0,0⟩]) (m+1+1+1+1+1+1+1+1+1+1+1+1)):=HM11.out.next zo _
 have HM13:Hid (Ln (qa13 l m x) (m+1+1+1+1+1+1+1+1+1+1+1+1+1)):=HM12.out.next zo _
 have HM14:Hid (Ln ((qa13 l m x)++[⟨3,10,m+1+1+1,0,0,0,0⟩]) (m+1+1+1+1+1+1+1+1+1+1+1+1+1+1)):=HM13.out.next zo _
 have HM15:Hid (Ln (((qa13 l m x)++[⟨3,10,m+1+1+1,0,0,0,0⟩])++[⟨11,0,0,0,0,x.next,x.done+1⟩]) (m+1+1+1+1+1+1+1+1+1+1+1+1+1+1+1)):=HM14.out.next zo _
 clear h hm hd
 clear hmx
 go_enter Tryz.func21,Tryz.ntmps21
 all_goals go_wp2_with (first
   | (have HQ2:=H1;go_at_call 54;refine(watch_m k U x _ (m+1+1+1+1+1+1+1+1+1+1+1+1+1+1) _ ?_ HM14.out HDN.out).mono ?_;(have hT:=H1.out.t;(exact zq1));rintro e w2 ⟨rfl,h2⟩;have H2:Hid (Em w1 w2 k U x (((qa13 l m x)++[⟨3,10,m+1+1+1,0,0,0,0⟩])++[⟨11,0,0,0,0,x.next,x.done+1⟩])):=(show Em _ _ _ _ _ _ from(have hT:=H1.out.t;have hE:=h2;zq0));obtain⟨q0,q1,q2,q3,q4,q5,q6,q7,q8,q9⟩:=h2.t.cells;have HPx2:Hid (hx w2 w x):=H2.out.kp.keep _ _ _ HPx1.out HNx.out (by decide);obtain⟨qx0,qx1,qx2,qx3,qx4⟩:=ins_cells HPx2.out;have qlx:=row_lt HPx2.out;have qU:=row_lt H2.out.t.bU;clear h2 HQ2)
   | (go_at_call 55;refine(swaps26 k U x _ (m) _ ?_ HM0.out zq9 HDN.out HOP.out).mono ?_;(have hT:=HT.out;(exact zq1));rintro e w1 ⟨rfl,h1⟩;have H1:Hid (Em w w1 k U x ((qa13 l m x)++[⟨3,10,m+1+1+1,0,0,0,0⟩])):=(show Em _ _ _ _ _ _ from(have hT:=HT.out;have hE:=h1;zq0));obtain⟨v0,v1,v2,v3,v4,v5,v6,v7,v8,v9⟩:=h1.t.cells;have HPx1:Hid (hx w1 w x):=h1.kp.keep _ _ _ HPx0.out HNx.out (by decide);obtain⟨vx0,vx1,vx2,vx3,vx4⟩:=ins_cells HPx1.out;have vlx:=row_lt HPx1.out;have vU:=row_lt H1.out.t.bU;clear h1))
 all_goals go_end0
 all_goals exact⟨rfl,(H1.out).trans H2.out⟩
end Go.Proofs.YtfokgedjocnnmaaGreat
