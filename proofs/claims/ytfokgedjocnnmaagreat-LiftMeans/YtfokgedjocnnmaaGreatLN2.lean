import Derived.Test.YtfokgedjocnnmaaGreatLL
import Derived.Test.YtfokgedjocnnmaaGreatLG
import Derived.Test.YtfokgedjocnnmaaGreatLJ
set_option linter.unusedVariables false
set_option linter.unusedSimpArgs false
set_option maxHeartbeats 4000000
namespace Go.Proofs.YtfokgedjocnnmaaGreat
open Go.RowKit
set_option maxRecDepth 100000
theorem do15(k:BK)(U:Nat)(x:XI)(l:List OpR)(m:Int)  (w:World)(h:TU w k U x l)(hm:Ln l m)(hmx:m+160 < 90000)(hd:0≤x.done∧x.done≤64)(hop:x.op=15) :
  Calls Tryz.prog 21 #[.pointer (some ⟨U,0,none⟩)] w fun e w'=>e=.returned (.tuple #[])∧Em w w' k U x ((qa3 l m x)++[⟨3,x.D,m+1,0,0,0,0⟩]):=by
 obtain⟨u0,u1,u2,u3,u4,u5,u6,u7,u8,u9⟩:=h.cells
 have lU:=row_lt h.bU
 have HNx:Hid (w.heap.size≠k.B):=show w.heap.size≠k.B by have:=h.ltB;omega
 have HPx0:=hpx w x
 have HDN:Hid _:=hd
 have HMX:Hid (m+160 < 90000):=hmx
 have HWR:Hid _:=wrap_done x.done hd.1 hd.2
 have HOP:Hid _:=hop
 have k1:(x.op==1)=false:=by simp[hop]
 have k5:(x.op==5)=false:=by simp[hop]
 have k6:(x.op==6)=false:=by simp[hop]
 have k7:(x.op==7)=false:=by simp[hop]
 have k12:(x.op==12)=false:=by simp[hop]
 have k13:(x.op==13)=false:=by simp[hop]
 have k9:(x.op==9)=false:=by simp[hop]
 have k11:(x.op==11)=false:=by simp[hop]
 have k14:(x.op==14)=false:=by simp[hop]
 have k3:(x.op==3)=false:=by simp[hop]
 have k8:(x.op==8)=false:=by simp[hop]
 have k10:(x.op==10)=false:=by simp[hop]
 have k15:(x.op==15)=true:=by simp[hop]
 clear hop
 have HT:Hid _:=h
 have HM0:Hid (Ln l m):=hm
 have HM1:Hid (Ln (l++[⟨2,7,0,0,0,0,0⟩]) (m+1)):=HM0.out.next zo _
 have HM2:Hid (Ln (qa16 l m x) (m+1+1)):=HM1.out.next zo _
 have HM3:Hid (Ln ((qa16 l m x)++[⟨1,0,0,0,0,4,0⟩]) (m+1+1+1)):=HM2.out.next zo _
 have HM4:Hid (Ln (qa33 l m x) (m+1+1+1+1)):=HM3.out.next zo _
 have HM5:Hid (Ln (qa3 l m x) (m+1+1+1+1+1)):=HM4.out.next zo _
 have HM6:Hid (Ln ((qa3 l m x)++[⟨3,x.D,m+1,0,0,0,0⟩]) (m+1+1+1+1+1+1)):=HM5.out.next zo _
 clear h hm hd
 clear hmx
 go_enter Tryz.func21,Tryz.ntmps21
 all_goals go_wp2_with (first
   | (go_at_call 47;refine(pops15 k U x _ (m) _ ?_ HM0.out zq9 HDN.out HOP.out).mono ?_;(have hT:=HT.out;(exact zq1));rintro e w1 ⟨rfl,h1⟩;have H1:Hid (Em w w1 k U x ((qa3 l m x)++[⟨3,x.D,m+1,0,0,0,0⟩])):=(show Em _ _ _ _ _ _ from(have hT:=HT.out;have hE:=h1;zq0));obtain⟨v0,v1,v2,v3,v4,v5,v6,v7,v8,v9⟩:=h1.t.cells;have HPx1:Hid (hx w1 w x):=h1.kp.keep _ _ _ HPx0.out HNx.out (by decide);obtain⟨vx0,vx1,vx2,vx3,vx4⟩:=ins_cells HPx1.out;have vlx:=row_lt HPx1.out;have vU:=row_lt H1.out.t.bU;clear h1))
 all_goals go_end0
 all_goals exact⟨rfl,H1.out⟩
theorem do4(k:BK)(U:Nat)(x:XI)(l:List OpR)(m:Int)  (w:World)(h:TU w k U x l)(hm:Ln l m)(hmx:m+160 < 90000)(hd:0≤x.done∧x.done≤64)(hop:x.op=4) :
  Calls Tryz.prog 21 #[.pointer (some ⟨U,0,none⟩)] w fun e w'=>e=.returned (.tuple #[])∧Em w w' k U x ((qa24 l m x)++[⟨3,11,m+1,0,0,0,0⟩]):=by
 obtain⟨u0,u1,u2,u3,u4,u5,u6,u7,u8,u9⟩:=h.cells
 have lU:=row_lt h.bU
 have HNx:Hid (w.heap.size≠k.B):=show w.heap.size≠k.B by have:=h.ltB;omega
 have HPx0:=hpx w x
 have HDN:Hid _:=hd
 have HMX:Hid (m+160 < 90000):=hmx
 have HWR:Hid _:=wrap_done x.done hd.1 hd.2
 have HOP:Hid _:=hop
 have k1:(x.op==1)=false:=by simp[hop]
 have k5:(x.op==5)=false:=by simp[hop]
 have k6:(x.op==6)=false:=by simp[hop]
 have k7:(x.op==7)=false:=by simp[hop]
 have k12:(x.op==12)=false:=by simp[hop]
 have k13:(x.op==13)=false:=by simp[hop]
 have k9:(x.op==9)=false:=by simp[hop]
 have k11:(x.op==11)=false:=by simp[hop]
 have k14:(x.op==14)=false:=by simp[hop]
 have k3:(x.op==3)=false:=by simp[hop]
 have k8:(x.op==8)=false:=by simp[hop]
 have k10:(x.op==10)=false:=by simp[hop]
 have k15:(x.op==15)=false:=by simp[hop]
 have k4:(x.op==4)=true:=by simp[hop]
 clear hop
 have HT:Hid _:=h
 have HM0:Hid (Ln l m):=hm
 have HM1:Hid (Ln (l++[⟨2,7,0,0,0,0,0⟩]) (m+1)):=HM0.out.next zo _
 have HM2:Hid (Ln (qa16 l m x) (m+1+1)):=HM1.out.next zo _
 have HM3:Hid (Ln ((qa16 l m x)++[⟨1,0,0,0,0,4,0⟩]) (m+1+1+1)):=HM2.out.next zo _
 have HM4:Hid (Ln (qa33 l m x) (m+1+1+1+1)):=HM3.out.next zo _
 have HM5:Hid (Ln (qa3 l m x) (m+1+1+1+1+1)):=HM4.out.next zo _
 have HM6:Hid (Ln ((qa3 l m x)++[⟨1,0,0,0,0,0,0⟩]) (m+1+1+1+1+1+1)):=HM5.out.next zo _
 have HM7:Hid (Ln (qa24 l m x) (m+1+1+1+1+1+1+1)):=HM6.out.next zo _
 have HM8:Hid (Ln ((qa24 l m x)++[⟨3,11,m+1,0,0,0,0⟩]) (m+1+1+1+1+1+1+1+1)):=HM7.out.next zo _
 clear h hm hd
 clear hmx
 go_enter Tryz.func21,Tryz.ntmps21
 all_goals go_wp2_with (first
   | (go_at_call 47;refine(pops4 k U x _ (m) _ ?_ HM0.out zq9 HDN.out HOP.out).mono ?_;(have hT:=HT.out;(exact zq1));rintro e w1 ⟨rfl,h1⟩;have H1:Hid (Em w w1 k U x ((qa24 l m x)++[⟨3,11,m+1,0,0,0,0⟩])):=(show Em _ _ _ _ _ _ from(have hT:=HT.out;have hE:=h1;zq0));obtain⟨v0,v1,v2,v3,v4,v5,v6,v7,v8,v9⟩:=h1.t.cells;have HPx1:Hid (hx w1 w x):=h1.kp.keep _ _ _ HPx0.out HNx.out (by decide);obtain⟨vx0,vx1,vx2,vx3,vx4⟩:=ins_cells HPx1.out;have vlx:=row_lt HPx1.out;have vU:=row_lt H1.out.t.bU;clear h1))
 all_goals go_end0
 all_goals exact⟨rfl,H1.out⟩
theorem do2(k:BK)(U:Nat)(x:XI)(l:List OpR)(m:Int)  (w:World)(h:TU w k U x l)(hm:Ln l m)(hmx:m+160 < 90000)(hd:0≤x.done∧x.done≤64)(hop:x.op=2) :
  Calls Tryz.prog 21 #[.pointer (some ⟨U,0,none⟩)] w fun e w'=>e=.returned (.tuple #[])∧Em w w' k U x ((qa3 l m x)++[⟨16,0,m+1,0,0,0,x.done+1⟩]):=by
 obtain⟨u0,u1,u2,u3,u4,u5,u6,u7,u8,u9⟩:=h.cells
 have lU:=row_lt h.bU
 have HNx:Hid (w.heap.size≠k.B):=show w.heap.size≠k.B by have:=h.ltB;omega
 have HPx0:=hpx w x
 have HDN:Hid _:=hd
 have HMX:Hid (m+160 < 90000):=hmx
 have HWR:Hid _:=wrap_done x.done hd.1 hd.2
 have HOP:Hid _:=hop
 have k1:(x.op==1)=false:=by simp[hop]
 have k5:(x.op==5)=false:=by simp[hop]
 have k6:(x.op==6)=false:=by simp[hop]
 have k7:(x.op==7)=false:=by simp[hop]
 have k12:(x.op==12)=false:=by simp[hop]
 have k13:(x.op==13)=false:=by simp[hop]
 have k9:(x.op==9)=false:=by simp[hop]
 have k11:(x.op==11)=false:=by simp[hop]
 have k14:(x.op==14)=false:=by simp[hop]
 have k3:(x.op==3)=false:=by simp[hop]
 have k8:(x.op==8)=false:=by simp[hop]
 have k10:(x.op==10)=false:=by simp[hop]
 have k15:(x.op==15)=false:=by simp[hop]
 have k4:(x.op==4)=false:=by simp[hop]
 have k2:(x.op==2)=true:=by simp[hop]
 clear hop
 have HT:Hid _:=h
 have HM0:Hid (Ln l m):=hm
 have HM1:Hid (Ln (l++[⟨2,7,0,0,0,0,0⟩]) (m+1)):=HM0.out.next zo _
 have HM2:Hid (Ln (qa16 l m x) (m+1+1)):=HM1.out.next zo _
 have HM3:Hid (Ln ((qa16 l m x)++[⟨1,0,0,0,0,4,0⟩]) (m+1+1+1)):=HM2.out.next zo _
 have HM4:Hid (Ln (qa33 l m x) (m+1+1+1+1)):=HM3.out.next zo _
 have HM5:Hid (Ln (qa3 l m x) (m+1+1+1+1+1)):=HM4.out.next zo _
 have HM6:Hid (Ln ((qa3 l m x)++[⟨16,0,m+1,0,0,0,x.done+1⟩]) (m+1+1+1+1+1+1)):=HM5.out.next zo _
 clear h hm hd
 clear hmx
 go_enter Tryz.func21,Tryz.ntmps21
 all_goals go_wp2_with (first
   | (go_at_call 47;refine(pops2 k U x _ (m) _ ?_ HM0.out zq9 HDN.out HOP.out).mono ?_;(have hT:=HT.out;(exact zq1));rintro e w1 ⟨rfl,h1⟩;have H1:Hid (Em w w1 k U x ((qa3 l m x)++[⟨16,0,m+1,0,0,0,x.done+1⟩])):=(show Em _ _ _ _ _ _ from(have hT:=HT.out;have hE:=h1;zq0));obtain⟨v0,v1,v2,v3,v4,v5,v6,v7,v8,v9⟩:=h1.t.cells;have HPx1:Hid (hx w1 w x):=h1.kp.keep _ _ _ HPx0.out HNx.out (by decide);obtain⟨vx0,vx1,vx2,vx3,vx4⟩:=ins_cells HPx1.out;have vlx:=row_lt HPx1.out;have vU:=row_lt H1.out.t.bU;clear h1))
 all_goals go_end0
 all_goals exact⟨rfl,H1.out⟩
theorem do24(k:BK)(U:Nat)(x:XI)(l:List OpR)(m:Int)  (w:World)(h:TU w k U x l)(hm:Ln l m)(hmx:m+160 < 90000)(hd:0≤x.done∧x.done≤64)(hop:x.op=24) :
  Calls Tryz.prog 21 #[.pointer (some ⟨U,0,none⟩)] w fun e w'=>e=.returned (.tuple #[])∧Em w w' k U x ((qa18 l m x)++[⟨11,0,0,0,0,x.next,x.done+1⟩]):=by
 obtain⟨u0,u1,u2,u3,u4,u5,u6,u7,u8,u9⟩:=h.cells
 have lU:=row_lt h.bU
 have HNx:Hid (w.heap.size≠k.B):=show w.heap.size≠k.B by have:=h.ltB;omega
 have HPx0:=hpx w x
 have HDN:Hid _:=hd
 have HMX:Hid (m+160 < 90000):=hmx
 have HWR:Hid _:=wrap_done x.done hd.1 hd.2
 have HOP:Hid _:=hop
 have k1:(x.op==1)=false:=by simp[hop]
 have k5:(x.op==5)=false:=by simp[hop]
 have k6:(x.op==6)=false:=by simp[hop]
 have k7:(x.op==7)=false:=by simp[hop]
 have k12:(x.op==12)=false:=by simp[hop]
 have k13:(x.op==13)=false:=by simp[hop]
 have k9:(x.op==9)=false:=by simp[hop]
 have k11:(x.op==11)=false:=by simp[hop]
 have k14:(x.op==14)=false:=by simp[hop]
 have k3:(x.op==3)=false:=by simp[hop]
 have k8:(x.op==8)=false:=by simp[hop]
 have k10:(x.op==10)=false:=by simp[hop]
 have k15:(x.op==15)=false:=by simp[hop]
 have k4:(x.op==4)=false:=by simp[hop]
 have k2:(x.op==2)=false:=by simp[hop]
 have k27:(x.op==27)=false:=by simp[hop]
 have k28:(x.op==28)=false:=by simp[hop]
 have k29:(x.op==29)=false:=by simp[hop]
 have k30:(x.op==30)=false:=by simp[hop]
 have k31:(x.op==31)=false:=by simp[hop]
 have k24:(x.op==24)=true:=by simp[hop]
 clear hop
 have HT:Hid _:=h
 have HM0:Hid (Ln l m):=hm
 have HM1:Hid (Ln (l++[⟨2,x.S,0,0,0,0,0⟩]) (m+1)):=HM0.out.next zo _
 have HM2:Hid (Ln (qa19 l m x) (m+1+1)):=HM1.out.next zo _
 have HM3:Hid (Ln (qa4 l m x) (m+1+1+1)):=HM2.out.next zo _
 have HM4:Hid (Ln (qa0 l m x) (m+1+1+1+1)):=HM3.out.next zo _
 have HM5:Hid (Ln (qa15 l m x) (m+1+1+1+1+1)):=HM4.out.next zo _
 have HM6:Hid (Ln ((qa15 l m x)++[⟨10,2,m+1+1,m+1+1+1+1,0,x.pc,x.done⟩]) (m+1+1+1+1+1+1)):=HM5.out.next zo _
 have HM7:Hid (Ln (qa18 l m x) (m+1+1+1+1+1+1+1)):=HM6.out.next zo _
 have HM8:Hid (Ln ((qa18 l m x)++[⟨11,0,0,0,0,x.next,x.done+1⟩]) (m+1+1+1+1+1+1+1+1)):=HM7.out.next zo _
 clear h hm hd
 clear hmx
 go_enter Tryz.func21,Tryz.ntmps21
 all_goals go_wp2_with (first
   | (have HQ2:=H1;go_at_call 54;refine(watch_m k U x _ (m+1+1+1+1+1+1+1) _ ?_ HM7.out HDN.out).mono ?_;(have hT:=H1.out.t;(exact zq1));rintro e w2 ⟨rfl,h2⟩;have H2:Hid (Em w1 w2 k U x ((qa18 l m x)++[⟨11,0,0,0,0,x.next,x.done+1⟩])):=(show Em _ _ _ _ _ _ from(have hT:=H1.out.t;have hE:=h2;zq0));obtain⟨q0,q1,q2,q3,q4,q5,q6,q7,q8,q9⟩:=h2.t.cells;have HPx2:Hid (hx w2 w x):=H2.out.kp.keep _ _ _ HPx1.out HNx.out (by decide);obtain⟨qx0,qx1,qx2,qx3,qx4⟩:=ins_cells HPx2.out;have qlx:=row_lt HPx2.out;have qU:=row_lt H2.out.t.bU;clear h2 HQ2)
   | (go_at_call 55;refine(swaps24 k U x _ (m) _ ?_ HM0.out zq9 HDN.out HOP.out).mono ?_;(have hT:=HT.out;(exact zq1));rintro e w1 ⟨rfl,h1⟩;have H1:Hid (Em w w1 k U x (qa18 l m x)):=(show Em _ _ _ _ _ _ from(have hT:=HT.out;have hE:=h1;zq0));obtain⟨v0,v1,v2,v3,v4,v5,v6,v7,v8,v9⟩:=h1.t.cells;have HPx1:Hid (hx w1 w x):=h1.kp.keep _ _ _ HPx0.out HNx.out (by decide);obtain⟨vx0,vx1,vx2,vx3,vx4⟩:=ins_cells HPx1.out;have vlx:=row_lt HPx1.out;have vU:=row_lt H1.out.t.bU;clear h1))
 all_goals go_end0
 all_goals exact⟨rfl,(H1.out).trans H2.out⟩
theorem do25(k:BK)(U:Nat)(x:XI)(l:List OpR)(m:Int)  (w:World)(h:TU w k U x l)(hm:Ln l m)(hmx:m+160 < 90000)(hd:0≤x.done∧x.done≤64)(hop:x.op=25) :
  Calls Tryz.prog 21 #[.pointer (some ⟨U,0,none⟩)] w fun e w'=>e=.returned (.tuple #[])∧Em w w' k U x ((qa21 l m x)++[⟨11,0,0,0,0,x.next,x.done+1⟩]):=by
 obtain⟨u0,u1,u2,u3,u4,u5,u6,u7,u8,u9⟩:=h.cells
 have lU:=row_lt h.bU
 have HNx:Hid (w.heap.size≠k.B):=show w.heap.size≠k.B by have:=h.ltB;omega
 have HPx0:=hpx w x
 have HDN:Hid _:=hd
 have HMX:Hid (m+160 < 90000):=hmx
 have HWR:Hid _:=wrap_done x.done hd.1 hd.2
 have HOP:Hid _:=hop
 have k1:(x.op==1)=false:=by simp[hop]
 have k5:(x.op==5)=false:=by simp[hop]
 have k6:(x.op==6)=false:=by simp[hop]
 have k7:(x.op==7)=false:=by simp[hop]
 have k12:(x.op==12)=false:=by simp[hop]
 have k13:(x.op==13)=false:=by simp[hop]
 have k9:(x.op==9)=false:=by simp[hop]
 have k11:(x.op==11)=false:=by simp[hop]
 have k14:(x.op==14)=false:=by simp[hop]
 have k3:(x.op==3)=false:=by simp[hop]
 have k8:(x.op==8)=false:=by simp[hop]
 have k10:(x.op==10)=false:=by simp[hop]
 have k15:(x.op==15)=false:=by simp[hop]
 have k4:(x.op==4)=false:=by simp[hop]
 have k2:(x.op==2)=false:=by simp[hop]
 have k27:(x.op==27)=false:=by simp[hop]
 have k28:(x.op==28)=false:=by simp[hop]
 have k29:(x.op==29)=false:=by simp[hop]
 have k30:(x.op==30)=false:=by simp[hop]
 have k31:(x.op==31)=false:=by simp[hop]
 have k24:(x.op==24)=false:=by simp[hop]
 have k25:(x.op==25)=true:=by simp[hop]
 clear hop
 have HT:Hid _:=h
 have HM0:Hid (Ln l m):=hm
 have HM1:Hid (Ln (l++[⟨2,x.S,0,0,0,0,0⟩]) (m+1)):=HM0.out.next zo _
 have HM2:Hid (Ln (qa19 l m x) (m+1+1)):=HM1.out.next zo _
 have HM3:Hid (Ln (qa4 l m x) (m+1+1+1)):=HM2.out.next zo _
 have HM4:Hid (Ln (qa0 l m x) (m+1+1+1+1)):=HM3.out.next zo _
 have HM5:Hid (Ln (qa15 l m x) (m+1+1+1+1+1)):=HM4.out.next zo _
 have HM6:Hid (Ln ((qa15 l m x)++[⟨4,0,m+1+1+1,m+1+1+1+1,0,0,0⟩]) (m+1+1+1+1+1+1)):=HM5.out.next zo _
 have HM7:Hid (Ln (qa17 l m x) (m+1+1+1+1+1+1+1)):=HM6.out.next zo _
 have HM8:Hid (Ln ((qa17 l m x)++[⟨3,x.D,m+1+1+1,0,0,0,0⟩]) (m+1+1+1+1+1+1+1+1)):=HM7.out.next zo _
 have HM9:Hid (Ln (((qa17 l m x)++[⟨3,x.D,m+1+1+1,0,0,0,0⟩])++[⟨1,0,0,0,0,1,0⟩]) (m+1+1+1+1+1+1+1+1+1)):=HM8.out.next zo _
 have HM10:Hid (Ln (qa5 l m x) (m+1+1+1+1+1+1+1+1+1+1)):=HM9.out.next zo _
 have HM11:Hid (Ln ((qa5 l m x)++[⟨3,9,m+1+1+1,0,0,0,0⟩]) (m+1+1+1+1+1+1+1+1+1+1+1)):=HM10.out.next zo _
 have HM12:Hid (Ln (qa21 l m x) (m+1+1+1+1+1+1+1+1+1+1+1+1)):=HM11.out.next zo _
 have HM13:Hid (Ln ((qa21 l m x)++[⟨11,0,0,0,0,x.next,x.done+1⟩]) (m+1+1+1+1+1+1+1+1+1+1+1+1+1)):=HM12.out.next zo _
 clear h hm hd
 clear hmx
 go_enter Tryz.func21,Tryz.ntmps21
 all_goals go_wp2_with (first
   | (have HQ2:=H1;go_at_call 54;refine(watch_m k U x _ (m+1+1+1+1+1+1+1+1+1+1+1+1) _ ?_ HM12.out HDN.out).mono ?_;(have hT:=H1.out.t;(exact zq1));rintro e w2 ⟨rfl,h2⟩;have H2:Hid (Em w1 w2 k U x ((qa21 l m x)++[⟨11,0,0,0,0,x.next,x.done+1⟩])):=(show Em _ _ _ _ _ _ from(have hT:=H1.out.t;have hE:=h2;zq0));obtain⟨q0,q1,q2,q3,q4,q5,q6,q7,q8,q9⟩:=h2.t.cells;have HPx2:Hid (hx w2 w x):=H2.out.kp.keep _ _ _ HPx1.out HNx.out (by decide);obtain⟨qx0,qx1,qx2,qx3,qx4⟩:=ins_cells HPx2.out;have qlx:=row_lt HPx2.out;have qU:=row_lt H2.out.t.bU;clear h2 HQ2)
   | (go_at_call 55;refine(swaps25 k U x _ (m) _ ?_ HM0.out zq9 HDN.out HOP.out).mono ?_;(have hT:=HT.out;(exact zq1));rintro e w1 ⟨rfl,h1⟩;have H1:Hid (Em w w1 k U x (qa21 l m x)):=(show Em _ _ _ _ _ _ from(have hT:=HT.out;have hE:=h1;zq0));obtain⟨v0,v1,v2,v3,v4,v5,v6,v7,v8,v9⟩:=h1.t.cells;have HPx1:Hid (hx w1 w x):=h1.kp.keep _ _ _ HPx0.out HNx.out (by decide);obtain⟨vx0,vx1,vx2,vx3,vx4⟩:=ins_cells HPx1.out;have vlx:=row_lt HPx1.out;have vU:=row_lt H1.out.t.bU;clear h1))
 all_goals go_end0
 all_goals exact⟨rfl,(H1.out).trans H2.out⟩
theorem do26(k:BK)(U:Nat)(x:XI)(l:List OpR)(m:Int)  (w:World)(h:TU w k U x l)(hm:Ln l m)(hmx:m+160 < 90000)(hd:0≤x.done∧x.done≤64)(hop:x.op=26) :
  Calls Tryz.prog 21 #[.pointer (some ⟨U,0,none⟩)] w fun e w'=>e=.returned (.tuple #[])∧Em w w' k U x (((qa13 l m x)++[⟨3,10,m+1+1+1,0,0,0,0⟩])++[⟨11,0,0,0,0,x.next,x.done+1⟩]):=by
 obtain⟨u0,u1,u2,u3,u4,u5,u6,u7,u8,u9⟩:=h.cells
 have lU:=row_lt h.bU
 have HNx:Hid (w.heap.size≠k.B):=show w.heap.size≠k.B by have:=h.ltB;omega
 have HPx0:=hpx w x
 have HDN:Hid _:=hd
 have HMX:Hid (m+160 < 90000):=hmx
 have HWR:Hid _:=wrap_done x.done hd.1 hd.2
 have HOP:Hid _:=hop
 have k1:(x.op==1)=false:=by simp[hop]
 have k5:(x.op==5)=false:=by simp[hop]
 have k6:(x.op==6)=false:=by simp[hop]
 have k7:(x.op==7)=false:=by simp[hop]
 have k12:(x.op==12)=false:=by simp[hop]
 have k13:(x.op==13)=false:=by simp[hop]
 have k9:(x.op==9)=false:=by simp[hop]
 have k11:(x.op==11)=false:=by simp[hop]
 have k14:(x.op==14)=false:=by simp[hop]
 have k3:(x.op==3)=false:=by simp[hop]
 have k8:(x.op==8)=false:=by simp[hop]
 have k10:(x.op==10)=false:=by simp[hop]
 have k15:(x.op==15)=false:=by simp[hop]
 have k4:(x.op==4)=false:=by simp[hop]
 have k2:(x.op==2)=false:=by simp[hop]
 have k27:(x.op==27)=false:=by simp[hop]
 have k28:(x.op==28)=false:=by simp[hop]
 have k29:(x.op==29)=false:=by simp[hop]
 have k30:(x.op==30)=false:=by simp[hop]
 have k31:(x.op==31)=false:=by simp[hop]
 have k24:(x.op==24)=false:=by simp[hop]
 have k25:(x.op==25)=false:=by simp[hop]
 have k26:(x.op==26)=true:=by simp[hop]
 clear hop
 have HT:Hid _:=h
 have HM0:Hid (Ln l m):=hm
 have HM1:Hid (Ln (l++[⟨2,x.S,0,0,0,0,0⟩]) (m+1)):=HM0.out.next zo _
 have HM2:Hid (Ln (qa19 l m x) (m+1+1)):=HM1.out.next zo _
 have HM3:Hid (Ln (qa4 l m x) (m+1+1+1)):=HM2.out.next zo _
 have HM4:Hid (Ln (qa0 l m x) (m+1+1+1+1)):=HM3.out.next zo _
 have HM5:Hid (Ln (qa15 l m x) (m+1+1+1+1+1)):=HM4.out.next zo _
 have HM6:Hid (Ln ((qa15 l m x)++[⟨2,0,0,0,0,0,0⟩]) (m+1+1+1+1+1+1)):=HM5.out.next zo _
 have HM7:Hid (Ln (qa25 l m x) (m+1+1+1+1+1+1+1)):=HM6.out.next zo _
 have HM8:Hid (Ln ((qa25 l m x)++[⟨6,0,m+1+1+1+1+1+1,m+1+1+1+1,m+1+1+1,0,0⟩]) (m+1+1+1+1+1+1+1+1)):=HM7.out.next zo _
 have HM9:Hid (Ln (qa1 l m x) (m+1+1+1+1+1+1+1+1+1)):=HM8.out.next zo _
 have HM10:Hid (Ln ((qa1 l m x)++[⟨3,0,m+1+1+1,0,0,0,0⟩]) (m+1+1+1+1+1+1+1+1+1+1)):=HM9.out.next zo _
 have HM11:Hid (Ln (((qa1 l m x)++[⟨3,0,m+1+1+1,0,0,0,0⟩])++[⟨1,0,0,0,0,3,0⟩]) (m+1+1+1+1+1+1+1+1+1+1+1)):=HM10.out.next zo _
 have HM12:Hid (Ln ((((qa1 l m x)++[⟨3,0,m+1+1+1,0,0,0,0⟩])++[⟨1,0,0,0,0,3,0⟩])++[⟨3,8,m+1+1+1+1+1+1+1+1+1+1,0,0,0,0⟩]) (m+1+1+1+1+1+1+1+1+1+1+1+1)):=HM11.out.next zo _
 have HM13:Hid (Ln (qa13 l m x) (m+1+1+1+1+1+1+1+1+1+1+1+1+1)):=HM12.out.next zo _
 have HM14:Hid (Ln ((qa13 l m x)++[⟨3,10,m+1+1+1,0,0,0,0⟩]) (m+1+1+1+1+1+1+1+1+1+1+1+1+1+1)):=HM13.out.next zo _
 have HM15:Hid (Ln (((qa13 l m x)++[⟨3,10,m+1+1+1,0,0,0,0⟩])++[⟨11,0,0,0,0,x.next,x.done+1⟩]) (m+1+1+1+1+1+1+1+1+1+1+1+1+1+1+1)):=HM14.out.next zo _
 clear h hm hd
 clear hmx
 go_enter Tryz.func21,Tryz.ntmps21
 all_goals go_wp2_with (first
   | (have HQ2:=H1;go_at_call 54;refine(watch_m k U x _ (m+1+1+1+1+1+1+1+1+1+1+1+1+1+1) _ ?_ HM14.out HDN.out).mono ?_;(have hT:=H1.out.t;(exact zq1));rintro e w2 ⟨rfl,h2⟩;have H2:Hid (Em w1 w2 k U x (((qa13 l m x)++[⟨3,10,m+1+1+1,0,0,0,0⟩])++[⟨11,0,0,0,0,x.next,x.done+1⟩])):=(show Em _ _ _ _ _ _ from(have hT:=H1.out.t;have hE:=h2;zq0));obtain⟨q0,q1,q2,q3,q4,q5,q6,q7,q8,q9⟩:=h2.t.cells;have HPx2:Hid (hx w2 w x):=H2.out.kp.keep _ _ _ HPx1.out HNx.out (by decide);obtain⟨qx0,qx1,qx2,qx3,qx4⟩:=ins_cells HPx2.out;have qlx:=row_lt HPx2.out;have qU:=row_lt H2.out.t.bU;clear h2 HQ2)
   | (go_at_call 55;refine(swaps26 k U x _ (m) _ ?_ HM0.out zq9 HDN.out HOP.out).mono ?_;(have hT:=HT.out;(exact zq1));rintro e w1 ⟨rfl,h1⟩;have H1:Hid (Em w w1 k U x ((qa13 l m x)++[⟨3,10,m+1+1+1,0,0,0,0⟩])):=(show Em _ _ _ _ _ _ from(have hT:=HT.out;have hE:=h1;zq0));obtain⟨v0,v1,v2,v3,v4,v5,v6,v7,v8,v9⟩:=h1.t.cells;have HPx1:Hid (hx w1 w x):=h1.kp.keep _ _ _ HPx0.out HNx.out (by decide);obtain⟨vx0,vx1,vx2,vx3,vx4⟩:=ins_cells HPx1.out;have vlx:=row_lt HPx1.out;have vU:=row_lt H1.out.t.bU;clear h1))
 all_goals go_end0
 all_goals exact⟨rfl,(H1.out).trans H2.out⟩
theorem do19(k:BK)(U:Nat)(x:XI)(l:List OpR)(m:Int)  (w:World)(h:TU w k U x l)(hm:Ln l m)(hmx:m+160 < 90000)(hd:0≤x.done∧x.done≤64)(hop:x.op=19) :
    Calls Tryz.prog 21 #[.pointer (some ⟨U,0,none⟩)] w fun e w'=>e=.returned (.tuple #[])∧Em w w' k U x (qa34 l m x):=by
  obtain⟨u0,u1,u2,u3,u4,u5,u6,u7,u8,u9⟩:=h.cells
  have lU:=row_lt h.bU
  have HNx:Hid (w.heap.size≠k.B):=show w.heap.size≠k.B by have:=h.ltB;omega
  have HPx0:=hpx w x
  have HDN:Hid _:=hd
  have HMX:Hid (m+160 < 90000):=hmx
  have HWR:Hid _:=wrap_done x.done hd.1 hd.2
  have HOP:Hid _:=hop
  have k1:(x.op==1)=false:=by simp[hop]
  have k5:(x.op==5)=false:=by simp[hop]
  have k6:(x.op==6)=false:=by simp[hop]
  have k7:(x.op==7)=false:=by simp[hop]
  have k12:(x.op==12)=false:=by simp[hop]
  have k13:(x.op==13)=false:=by simp[hop]
  have k9:(x.op==9)=false:=by simp[hop]
  have k11:(x.op==11)=false:=by simp[hop]
  have k14:(x.op==14)=false:=by simp[hop]
  have k3:(x.op==3)=false:=by simp[hop]
  have k8:(x.op==8)=false:=by simp[hop]
  have k10:(x.op==10)=false:=by simp[hop]
  have k15:(x.op==15)=false:=by simp[hop]
  have k4:(x.op==4)=false:=by simp[hop]
  have k2:(x.op==2)=false:=by simp[hop]
  have k27:(x.op==27)=false:=by simp[hop]
  have k28:(x.op==28)=false:=by simp[hop]
  have k29:(x.op==29)=false:=by simp[hop]
  have k30:(x.op==30)=false:=by simp[hop]
  have k31:(x.op==31)=false:=by simp[hop]
  have k24:(x.op==24)=false:=by simp[hop]
  have k25:(x.op==25)=false:=by simp[hop]
  have k26:(x.op==26)=false:=by simp[hop]
  clear hop
  have HT:Hid _:=h
  have HM0:Hid (Ln l m):=hm
  have HM1:Hid (Ln (l++[⟨1,0,0,0,0,0,0⟩]) (m+1)):=HM0.out.next zo _
  have HM2:Hid (Ln ((l++[⟨1,0,0,0,0,0,0⟩])++[⟨2,x.D,0,0,0,0,0⟩]) (m+1+1)):=HM1.out.next zo _
  have HM3:Hid (Ln (qa20 l m x) (m+1+1+1)):=HM2.out.next zo _
  have HM4:Hid (Ln ((qa20 l m x)++[⟨3,x.D,m+1+1,0,0,0,0⟩]) (m+1+1+1+1)):=HM3.out.next zo _
  have HM5:Hid (Ln (((qa20 l m x)++[⟨3,x.D,m+1+1,0,0,0,0⟩])++[⟨1,0,0,0,0,3,0⟩]) (m+1+1+1+1+1)):=HM4.out.next zo _
  have HM6:Hid (Ln (qa7 l m x) (m+1+1+1+1+1+1)):=HM5.out.next zo _
  have HM7:Hid (Ln ((qa7 l m x)++[⟨3,9,m,0,0,0,0⟩]) (m+1+1+1+1+1+1+1)):=HM6.out.next zo _
  have HM8:Hid (Ln (qa34 l m x) (m+1+1+1+1+1+1+1+1)):=HM7.out.next zo _
  clear h hm hd
  clear hmx
  go_enter Tryz.func21,Tryz.ntmps21
  all_goals go_wp2_with (first
      | (go_at_call 56;refine(set19 k U x _ (m) _ ?_ HM0.out zq9 HDN.out HOP.out).mono ?_;(have hT:=HT.out;(exact zq1));rintro e w1 ⟨rfl,h1⟩;have H1:Hid (Em w w1 k U x (qa34 l m x)):=(show Em _ _ _ _ _ _ from(have hT:=HT.out;have hE:=h1;zq0));obtain⟨v0,v1,v2,v3,v4,v5,v6,v7,v8,v9⟩:=h1.t.cells;have HPx1:Hid (hx w1 w x):=h1.kp.keep _ _ _ HPx0.out HNx.out (by decide);obtain⟨vx0,vx1,vx2,vx3,vx4⟩:=ins_cells HPx1.out;have vlx:=row_lt HPx1.out;have vU:=row_lt H1.out.t.bU;clear h1))
  all_goals go_end0
  all_goals exact⟨rfl,H1.out⟩
theorem do21(k:BK)(U:Nat)(x:XI)(l:List OpR)(m:Int)  (w:World)(h:TU w k U x l)(hm:Ln l m)(hmx:m+160 < 90000)(hd:0≤x.done∧x.done≤64)(hop:x.op=21) :
    Calls Tryz.prog 21 #[.pointer (some ⟨U,0,none⟩)] w fun e w'=>e=.returned (.tuple #[])∧Em w w' k U x ((qa14 l m x)++[⟨3,x.D,m+1,0,0,0,0⟩]):=by
  obtain⟨u0,u1,u2,u3,u4,u5,u6,u7,u8,u9⟩:=h.cells
  have lU:=row_lt h.bU
  have HNx:Hid (w.heap.size≠k.B):=show w.heap.size≠k.B by have:=h.ltB;omega
  have HPx0:=hpx w x
  have HDN:Hid _:=hd
  have HMX:Hid (m+160 < 90000):=hmx
  have HWR:Hid _:=wrap_done x.done hd.1 hd.2
  have HOP:Hid _:=hop
  have k1:(x.op==1)=false:=by simp[hop]
  have k5:(x.op==5)=false:=by simp[hop]
  have k6:(x.op==6)=false:=by simp[hop]
  have k7:(x.op==7)=false:=by simp[hop]
  have k12:(x.op==12)=false:=by simp[hop]
  have k13:(x.op==13)=false:=by simp[hop]
  have k9:(x.op==9)=false:=by simp[hop]
  have k11:(x.op==11)=false:=by simp[hop]
  have k14:(x.op==14)=false:=by simp[hop]
  have k3:(x.op==3)=false:=by simp[hop]
  have k8:(x.op==8)=false:=by simp[hop]
  have k10:(x.op==10)=false:=by simp[hop]
  have k15:(x.op==15)=false:=by simp[hop]
  have k4:(x.op==4)=false:=by simp[hop]
  have k2:(x.op==2)=false:=by simp[hop]
  have k27:(x.op==27)=false:=by simp[hop]
  have k28:(x.op==28)=false:=by simp[hop]
  have k29:(x.op==29)=false:=by simp[hop]
  have k30:(x.op==30)=false:=by simp[hop]
  have k31:(x.op==31)=false:=by simp[hop]
  have k24:(x.op==24)=false:=by simp[hop]
  have k25:(x.op==25)=false:=by simp[hop]
  have k26:(x.op==26)=false:=by simp[hop]
  clear hop
  have HT:Hid _:=h
  have HM0:Hid (Ln l m):=hm
  have HM1:Hid (Ln (l++[⟨17,0,0,0,0,0,0⟩]) (m+1)):=HM0.out.next zo _
  have HM2:Hid (Ln (qa14 l m x) (m+1+1)):=HM1.out.next zo _
  have HM3:Hid (Ln ((qa14 l m x)++[⟨3,x.D,m+1,0,0,0,0⟩]) (m+1+1+1)):=HM2.out.next zo _
  clear h hm hd
  clear hmx
  go_enter Tryz.func21,Tryz.ntmps21
  all_goals go_wp2_with (first
      | (go_at_call 56;refine(set21 k U x _ (m) _ ?_ HM0.out zq9 HDN.out HOP.out).mono ?_;(have hT:=HT.out;(exact zq1));rintro e w1 ⟨rfl,h1⟩;have H1:Hid (Em w w1 k U x ((qa14 l m x)++[⟨3,x.D,m+1,0,0,0,0⟩])):=(show Em _ _ _ _ _ _ from(have hT:=HT.out;have hE:=h1;zq0));obtain⟨v0,v1,v2,v3,v4,v5,v6,v7,v8,v9⟩:=h1.t.cells;have HPx1:Hid (hx w1 w x):=h1.kp.keep _ _ _ HPx0.out HNx.out (by decide);obtain⟨vx0,vx1,vx2,vx3,vx4⟩:=ins_cells HPx1.out;have vlx:=row_lt HPx1.out;have vU:=row_lt H1.out.t.bU;clear h1))
  all_goals go_end0
  all_goals exact⟨rfl,H1.out⟩
theorem do30(k:BK)(U:Nat)(x:XI)(l:List OpR)(m:Int)  (w:World)(h:TU w k U x l)(hm:Ln l m)(hmx:m+160 < 90000)(hd:0≤x.done∧x.done≤64)(hop:x.op=30) :
    Calls Tryz.prog 21 #[.pointer (some ⟨U,0,none⟩)] w fun e w'=>e=.returned (.tuple #[])∧Em w w' k U x (((qa4 l m x)++[⟨9,x.O,m+1+1,0,0,x.pc,x.done⟩])++[⟨3,x.D,m+1+1+1,0,0,0,0⟩]):=by
  obtain⟨u0,u1,u2,u3,u4,u5,u6,u7,u8,u9⟩:=h.cells
  have lU:=row_lt h.bU
  have HNx:Hid (w.heap.size≠k.B):=show w.heap.size≠k.B by have:=h.ltB;omega
  have HPx0:=hpx w x
  have HDN:Hid _:=hd
  have HMX:Hid (m+160 < 90000):=hmx
  have HWR:Hid _:=wrap_done x.done hd.1 hd.2
  have HOP:Hid _:=hop
  have k1:(x.op==1)=false:=by simp[hop]
  have k5:(x.op==5)=false:=by simp[hop]
  have k6:(x.op==6)=false:=by simp[hop]
  have k7:(x.op==7)=false:=by simp[hop]
  have k12:(x.op==12)=false:=by simp[hop]
  have k13:(x.op==13)=false:=by simp[hop]
  have k9:(x.op==9)=false:=by simp[hop]
  have k11:(x.op==11)=false:=by simp[hop]
  have k14:(x.op==14)=false:=by simp[hop]
  have k3:(x.op==3)=false:=by simp[hop]
  have k8:(x.op==8)=false:=by simp[hop]
  have k10:(x.op==10)=false:=by simp[hop]
  have k15:(x.op==15)=false:=by simp[hop]
  have k4:(x.op==4)=false:=by simp[hop]
  have k2:(x.op==2)=false:=by simp[hop]
  have k27:(x.op==27)=false:=by simp[hop]
  have k28:(x.op==28)=false:=by simp[hop]
  have k29:(x.op==29)=false:=by simp[hop]
  have k30:(x.op==30)=true:=by simp[hop]
  clear hop
  have HT:Hid _:=h
  have HM0:Hid (Ln l m):=hm
  have HM1:Hid (Ln (l++[⟨2,x.S,0,0,0,0,0⟩]) (m+1)):=HM0.out.next zo _
  have HM2:Hid (Ln (qa19 l m x) (m+1+1)):=HM1.out.next zo _
  have HM3:Hid (Ln (qa4 l m x) (m+1+1+1)):=HM2.out.next zo _
  have HM4:Hid (Ln ((qa4 l m x)++[⟨9,x.O,m+1+1,0,0,x.pc,x.done⟩]) (m+1+1+1+1)):=HM3.out.next zo _
  have HM5:Hid (Ln (((qa4 l m x)++[⟨9,x.O,m+1+1,0,0,x.pc,x.done⟩])++[⟨3,x.D,m+1+1+1,0,0,0,0⟩]) (m+1+1+1+1+1)):=HM4.out.next zo _
  clear h hm hd
  clear hmx
  go_enter Tryz.func21,Tryz.ntmps21
  go_upto_region 29 with fail
  go_region_held3 (fun W'=>W'.cell? ⟨U,0,none⟩=some (.func (Fn.func 18) #[] #[.pointer (some ⟨k.B,0,none⟩)])∧W'.cell? ⟨U,1,none⟩=some (.func (Fn.func 19) #[] #[.pointer (some ⟨k.L,0,none⟩)])∧W'.cell? ⟨U,2,none⟩=some (.int .i64 x.op)∧W'.cell? ⟨U,3,none⟩=some (.int .i64 x.D)∧W'.cell? ⟨U,4,none⟩=some (.int .i64 x.S)∧W'.cell? ⟨U,5,none⟩=some (.int .i64 x.O)∧W'.cell? ⟨U,6,none⟩=some (.int .u32 x.im)∧W'.cell? ⟨U,7,none⟩=some (.int .u32 x.pc)∧W'.cell? ⟨U,8,none⟩=some (.int .u32 x.next)∧W'.cell? ⟨U,9,none⟩=some (.int .i64 x.done)∧W'.cell? ⟨w.heap.size,0,none⟩=some (.int .i64 x.op)∧W'.cell? ⟨w.heap.size,1,none⟩=some (.int .i64 x.D)∧W'.cell? ⟨w.heap.size,2,none⟩=some (.int .i64 x.S)∧W'.cell? ⟨w.heap.size,3,none⟩=some (.int .i64 x.O)∧W'.cell? ⟨w.heap.size,4,none⟩=some (.int .u32 x.im)) (first|(simp[go_sem,r0,r1,r2,r3,r4,r5,r6,r7,r8,r9,rx0,rx1,rx2,rx3,rx4];done)|(simp[go_sem,q0,q1,q2,q3,q4,q5,q6,q7,q8,q9,qx0,qx1,qx2,qx3,qx4];done)|(simp[go_sem,v0,v1,v2,v3,v4,v5,v6,v7,v8,v9,vx0,vx1,vx2,vx3,vx4];done)|(simp[go_sem,u0,u1,u2,u3,u4,u5,u6,u7,u8,u9,lU];done))
    (first
      | (have HQ3:=H2;go_at_call 50;refine(put_m k U x _ (m+1+1+1+1) x.D (m+1+1+1) _ ?_ HM4.out).mono ?_;(have hT:=H2.out.t;(exact zq1));rintro e w3 ⟨rfl,h3⟩;have H3:Hid (Em w2 w3 k U x (((qa4 l m x)++[⟨9,x.O,m+1+1,0,0,x.pc,x.done⟩])++[⟨3,x.D,m+1+1+1,0,0,0,0⟩])):=(show Em _ _ _ _ _ _ from(have hT:=H2.out.t;have hE:=h3;zq0));obtain⟨r0,r1,r2,r3,r4,r5,r6,r7,r8,r9⟩:=h3.t.cells;have HPx3:Hid (hx w3 w x):=H3.out.kp.keep _ _ _ HPx2.out HNx.out (by decide);obtain⟨rx0,rx1,rx2,rx3,rx4⟩:=ins_cells HPx3.out;have rlx:=row_lt HPx3.out;have rU:=row_lt H3.out.t.bU;clear h3 HQ3)
      | (have HQ2:=H1;go_at_call 51;refine(load_m k U x _ (m+1+1+1) x.O (m+1+1) _ ?_ HM3.out).mono ?_;(have hT:=H1.out.t;(exact zq1));rintro e w2 ⟨rfl,h2⟩;have H2:Hid (Em w1 w2 k U x ((qa4 l m x)++[⟨9,x.O,m+1+1,0,0,x.pc,x.done⟩])):=(show Em _ _ _ _ _ _ from(have hT:=H1.out.t;have hE:=h2;zq0));obtain⟨q0,q1,q2,q3,q4,q5,q6,q7,q8,q9⟩:=h2.t.cells;have HPx2:Hid (hx w2 w x):=H2.out.kp.keep _ _ _ HPx1.out HNx.out (by decide);obtain⟨qx0,qx1,qx2,qx3,qx4⟩:=ins_cells HPx2.out;have qlx:=row_lt HPx2.out;have qU:=row_lt H2.out.t.bU;clear h2 HQ2)
      | (go_at_call 52;refine(at_m k U x _ (m) _ ?_ HM0.out zq9).mono ?_;(have hT:=HT.out;(exact zq1));rintro e w1 ⟨rfl,h1⟩;have H1:Hid (Em w w1 k U x (qa4 l m x)):=(show Em _ _ _ _ _ _ from(have hT:=HT.out;have hE:=h1;zq0));obtain⟨v0,v1,v2,v3,v4,v5,v6,v7,v8,v9⟩:=h1.t.cells;have HPx1:Hid (hx w1 w x):=h1.kp.keep _ _ _ HPx0.out HNx.out (by decide);obtain⟨vx0,vx1,vx2,vx3,vx4⟩:=ins_cells HPx1.out;have vlx:=row_lt HPx1.out;have vU:=row_lt H1.out.t.bU;clear h1))
  all_goals go_wp2_with fail
  all_goals go_end0
  all_goals exact⟨rfl,((H1.out).trans H2.out).trans H3.out⟩
theorem do31(k:BK)(U:Nat)(x:XI)(l:List OpR)(m:Int)  (w:World)(h:TU w k U x l)(hm:Ln l m)(hmx:m+160 < 90000)(hd:0≤x.done∧x.done≤64)(hop:x.op=31) :
    Calls Tryz.prog 21 #[.pointer (some ⟨U,0,none⟩)] w fun e w'=>e=.returned (.tuple #[])∧Em w w' k U x ((qa31 l m x)++[⟨11,0,0,0,0,x.next,x.done+1⟩]):=by
  obtain⟨u0,u1,u2,u3,u4,u5,u6,u7,u8,u9⟩:=h.cells
  have lU:=row_lt h.bU
  have HNx:Hid (w.heap.size≠k.B):=show w.heap.size≠k.B by have:=h.ltB;omega
  have HPx0:=hpx w x
  have HDN:Hid _:=hd
  have HMX:Hid (m+160 < 90000):=hmx
  have HWR:Hid _:=wrap_done x.done hd.1 hd.2
  have HOP:Hid _:=hop
  have k1:(x.op==1)=false:=by simp[hop]
  have k5:(x.op==5)=false:=by simp[hop]
  have k6:(x.op==6)=false:=by simp[hop]
  have k7:(x.op==7)=false:=by simp[hop]
  have k12:(x.op==12)=false:=by simp[hop]
  have k13:(x.op==13)=false:=by simp[hop]
  have k9:(x.op==9)=false:=by simp[hop]
  have k11:(x.op==11)=false:=by simp[hop]
  have k14:(x.op==14)=false:=by simp[hop]
  have k3:(x.op==3)=false:=by simp[hop]
  have k8:(x.op==8)=false:=by simp[hop]
  have k10:(x.op==10)=false:=by simp[hop]
  have k15:(x.op==15)=false:=by simp[hop]
  have k4:(x.op==4)=false:=by simp[hop]
  have k2:(x.op==2)=false:=by simp[hop]
  have k27:(x.op==27)=false:=by simp[hop]
  have k28:(x.op==28)=false:=by simp[hop]
  have k29:(x.op==29)=false:=by simp[hop]
  have k30:(x.op==30)=false:=by simp[hop]
  have k31:(x.op==31)=true:=by simp[hop]
  clear hop
  have HT:Hid _:=h
  have HM0:Hid (Ln l m):=hm
  have HM1:Hid (Ln (l++[⟨2,x.S,0,0,0,0,0⟩]) (m+1)):=HM0.out.next zo _
  have HM2:Hid (Ln (qa19 l m x) (m+1+1)):=HM1.out.next zo _
  have HM3:Hid (Ln (qa4 l m x) (m+1+1+1)):=HM2.out.next zo _
  have HM4:Hid (Ln ((qa4 l m x)++[⟨2,x.D,0,0,0,0,0⟩]) (m+1+1+1+1)):=HM3.out.next zo _
  have HM5:Hid (Ln (qa31 l m x) (m+1+1+1+1+1)):=HM4.out.next zo _
  have HM6:Hid (Ln ((qa31 l m x)++[⟨11,0,0,0,0,x.next,x.done+1⟩]) (m+1+1+1+1+1+1)):=HM5.out.next zo _
  clear h hm hd
  clear hmx
  go_enter Tryz.func21,Tryz.ntmps21
  go_upto_region 31 with fail
  go_region_held3 (fun W'=>W'.cell? ⟨U,0,none⟩=some (.func (Fn.func 18) #[] #[.pointer (some ⟨k.B,0,none⟩)])∧W'.cell? ⟨U,1,none⟩=some (.func (Fn.func 19) #[] #[.pointer (some ⟨k.L,0,none⟩)])∧W'.cell? ⟨U,2,none⟩=some (.int .i64 x.op)∧W'.cell? ⟨U,3,none⟩=some (.int .i64 x.D)∧W'.cell? ⟨U,4,none⟩=some (.int .i64 x.S)∧W'.cell? ⟨U,5,none⟩=some (.int .i64 x.O)∧W'.cell? ⟨U,6,none⟩=some (.int .u32 x.im)∧W'.cell? ⟨U,7,none⟩=some (.int .u32 x.pc)∧W'.cell? ⟨U,8,none⟩=some (.int .u32 x.next)∧W'.cell? ⟨U,9,none⟩=some (.int .i64 x.done)∧W'.cell? ⟨w.heap.size,0,none⟩=some (.int .i64 x.op)∧W'.cell? ⟨w.heap.size,1,none⟩=some (.int .i64 x.D)∧W'.cell? ⟨w.heap.size,2,none⟩=some (.int .i64 x.S)∧W'.cell? ⟨w.heap.size,3,none⟩=some (.int .i64 x.O)∧W'.cell? ⟨w.heap.size,4,none⟩=some (.int .u32 x.im)) (first|(simp[go_sem,s0,s1,s2,s3,s4,s5,s6,s7,s8,s9,sx0,sx1,sx2,sx3,sx4];done)|(simp[go_sem,r0,r1,r2,r3,r4,r5,r6,r7,r8,r9,rx0,rx1,rx2,rx3,rx4];done)|(simp[go_sem,q0,q1,q2,q3,q4,q5,q6,q7,q8,q9,qx0,qx1,qx2,qx3,qx4];done)|(simp[go_sem,v0,v1,v2,v3,v4,v5,v6,v7,v8,v9,vx0,vx1,vx2,vx3,vx4];done)|(simp[go_sem,u0,u1,u2,u3,u4,u5,u6,u7,u8,u9,lU];done))
    (first
      | (have HQ3:=H2;go_at_call 53;refine(store_m k U x _ (m+1+1+1+1) x.O (m+1+1) (m+1+1+1) _ ?_ HM4.out).mono ?_;(have hT:=H2.out.t;(exact zq1));rintro e w3 ⟨rfl,h3⟩;have H3:Hid (Em w2 w3 k U x (qa31 l m x)):=(show Em _ _ _ _ _ _ from(have hT:=H2.out.t;have hE:=h3;zq0));obtain⟨r0,r1,r2,r3,r4,r5,r6,r7,r8,r9⟩:=h3.t.cells;have HPx3:Hid (hx w3 w x):=H3.out.kp.keep _ _ _ HPx2.out HNx.out (by decide);obtain⟨rx0,rx1,rx2,rx3,rx4⟩:=ins_cells HPx3.out;have rlx:=row_lt HPx3.out;have rU:=row_lt H3.out.t.bU;clear h3 HQ3)
      | (have HQ2:=H1;go_at_call 19;refine(read_m k U x _ (m+1+1+1) x.D _ ?_ HM3.out).mono ?_;(have hT:=H1.out.t;(exact zq1));rintro e w2 ⟨rfl,h2⟩;have H2:Hid (Em w1 w2 k U x ((qa4 l m x)++[⟨2,x.D,0,0,0,0,0⟩])):=(show Em _ _ _ _ _ _ from(have hT:=H1.out.t;have hE:=h2;zq0));obtain⟨q0,q1,q2,q3,q4,q5,q6,q7,q8,q9⟩:=h2.t.cells;have HPx2:Hid (hx w2 w x):=H2.out.kp.keep _ _ _ HPx1.out HNx.out (by decide);obtain⟨qx0,qx1,qx2,qx3,qx4⟩:=ins_cells HPx2.out;have qlx:=row_lt HPx2.out;have qU:=row_lt H2.out.t.bU;clear h2 HQ2)
      | (go_at_call 52;refine(at_m k U x _ (m) _ ?_ HM0.out zq9).mono ?_;(have hT:=HT.out;(exact zq1));rintro e w1 ⟨rfl,h1⟩;have H1:Hid (Em w w1 k U x (qa4 l m x)):=(show Em _ _ _ _ _ _ from(have hT:=HT.out;have hE:=h1;zq0));obtain⟨v0,v1,v2,v3,v4,v5,v6,v7,v8,v9⟩:=h1.t.cells;have HPx1:Hid (hx w1 w x):=h1.kp.keep _ _ _ HPx0.out HNx.out (by decide);obtain⟨vx0,vx1,vx2,vx3,vx4⟩:=ins_cells HPx1.out;have vlx:=row_lt HPx1.out;have vU:=row_lt H1.out.t.bU;clear h1))
  all_goals go_wp2_with (first
      | (have HQ4:=H3;go_at_call 54;refine(watch_m k U x _ (m+1+1+1+1+1) _ ?_ HM5.out HDN.out).mono ?_;(have hT:=H3.out.t;(exact zq1));rintro e w4 ⟨rfl,h4⟩;have H4:Hid (Em w3 w4 k U x ((qa31 l m x)++[⟨11,0,0,0,0,x.next,x.done+1⟩])):=(show Em _ _ _ _ _ _ from(have hT:=H3.out.t;have hE:=h4;zq0));obtain⟨s0,s1,s2,s3,s4,s5,s6,s7,s8,s9⟩:=h4.t.cells;have HPx4:Hid (hx w4 w x):=H4.out.kp.keep _ _ _ HPx3.out HNx.out (by decide);obtain⟨sx0,sx1,sx2,sx3,sx4⟩:=ins_cells HPx4.out;have slx:=row_lt HPx4.out;have sU:=row_lt H4.out.t.bU;clear h4 HQ4))
  all_goals go_end0
  all_goals exact⟨rfl,(((H1.out).trans H2.out).trans H3.out).trans H4.out⟩
theorem do0(k:BK)(U:Nat)(x:XI)(l:List OpR)(w:World)(h:TU w k U x l)(hop:x.op=0) :
    Calls Tryz.prog 21 #[.pointer (some ⟨U,0,none⟩)] w fun e w'=>e=.returned (.tuple #[])∧Em w w' k U x l:=by
  obtain⟨u0,u1,u2,u3,u4,u5,u6,u7,u8,u9⟩:=h.cells
  have lU:=row_lt h.bU
  have HOP:Hid _:=hop
  have k1:(x.op==1)=false:=by simp[hop]
  have k5:(x.op==5)=false:=by simp[hop]
  have k6:(x.op==6)=false:=by simp[hop]
  have k7:(x.op==7)=false:=by simp[hop]
  have k12:(x.op==12)=false:=by simp[hop]
  have k13:(x.op==13)=false:=by simp[hop]
  have k9:(x.op==9)=false:=by simp[hop]
  have k11:(x.op==11)=false:=by simp[hop]
  have k14:(x.op==14)=false:=by simp[hop]
  have k3:(x.op==3)=false:=by simp[hop]
  have k8:(x.op==8)=false:=by simp[hop]
  have k10:(x.op==10)=false:=by simp[hop]
  have k15:(x.op==15)=false:=by simp[hop]
  have k4:(x.op==4)=false:=by simp[hop]
  have k2:(x.op==2)=false:=by simp[hop]
  have k27:(x.op==27)=false:=by simp[hop]
  have k28:(x.op==28)=false:=by simp[hop]
  have k29:(x.op==29)=false:=by simp[hop]
  have k30:(x.op==30)=false:=by simp[hop]
  have k31:(x.op==31)=false:=by simp[hop]
  have k24:(x.op==24)=false:=by simp[hop]
  have k25:(x.op==25)=false:=by simp[hop]
  have k26:(x.op==26)=false:=by simp[hop]
  clear hop
  have HT:Hid _:=h
  clear h
  go_enter Tryz.func21,Tryz.ntmps21
  go_wp2_with (go_at_call 56;refine(set0 k U x l _ (HT.out.alw _) HOP.out).mono ?_;rintro e w1 ⟨rfl,h1⟩;have H1:Hid _:=h1;clear h1)
  go_end0
  exact⟨rfl,((Em.refl HT.out).alloc _).trans H1.out⟩
end Go.Proofs.YtfokgedjocnnmaaGreat
