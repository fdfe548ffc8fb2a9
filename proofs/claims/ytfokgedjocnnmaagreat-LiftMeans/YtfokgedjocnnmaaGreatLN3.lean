import Derived.Test.YtfokgedjocnnmaaGreatLG
import Derived.Test.YtfokgedjocnnmaaGreatLH
import Derived.Test.YtfokgedjocnnmaaGreatLL
import Derived.Test.YtfokgedjocnnmaaGreatLM
import Derived.Test.YtfokgedjocnnmaaGreatLP
import Derived.Test.YtfokgedjocnnmaaGreatLN0
import Derived.Test.YtfokgedjocnnmaaGreatLN2
set_option linter.unusedVariables false
set_option linter.unusedSimpArgs false
set_option maxHeartbeats 4000000
namespace Go.Proofs.YtfokgedjocnnmaaGreat
open Go.RowKit
set_option maxRecDepth 100000
theorem do9(k:BK)(U:Nat)(x:XI)(l:List OpR)(m:Int)  (w:World)(h:TU w k U x l)(hm:Ln l m)(hmx:m+160 < 90000)(hd:0≤x.done∧x.done≤64)(hop:x.op=9) :
    Calls Tryz.prog 21 #[.pointer (some ⟨U,0,none⟩)] w fun e w'=>e=.returned (.tuple #[])∧Em w w' k U x ((l++[⟨2,x.S,0,0,0,0,0⟩])++[⟨16,0,m,0,0,0,x.done+1⟩]):=by
  obtain⟨u0,u1,u2,u3,u4,u5,u6,u7,u8,u9⟩:=h.cells
  have lU:=row_lt h.bU
  have HNx:Hid (w.heap.size≠k.B):=show w.heap.size≠k.B by have:=h.ltB;omega
  have HPx0:=hpx w x
  have HDN:Hid _:=hd
  have HMX:Hid (m+160 < 90000):=hmx
  have HWR:Hid _:=wrap_done x.done hd.1 hd.2
  have HOP:Hid _:=hop
  have k1:(x.op==1)=false:=by simp[hop]
  have k5:(x.op==5)=false:=by simp[hop]
  have k6:(x.op==6)=false:=by simp[hop]
  have k7:(x.op==7)=false:=by simp[hop]
  have k12:(x.op==12)=false:=by simp[hop]
  have k13:(x.op==13)=false:=by simp[hop]
  have k9:(x.op==9)=true:=by simp[hop]
  clear hop
  have HT:Hid _:=h
  have HM0:Hid (Ln l m):=hm
  have HM1:Hid (Ln (l++[⟨2,x.S,0,0,0,0,0⟩]) (m+1)):=HM0.out.next zo _
  have HM2:Hid (Ln ((l++[⟨2,x.S,0,0,0,0,0⟩])++[⟨16,0,m,0,0,0,x.done+1⟩]) (m+1+1)):=HM1.out.next zo _
  clear h hm hd
  clear hmx
  go_enter Tryz.func21,Tryz.ntmps21
  all_goals go_wp2_with (first
      | (go_at_call 45;refine(jump9 k U x _ (m) _ ?_ HM0.out zq9 HDN.out HOP.out).mono ?_;(have hT:=HT.out;(exact zq1));rintro e w1 ⟨rfl,h1⟩;have H1:Hid (Em w w1 k U x ((l++[⟨2,x.S,0,0,0,0,0⟩])++[⟨16,0,m,0,0,0,x.done+1⟩])):=(show Em _ _ _ _ _ _ from(have hT:=HT.out;have hE:=h1;zq0));obtain⟨v0,v1,v2,v3,v4,v5,v6,v7,v8,v9⟩:=h1.t.cells;have HPx1:Hid (hx w1 w x):=h1.kp.keep _ _ _ HPx0.out HNx.out (by decide);obtain⟨vx0,vx1,vx2,vx3,vx4⟩:=ins_cells HPx1.out;have vlx:=row_lt HPx1.out;have vU:=row_lt H1.out.t.bU;clear h1))
  all_goals go_end0
  all_goals exact⟨rfl,H1.out⟩
theorem do11(k:BK)(U:Nat)(x:XI)(l:List OpR)(m:Int)  (w:World)(h:TU w k U x l)(hm:Ln l m)(hmx:m+160 < 90000)(hd:0≤x.done∧x.done≤64)(hop:x.op=11) :
    Calls Tryz.prog 21 #[.pointer (some ⟨U,0,none⟩)] w fun e w'=>e=.returned (.tuple #[])∧Em w w' k U x ((qa0 l m x)++[⟨16,0,m+1+1+1,0,0,0,x.done+1⟩]):=by
  obtain⟨u0,u1,u2,u3,u4,u5,u6,u7,u8,u9⟩:=h.cells
  have lU:=row_lt h.bU
  have HNx:Hid (w.heap.size≠k.B):=show w.heap.size≠k.B by have:=h.ltB;omega
  have HPx0:=hpx w x
  have HDN:Hid _:=hd
  have HMX:Hid (m+160 < 90000):=hmx
  have HWR:Hid _:=wrap_done x.done hd.1 hd.2
  have HOP:Hid _:=hop
  have k1:(x.op==1)=false:=by simp[hop]
  have k5:(x.op==5)=false:=by simp[hop]
  have k6:(x.op==6)=false:=by simp[hop]
  have k7:(x.op==7)=false:=by simp[hop]
  have k12:(x.op==12)=false:=by simp[hop]
  have k13:(x.op==13)=false:=by simp[hop]
  have k9:(x.op==9)=false:=by simp[hop]
  have k11:(x.op==11)=true:=by simp[hop]
  clear hop
  have HT:Hid _:=h
  have HM0:Hid (Ln l m):=hm
  have HM1:Hid (Ln (l++[⟨2,x.S,0,0,0,0,0⟩]) (m+1)):=HM0.out.next zo _
  have HM2:Hid (Ln (qa19 l m x) (m+1+1)):=HM1.out.next zo _
  have HM3:Hid (Ln (qa4 l m x) (m+1+1+1)):=HM2.out.next zo _
  have HM4:Hid (Ln (qa0 l m x) (m+1+1+1+1)):=HM3.out.next zo _
  have HM5:Hid (Ln ((qa0 l m x)++[⟨16,0,m+1+1+1,0,0,0,x.done+1⟩]) (m+1+1+1+1+1)):=HM4.out.next zo _
  clear h hm hd
  clear hmx
  go_enter Tryz.func21,Tryz.ntmps21
  all_goals go_wp2_with (first
      | (go_at_call 45;refine(jump11 k U x _ (m) _ ?_ HM0.out zq9 HDN.out HOP.out).mono ?_;(have hT:=HT.out;(exact zq1));rintro e w1 ⟨rfl,h1⟩;have H1:Hid (Em w w1 k U x ((qa0 l m x)++[⟨16,0,m+1+1+1,0,0,0,x.done+1⟩])):=(show Em _ _ _ _ _ _ from(have hT:=HT.out;have hE:=h1;zq0));obtain⟨v0,v1,v2,v3,v4,v5,v6,v7,v8,v9⟩:=h1.t.cells;have HPx1:Hid (hx w1 w x):=h1.kp.keep _ _ _ HPx0.out HNx.out (by decide);obtain⟨vx0,vx1,vx2,vx3,vx4⟩:=ins_cells HPx1.out;have vlx:=row_lt HPx1.out;have vU:=row_lt H1.out.t.bU;clear h1))
  all_goals go_end0
  all_goals exact⟨rfl,H1.out⟩
theorem do14(k:BK)(U:Nat)(x:XI)(l:List OpR)(m:Int)  (w:World)(h:TU w k U x l)(hm:Ln l m)(hmx:m+160 < 90000)(hd:0≤x.done∧x.done≤64)(hop:x.op=14) :
    Calls Tryz.prog 21 #[.pointer (some ⟨U,0,none⟩)] w fun e w'=>e=.returned (.tuple #[])∧Em w w' k U x (qa29 l m x):=by
  obtain⟨u0,u1,u2,u3,u4,u5,u6,u7,u8,u9⟩:=h.cells
  have lU:=row_lt h.bU
  have HNx:Hid (w.heap.size≠k.B):=show w.heap.size≠k.B by have:=h.ltB;omega
  have HPx0:=hpx w x
  have HDN:Hid _:=hd
  have HMX:Hid (m+160 < 90000):=hmx
  have HWR:Hid _:=wrap_done x.done hd.1 hd.2
  have HOP:Hid _:=hop
  have k1:(x.op==1)=false:=by simp[hop]
  have k5:(x.op==5)=false:=by simp[hop]
  have k6:(x.op==6)=false:=by simp[hop]
  have k7:(x.op==7)=false:=by simp[hop]
  have k12:(x.op==12)=false:=by simp[hop]
  have k13:(x.op==13)=false:=by simp[hop]
  have k9:(x.op==9)=false:=by simp[hop]
  have k11:(x.op==11)=false:=by simp[hop]
  have k14:(x.op==14)=true:=by simp[hop]
  clear hop
  have HT:Hid _:=h
  have HM0:Hid (Ln l m):=hm
  have HM1:Hid (Ln (l++[⟨2,x.S,0,0,0,0,0⟩]) (m+1)):=HM0.out.next zo _
  have HM2:Hid (Ln ((l++[⟨2,x.S,0,0,0,0,0⟩])++[⟨2,7,0,0,0,0,0⟩]) (m+1+1)):=HM1.out.next zo _
  have HM3:Hid (Ln (((l++[⟨2,x.S,0,0,0,0,0⟩])++[⟨2,7,0,0,0,0,0⟩])++[⟨1,0,0,0,0,4,0⟩]) (m+1+1+1)):=HM2.out.next zo _
  have HM4:Hid (Ln ((((l++[⟨2,x.S,0,0,0,0,0⟩])++[⟨2,7,0,0,0,0,0⟩])++[⟨1,0,0,0,0,4,0⟩])++[⟨4,1,m+1,m+1+1,0,0,0⟩]) (m+1+1+1+1)):=HM3.out.next zo _
  have HM5:Hid (Ln (qa9 l m x) (m+1+1+1+1+1)):=HM4.out.next zo _
  have HM6:Hid (Ln ((qa9 l m x)++[⟨3,7,m+1+1+1,0,0,0,0⟩]) (m+1+1+1+1+1+1)):=HM5.out.next zo _
  have HM7:Hid (Ln (qa29 l m x) (m+1+1+1+1+1+1+1)):=HM6.out.next zo _
  clear h hm hd
  clear hmx
  go_enter Tryz.func21,Tryz.ntmps21
  all_goals go_wp2_with (first
      | (go_at_call 46;refine(pushes14 k U x _ (m) _ ?_ HM0.out zq9 HDN.out HOP.out).mono ?_;(have hT:=HT.out;(exact zq1));rintro e w1 ⟨rfl,h1⟩;have H1:Hid (Em w w1 k U x (qa29 l m x)):=(show Em _ _ _ _ _ _ from(have hT:=HT.out;have hE:=h1;zq0));obtain⟨v0,v1,v2,v3,v4,v5,v6,v7,v8,v9⟩:=h1.t.cells;have HPx1:Hid (hx w1 w x):=h1.kp.keep _ _ _ HPx0.out HNx.out (by decide);obtain⟨vx0,vx1,vx2,vx3,vx4⟩:=ins_cells HPx1.out;have vlx:=row_lt HPx1.out;have vU:=row_lt H1.out.t.bU;clear h1))
  all_goals go_end0
  all_goals exact⟨rfl,H1.out⟩
theorem do3(k:BK)(U:Nat)(x:XI)(l:List OpR)(m:Int)  (w:World)(h:TU w k U x l)(hm:Ln l m)(hmx:m+160 < 90000)(hd:0≤x.done∧x.done≤64)(hop:x.op=3) :
    Calls Tryz.prog 21 #[.pointer (some ⟨U,0,none⟩)] w fun e w'=>e=.returned (.tuple #[])∧Em w w' k U x (qa28 l m x):=by
  obtain⟨u0,u1,u2,u3,u4,u5,u6,u7,u8,u9⟩:=h.cells
  have lU:=row_lt h.bU
  have HNx:Hid (w.heap.size≠k.B):=show w.heap.size≠k.B by have:=h.ltB;omega
  have HPx0:=hpx w x
  have HDN:Hid _:=hd
  have HMX:Hid (m+160 < 90000):=hmx
  have HWR:Hid _:=wrap_done x.done hd.1 hd.2
  have HOP:Hid _:=hop
  have k1:(x.op==1)=false:=by simp[hop]
  have k5:(x.op==5)=false:=by simp[hop]
  have k6:(x.op==6)=false:=by simp[hop]
  have k7:(x.op==7)=false:=by simp[hop]
  have k12:(x.op==12)=false:=by simp[hop]
  have k13:(x.op==13)=false:=by simp[hop]
  have k9:(x.op==9)=false:=by simp[hop]
  have k11:(x.op==11)=false:=by simp[hop]
  have k14:(x.op==14)=false:=by simp[hop]
  have k3:(x.op==3)=true:=by simp[hop]
  clear hop
  have HT:Hid _:=h
  have HM0:Hid (Ln l m):=hm
  have HM1:Hid (Ln (l++[⟨17,0,0,0,0,0,0⟩]) (m+1)):=HM0.out.next zo _
  have HM2:Hid (Ln ((l++[⟨17,0,0,0,0,0,0⟩])++[⟨2,7,0,0,0,0,0⟩]) (m+1+1)):=HM1.out.next zo _
  have HM3:Hid (Ln (((l++[⟨17,0,0,0,0,0,0⟩])++[⟨2,7,0,0,0,0,0⟩])++[⟨1,0,0,0,0,4,0⟩]) (m+1+1+1)):=HM2.out.next zo _
  have HM4:Hid (Ln ((((l++[⟨17,0,0,0,0,0,0⟩])++[⟨2,7,0,0,0,0,0⟩])++[⟨1,0,0,0,0,4,0⟩])++[⟨4,1,m+1,m+1+1,0,0,0⟩]) (m+1+1+1+1)):=HM3.out.next zo _
  have HM5:Hid (Ln (qa10 l m x) (m+1+1+1+1+1)):=HM4.out.next zo _
  have HM6:Hid (Ln ((qa10 l m x)++[⟨3,7,m+1+1+1,0,0,0,0⟩]) (m+1+1+1+1+1+1)):=HM5.out.next zo _
  have HM7:Hid (Ln (qa28 l m x) (m+1+1+1+1+1+1+1)):=HM6.out.next zo _
  clear h hm hd
  clear hmx
  go_enter Tryz.func21,Tryz.ntmps21
  all_goals go_wp2_with (first
      | (go_at_call 46;refine(pushes3 k U x _ (m) _ ?_ HM0.out zq9 HDN.out HOP.out).mono ?_;(have hT:=HT.out;(exact zq1));rintro e w1 ⟨rfl,h1⟩;have H1:Hid (Em w w1 k U x (qa28 l m x)):=(show Em _ _ _ _ _ _ from(have hT:=HT.out;have hE:=h1;zq0));obtain⟨v0,v1,v2,v3,v4,v5,v6,v7,v8,v9⟩:=h1.t.cells;have HPx1:Hid (hx w1 w x):=h1.kp.keep _ _ _ HPx0.out HNx.out (by decide);obtain⟨vx0,vx1,vx2,vx3,vx4⟩:=ins_cells HPx1.out;have vlx:=row_lt HPx1.out;have vU:=row_lt H1.out.t.bU;clear h1))
  all_goals go_end0
  all_goals exact⟨rfl,H1.out⟩
theorem do8(k:BK)(U:Nat)(x:XI)(l:List OpR)(m:Int)(nx:Nat)(w:World)(h:TU w k U x l)(hm:Ln l m)(hmx:m+160 < 90000)(hd:0≤x.done∧x.done≤64)(hnx:((x.next:Int)+x.im)%4294967296=nx)(hop:x.op=8) :
    Calls Tryz.prog 21 #[.pointer (some ⟨U,0,none⟩)] w fun e w'=>e=.returned (.tuple #[])∧Em w w' k U x ((qa35 l m x)++[⟨15,0,0,0,0,nx,x.done+1⟩]):=by
  obtain⟨u0,u1,u2,u3,u4,u5,u6,u7,u8,u9⟩:=h.cells
  have lU:=row_lt h.bU
  have HNx:Hid (w.heap.size≠k.B):=show w.heap.size≠k.B by have:=h.ltB;omega
  have HPx0:=hpx w x
  have HDN:Hid _:=hd
  have HMX:Hid (m+160 < 90000):=hmx
  have HWR:Hid _:=wrap_done x.done hd.1 hd.2
  have HNX:Hid (((x.next:Int)+x.im)%4294967296=nx):=hnx
  clear hnx
  have HOP:Hid _:=hop
  have k1:(x.op==1)=false:=by simp[hop]
  have k5:(x.op==5)=false:=by simp[hop]
  have k6:(x.op==6)=false:=by simp[hop]
  have k7:(x.op==7)=false:=by simp[hop]
  have k12:(x.op==12)=false:=by simp[hop]
  have k13:(x.op==13)=false:=by simp[hop]
  have k9:(x.op==9)=false:=by simp[hop]
  have k11:(x.op==11)=false:=by simp[hop]
  have k14:(x.op==14)=false:=by simp[hop]
  have k3:(x.op==3)=false:=by simp[hop]
  have k8:(x.op==8)=true:=by simp[hop]
  clear hop
  have HT:Hid _:=h
  have HM0:Hid (Ln l m):=hm
  have HM1:Hid (Ln (l++[⟨1,0,0,0,0,x.next,0⟩]) (m+1)):=HM0.out.next zo _
  have HM2:Hid (Ln ((l++[⟨1,0,0,0,0,x.next,0⟩])++[⟨2,7,0,0,0,0,0⟩]) (m+1+1)):=HM1.out.next zo _
  have HM3:Hid (Ln (((l++[⟨1,0,0,0,0,x.next,0⟩])++[⟨2,7,0,0,0,0,0⟩])++[⟨1,0,0,0,0,4,0⟩]) (m+1+1+1)):=HM2.out.next zo _
  have HM4:Hid (Ln ((((l++[⟨1,0,0,0,0,x.next,0⟩])++[⟨2,7,0,0,0,0,0⟩])++[⟨1,0,0,0,0,4,0⟩])++[⟨4,1,m+1,m+1+1,0,0,0⟩]) (m+1+1+1+1)):=HM3.out.next zo _
  have HM5:Hid (Ln (qa8 l m x) (m+1+1+1+1+1)):=HM4.out.next zo _
  have HM6:Hid (Ln (qa35 l m x) (m+1+1+1+1+1+1)):=HM5.out.next zo _
  have HM7:Hid (Ln ((qa35 l m x)++[⟨15,0,0,0,0,nx,x.done+1⟩]) (m+1+1+1+1+1+1+1)):=HM6.out.next zo _
  clear h hm hd
  clear hmx
  go_enter Tryz.func21,Tryz.ntmps21
  all_goals go_wp2_with (first
      | (go_at_call 46;refine(pushes8 k U x _ (m) nx _ ?_ HM0.out zq9 HDN.out HNX.out HOP.out).mono ?_;(have hT:=HT.out;(exact zq1));rintro e w1 ⟨rfl,h1⟩;have H1:Hid (Em w w1 k U x ((qa35 l m x)++[⟨15,0,0,0,0,nx,x.done+1⟩])):=(show Em _ _ _ _ _ _ from(have hT:=HT.out;have hE:=h1;zq0));obtain⟨v0,v1,v2,v3,v4,v5,v6,v7,v8,v9⟩:=h1.t.cells;have HPx1:Hid (hx w1 w x):=h1.kp.keep _ _ _ HPx0.out HNx.out (by decide);obtain⟨vx0,vx1,vx2,vx3,vx4⟩:=ins_cells HPx1.out;have vlx:=row_lt HPx1.out;have vU:=row_lt H1.out.t.bU;clear h1))
  all_goals go_end0
  all_goals exact⟨rfl,H1.out⟩
theorem do10(k:BK)(U:Nat)(x:XI)(l:List OpR)(m:Int)  (w:World)(h:TU w k U x l)(hm:Ln l m)(hmx:m+160 < 90000)(hd:0≤x.done∧x.done≤64)(hop:x.op=10) :
    Calls Tryz.prog 21 #[.pointer (some ⟨U,0,none⟩)] w fun e w'=>e=.returned (.tuple #[])∧Em w w' k U x (qa30 l m x):=by
  obtain⟨u0,u1,u2,u3,u4,u5,u6,u7,u8,u9⟩:=h.cells
  have lU:=row_lt h.bU
  have HNx:Hid (w.heap.size≠k.B):=show w.heap.size≠k.B by have:=h.ltB;omega
  have HPx0:=hpx w x
  have HDN:Hid _:=hd
  have HMX:Hid (m+160 < 90000):=hmx
  have HWR:Hid _:=wrap_done x.done hd.1 hd.2
  have HOP:Hid _:=hop
  have k1:(x.op==1)=false:=by simp[hop]
  have k5:(x.op==5)=false:=by simp[hop]
  have k6:(x.op==6)=false:=by simp[hop]
  have k7:(x.op==7)=false:=by simp[hop]
  have k12:(x.op==12)=false:=by simp[hop]
  have k13:(x.op==13)=false:=by simp[hop]
  have k9:(x.op==9)=false:=by simp[hop]
  have k11:(x.op==11)=false:=by simp[hop]
  have k14:(x.op==14)=false:=by simp[hop]
  have k3:(x.op==3)=false:=by simp[hop]
  have k8:(x.op==8)=false:=by simp[hop]
  have k10:(x.op==10)=true:=by simp[hop]
  clear hop
  have HT:Hid _:=h
  have HM0:Hid (Ln l m):=hm
  have HM1:Hid (Ln (l++[⟨2,x.S,0,0,0,0,0⟩]) (m+1)):=HM0.out.next zo _
  have HM2:Hid (Ln (qa26 l m x) (m+1+1)):=HM1.out.next zo _
  have HM3:Hid (Ln ((qa26 l m x)++[⟨2,7,0,0,0,0,0⟩]) (m+1+1+1)):=HM2.out.next zo _
  have HM4:Hid (Ln (((qa26 l m x)++[⟨2,7,0,0,0,0,0⟩])++[⟨1,0,0,0,0,4,0⟩]) (m+1+1+1+1)):=HM3.out.next zo _
  have HM5:Hid (Ln ((((qa26 l m x)++[⟨2,7,0,0,0,0,0⟩])++[⟨1,0,0,0,0,4,0⟩])++[⟨4,1,m+1+1,m+1+1+1,0,0,0⟩]) (m+1+1+1+1+1)):=HM4.out.next zo _
  have HM6:Hid (Ln (qa6 l m x) (m+1+1+1+1+1+1)):=HM5.out.next zo _
  have HM7:Hid (Ln ((qa6 l m x)++[⟨3,7,m+1+1+1+1,0,0,0,0⟩]) (m+1+1+1+1+1+1+1)):=HM6.out.next zo _
  have HM8:Hid (Ln (qa30 l m x) (m+1+1+1+1+1+1+1+1)):=HM7.out.next zo _
  clear h hm hd
  clear hmx
  go_enter Tryz.func21,Tryz.ntmps21
  all_goals go_wp2_with (first
      | (go_at_call 46;refine(pushes10 k U x _ (m) _ ?_ HM0.out zq9 HDN.out HOP.out).mono ?_;(have hT:=HT.out;(exact zq1));rintro e w1 ⟨rfl,h1⟩;have H1:Hid (Em w w1 k U x (qa30 l m x)):=(show Em _ _ _ _ _ _ from(have hT:=HT.out;have hE:=h1;zq0));obtain⟨v0,v1,v2,v3,v4,v5,v6,v7,v8,v9⟩:=h1.t.cells;have HPx1:Hid (hx w1 w x):=h1.kp.keep _ _ _ HPx0.out HNx.out (by decide);obtain⟨vx0,vx1,vx2,vx3,vx4⟩:=ins_cells HPx1.out;have vlx:=row_lt HPx1.out;have vU:=row_lt H1.out.t.bU;clear h1))
  all_goals go_end0
  all_goals exact⟨rfl,H1.out⟩
theorem do16(k:BK)(U:Nat)(x:XI)(l:List OpR)(m:Int)  (w:World)(h:TU w k U x l)(hm:Ln l m)(hmx:m+160 < 90000)(hd:0≤x.done∧x.done≤64)(hop:x.op=16) :
    Calls Tryz.prog 21 #[.pointer (some ⟨U,0,none⟩)] w fun e w'=>e=.returned (.tuple #[])∧Em w w' k U x ((l++[⟨1,0,0,0,0,x.im,0⟩])++[⟨3,x.D,m,0,0,0,0⟩]):=by
  obtain⟨u0,u1,u2,u3,u4,u5,u6,u7,u8,u9⟩:=h.cells
  have lU:=row_lt h.bU
  have HNx:Hid (w.heap.size≠k.B):=show w.heap.size≠k.B by have:=h.ltB;omega
  have HPx0:=hpx w x
  have HDN:Hid _:=hd
  have HMX:Hid (m+160 < 90000):=hmx
  have HWR:Hid _:=wrap_done x.done hd.1 hd.2
  have HOP:Hid _:=hop
  have k1:(x.op==1)=false:=by simp[hop]
  have k5:(x.op==5)=false:=by simp[hop]
  have k6:(x.op==6)=false:=by simp[hop]
  have k7:(x.op==7)=false:=by simp[hop]
  have k12:(x.op==12)=false:=by simp[hop]
  have k13:(x.op==13)=false:=by simp[hop]
  have k9:(x.op==9)=false:=by simp[hop]
  have k11:(x.op==11)=false:=by simp[hop]
  have k14:(x.op==14)=false:=by simp[hop]
  have k3:(x.op==3)=false:=by simp[hop]
  have k8:(x.op==8)=false:=by simp[hop]
  have k10:(x.op==10)=false:=by simp[hop]
  have k15:(x.op==15)=false:=by simp[hop]
  have k4:(x.op==4)=false:=by simp[hop]
  have k2:(x.op==2)=false:=by simp[hop]
  have k27:(x.op==27)=false:=by simp[hop]
  have k28:(x.op==28)=false:=by simp[hop]
  have k29:(x.op==29)=false:=by simp[hop]
  have k30:(x.op==30)=false:=by simp[hop]
  have k31:(x.op==31)=false:=by simp[hop]
  have k24:(x.op==24)=false:=by simp[hop]
  have k25:(x.op==25)=false:=by simp[hop]
  have k26:(x.op==26)=false:=by simp[hop]
  clear hop
  have HT:Hid _:=h
  have HM0:Hid (Ln l m):=hm
  have HM1:Hid (Ln (l++[⟨1,0,0,0,0,x.im,0⟩]) (m+1)):=HM0.out.next zo _
  have HM2:Hid (Ln ((l++[⟨1,0,0,0,0,x.im,0⟩])++[⟨3,x.D,m,0,0,0,0⟩]) (m+1+1)):=HM1.out.next zo _
  clear h hm hd
  clear hmx
  go_enter Tryz.func21,Tryz.ntmps21
  all_goals go_wp2_with (first
      | (go_at_call 56;refine(set16 k U x _ (m) _ ?_ HM0.out zq9 HDN.out HOP.out).mono ?_;(have hT:=HT.out;(exact zq1));rintro e w1 ⟨rfl,h1⟩;have H1:Hid (Em w w1 k U x ((l++[⟨1,0,0,0,0,x.im,0⟩])++[⟨3,x.D,m,0,0,0,0⟩])):=(show Em _ _ _ _ _ _ from(have hT:=HT.out;have hE:=h1;zq0));obtain⟨v0,v1,v2,v3,v4,v5,v6,v7,v8,v9⟩:=h1.t.cells;have HPx1:Hid (hx w1 w x):=h1.kp.keep _ _ _ HPx0.out HNx.out (by decide);obtain⟨vx0,vx1,vx2,vx3,vx4⟩:=ins_cells HPx1.out;have vlx:=row_lt HPx1.out;have vU:=row_lt H1.out.t.bU;clear h1))
  all_goals go_end0
  all_goals exact⟨rfl,H1.out⟩
theorem do22(k:BK)(U:Nat)(x:XI)(l:List OpR)(m:Int)  (w:World)(h:TU w k U x l)(hm:Ln l m)(hmx:m+160 < 90000)(hd:0≤x.done∧x.done≤64)(hop:x.op=22) :
    Calls Tryz.prog 21 #[.pointer (some ⟨U,0,none⟩)] w fun e w'=>e=.returned (.tuple #[])∧Em w w' k U x ((l++[⟨2,x.S,0,0,0,0,0⟩])++[⟨3,x.D,m,0,0,0,0⟩]):=by
  obtain⟨u0,u1,u2,u3,u4,u5,u6,u7,u8,u9⟩:=h.cells
  have lU:=row_lt h.bU
  have HNx:Hid (w.heap.size≠k.B):=show w.heap.size≠k.B by have:=h.ltB;omega
  have HPx0:=hpx w x
  have HDN:Hid _:=hd
  have HMX:Hid (m+160 < 90000):=hmx
  have HWR:Hid _:=wrap_done x.done hd.1 hd.2
  have HOP:Hid _:=hop
  have k1:(x.op==1)=false:=by simp[hop]
  have k5:(x.op==5)=false:=by simp[hop]
  have k6:(x.op==6)=false:=by simp[hop]
  have k7:(x.op==7)=false:=by simp[hop]
  have k12:(x.op==12)=false:=by simp[hop]
  have k13:(x.op==13)=false:=by simp[hop]
  have k9:(x.op==9)=false:=by simp[hop]
  have k11:(x.op==11)=false:=by simp[hop]
  have k14:(x.op==14)=false:=by simp[hop]
  have k3:(x.op==3)=false:=by simp[hop]
  have k8:(x.op==8)=false:=by simp[hop]
  have k10:(x.op==10)=false:=by simp[hop]
  have k15:(x.op==15)=false:=by simp[hop]
  have k4:(x.op==4)=false:=by simp[hop]
  have k2:(x.op==2)=false:=by simp[hop]
  have k27:(x.op==27)=false:=by simp[hop]
  have k28:(x.op==28)=false:=by simp[hop]
  have k29:(x.op==29)=false:=by simp[hop]
  have k30:(x.op==30)=false:=by simp[hop]
  have k31:(x.op==31)=false:=by simp[hop]
  have k24:(x.op==24)=false:=by simp[hop]
  have k25:(x.op==25)=false:=by simp[hop]
  have k26:(x.op==26)=false:=by simp[hop]
  clear hop
  have HT:Hid _:=h
  have HM0:Hid (Ln l m):=hm
  have HM1:Hid (Ln (l++[⟨2,x.S,0,0,0,0,0⟩]) (m+1)):=HM0.out.next zo _
  have HM2:Hid (Ln ((l++[⟨2,x.S,0,0,0,0,0⟩])++[⟨3,x.D,m,0,0,0,0⟩]) (m+1+1)):=HM1.out.next zo _
  clear h hm hd
  clear hmx
  go_enter Tryz.func21,Tryz.ntmps21
  all_goals go_wp2_with (first
      | (go_at_call 56;refine(set22 k U x _ (m) _ ?_ HM0.out zq9 HDN.out HOP.out).mono ?_;(have hT:=HT.out;(exact zq1));rintro e w1 ⟨rfl,h1⟩;have H1:Hid (Em w w1 k U x ((l++[⟨2,x.S,0,0,0,0,0⟩])++[⟨3,x.D,m,0,0,0,0⟩])):=(show Em _ _ _ _ _ _ from(have hT:=HT.out;have hE:=h1;zq0));obtain⟨v0,v1,v2,v3,v4,v5,v6,v7,v8,v9⟩:=h1.t.cells;have HPx1:Hid (hx w1 w x):=h1.kp.keep _ _ _ HPx0.out HNx.out (by decide);obtain⟨vx0,vx1,vx2,vx3,vx4⟩:=ins_cells HPx1.out;have vlx:=row_lt HPx1.out;have vU:=row_lt H1.out.t.bU;clear h1))
  all_goals go_end0
  all_goals exact⟨rfl,H1.out⟩
theorem do23(k:BK)(U:Nat)(x:XI)(l:List OpR)(m:Int)  (w:World)(h:TU w k U x l)(hm:Ln l m)(hmx:m+160 < 90000)(hd:0≤x.done∧x.done≤64)(hop:x.op=23) :
    Calls Tryz.prog 21 #[.pointer (some ⟨U,0,none⟩)] w fun e w'=>e=.returned (.tuple #[])∧Em w w' k U x ((qa4 l m x)++[⟨3,x.D,m+1+1,0,0,0,0⟩]):=by
  obtain⟨u0,u1,u2,u3,u4,u5,u6,u7,u8,u9⟩:=h.cells
  have lU:=row_lt h.bU
  have HNx:Hid (w.heap.size≠k.B):=show w.heap.size≠k.B by have:=h.ltB;omega
  have HPx0:=hpx w x
  have HDN:Hid _:=hd
  have HMX:Hid (m+160 < 90000):=hmx
  have HWR:Hid _:=wrap_done x.done hd.1 hd.2
  have HOP:Hid _:=hop
  have k1:(x.op==1)=false:=by simp[hop]
  have k5:(x.op==5)=false:=by simp[hop]
  have k6:(x.op==6)=false:=by simp[hop]
  have k7:(x.op==7)=false:=by simp[hop]
  have k12:(x.op==12)=false:=by simp[hop]
  have k13:(x.op==13)=false:=by simp[hop]
  have k9:(x.op==9)=false:=by simp[hop]
  have k11:(x.op==11)=false:=by simp[hop]
  have k14:(x.op==14)=false:=by simp[hop]
  have k3:(x.op==3)=false:=by simp[hop]
  have k8:(x.op==8)=false:=by simp[hop]
  have k10:(x.op==10)=false:=by simp[hop]
  have k15:(x.op==15)=false:=by simp[hop]
  have k4:(x.op==4)=false:=by simp[hop]
  have k2:(x.op==2)=false:=by simp[hop]
  have k27:(x.op==27)=false:=by simp[hop]
  have k28:(x.op==28)=false:=by simp[hop]
  have k29:(x.op==29)=false:=by simp[hop]
  have k30:(x.op==30)=false:=by simp[hop]
  have k31:(x.op==31)=false:=by simp[hop]
  have k24:(x.op==24)=false:=by simp[hop]
  have k25:(x.op==25)=false:=by simp[hop]
  have k26:(x.op==26)=false:=by simp[hop]
  clear hop
  have HT:Hid _:=h
  have HM0:Hid (Ln l m):=hm
  have HM1:Hid (Ln (l++[⟨2,x.S,0,0,0,0,0⟩]) (m+1)):=HM0.out.next zo _
  have HM2:Hid (Ln (qa19 l m x) (m+1+1)):=HM1.out.next zo _
  have HM3:Hid (Ln (qa4 l m x) (m+1+1+1)):=HM2.out.next zo _
  have HM4:Hid (Ln ((qa4 l m x)++[⟨3,x.D,m+1+1,0,0,0,0⟩]) (m+1+1+1+1)):=HM3.out.next zo _
  clear h hm hd
  clear hmx
  go_enter Tryz.func21,Tryz.ntmps21
  all_goals go_wp2_with (first
      | (go_at_call 56;refine(set23 k U x _ (m) _ ?_ HM0.out zq9 HDN.out HOP.out).mono ?_;(have hT:=HT.out;(exact zq1));rintro e w1 ⟨rfl,h1⟩;have H1:Hid (Em w w1 k U x ((qa4 l m x)++[⟨3,x.D,m+1+1,0,0,0,0⟩])):=(show Em _ _ _ _ _ _ from(have hT:=HT.out;have hE:=h1;zq0));obtain⟨v0,v1,v2,v3,v4,v5,v6,v7,v8,v9⟩:=h1.t.cells;have HPx1:Hid (hx w1 w x):=h1.kp.keep _ _ _ HPx0.out HNx.out (by decide);obtain⟨vx0,vx1,vx2,vx3,vx4⟩:=ins_cells HPx1.out;have vlx:=row_lt HPx1.out;have vU:=row_lt H1.out.t.bU;clear h1))
  all_goals go_end0
  all_goals exact⟨rfl,H1.out⟩
theorem do20(k:BK)(U:Nat)(x:XI)(l:List OpR)(m:Int)  (w:World)(h:TU w k U x l)(hm:Ln l m)(hmx:m+160 < 90000)(hd:0≤x.done∧x.done≤64)(hop:x.op=20) :
    Calls Tryz.prog 21 #[.pointer (some ⟨U,0,none⟩)] w fun e w'=>e=.returned (.tuple #[])∧Em w w' k U x (qa27 l m x):=by
  obtain⟨u0,u1,u2,u3,u4,u5,u6,u7,u8,u9⟩:=h.cells
  have lU:=row_lt h.bU
  have HNx:Hid (w.heap.size≠k.B):=show w.heap.size≠k.B by have:=h.ltB;omega
  have HPx0:=hpx w x
  have HDN:Hid _:=hd
  have HMX:Hid (m+160 < 90000):=hmx
  have HWR:Hid _:=wrap_done x.done hd.1 hd.2
  have HOP:Hid _:=hop
  have k1:(x.op==1)=false:=by simp[hop]
  have k5:(x.op==5)=false:=by simp[hop]
  have k6:(x.op==6)=false:=by simp[hop]
  have k7:(x.op==7)=false:=by simp[hop]
  have k12:(x.op==12)=false:=by simp[hop]
  have k13:(x.op==13)=false:=by simp[hop]
  have k9:(x.op==9)=false:=by simp[hop]
  have k11:(x.op==11)=false:=by simp[hop]
  have k14:(x.op==14)=false:=by simp[hop]
  have k3:(x.op==3)=false:=by simp[hop]
  have k8:(x.op==8)=false:=by simp[hop]
  have k10:(x.op==10)=false:=by simp[hop]
  have k15:(x.op==15)=false:=by simp[hop]
  have k4:(x.op==4)=false:=by simp[hop]
  have k2:(x.op==2)=false:=by simp[hop]
  have k27:(x.op==27)=false:=by simp[hop]
  have k28:(x.op==28)=false:=by simp[hop]
  have k29:(x.op==29)=false:=by simp[hop]
  have k30:(x.op==30)=false:=by simp[hop]
  have k31:(x.op==31)=false:=by simp[hop]
  have k24:(x.op==24)=false:=by simp[hop]
  have k25:(x.op==25)=false:=by simp[hop]
  have k26:(x.op==26)=false:=by simp[hop]
  clear hop
  have HT:Hid _:=h
  have HM0:Hid (Ln l m):=hm
  have HM1:Hid (Ln (l++[⟨2,x.D,0,0,0,0,0⟩]) (m+1)):=HM0.out.next zo _
  have HM2:Hid (Ln ((l++[⟨2,x.D,0,0,0,0,0⟩])++[⟨5,0,m,0,0,0,0⟩]) (m+1+1)):=HM1.out.next zo _
  have HM3:Hid (Ln (qa27 l m x) (m+1+1+1)):=HM2.out.next zo _
  clear h hm hd
  clear hmx
  go_enter Tryz.func21,Tryz.ntmps21
  all_goals go_wp2_with (first
      | (go_at_call 56;refine(set20 k U x _ (m) _ ?_ HM0.out zq9 HDN.out HOP.out).mono ?_;(have hT:=HT.out;(exact zq1));rintro e w1 ⟨rfl,h1⟩;have H1:Hid (Em w w1 k U x (qa27 l m x)):=(show Em _ _ _ _ _ _ from(have hT:=HT.out;have hE:=h1;zq0));obtain⟨v0,v1,v2,v3,v4,v5,v6,v7,v8,v9⟩:=h1.t.cells;have HPx1:Hid (hx w1 w x):=h1.kp.keep _ _ _ HPx0.out HNx.out (by decide);obtain⟨vx0,vx1,vx2,vx3,vx4⟩:=ins_cells HPx1.out;have vlx:=row_lt HPx1.out;have vU:=row_lt H1.out.t.bU;clear h1))
  all_goals go_end0
  all_goals exact⟨rfl,H1.out⟩
theorem do17(k:BK)(U:Nat)(x:XI)(l:List OpR)(m:Int)  (w:World)(h:TU w k U x l)(hm:Ln l m)(hmx:m+160 < 90000)(hd:0≤x.done∧x.done≤64)(hop:x.op=17) :
    Calls Tryz.prog 21 #[.pointer (some ⟨U,0,none⟩)] w fun e w'=>e=.returned (.tuple #[])∧Em w w' k U x (qa22 l m x):=by
  obtain⟨u0,u1,u2,u3,u4,u5,u6,u7,u8,u9⟩:=h.cells
  have lU:=row_lt h.bU
  have HNx:Hid (w.heap.size≠k.B):=show w.heap.size≠k.B by have:=h.ltB;omega
  have HPx0:=hpx w x
  have HDN:Hid _:=hd
  have HMX:Hid (m+160 < 90000):=hmx
  have HWR:Hid _:=wrap_done x.done hd.1 hd.2
  have HOP:Hid _:=hop
  have k1:(x.op==1)=false:=by simp[hop]
  have k5:(x.op==5)=false:=by simp[hop]
  have k6:(x.op==6)=false:=by simp[hop]
  have k7:(x.op==7)=false:=by simp[hop]
  have k12:(x.op==12)=false:=by simp[hop]
  have k13:(x.op==13)=false:=by simp[hop]
  have k9:(x.op==9)=false:=by simp[hop]
  have k11:(x.op==11)=false:=by simp[hop]
  have k14:(x.op==14)=false:=by simp[hop]
  have k3:(x.op==3)=false:=by simp[hop]
  have k8:(x.op==8)=false:=by simp[hop]
  have k10:(x.op==10)=false:=by simp[hop]
  have k15:(x.op==15)=false:=by simp[hop]
  have k4:(x.op==4)=false:=by simp[hop]
  have k2:(x.op==2)=false:=by simp[hop]
  have k27:(x.op==27)=false:=by simp[hop]
  have k28:(x.op==28)=false:=by simp[hop]
  have k29:(x.op==29)=false:=by simp[hop]
  have k30:(x.op==30)=false:=by simp[hop]
  have k31:(x.op==31)=false:=by simp[hop]
  have k24:(x.op==24)=false:=by simp[hop]
  have k25:(x.op==25)=false:=by simp[hop]
  have k26:(x.op==26)=false:=by simp[hop]
  clear hop
  have HT:Hid _:=h
  have HM0:Hid (Ln l m):=hm
  have HM1:Hid (Ln (l++[⟨2,x.D,0,0,0,0,0⟩]) (m+1)):=HM0.out.next zo _
  have HM2:Hid (Ln ((l++[⟨2,x.D,0,0,0,0,0⟩])++[⟨1,0,0,0,0,1,0⟩]) (m+1+1)):=HM1.out.next zo _
  have HM3:Hid (Ln (qa2 l m x) (m+1+1+1)):=HM2.out.next zo _
  have HM4:Hid (Ln ((qa2 l m x)++[⟨4,0,m,m+1,0,0,0⟩]) (m+1+1+1+1)):=HM3.out.next zo _
  have HM5:Hid (Ln (((qa2 l m x)++[⟨4,0,m,m+1,0,0,0⟩])++[⟨3,x.D,m+1+1+1,0,0,0,0⟩]) (m+1+1+1+1+1)):=HM4.out.next zo _
  have HM6:Hid (Ln ((((qa2 l m x)++[⟨4,0,m,m+1,0,0,0⟩])++[⟨3,x.D,m+1+1+1,0,0,0,0⟩])++[⟨1,0,0,0,0,11,0⟩]) (m+1+1+1+1+1+1)):=HM5.out.next zo _
  have HM7:Hid (Ln (qa11 l m x) (m+1+1+1+1+1+1+1)):=HM6.out.next zo _
  have HM8:Hid (Ln ((qa11 l m x)++[⟨3,9,m,0,0,0,0⟩]) (m+1+1+1+1+1+1+1+1)):=HM7.out.next zo _
  have HM9:Hid (Ln (((qa11 l m x)++[⟨3,9,m,0,0,0,0⟩])++[⟨3,10,m+1,0,0,0,0⟩]) (m+1+1+1+1+1+1+1+1+1)):=HM8.out.next zo _
  have HM10:Hid (Ln (qa22 l m x) (m+1+1+1+1+1+1+1+1+1+1)):=HM9.out.next zo _
  clear h hm hd
  clear hmx
  go_enter Tryz.func21,Tryz.ntmps21
  all_goals go_wp2_with (first
      | (go_at_call 56;refine(set17 k U x _ (m) _ ?_ HM0.out zq9 HDN.out HOP.out).mono ?_;(have hT:=HT.out;(exact zq1));rintro e w1 ⟨rfl,h1⟩;have H1:Hid (Em w w1 k U x (qa22 l m x)):=(show Em _ _ _ _ _ _ from(have hT:=HT.out;have hE:=h1;zq0));obtain⟨v0,v1,v2,v3,v4,v5,v6,v7,v8,v9⟩:=h1.t.cells;have HPx1:Hid (hx w1 w x):=h1.kp.keep _ _ _ HPx0.out HNx.out (by decide);obtain⟨vx0,vx1,vx2,vx3,vx4⟩:=ins_cells HPx1.out;have vlx:=row_lt HPx1.out;have vU:=row_lt H1.out.t.bU;clear h1))
  all_goals go_end0
  all_goals exact⟨rfl,H1.out⟩
theorem do18(k:BK)(U:Nat)(x:XI)(l:List OpR)(m:Int)  (w:World)(h:TU w k U x l)(hm:Ln l m)(hmx:m+160 < 90000)(hd:0≤x.done∧x.done≤64)(hop:x.op=18) :
    Calls Tryz.prog 21 #[.pointer (some ⟨U,0,none⟩)] w fun e w'=>e=.returned (.tuple #[])∧Em w w' k U x (qa23 l m x):=by
  obtain⟨u0,u1,u2,u3,u4,u5,u6,u7,u8,u9⟩:=h.cells
  have lU:=row_lt h.bU
  have HNx:Hid (w.heap.size≠k.B):=show w.heap.size≠k.B by have:=h.ltB;omega
  have HPx0:=hpx w x
  have HDN:Hid _:=hd
  have HMX:Hid (m+160 < 90000):=hmx
  have HWR:Hid _:=wrap_done x.done hd.1 hd.2
  have HOP:Hid _:=hop
  have k1:(x.op==1)=false:=by simp[hop]
  have k5:(x.op==5)=false:=by simp[hop]
  have k6:(x.op==6)=false:=by simp[hop]
  have k7:(x.op==7)=false:=by simp[hop]
  have k12:(x.op==12)=false:=by simp[hop]
  have k13:(x.op==13)=false:=by simp[hop]
  have k9:(x.op==9)=false:=by simp[hop]
  have k11:(x.op==11)=false:=by simp[hop]
  have k14:(x.op==14)=false:=by simp[hop]
  have k3:(x.op==3)=false:=by simp[hop]
  have k8:(x.op==8)=false:=by simp[hop]
  have k10:(x.op==10)=false:=by simp[hop]
  have k15:(x.op==15)=false:=by simp[hop]
  have k4:(x.op==4)=false:=by simp[hop]
  have k2:(x.op==2)=false:=by simp[hop]
  have k27:(x.op==27)=false:=by simp[hop]
  have k28:(x.op==28)=false:=by simp[hop]
  have k29:(x.op==29)=false:=by simp[hop]
  have k30:(x.op==30)=false:=by simp[hop]
  have k31:(x.op==31)=false:=by simp[hop]
  have k24:(x.op==24)=false:=by simp[hop]
  have k25:(x.op==25)=false:=by simp[hop]
  have k26:(x.op==26)=false:=by simp[hop]
  clear hop
  have HT:Hid _:=h
  have HM0:Hid (Ln l m):=hm
  have HM1:Hid (Ln (l++[⟨2,x.D,0,0,0,0,0⟩]) (m+1)):=HM0.out.next zo _
  have HM2:Hid (Ln ((l++[⟨2,x.D,0,0,0,0,0⟩])++[⟨1,0,0,0,0,1,0⟩]) (m+1+1)):=HM1.out.next zo _
  have HM3:Hid (Ln (qa2 l m x) (m+1+1+1)):=HM2.out.next zo _
  have HM4:Hid (Ln ((qa2 l m x)++[⟨4,1,m,m+1,0,0,0⟩]) (m+1+1+1+1)):=HM3.out.next zo _
  have HM5:Hid (Ln (((qa2 l m x)++[⟨4,1,m,m+1,0,0,0⟩])++[⟨3,x.D,m+1+1+1,0,0,0,0⟩]) (m+1+1+1+1+1)):=HM4.out.next zo _
  have HM6:Hid (Ln ((((qa2 l m x)++[⟨4,1,m,m+1,0,0,0⟩])++[⟨3,x.D,m+1+1+1,0,0,0,0⟩])++[⟨1,0,0,0,0,12,0⟩]) (m+1+1+1+1+1+1)):=HM5.out.next zo _
  have HM7:Hid (Ln (qa12 l m x) (m+1+1+1+1+1+1+1)):=HM6.out.next zo _
  have HM8:Hid (Ln ((qa12 l m x)++[⟨3,9,m,0,0,0,0⟩]) (m+1+1+1+1+1+1+1+1)):=HM7.out.next zo _
  have HM9:Hid (Ln (((qa12 l m x)++[⟨3,9,m,0,0,0,0⟩])++[⟨3,10,m+1,0,0,0,0⟩]) (m+1+1+1+1+1+1+1+1+1)):=HM8.out.next zo _
  have HM10:Hid (Ln (qa23 l m x) (m+1+1+1+1+1+1+1+1+1+1)):=HM9.out.next zo _
  clear h hm hd
  clear hmx
  go_enter Tryz.func21,Tryz.ntmps21
  all_goals go_wp2_with (first
      | (go_at_call 56;refine(set18 k U x _ (m) _ ?_ HM0.out zq9 HDN.out HOP.out).mono ?_;(have hT:=HT.out;(exact zq1));rintro e w1 ⟨rfl,h1⟩;have H1:Hid (Em w w1 k U x (qa23 l m x)):=(show Em _ _ _ _ _ _ from(have hT:=HT.out;have hE:=h1;zq0));obtain⟨v0,v1,v2,v3,v4,v5,v6,v7,v8,v9⟩:=h1.t.cells;have HPx1:Hid (hx w1 w x):=h1.kp.keep _ _ _ HPx0.out HNx.out (by decide);obtain⟨vx0,vx1,vx2,vx3,vx4⟩:=ins_cells HPx1.out;have vlx:=row_lt HPx1.out;have vU:=row_lt H1.out.t.bU;clear h1))
  all_goals go_end0
  all_goals exact⟨rfl,H1.out⟩
theorem do27(k:BK)(U:Nat)(x:XI)(l:List OpR)(m:Int)  (w:World)(h:TU w k U x l)(hm:Ln l m)(hmx:m+160 < 90000)(hd:0≤x.done∧x.done≤64)(hO:0≤x.O∧x.O < 16)(hop:x.op=27) :
    Calls Tryz.prog 21 #[.pointer (some ⟨U,0,none⟩)] w fun e w'=>e=.returned (.tuple #[])∧Em w w' k U x ((l++[⟨2,x.S,0,0,0,0,0⟩])++reckOps x.O.toNat x.D (m) x.pc x.done (m+1)):=by
  obtain⟨u0,u1,u2,u3,u4,u5,u6,u7,u8,u9⟩:=h.cells
  have lU:=row_lt h.bU
  have HNx:Hid (w.heap.size≠k.B):=show w.heap.size≠k.B by have:=h.ltB;omega
  have HPx0:=hpx w x
  have HDN:Hid _:=hd
  have HMX:Hid (m+160 < 90000):=hmx
  have HWR:Hid _:=wrap_done x.done hd.1 hd.2
  have HOO:Hid _:=hO
  clear hO
  have HOP:Hid _:=hop
  have k1:(x.op==1)=false:=by simp[hop]
  have k5:(x.op==5)=false:=by simp[hop]
  have k6:(x.op==6)=false:=by simp[hop]
  have k7:(x.op==7)=false:=by simp[hop]
  have k12:(x.op==12)=false:=by simp[hop]
  have k13:(x.op==13)=false:=by simp[hop]
  have k9:(x.op==9)=false:=by simp[hop]
  have k11:(x.op==11)=false:=by simp[hop]
  have k14:(x.op==14)=false:=by simp[hop]
  have k3:(x.op==3)=false:=by simp[hop]
  have k8:(x.op==8)=false:=by simp[hop]
  have k10:(x.op==10)=false:=by simp[hop]
  have k15:(x.op==15)=false:=by simp[hop]
  have k4:(x.op==4)=false:=by simp[hop]
  have k2:(x.op==2)=false:=by simp[hop]
  have k27:(x.op==27)=true:=by simp[hop]
  clear hop
  have HT:Hid _:=h
  have HM0:Hid (Ln l m):=hm
  have HM1:Hid (Ln (l++[⟨2,x.S,0,0,0,0,0⟩]) (m+1)):=HM0.out.next zo _
  clear h hm hd
  clear hmx
  go_enter Tryz.func21,Tryz.ntmps21
  go_upto_region 24 with fail
  go_region_held3 (fun W'=>W'.cell? ⟨U,0,none⟩=some (.func (Fn.func 18) #[] #[.pointer (some ⟨k.B,0,none⟩)])∧W'.cell? ⟨U,1,none⟩=some (.func (Fn.func 19) #[] #[.pointer (some ⟨k.L,0,none⟩)])∧W'.cell? ⟨U,2,none⟩=some (.int .i64 x.op)∧W'.cell? ⟨U,3,none⟩=some (.int .i64 x.D)∧W'.cell? ⟨U,4,none⟩=some (.int .i64 x.S)∧W'.cell? ⟨U,5,none⟩=some (.int .i64 x.O)∧W'.cell? ⟨U,6,none⟩=some (.int .u32 x.im)∧W'.cell? ⟨U,7,none⟩=some (.int .u32 x.pc)∧W'.cell? ⟨U,8,none⟩=some (.int .u32 x.next)∧W'.cell? ⟨U,9,none⟩=some (.int .i64 x.done)∧W'.cell? ⟨w.heap.size,0,none⟩=some (.int .i64 x.op)∧W'.cell? ⟨w.heap.size,1,none⟩=some (.int .i64 x.D)∧W'.cell? ⟨w.heap.size,2,none⟩=some (.int .i64 x.S)∧W'.cell? ⟨w.heap.size,3,none⟩=some (.int .i64 x.O)∧W'.cell? ⟨w.heap.size,4,none⟩=some (.int .u32 x.im)) (first|(simp[go_sem,q0,q1,q2,q3,q4,q5,q6,q7,q8,q9,qx0,qx1,qx2,qx3,qx4];done)|(simp[go_sem,v0,v1,v2,v3,v4,v5,v6,v7,v8,v9,vx0,vx1,vx2,vx3,vx4];done)|(simp[go_sem,u0,u1,u2,u3,u4,u5,u6,u7,u8,u9,lU];done))
    (first
      | (have HQ2:=H1;go_at_call 48;refine(reck_any k U x _ (m+1) (m) _ ?_ HM1.out zq9 HDN.out HOO.out).mono ?_;(have hT:=H1.out.t;(exact zq1));rintro e w2 ⟨rfl,h2⟩;have H2:Hid (Em w1 w2 k U x ((l++[⟨2,x.S,0,0,0,0,0⟩])++reckOps x.O.toNat x.D (m) x.pc x.done (m+1))):=(show Em _ _ _ _ _ _ from(have hT:=H1.out.t;have hE:=h2;zq0));obtain⟨q0,q1,q2,q3,q4,q5,q6,q7,q8,q9⟩:=h2.t.cells;have HPx2:Hid (hx w2 w x):=H2.out.kp.keep _ _ _ HPx1.out HNx.out (by decide);obtain⟨qx0,qx1,qx2,qx3,qx4⟩:=ins_cells HPx2.out;have qlx:=row_lt HPx2.out;have qU:=row_lt H2.out.t.bU;clear h2 HQ2)
      | (go_at_call 19;refine(read_m k U x _ (m) x.S _ ?_ HM0.out).mono ?_;(have hT:=HT.out;(exact zq1));rintro e w1 ⟨rfl,h1⟩;have H1:Hid (Em w w1 k U x (l++[⟨2,x.S,0,0,0,0,0⟩])):=(show Em _ _ _ _ _ _ from(have hT:=HT.out;have hE:=h1;zq0));obtain⟨v0,v1,v2,v3,v4,v5,v6,v7,v8,v9⟩:=h1.t.cells;have HPx1:Hid (hx w1 w x):=h1.kp.keep _ _ _ HPx0.out HNx.out (by decide);obtain⟨vx0,vx1,vx2,vx3,vx4⟩:=ins_cells HPx1.out;have vlx:=row_lt HPx1.out;have vU:=row_lt H1.out.t.bU;clear h1))
  all_goals go_wp2_with fail
  all_goals go_end0
  all_goals exact⟨rfl,(H1.out).trans H2.out⟩
theorem do28(k:BK)(U:Nat)(x:XI)(l:List OpR)(m:Int)  (w:World)(h:TU w k U x l)(hm:Ln l m)(hmx:m+160 < 90000)(hd:0≤x.done∧x.done≤64)(hO:0≤x.O∧x.O < 16)(hop:x.op=28) :
    Calls Tryz.prog 21 #[.pointer (some ⟨U,0,none⟩)] w fun e w'=>e=.returned (.tuple #[])∧Em w w' k U x ((l++[⟨1,0,0,0,0,x.im,0⟩])++reckOps x.O.toNat x.D (m) x.pc x.done (m+1)):=by
  obtain⟨u0,u1,u2,u3,u4,u5,u6,u7,u8,u9⟩:=h.cells
  have lU:=row_lt h.bU
  have HNx:Hid (w.heap.size≠k.B):=show w.heap.size≠k.B by have:=h.ltB;omega
  have HPx0:=hpx w x
  have HDN:Hid _:=hd
  have HMX:Hid (m+160 < 90000):=hmx
  have HWR:Hid _:=wrap_done x.done hd.1 hd.2
  have HOO:Hid _:=hO
  clear hO
  have HOP:Hid _:=hop
  have k1:(x.op==1)=false:=by simp[hop]
  have k5:(x.op==5)=false:=by simp[hop]
  have k6:(x.op==6)=false:=by simp[hop]
  have k7:(x.op==7)=false:=by simp[hop]
  have k12:(x.op==12)=false:=by simp[hop]
  have k13:(x.op==13)=false:=by simp[hop]
  have k9:(x.op==9)=false:=by simp[hop]
  have k11:(x.op==11)=false:=by simp[hop]
  have k14:(x.op==14)=false:=by simp[hop]
  have k3:(x.op==3)=false:=by simp[hop]
  have k8:(x.op==8)=false:=by simp[hop]
  have k10:(x.op==10)=false:=by simp[hop]
  have k15:(x.op==15)=false:=by simp[hop]
  have k4:(x.op==4)=false:=by simp[hop]
  have k2:(x.op==2)=false:=by simp[hop]
  have k27:(x.op==27)=false:=by simp[hop]
  have k28:(x.op==28)=true:=by simp[hop]
  clear hop
  have HT:Hid _:=h
  have HM0:Hid (Ln l m):=hm
  have HM1:Hid (Ln (l++[⟨1,0,0,0,0,x.im,0⟩]) (m+1)):=HM0.out.next zo _
  clear h hm hd
  clear hmx
  go_enter Tryz.func21,Tryz.ntmps21
  all_goals go_wp2_with (first
      | (have HQ2:=H1;go_at_call 48;refine(reck_any k U x _ (m+1) (m) _ ?_ HM1.out zq9 HDN.out HOO.out).mono ?_;(have hT:=H1.out.t;(exact zq1));rintro e w2 ⟨rfl,h2⟩;have H2:Hid (Em w1 w2 k U x ((l++[⟨1,0,0,0,0,x.im,0⟩])++reckOps x.O.toNat x.D (m) x.pc x.done (m+1))):=(show Em _ _ _ _ _ _ from(have hT:=H1.out.t;have hE:=h2;zq0));obtain⟨q0,q1,q2,q3,q4,q5,q6,q7,q8,q9⟩:=h2.t.cells;have HPx2:Hid (hx w2 w x):=H2.out.kp.keep _ _ _ HPx1.out HNx.out (by decide);obtain⟨qx0,qx1,qx2,qx3,qx4⟩:=ins_cells HPx2.out;have qlx:=row_lt HPx2.out;have qU:=row_lt H2.out.t.bU;clear h2 HQ2)
      | (go_at_call 49;refine(number_m k U x _ (m) x.im _ ?_ HM0.out).mono ?_;(have hT:=HT.out;(exact zq1));rintro e w1 ⟨rfl,h1⟩;have H1:Hid (Em w w1 k U x (l++[⟨1,0,0,0,0,x.im,0⟩])):=(show Em _ _ _ _ _ _ from(have hT:=HT.out;have hE:=h1;zq0));obtain⟨v0,v1,v2,v3,v4,v5,v6,v7,v8,v9⟩:=h1.t.cells;have HPx1:Hid (hx w1 w x):=h1.kp.keep _ _ _ HPx0.out HNx.out (by decide);obtain⟨vx0,vx1,vx2,vx3,vx4⟩:=ins_cells HPx1.out;have vlx:=row_lt HPx1.out;have vU:=row_lt H1.out.t.bU;clear h1))
  all_goals go_end0
  all_goals exact⟨rfl,(H1.out).trans H2.out⟩
theorem do29(k:BK)(U:Nat)(x:XI)(l:List OpR)(m:Int)  (w:World)(h:TU w k U x l)(hm:Ln l m)(hmx:m+160 < 90000)(hd:0≤x.done∧x.done≤64)(hO:0≤x.O∧x.O < 16)(hop:x.op=29) :
    Calls Tryz.prog 21 #[.pointer (some ⟨U,0,none⟩)] w fun e w'=>e=.returned (.tuple #[])∧Em w w' k U x ((l++[⟨1,0,0,0,0,x.im,0⟩])++reckOps x.O.toNat x.D (m) x.pc x.done (m+1)):=by
  obtain⟨u0,u1,u2,u3,u4,u5,u6,u7,u8,u9⟩:=h.cells
  have lU:=row_lt h.bU
  have HNx:Hid (w.heap.size≠k.B):=show w.heap.size≠k.B by have:=h.ltB;omega
  have HPx0:=hpx w x
  have HDN:Hid _:=hd
  have HMX:Hid (m+160 < 90000):=hmx
  have HWR:Hid _:=wrap_done x.done hd.1 hd.2
  have HOO:Hid _:=hO
  clear hO
  have HOP:Hid _:=hop
  have k1:(x.op==1)=false:=by simp[hop]
  have k5:(x.op==5)=false:=by simp[hop]
  have k6:(x.op==6)=false:=by simp[hop]
  have k7:(x.op==7)=false:=by simp[hop]
  have k12:(x.op==12)=false:=by simp[hop]
  have k13:(x.op==13)=false:=by simp[hop]
  have k9:(x.op==9)=false:=by simp[hop]
  have k11:(x.op==11)=false:=by simp[hop]
  have k14:(x.op==14)=false:=by simp[hop]
  have k3:(x.op==3)=false:=by simp[hop]
  have k8:(x.op==8)=false:=by simp[hop]
  have k10:(x.op==10)=false:=by simp[hop]
  have k15:(x.op==15)=false:=by simp[hop]
  have k4:(x.op==4)=false:=by simp[hop]
  have k2:(x.op==2)=false:=by simp[hop]
  have k27:(x.op==27)=false:=by simp[hop]
  have k28:(x.op==28)=false:=by simp[hop]
  have k29:(x.op==29)=true:=by simp[hop]
  clear hop
  have HT:Hid _:=h
  have HM0:Hid (Ln l m):=hm
  have HM1:Hid (Ln (l++[⟨1,0,0,0,0,x.im,0⟩]) (m+1)):=HM0.out.next zo _
  clear h hm hd
  clear hmx
  go_enter Tryz.func21,Tryz.ntmps21
  all_goals go_wp2_with (first
      | (have HQ2:=H1;go_at_call 48;refine(reck_any k U x _ (m+1) (m) _ ?_ HM1.out zq9 HDN.out HOO.out).mono ?_;(have hT:=H1.out.t;(exact zq1));rintro e w2 ⟨rfl,h2⟩;have H2:Hid (Em w1 w2 k U x ((l++[⟨1,0,0,0,0,x.im,0⟩])++reckOps x.O.toNat x.D (m) x.pc x.done (m+1))):=(show Em _ _ _ _ _ _ from(have hT:=H1.out.t;have hE:=h2;zq0));obtain⟨q0,q1,q2,q3,q4,q5,q6,q7,q8,q9⟩:=h2.t.cells;have HPx2:Hid (hx w2 w x):=H2.out.kp.keep _ _ _ HPx1.out HNx.out (by decide);obtain⟨qx0,qx1,qx2,qx3,qx4⟩:=ins_cells HPx2.out;have qlx:=row_lt HPx2.out;have qU:=row_lt H2.out.t.bU;clear h2 HQ2)
      | (go_at_call 49;refine(number_m k U x _ (m) x.im _ ?_ HM0.out).mono ?_;(have hT:=HT.out;(exact zq1));rintro e w1 ⟨rfl,h1⟩;have H1:Hid (Em w w1 k U x (l++[⟨1,0,0,0,0,x.im,0⟩])):=(show Em _ _ _ _ _ _ from(have hT:=HT.out;have hE:=h1;zq0));obtain⟨v0,v1,v2,v3,v4,v5,v6,v7,v8,v9⟩:=h1.t.cells;have HPx1:Hid (hx w1 w x):=h1.kp.keep _ _ _ HPx0.out HNx.out (by decide);obtain⟨vx0,vx1,vx2,vx3,vx4⟩:=ins_cells HPx1.out;have vlx:=row_lt HPx1.out;have vU:=row_lt H1.out.t.bU;clear h1))
  all_goals go_end0
  all_goals exact⟨rfl,(H1.out).trans H2.out⟩
theorem do_any(k:BK)(U:Nat)(x:XI)(l:List OpR)(m:Int)(w:World)(h:TU w k U x l)(hm:Ln l m)(hmx:m+160 < 90000)(hd:0≤x.done∧x.done≤64)(hx:XOk x) :
    Calls Tryz.prog 21 #[.pointer (some ⟨U,0,none⟩)] w fun e w'=>e=.returned (.tuple #[])∧Em w w' k U x (l++liftF x m):=by
  obtain⟨t,ht⟩:∃ t:Nat,x.op=t:=⟨x.op.toNat,by have:=hx.op;omega⟩
  have hlt:t < 32:=by have:=hx.op;omega
  have hnx:((x.next:Int)+x.im)%4294967296=((x.next+x.im)%4294967296:Nat):=zo
  match t,hlt,ht with
  | 0,_,ht=>
    refine(do0 k U x l w h ht).mono ?_
    rintro e w' ⟨rfl,h1⟩
    have e1:x.op.toNat=0:=zo
    exact⟨rfl,by simpa only [liftF,e1,List.append_assoc,List.cons_append,List.nil_append,List.append_nil] using h1⟩
  | 1,_,ht=>
    refine(do1 k U x l m w h hm hmx hd ht).mono ?_
    rintro e w' ⟨rfl,h1⟩
    have e1:x.op.toNat=1:=zo
    exact⟨rfl,by simpa only [liftF,e1,List.append_assoc,List.cons_append,List.nil_append,List.append_nil] using h1⟩
  | 2,_,ht=>
    refine(do2 k U x l m w h hm hmx hd ht).mono ?_
    rintro e w' ⟨rfl,h1⟩
    have e1:x.op.toNat=2:=zo
    exact⟨rfl,by simpa only [liftF,e1,List.append_assoc,List.cons_append,List.nil_append,List.append_nil] using h1⟩
  | 3,_,ht=>
    refine(do3 k U x l m w h hm hmx hd ht).mono ?_
    rintro e w' ⟨rfl,h1⟩
    have e1:x.op.toNat=3:=zo
    exact⟨rfl,by simpa only [liftF,e1,List.append_assoc,List.cons_append,List.nil_append,List.append_nil] using h1⟩
  | 4,_,ht=>
    refine(do4 k U x l m w h hm hmx hd ht).mono ?_
    rintro e w' ⟨rfl,h1⟩
    have e1:x.op.toNat=4:=zo
    exact⟨rfl,by simpa only [liftF,e1,List.append_assoc,List.cons_append,List.nil_append,List.append_nil] using h1⟩
  | 5,_,ht=>
    refine(do5 k U x l m w h hm hmx hd hx.im ht).mono ?_
    rintro e w' ⟨rfl,h1⟩
    have e1:x.op.toNat=5:=zo
    exact⟨rfl,by simpa only [liftF,e1,List.append_assoc,List.cons_append,List.nil_append,List.append_nil] using h1⟩
  | 6,_,ht=>
    refine(do6 k U x l m _ w h hm hmx hd hnx ht).mono ?_
    rintro e w' ⟨rfl,h1⟩
    have e1:x.op.toNat=6:=zo
    exact⟨rfl,by simpa only [liftF,e1,List.append_assoc,List.cons_append,List.nil_append,List.append_nil] using h1⟩
  | 7,_,ht=>
    refine(do7 k U x l m _ w h hm hmx hd hnx ht).mono ?_
    rintro e w' ⟨rfl,h1⟩
    have e1:x.op.toNat=7:=zo
    exact⟨rfl,by simpa only [liftF,e1,List.append_assoc,List.cons_append,List.nil_append,List.append_nil] using h1⟩
  | 8,_,ht=>
    refine(do8 k U x l m _ w h hm hmx hd hnx ht).mono ?_
    rintro e w' ⟨rfl,h1⟩
    have e1:x.op.toNat=8:=zo
    exact⟨rfl,by simpa only [liftF,e1,List.append_assoc,List.cons_append,List.nil_append,List.append_nil] using h1⟩
  | 9,_,ht=>
    refine(do9 k U x l m w h hm hmx hd ht).mono ?_
    rintro e w' ⟨rfl,h1⟩
    have e1:x.op.toNat=9:=zo
    exact⟨rfl,by simpa only [liftF,e1,List.append_assoc,List.cons_append,List.nil_append,List.append_nil] using h1⟩
  | 10,_,ht=>
    refine(do10 k U x l m w h hm hmx hd ht).mono ?_
    rintro e w' ⟨rfl,h1⟩
    have e1:x.op.toNat=10:=zo
    exact⟨rfl,by simpa only [liftF,e1,List.append_assoc,List.cons_append,List.nil_append,List.append_nil] using h1⟩
  | 11,_,ht=>
    refine(do11 k U x l m w h hm hmx hd ht).mono ?_
    rintro e w' ⟨rfl,h1⟩
    have e1:x.op.toNat=11:=zo
    exact⟨rfl,by simpa only [liftF,e1,List.append_assoc,List.cons_append,List.nil_append,List.append_nil] using h1⟩
  | 12,_,ht=>
    refine(do12 k U x l m _ w h hm hmx hd hnx ht).mono ?_
    rintro e w' ⟨rfl,h1⟩
    have e1:x.op.toNat=12:=zo
    exact⟨rfl,by simpa only [liftF,e1,List.append_assoc,List.cons_append,List.nil_append,List.append_nil] using h1⟩
  | 13,_,ht=>
    refine(do13 k U x l m _ w h hm hmx hd hnx ht).mono ?_
    rintro e w' ⟨rfl,h1⟩
    have e1:x.op.toNat=13:=zo
    exact⟨rfl,by simpa only [liftF,e1,List.append_assoc,List.cons_append,List.nil_append,List.append_nil] using h1⟩
  | 14,_,ht=>
    refine(do14 k U x l m w h hm hmx hd ht).mono ?_
    rintro e w' ⟨rfl,h1⟩
    have e1:x.op.toNat=14:=zo
    exact⟨rfl,by simpa only [liftF,e1,List.append_assoc,List.cons_append,List.nil_append,List.append_nil] using h1⟩
  | 15,_,ht=>
    refine(do15 k U x l m w h hm hmx hd ht).mono ?_
    rintro e w' ⟨rfl,h1⟩
    have e1:x.op.toNat=15:=zo
    exact⟨rfl,by simpa only [liftF,e1,List.append_assoc,List.cons_append,List.nil_append,List.append_nil] using h1⟩
  | 16,_,ht=>
    refine(do16 k U x l m w h hm hmx hd ht).mono ?_
    rintro e w' ⟨rfl,h1⟩
    have e1:x.op.toNat=16:=zo
    exact⟨rfl,by simpa only [liftF,e1,List.append_assoc,List.cons_append,List.nil_append,List.append_nil] using h1⟩
  | 17,_,ht=>
    refine(do17 k U x l m w h hm hmx hd ht).mono ?_
    rintro e w' ⟨rfl,h1⟩
    have e1:x.op.toNat=17:=zo
    exact⟨rfl,by simpa only [liftF,e1,List.append_assoc,List.cons_append,List.nil_append,List.append_nil] using h1⟩
  | 18,_,ht=>
    refine(do18 k U x l m w h hm hmx hd ht).mono ?_
    rintro e w' ⟨rfl,h1⟩
    have e1:x.op.toNat=18:=zo
    exact⟨rfl,by simpa only [liftF,e1,List.append_assoc,List.cons_append,List.nil_append,List.append_nil] using h1⟩
  | 19,_,ht=>
    refine(do19 k U x l m w h hm hmx hd ht).mono ?_
    rintro e w' ⟨rfl,h1⟩
    have e1:x.op.toNat=19:=zo
    exact⟨rfl,by simpa only [liftF,e1,List.append_assoc,List.cons_append,List.nil_append,List.append_nil] using h1⟩
  | 20,_,ht=>
    refine(do20 k U x l m w h hm hmx hd ht).mono ?_
    rintro e w' ⟨rfl,h1⟩
    have e1:x.op.toNat=20:=zo
    exact⟨rfl,by simpa only [liftF,e1,List.append_assoc,List.cons_append,List.nil_append,List.append_nil] using h1⟩
  | 21,_,ht=>
    refine(do21 k U x l m w h hm hmx hd ht).mono ?_
    rintro e w' ⟨rfl,h1⟩
    have e1:x.op.toNat=21:=zo
    exact⟨rfl,by simpa only [liftF,e1,List.append_assoc,List.cons_append,List.nil_append,List.append_nil] using h1⟩
  | 22,_,ht=>
    refine(do22 k U x l m w h hm hmx hd ht).mono ?_
    rintro e w' ⟨rfl,h1⟩
    have e1:x.op.toNat=22:=zo
    exact⟨rfl,by simpa only [liftF,e1,List.append_assoc,List.cons_append,List.nil_append,List.append_nil] using h1⟩
  | 23,_,ht=>
    refine(do23 k U x l m w h hm hmx hd ht).mono ?_
    rintro e w' ⟨rfl,h1⟩
    have e1:x.op.toNat=23:=zo
    exact⟨rfl,by simpa only [liftF,e1,List.append_assoc,List.cons_append,List.nil_append,List.append_nil] using h1⟩
  | 24,_,ht=>
    refine(do24 k U x l m w h hm hmx hd ht).mono ?_
    rintro e w' ⟨rfl,h1⟩
    have e1:x.op.toNat=24:=zo
    exact⟨rfl,by simpa only [liftF,e1,List.append_assoc,List.cons_append,List.nil_append,List.append_nil] using h1⟩
  | 25,_,ht=>
    refine(do25 k U x l m w h hm hmx hd ht).mono ?_
    rintro e w' ⟨rfl,h1⟩
    have e1:x.op.toNat=25:=zo
    exact⟨rfl,by simpa only [liftF,e1,List.append_assoc,List.cons_append,List.nil_append,List.append_nil] using h1⟩
  | 26,_,ht=>
    refine(do26 k U x l m w h hm hmx hd ht).mono ?_
    rintro e w' ⟨rfl,h1⟩
    have e1:x.op.toNat=26:=zo
    exact⟨rfl,by simpa only [liftF,e1,List.append_assoc,List.cons_append,List.nil_append,List.append_nil] using h1⟩
  | 27,_,ht=>
    refine(do27 k U x l m w h hm hmx hd hx.O ht).mono ?_
    rintro e w' ⟨rfl,h1⟩
    have e1:x.op.toNat=27:=zo
    exact⟨rfl,by simpa only [liftF,e1,List.append_assoc,List.cons_append,List.nil_append,List.append_nil] using h1⟩
  | 28,_,ht=>
    refine(do28 k U x l m w h hm hmx hd hx.O ht).mono ?_
    rintro e w' ⟨rfl,h1⟩
    have e1:x.op.toNat=28:=zo
    exact⟨rfl,by simpa only [liftF,e1,List.append_assoc,List.cons_append,List.nil_append,List.append_nil] using h1⟩
  | 29,_,ht=>
    refine(do29 k U x l m w h hm hmx hd hx.O ht).mono ?_
    rintro e w' ⟨rfl,h1⟩
    have e1:x.op.toNat=29:=zo
    exact⟨rfl,by simpa only [liftF,e1,List.append_assoc,List.cons_append,List.nil_append,List.append_nil] using h1⟩
  | 30,_,ht=>
    refine(do30 k U x l m w h hm hmx hd ht).mono ?_
    rintro e w' ⟨rfl,h1⟩
    have e1:x.op.toNat=30:=zo
    exact⟨rfl,by simpa only [liftF,e1,List.append_assoc,List.cons_append,List.nil_append,List.append_nil] using h1⟩
  | 31,_,ht=>
    refine(do31 k U x l m w h hm hmx hd ht).mono ?_
    rintro e w' ⟨rfl,h1⟩
    have e1:x.op.toNat=31:=zo
    exact⟨rfl,by simpa only [liftF,e1,List.append_assoc,List.cons_append,List.nil_append,List.append_nil] using h1⟩
  | n+32,h,_=>exact absurd h zo
end Go.Proofs.YtfokgedjocnnmaaGreat
