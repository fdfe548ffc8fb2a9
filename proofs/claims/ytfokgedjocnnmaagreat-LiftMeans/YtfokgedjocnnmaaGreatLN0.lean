import Derived.Test.YtfokgedjocnnmaaGreatLG
set_option linter.unusedVariables false
set_option linter.unusedSimpArgs false
set_option maxHeartbeats 4000000
namespace Go.Proofs.YtfokgedjocnnmaaGreat
open Go.RowKit
set_option maxRecDepth 100000
theorem do1(k:BK)(U:Nat)(x:XI)(l:List OpR)(m:Int)  (w:World)(h:TU w k U x l)(hm:Ln l m)(hmx:m+160 < 90000)(hd:0≤x.done∧x.done≤64)(hop:x.op=1) :
    Calls Tryz.prog 21 #[.pointer (some ⟨U,0,none⟩)] w fun e w'=>e=.returned (.tuple #[])∧Em w w' k U x (l++[⟨14,2,0,0,0,x.pc,x.done⟩]):=by
  obtain⟨u0,u1,u2,u3,u4,u5,u6,u7,u8,u9⟩:=h.cells
  have lU:=row_lt h.bU
  have HNx:Hid (w.heap.size≠k.B):=show w.heap.size≠k.B by have:=h.ltB;omega
  have HPx0:=hpx w x
  have HDN:Hid _:=hd
  have HMX:Hid (m+160 < 90000):=hmx
  have HWR:Hid _:=wrap_done x.done hd.1 hd.2
  have HOP:Hid _:=hop
  have k1:(x.op==1)=true:=by simp[hop]
  clear hop
  have HT:Hid _:=h
  have HM0:Hid (Ln l m):=hm
  have HM1:Hid (Ln (l++[⟨14,2,0,0,0,x.pc,x.done⟩]) (m+1)):=HM0.out.next zo _
  clear h hm hd
  clear hmx
  go_enter Tryz.func21,Tryz.ntmps21
  go_upto_region 4 with fail
  go_region_held3 (fun W'=>W'.cell? ⟨U,0,none⟩=some (.func (Fn.func 18) #[] #[.pointer (some ⟨k.B,0,none⟩)])∧W'.cell? ⟨U,1,none⟩=some (.func (Fn.func 19) #[] #[.pointer (some ⟨k.L,0,none⟩)])∧W'.cell? ⟨U,2,none⟩=some (.int .i64 x.op)∧W'.cell? ⟨U,3,none⟩=some (.int .i64 x.D)∧W'.cell? ⟨U,4,none⟩=some (.int .i64 x.S)∧W'.cell? ⟨U,5,none⟩=some (.int .i64 x.O)∧W'.cell? ⟨U,6,none⟩=some (.int .u32 x.im)∧W'.cell? ⟨U,7,none⟩=some (.int .u32 x.pc)∧W'.cell? ⟨U,8,none⟩=some (.int .u32 x.next)∧W'.cell? ⟨U,9,none⟩=some (.int .i64 x.done)∧W'.cell? ⟨w.heap.size,0,none⟩=some (.int .i64 x.op)∧W'.cell? ⟨w.heap.size,1,none⟩=some (.int .i64 x.D)∧W'.cell? ⟨w.heap.size,2,none⟩=some (.int .i64 x.S)∧W'.cell? ⟨w.heap.size,3,none⟩=some (.int .i64 x.O)∧W'.cell? ⟨w.heap.size,4,none⟩=some (.int .u32 x.im)) (first|(simp[go_sem,v0,v1,v2,v3,v4,v5,v6,v7,v8,v9,vx0,vx1,vx2,vx3,vx4];done)|(simp[go_sem,u0,u1,u2,u3,u4,u5,u6,u7,u8,u9,lU];done))
    (first
      | (go_at_call 18;refine(lay_m k U x _ (m) ⟨14,2,0,0,0,x.pc,x.done⟩ _ ?_ HM0.out).mono ?_;(have hT:=HT.out;(exact zq1));rintro e w1 ⟨rfl,h1⟩;have H1:Hid (Em w w1 k U x (l++[⟨14,2,0,0,0,x.pc,x.done⟩])):=(show Em _ _ _ _ _ _ from(have hT:=HT.out;have hE:=h1;zq0));obtain⟨v0,v1,v2,v3,v4,v5,v6,v7,v8,v9⟩:=h1.t.cells;have HPx1:Hid (hx w1 w x):=h1.kp.keep _ _ _ HPx0.out HNx.out (by decide);obtain⟨vx0,vx1,vx2,vx3,vx4⟩:=ins_cells HPx1.out;have vlx:=row_lt HPx1.out;have vU:=row_lt H1.out.t.bU;clear h1))
  all_goals go_wp2_with fail
  all_goals go_end0
  all_goals exact⟨rfl,H1.out⟩
theorem do5(k:BK)(U:Nat)(x:XI)(l:List OpR)(m:Int)  (w:World)(h:TU w k U x l)(hm:Ln l m)(hmx:m+160 < 90000)(hd:0≤x.done∧x.done≤64)(him:x.im < 4294967296)(hop:x.op=5) :
    Calls Tryz.prog 21 #[.pointer (some ⟨U,0,none⟩)] w fun e w'=>e=.returned (.tuple #[])∧Em w w' k U x (l++[⟨14,1,0,x.im,0,x.next,x.done+1⟩]):=by
  obtain⟨u0,u1,u2,u3,u4,u5,u6,u7,u8,u9⟩:=h.cells
  have lU:=row_lt h.bU
  have HNx:Hid (w.heap.size≠k.B):=show w.heap.size≠k.B by have:=h.ltB;omega
  have HPx0:=hpx w x
  have HDN:Hid _:=hd
  have HMX:Hid (m+160 < 90000):=hmx
  have HWR:Hid _:=wrap_done x.done hd.1 hd.2
  have HIM:Hid (IntKind.i64.wrap (x.im:Int)=x.im):=IntWalk.i64_in _ zo
  have i0:(0:Int)≤(x.im:Int):=zo
  have i1:(x.im:Int) < 4294967296:=zo
  clear him
  have HOP:Hid _:=hop
  have k1:(x.op==1)=false:=by simp[hop]
  have k5:(x.op==5)=true:=by simp[hop]
  clear hop
  have HT:Hid _:=h
  have HM0:Hid (Ln l m):=hm
  have HM1:Hid (Ln (l++[⟨14,1,0,x.im,0,x.next,x.done+1⟩]) (m+1)):=HM0.out.next zo _
  clear h hm hd
  clear hmx
  go_enter Tryz.func21,Tryz.ntmps21
  go_upto_region 6 with fail
  go_region_held3 (fun W'=>W'.cell? ⟨U,0,none⟩=some (.func (Fn.func 18) #[] #[.pointer (some ⟨k.B,0,none⟩)])∧W'.cell? ⟨U,1,none⟩=some (.func (Fn.func 19) #[] #[.pointer (some ⟨k.L,0,none⟩)])∧W'.cell? ⟨U,2,none⟩=some (.int .i64 x.op)∧W'.cell? ⟨U,3,none⟩=some (.int .i64 x.D)∧W'.cell? ⟨U,4,none⟩=some (.int .i64 x.S)∧W'.cell? ⟨U,5,none⟩=some (.int .i64 x.O)∧W'.cell? ⟨U,6,none⟩=some (.int .u32 x.im)∧W'.cell? ⟨U,7,none⟩=some (.int .u32 x.pc)∧W'.cell? ⟨U,8,none⟩=some (.int .u32 x.next)∧W'.cell? ⟨U,9,none⟩=some (.int .i64 x.done)∧W'.cell? ⟨w.heap.size,0,none⟩=some (.int .i64 x.op)∧W'.cell? ⟨w.heap.size,1,none⟩=some (.int .i64 x.D)∧W'.cell? ⟨w.heap.size,2,none⟩=some (.int .i64 x.S)∧W'.cell? ⟨w.heap.size,3,none⟩=some (.int .i64 x.O)∧W'.cell? ⟨w.heap.size,4,none⟩=some (.int .u32 x.im)) (first|(simp[go_sem,v0,v1,v2,v3,v4,v5,v6,v7,v8,v9,vx0,vx1,vx2,vx3,vx4];done)|(simp[go_sem,u0,u1,u2,u3,u4,u5,u6,u7,u8,u9,lU];done))
    (first
      | (go_at_call 18;rw[HWR.out];(try rw[HIM.out]);refine(lay_m k U x _ (m) ⟨14,1,0,x.im,0,x.next,x.done+1⟩ _ ?_ HM0.out).mono ?_;(have hT:=HT.out;(exact zq1));rintro e w1 ⟨rfl,h1⟩;have H1:Hid (Em w w1 k U x (l++[⟨14,1,0,x.im,0,x.next,x.done+1⟩])):=(show Em _ _ _ _ _ _ from(have hT:=HT.out;have hE:=h1;zq0));obtain⟨v0,v1,v2,v3,v4,v5,v6,v7,v8,v9⟩:=h1.t.cells;have HPx1:Hid (hx w1 w x):=h1.kp.keep _ _ _ HPx0.out HNx.out (by decide);obtain⟨vx0,vx1,vx2,vx3,vx4⟩:=ins_cells HPx1.out;have vlx:=row_lt HPx1.out;have vU:=row_lt H1.out.t.bU;clear h1))
  all_goals go_wp2_with fail
  all_goals go_end0
  all_goals exact⟨rfl,H1.out⟩
theorem do6(k:BK)(U:Nat)(x:XI)(l:List OpR)(m:Int)(nx:Nat)(w:World)(h:TU w k U x l)(hm:Ln l m)(hmx:m+160 < 90000)(hd:0≤x.done∧x.done≤64)(hnx:((x.next:Int)+x.im)%4294967296=nx)(hop:x.op=6) :
    Calls Tryz.prog 21 #[.pointer (some ⟨U,0,none⟩)] w fun e w'=>e=.returned (.tuple #[])∧Em w w' k U x (l++[⟨15,0,0,0,0,nx,x.done+1⟩]):=by
  obtain⟨u0,u1,u2,u3,u4,u5,u6,u7,u8,u9⟩:=h.cells
  have lU:=row_lt h.bU
  have HNx:Hid (w.heap.size≠k.B):=show w.heap.size≠k.B by have:=h.ltB;omega
  have HPx0:=hpx w x
  have HDN:Hid _:=hd
  have HMX:Hid (m+160 < 90000):=hmx
  have HWR:Hid _:=wrap_done x.done hd.1 hd.2
  have HNX:Hid (((x.next:Int)+x.im)%4294967296=nx):=hnx
  clear hnx
  have HOP:Hid _:=hop
  have k1:(x.op==1)=false:=by simp[hop]
  have k5:(x.op==5)=false:=by simp[hop]
  have k6:(x.op==6)=true:=by simp[hop]
  clear hop
  have HT:Hid _:=h
  have HM0:Hid (Ln l m):=hm
  have HM1:Hid (Ln (l++[⟨15,0,0,0,0,nx,x.done+1⟩]) (m+1)):=HM0.out.next zo _
  clear h hm hd
  clear hmx
  go_enter Tryz.func21,Tryz.ntmps21
  all_goals go_wp2_with (first
      | (go_at_call 45;refine(jump6 k U x _ (m) nx _ ?_ HM0.out zq9 HDN.out HNX.out HOP.out).mono ?_;(have hT:=HT.out;(exact zq1));rintro e w1 ⟨rfl,h1⟩;have H1:Hid (Em w w1 k U x (l++[⟨15,0,0,0,0,nx,x.done+1⟩])):=(show Em _ _ _ _ _ _ from(have hT:=HT.out;have hE:=h1;zq0));obtain⟨v0,v1,v2,v3,v4,v5,v6,v7,v8,v9⟩:=h1.t.cells;have HPx1:Hid (hx w1 w x):=h1.kp.keep _ _ _ HPx0.out HNx.out (by decide);obtain⟨vx0,vx1,vx2,vx3,vx4⟩:=ins_cells HPx1.out;have vlx:=row_lt HPx1.out;have vU:=row_lt H1.out.t.bU;clear h1))
  all_goals go_end0
  all_goals exact⟨rfl,H1.out⟩
theorem do7(k:BK)(U:Nat)(x:XI)(l:List OpR)(m:Int)(nx:Nat)(w:World)(h:TU w k U x l)(hm:Ln l m)(hmx:m+160 < 90000)(hd:0≤x.done∧x.done≤64)(hnx:((x.next:Int)+x.im)%4294967296=nx)(hop:x.op=7) :
    Calls Tryz.prog 21 #[.pointer (some ⟨U,0,none⟩)] w fun e w'=>e=.returned (.tuple #[])∧Em w w' k U x (l++[⟨15,0,0,0,0,nx,x.done+1⟩]):=by
  obtain⟨u0,u1,u2,u3,u4,u5,u6,u7,u8,u9⟩:=h.cells
  have lU:=row_lt h.bU
  have HNx:Hid (w.heap.size≠k.B):=show w.heap.size≠k.B by have:=h.ltB;omega
  have HPx0:=hpx w x
  have HDN:Hid _:=hd
  have HMX:Hid (m+160 < 90000):=hmx
  have HWR:Hid _:=wrap_done x.done hd.1 hd.2
  have HNX:Hid (((x.next:Int)+x.im)%4294967296=nx):=hnx
  clear hnx
  have HOP:Hid _:=hop
  have k1:(x.op==1)=false:=by simp[hop]
  have k5:(x.op==5)=false:=by simp[hop]
  have k6:(x.op==6)=false:=by simp[hop]
  have k7:(x.op==7)=true:=by simp[hop]
  clear hop
  have HT:Hid _:=h
  have HM0:Hid (Ln l m):=hm
  have HM1:Hid (Ln (l++[⟨15,0,0,0,0,nx,x.done+1⟩]) (m+1)):=HM0.out.next zo _
  clear h hm hd
  clear hmx
  go_enter Tryz.func21,Tryz.ntmps21
  all_goals go_wp2_with (first
      | (go_at_call 45;refine(jump7 k U x _ (m) nx _ ?_ HM0.out zq9 HDN.out HNX.out HOP.out).mono ?_;(have hT:=HT.out;(exact zq1));rintro e w1 ⟨rfl,h1⟩;have H1:Hid (Em w w1 k U x (l++[⟨15,0,0,0,0,nx,x.done+1⟩])):=(show Em _ _ _ _ _ _ from(have hT:=HT.out;have hE:=h1;zq0));obtain⟨v0,v1,v2,v3,v4,v5,v6,v7,v8,v9⟩:=h1.t.cells;have HPx1:Hid (hx w1 w x):=h1.kp.keep _ _ _ HPx0.out HNx.out (by decide);obtain⟨vx0,vx1,vx2,vx3,vx4⟩:=ins_cells HPx1.out;have vlx:=row_lt HPx1.out;have vU:=row_lt H1.out.t.bU;clear h1))
  all_goals go_end0
  all_goals exact⟨rfl,H1.out⟩
theorem do12(k:BK)(U:Nat)(x:XI)(l:List OpR)(m:Int)(nx:Nat)(w:World)(h:TU w k U x l)(hm:Ln l m)(hmx:m+160 < 90000)(hd:0≤x.done∧x.done≤64)(hnx:((x.next:Int)+x.im)%4294967296=nx)(hop:x.op=12) :
    Calls Tryz.prog 21 #[.pointer (some ⟨U,0,none⟩)] w fun e w'=>e=.returned (.tuple #[])∧Em w w' k U x (((qa14 l m x)++[⟨12,0,m+1,0,0,nx,x.done+1⟩])++[⟨15,0,0,0,0,x.next,x.done+1⟩]):=by
  obtain⟨u0,u1,u2,u3,u4,u5,u6,u7,u8,u9⟩:=h.cells
  have lU:=row_lt h.bU
  have HNx:Hid (w.heap.size≠k.B):=show w.heap.size≠k.B by have:=h.ltB;omega
  have HPx0:=hpx w x
  have HDN:Hid _:=hd
  have HMX:Hid (m+160 < 90000):=hmx
  have HWR:Hid _:=wrap_done x.done hd.1 hd.2
  have HNX:Hid (((x.next:Int)+x.im)%4294967296=nx):=hnx
  clear hnx
  have HOP:Hid _:=hop
  have k1:(x.op==1)=false:=by simp[hop]
  have k5:(x.op==5)=false:=by simp[hop]
  have k6:(x.op==6)=false:=by simp[hop]
  have k7:(x.op==7)=false:=by simp[hop]
  have k12:(x.op==12)=true:=by simp[hop]
  clear hop
  have HT:Hid _:=h
  have HM0:Hid (Ln l m):=hm
  have HM1:Hid (Ln (l++[⟨17,0,0,0,0,0,0⟩]) (m+1)):=HM0.out.next zo _
  have HM2:Hid (Ln (qa14 l m x) (m+1+1)):=HM1.out.next zo _
  have HM3:Hid (Ln ((qa14 l m x)++[⟨12,0,m+1,0,0,nx,x.done+1⟩]) (m+1+1+1)):=HM2.out.next zo _
  have HM4:Hid (Ln (((qa14 l m x)++[⟨12,0,m+1,0,0,nx,x.done+1⟩])++[⟨15,0,0,0,0,x.next,x.done+1⟩]) (m+1+1+1+1)):=HM3.out.next zo _
  clear h hm hd
  clear hmx
  go_enter Tryz.func21,Tryz.ntmps21
  all_goals go_wp2_with (first
      | (go_at_call 45;refine(jump12 k U x _ (m) nx _ ?_ HM0.out zq9 HDN.out HNX.out HOP.out).mono ?_;(have hT:=HT.out;(exact zq1));rintro e w1 ⟨rfl,h1⟩;have H1:Hid (Em w w1 k U x (((qa14 l m x)++[⟨12,0,m+1,0,0,nx,x.done+1⟩])++[⟨15,0,0,0,0,x.next,x.done+1⟩])):=(show Em _ _ _ _ _ _ from(have hT:=HT.out;have hE:=h1;zq0));obtain⟨v0,v1,v2,v3,v4,v5,v6,v7,v8,v9⟩:=h1.t.cells;have HPx1:Hid (hx w1 w x):=h1.kp.keep _ _ _ HPx0.out HNx.out (by decide);obtain⟨vx0,vx1,vx2,vx3,vx4⟩:=ins_cells HPx1.out;have vlx:=row_lt HPx1.out;have vU:=row_lt H1.out.t.bU;clear h1))
  all_goals go_end0
  all_goals exact⟨rfl,H1.out⟩
theorem do13(k:BK)(U:Nat)(x:XI)(l:List OpR)(m:Int)(nx:Nat)(w:World)(h:TU w k U x l)(hm:Ln l m)(hmx:m+160 < 90000)(hd:0≤x.done∧x.done≤64)(hnx:((x.next:Int)+x.im)%4294967296=nx)(hop:x.op=13) :
    Calls Tryz.prog 21 #[.pointer (some ⟨U,0,none⟩)] w fun e w'=>e=.returned (.tuple #[])∧Em w w' k U x (((qa14 l m x)++[⟨12,0,m+1,0,0,nx,x.done+1⟩])++[⟨15,0,0,0,0,x.next,x.done+1⟩]):=by
  obtain⟨u0,u1,u2,u3,u4,u5,u6,u7,u8,u9⟩:=h.cells
  have lU:=row_lt h.bU
  have HNx:Hid (w.heap.size≠k.B):=show w.heap.size≠k.B by have:=h.ltB;omega
  have HPx0:=hpx w x
  have HDN:Hid _:=hd
  have HMX:Hid (m+160 < 90000):=hmx
  have HWR:Hid _:=wrap_done x.done hd.1 hd.2
  have HNX:Hid (((x.next:Int)+x.im)%4294967296=nx):=hnx
  clear hnx
  have HOP:Hid _:=hop
  have k1:(x.op==1)=false:=by simp[hop]
  have k5:(x.op==5)=false:=by simp[hop]
  have k6:(x.op==6)=false:=by simp[hop]
  have k7:(x.op==7)=false:=by simp[hop]
  have k12:(x.op==12)=false:=by simp[hop]
  have k13:(x.op==13)=true:=by simp[hop]
  clear hop
  have HT:Hid _:=h
  have HM0:Hid (Ln l m):=hm
  have HM1:Hid (Ln (l++[⟨17,0,0,0,0,0,0⟩]) (m+1)):=HM0.out.next zo _
  have HM2:Hid (Ln (qa14 l m x) (m+1+1)):=HM1.out.next zo _
  have HM3:Hid (Ln ((qa14 l m x)++[⟨12,0,m+1,0,0,nx,x.done+1⟩]) (m+1+1+1)):=HM2.out.next zo _
  have HM4:Hid (Ln (((qa14 l m x)++[⟨12,0,m+1,0,0,nx,x.done+1⟩])++[⟨15,0,0,0,0,x.next,x.done+1⟩]) (m+1+1+1+1)):=HM3.out.next zo _
  clear h hm hd
  clear hmx
  go_enter Tryz.func21,Tryz.ntmps21
  all_goals go_wp2_with (first
      | (go_at_call 45;refine(jump13 k U x _ (m) nx _ ?_ HM0.out zq9 HDN.out HNX.out HOP.out).mono ?_;(have hT:=HT.out;(exact zq1));rintro e w1 ⟨rfl,h1⟩;have H1:Hid (Em w w1 k U x (((qa14 l m x)++[⟨12,0,m+1,0,0,nx,x.done+1⟩])++[⟨15,0,0,0,0,x.next,x.done+1⟩])):=(show Em _ _ _ _ _ _ from(have hT:=HT.out;have hE:=h1;zq0));obtain⟨v0,v1,v2,v3,v4,v5,v6,v7,v8,v9⟩:=h1.t.cells;have HPx1:Hid (hx w1 w x):=h1.kp.keep _ _ _ HPx0.out HNx.out (by decide);obtain⟨vx0,vx1,vx2,vx3,vx4⟩:=ins_cells HPx1.out;have vlx:=row_lt HPx1.out;have vU:=row_lt H1.out.t.bU;clear h1))
  all_goals go_end0
  all_goals exact⟨rfl,H1.out⟩
end Go.Proofs.YtfokgedjocnnmaaGreat
