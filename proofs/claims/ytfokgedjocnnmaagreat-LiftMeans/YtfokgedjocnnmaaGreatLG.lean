import Derived.Test.YtfokgedjocnnmaaGreatLE
set_option linter.unusedVariables false
set_option linter.unusedSimpArgs false
set_option maxHeartbeats 4000000
namespace Go.Proofs.YtfokgedjocnnmaaGreat
open Go.RowKit
set_option maxRecDepth 100000
theorem pushes8(k:BK)(U:Nat)(x:XI)(l:List OpR)(m:Int)(nx:Nat)(w:World)(h:TU w k U x l)(hm:Ln l m)(hmx:m+80 < 90000)(hd:0≤x.done∧x.done≤64)(hnx:((x.next:Int)+x.im)%4294967296=nx)(hop:x.op=8) :
    Calls Tryz.prog 46 #[.pointer (some ⟨U,0,none⟩)] w fun e w'=>e=.returned (.tuple #[])∧Em w w' k U x ((qa35 l m x)++[⟨15,0,0,0,0,nx,x.done+1⟩]):=by
  obtain⟨u0,u1,u2,u3,u4,u5,u6,u7,u8,u9⟩:=h.cells
  have lU:=row_lt h.bU
  have HNP:Hid (w.heap.size≠k.B):=show w.heap.size≠k.B by have:=h.ltB;omega
  have HP0:Hid ((w.alloc (.cells #[.int .i64 x.op,.int .i64 x.D,.int .i64 x.S,.int .i64 x.O,.int .u32 x.im] 58)).heap[w.heap.size]?=some (.cells #[.int .i64 x.op,.int .i64 x.D,.int .i64 x.S,.int .i64 x.O,.int .u32 x.im] 58)):=heap_alloc_last w _
  have HDN:Hid _:=hd
  have HMX:Hid (m+80 < 90000):=hmx
  have HWR:Hid _:=wrap_done x.done hd.1 hd.2
  have HNX:Hid (IntKind.u32.wrap ((x.next:Int)+x.im)=nx):=show _=_ by rw[IntKind.wrap_u32];exact hnx
  have HNY:Hid (((x.next:Int)+x.im)%4294967296=nx):=hnx
  clear hnx
  have k14:(x.op==14)=false:=by simp[hop]
  have k3:(x.op==3)=false:=by simp[hop]
  have k8:(x.op==8)=true:=by simp[hop]
  clear hop
  have HT:Hid _:=h
  have HM0:Hid (Ln l m):=hm
  have HM1:Hid (Ln (l++[⟨1,0,0,0,0,x.next,0⟩]) (m+1)):=HM0.out.next zo _
  have HM2:Hid (Ln ((l++[⟨1,0,0,0,0,x.next,0⟩])++[⟨2,7,0,0,0,0,0⟩]) (m+1+1)):=HM1.out.next zo _
  have HM3:Hid (Ln (((l++[⟨1,0,0,0,0,x.next,0⟩])++[⟨2,7,0,0,0,0,0⟩])++[⟨1,0,0,0,0,4,0⟩]) (m+1+1+1)):=HM2.out.next zo _
  have HM4:Hid (Ln ((((l++[⟨1,0,0,0,0,x.next,0⟩])++[⟨2,7,0,0,0,0,0⟩])++[⟨1,0,0,0,0,4,0⟩])++[⟨4,1,m+1,m+1+1,0,0,0⟩]) (m+1+1+1+1)):=HM3.out.next zo _
  have HM5:Hid (Ln (qa8 l m x) (m+1+1+1+1+1)):=HM4.out.next zo _
  have HM6:Hid (Ln (qa35 l m x) (m+1+1+1+1+1+1)):=HM5.out.next zo _
  have HM7:Hid (Ln ((qa35 l m x)++[⟨15,0,0,0,0,nx,x.done+1⟩]) (m+1+1+1+1+1+1+1)):=HM6.out.next zo _
  clear h hm hd
  clear hmx
  go_enter Tryz.func46,Tryz.ntmps46
  go_upto_region 10 with (first
      | (have HQ2:=H1;go_at_call 75;refine(push_m k U x _ (m+1) (m) _ ?_ HM1.out zq9).mono ?_;(have hT:=H1.out.t;(exact zq11));rintro e w2 ⟨rfl,h2⟩;have H2:Hid (Em w1 w2 k U x (qa35 l m x)):=zq29;obtain⟨q0,q1,q2,q3,q4,q5,q6,q7,q8,q9⟩:=h2.t.cells;have HP2:Hid (hx w2 w x):=h2.kp.keep _ _ _ HP1.out HNP.out (by decide);obtain⟨qx0,qx1,qx2,qx3,qx4⟩:=ins_cells HP2.out;clear h2 HQ2)
      | (go_at_call 49;refine(number_m k U x _ (m) x.next _ ?_ HM0.out).mono ?_;(have hT:=HT.out;(exact zq15));rintro e w1 ⟨rfl,h1⟩;have H1:Hid _:=h1;obtain⟨v0,v1,v2,v3,v4,v5,v6,v7,v8,v9⟩:=h1.t.cells;have HP1:Hid (hx w1 w x):=h1.kp.keep _ _ _ HP0.out HNP.out (by decide);obtain⟨vx0,vx1,vx2,vx3,vx4⟩:=ins_cells HP1.out;clear h1))
  go_region_with (first
      | (have HQ3:=H2;go_at_call 72;(first|rw[HNX.out]|rw[HNY.out]);refine(goes_m k U x _ (m+1+1+1+1+1+1) nx _ ?_ HM6.out HDN.out).mono ?_;(have hT:=H2.out.t;(exact zq11));rintro e w3 ⟨rfl,h3⟩;have H3:Hid (Em w2 w3 k U x ((qa35 l m x)++[⟨15,0,0,0,0,nx,x.done+1⟩])):=zq33;obtain⟨r0,r1,r2,r3,r4,r5,r6,r7,r8,r9⟩:=h3.t.cells;have HP3:Hid (hx w3 w x):=h3.kp.keep _ _ _ HP2.out HNP.out (by decide);obtain⟨rx0,rx1,rx2,rx3,rx4⟩:=ins_cells HP3.out;clear h3 HQ3))
  all_goals go_wp2_with fail
  all_goals go_end0
  all_goals exact⟨rfl,by first|exact(((Em.firstA HT.out H1.out)).trans H2.out).trans H3.out|exact(((Em.firstAD HT.out H1.out)).trans H2.out).trans H3.out⟩
theorem jump6(k:BK)(U:Nat)(x:XI)(l:List OpR)(m:Int)(nx:Nat)(w:World)(h:TU w k U x l)(hm:Ln l m)(hmx:m+80 < 90000)(hd:0≤x.done∧x.done≤64)(hnx:((x.next:Int)+x.im)%4294967296=nx)(hop:x.op=6) :
    Calls Tryz.prog 45 #[.pointer (some ⟨U,0,none⟩)] w fun e w'=>e=.returned (.tuple #[])∧Em w w' k U x (l++[⟨15,0,0,0,0,nx,x.done+1⟩]):=by
  obtain⟨u0,u1,u2,u3,u4,u5,u6,u7,u8,u9⟩:=h.cells
  have lU:=row_lt h.bU
  have HNP:Hid (w.heap.size≠k.B):=show w.heap.size≠k.B by have:=h.ltB;omega
  have HP0:Hid ((w.alloc (.cells #[.int .i64 x.op,.int .i64 x.D,.int .i64 x.S,.int .i64 x.O,.int .u32 x.im] 58)).heap[w.heap.size]?=some (.cells #[.int .i64 x.op,.int .i64 x.D,.int .i64 x.S,.int .i64 x.O,.int .u32 x.im] 58)):=heap_alloc_last w _
  have HDN:Hid _:=hd
  have HMX:Hid (m+80 < 90000):=hmx
  have HWR:Hid _:=wrap_done x.done hd.1 hd.2
  have HNX:Hid (IntKind.u32.wrap ((x.next:Int)+x.im)=nx):=show _=_ by rw[IntKind.wrap_u32];exact hnx
  have HNY:Hid (((x.next:Int)+x.im)%4294967296=nx):=hnx
  clear hnx
  have k6:(x.op==6)=true:=by simp[hop]
  clear hop
  have HT:Hid _:=h
  have HM0:Hid (Ln l m):=hm
  have HM1:Hid (Ln (l++[⟨15,0,0,0,0,nx,x.done+1⟩]) (m+1)):=HM0.out.next zo _
  clear h hm hd
  clear hmx
  go_enter Tryz.func45,Tryz.ntmps45
  go_upto_region 4 with fail
  go_region_with (first
      | (go_at_call 72;(first|rw[HNX.out]|rw[HNY.out]);refine(goes_m k U x _ (m) nx _ ?_ HM0.out HDN.out).mono ?_;(have hT:=HT.out;(exact zq15));rintro e w1 ⟨rfl,h1⟩;have H1:Hid _:=h1;obtain⟨v0,v1,v2,v3,v4,v5,v6,v7,v8,v9⟩:=h1.t.cells;have HP1:Hid (hx w1 w x):=h1.kp.keep _ _ _ HP0.out HNP.out (by decide);obtain⟨vx0,vx1,vx2,vx3,vx4⟩:=ins_cells HP1.out;clear h1))
  all_goals go_wp2_with fail
  all_goals go_end0
  all_goals exact⟨rfl,by first|exact(Em.firstA HT.out H1.out)|exact(Em.firstAD HT.out H1.out)⟩
theorem jump7(k:BK)(U:Nat)(x:XI)(l:List OpR)(m:Int)(nx:Nat)(w:World)(h:TU w k U x l)(hm:Ln l m)(hmx:m+80 < 90000)(hd:0≤x.done∧x.done≤64)(hnx:((x.next:Int)+x.im)%4294967296=nx)(hop:x.op=7) :
    Calls Tryz.prog 45 #[.pointer (some ⟨U,0,none⟩)] w fun e w'=>e=.returned (.tuple #[])∧Em w w' k U x (l++[⟨15,0,0,0,0,nx,x.done+1⟩]):=by
  obtain⟨u0,u1,u2,u3,u4,u5,u6,u7,u8,u9⟩:=h.cells
  have lU:=row_lt h.bU
  have HNP:Hid (w.heap.size≠k.B):=show w.heap.size≠k.B by have:=h.ltB;omega
  have HP0:Hid ((w.alloc (.cells #[.int .i64 x.op,.int .i64 x.D,.int .i64 x.S,.int .i64 x.O,.int .u32 x.im] 58)).heap[w.heap.size]?=some (.cells #[.int .i64 x.op,.int .i64 x.D,.int .i64 x.S,.int .i64 x.O,.int .u32 x.im] 58)):=heap_alloc_last w _
  have HDN:Hid _:=hd
  have HMX:Hid (m+80 < 90000):=hmx
  have HWR:Hid _:=wrap_done x.done hd.1 hd.2
  have HNX:Hid (IntKind.u32.wrap ((x.next:Int)+x.im)=nx):=show _=_ by rw[IntKind.wrap_u32];exact hnx
  have HNY:Hid (((x.next:Int)+x.im)%4294967296=nx):=hnx
  clear hnx
  have k6:(x.op==6)=false:=by simp[hop]
  have k7:(x.op==7)=true:=by simp[hop]
  clear hop
  have HT:Hid _:=h
  have HM0:Hid (Ln l m):=hm
  have HM1:Hid (Ln (l++[⟨15,0,0,0,0,nx,x.done+1⟩]) (m+1)):=HM0.out.next zo _
  clear h hm hd
  clear hmx
  go_enter Tryz.func45,Tryz.ntmps45
  go_upto_region 4 with fail
  go_region_with (first
      | (go_at_call 72;(first|rw[HNX.out]|rw[HNY.out]);refine(goes_m k U x _ (m) nx _ ?_ HM0.out HDN.out).mono ?_;(have hT:=HT.out;(exact zq15));rintro e w1 ⟨rfl,h1⟩;have H1:Hid _:=h1;obtain⟨v0,v1,v2,v3,v4,v5,v6,v7,v8,v9⟩:=h1.t.cells;have HP1:Hid (hx w1 w x):=h1.kp.keep _ _ _ HP0.out HNP.out (by decide);obtain⟨vx0,vx1,vx2,vx3,vx4⟩:=ins_cells HP1.out;clear h1))
  all_goals go_wp2_with fail
  all_goals go_end0
  all_goals exact⟨rfl,by first|exact(Em.firstA HT.out H1.out)|exact(Em.firstAD HT.out H1.out)⟩
theorem jump12(k:BK)(U:Nat)(x:XI)(l:List OpR)(m:Int)(nx:Nat)(w:World)(h:TU w k U x l)(hm:Ln l m)(hmx:m+80 < 90000)(hd:0≤x.done∧x.done≤64)(hnx:((x.next:Int)+x.im)%4294967296=nx)(hop:x.op=12) :
    Calls Tryz.prog 45 #[.pointer (some ⟨U,0,none⟩)] w fun e w'=>e=.returned (.tuple #[])∧Em w w' k U x (((qa14 l m x)++[⟨12,0,m+1,0,0,nx,x.done+1⟩])++[⟨15,0,0,0,0,x.next,x.done+1⟩]):=by
  obtain⟨u0,u1,u2,u3,u4,u5,u6,u7,u8,u9⟩:=h.cells
  have lU:=row_lt h.bU
  have HNP:Hid (w.heap.size≠k.B):=show w.heap.size≠k.B by have:=h.ltB;omega
  have HP0:Hid ((w.alloc (.cells #[.int .i64 x.op,.int .i64 x.D,.int .i64 x.S,.int .i64 x.O,.int .u32 x.im] 58)).heap[w.heap.size]?=some (.cells #[.int .i64 x.op,.int .i64 x.D,.int .i64 x.S,.int .i64 x.O,.int .u32 x.im] 58)):=heap_alloc_last w _
  have HDN:Hid _:=hd
  have HMX:Hid (m+80 < 90000):=hmx
  have HWR:Hid _:=wrap_done x.done hd.1 hd.2
  have HNX:Hid (IntKind.u32.wrap ((x.next:Int)+x.im)=nx):=show _=_ by rw[IntKind.wrap_u32];exact hnx
  have HNY:Hid (((x.next:Int)+x.im)%4294967296=nx):=hnx
  clear hnx
  have k6:(x.op==6)=false:=by simp[hop]
  have k7:(x.op==7)=false:=by simp[hop]
  have k12:(x.op==12)=true:=by simp[hop]
  clear hop
  have HT:Hid _:=h
  have HM0:Hid (Ln l m):=hm
  have HM1:Hid (Ln (l++[⟨17,0,0,0,0,0,0⟩]) (m+1)):=HM0.out.next zo _
  have HM2:Hid (Ln (qa14 l m x) (m+1+1)):=HM1.out.next zo _
  have HM3:Hid (Ln ((qa14 l m x)++[⟨12,0,m+1,0,0,nx,x.done+1⟩]) (m+1+1+1)):=HM2.out.next zo _
  have HM4:Hid (Ln (((qa14 l m x)++[⟨12,0,m+1,0,0,nx,x.done+1⟩])++[⟨15,0,0,0,0,x.next,x.done+1⟩]) (m+1+1+1+1)):=HM3.out.next zo _
  clear h hm hd
  clear hmx
  go_enter Tryz.func45,Tryz.ntmps45
  go_upto_region 7 with fail
  go_region_held3 (fun W'=>W'.cell? ⟨U,0,none⟩=some (.func (Fn.func 18) #[] #[.pointer (some ⟨k.B,0,none⟩)])∧W'.cell? ⟨U,1,none⟩=some (.func (Fn.func 19) #[] #[.pointer (some ⟨k.L,0,none⟩)])∧W'.cell? ⟨U,2,none⟩=some (.int .i64 x.op)∧W'.cell? ⟨U,3,none⟩=some (.int .i64 x.D)∧W'.cell? ⟨U,4,none⟩=some (.int .i64 x.S)∧W'.cell? ⟨U,5,none⟩=some (.int .i64 x.O)∧W'.cell? ⟨U,6,none⟩=some (.int .u32 x.im)∧W'.cell? ⟨U,7,none⟩=some (.int .u32 x.pc)∧W'.cell? ⟨U,8,none⟩=some (.int .u32 x.next)∧W'.cell? ⟨U,9,none⟩=some (.int .i64 x.done)∧W'.cell? ⟨w.heap.size,0,none⟩=some (.int .i64 x.op)∧W'.cell? ⟨w.heap.size,1,none⟩=some (.int .i64 x.D)∧W'.cell? ⟨w.heap.size,2,none⟩=some (.int .i64 x.S)∧W'.cell? ⟨w.heap.size,3,none⟩=some (.int .i64 x.O)∧W'.cell? ⟨w.heap.size,4,none⟩=some (.int .u32 x.im)) (first|(simp[go_sem,r0,r1,r2,r3,r4,r5,r6,r7,r8,r9,rx0,rx1,rx2,rx3,rx4];done)|(simp[go_sem,q0,q1,q2,q3,q4,q5,q6,q7,q8,q9,qx0,qx1,qx2,qx3,qx4];done)|(simp[go_sem,v0,v1,v2,v3,v4,v5,v6,v7,v8,v9,vx0,vx1,vx2,vx3,vx4];done)|(simp[go_sem,u0,u1,u2,u3,u4,u5,u6,u7,u8,u9,lU];done))
    (first
      | (have HQ2:=H1;go_at_call 18;(first|rw[HNX.out]|rw[HNY.out]);rw[HWR.out];refine(lay_m k U x _ (m+1+1) ⟨12,0,m+1,0,0,nx,x.done+1⟩ _ ?_ HM2.out).mono ?_;(have hT:=H1.out.t;(exact zq11));rintro e w2 ⟨rfl,h2⟩;have H2:Hid (Em w1 w2 k U x ((qa14 l m x)++[⟨12,0,m+1,0,0,nx,x.done+1⟩])):=zq29;obtain⟨q0,q1,q2,q3,q4,q5,q6,q7,q8,q9⟩:=h2.t.cells;have HP2:Hid (hx w2 w x):=h2.kp.keep _ _ _ HP1.out HNP.out (by decide);obtain⟨qx0,qx1,qx2,qx3,qx4⟩:=ins_cells HP2.out;clear h2 HQ2)
      | (go_at_call 73;refine(holds_m k U x _ (m) x.O _ ?_ HM0.out zq9).mono ?_;(have hT:=HT.out;(exact zq15));rintro e w1 ⟨rfl,h1⟩;have H1:Hid _:=h1;obtain⟨v0,v1,v2,v3,v4,v5,v6,v7,v8,v9⟩:=h1.t.cells;have HP1:Hid (hx w1 w x):=h1.kp.keep _ _ _ HP0.out HNP.out (by decide);obtain⟨vx0,vx1,vx2,vx3,vx4⟩:=ins_cells HP1.out;clear h1))
  all_goals go_wp2_with (first
      | (have HQ3:=H2;go_at_call 72;refine(goes_m k U x _ (m+1+1+1) x.next _ ?_ HM3.out HDN.out).mono ?_;(have hT:=H2.out.t;(exact zq11));rintro e w3 ⟨rfl,h3⟩;have H3:Hid (Em w2 w3 k U x (((qa14 l m x)++[⟨12,0,m+1,0,0,nx,x.done+1⟩])++[⟨15,0,0,0,0,x.next,x.done+1⟩])):=zq33;obtain⟨r0,r1,r2,r3,r4,r5,r6,r7,r8,r9⟩:=h3.t.cells;have HP3:Hid (hx w3 w x):=h3.kp.keep _ _ _ HP2.out HNP.out (by decide);obtain⟨rx0,rx1,rx2,rx3,rx4⟩:=ins_cells HP3.out;clear h3 HQ3))
  all_goals go_end0
  all_goals exact⟨rfl,by first|exact(((Em.firstA HT.out H1.out)).trans H2.out).trans H3.out|exact(((Em.firstAD HT.out H1.out)).trans H2.out).trans H3.out⟩
theorem jump13(k:BK)(U:Nat)(x:XI)(l:List OpR)(m:Int)(nx:Nat)(w:World)(h:TU w k U x l)(hm:Ln l m)(hmx:m+80 < 90000)(hd:0≤x.done∧x.done≤64)(hnx:((x.next:Int)+x.im)%4294967296=nx)(hop:x.op=13) :
    Calls Tryz.prog 45 #[.pointer (some ⟨U,0,none⟩)] w fun e w'=>e=.returned (.tuple #[])∧Em w w' k U x (((qa14 l m x)++[⟨12,0,m+1,0,0,nx,x.done+1⟩])++[⟨15,0,0,0,0,x.next,x.done+1⟩]):=by
  obtain⟨u0,u1,u2,u3,u4,u5,u6,u7,u8,u9⟩:=h.cells
  have lU:=row_lt h.bU
  have HNP:Hid (w.heap.size≠k.B):=show w.heap.size≠k.B by have:=h.ltB;omega
  have HP0:Hid ((w.alloc (.cells #[.int .i64 x.op,.int .i64 x.D,.int .i64 x.S,.int .i64 x.O,.int .u32 x.im] 58)).heap[w.heap.size]?=some (.cells #[.int .i64 x.op,.int .i64 x.D,.int .i64 x.S,.int .i64 x.O,.int .u32 x.im] 58)):=heap_alloc_last w _
  have HDN:Hid _:=hd
  have HMX:Hid (m+80 < 90000):=hmx
  have HWR:Hid _:=wrap_done x.done hd.1 hd.2
  have HNX:Hid (IntKind.u32.wrap ((x.next:Int)+x.im)=nx):=show _=_ by rw[IntKind.wrap_u32];exact hnx
  have HNY:Hid (((x.next:Int)+x.im)%4294967296=nx):=hnx
  clear hnx
  have k6:(x.op==6)=false:=by simp[hop]
  have k7:(x.op==7)=false:=by simp[hop]
  have k12:(x.op==12)=false:=by simp[hop]
  have k13:(x.op==13)=true:=by simp[hop]
  clear hop
  have HT:Hid _:=h
  have HM0:Hid (Ln l m):=hm
  have HM1:Hid (Ln (l++[⟨17,0,0,0,0,0,0⟩]) (m+1)):=HM0.out.next zo _
  have HM2:Hid (Ln (qa14 l m x) (m+1+1)):=HM1.out.next zo _
  have HM3:Hid (Ln ((qa14 l m x)++[⟨12,0,m+1,0,0,nx,x.done+1⟩]) (m+1+1+1)):=HM2.out.next zo _
  have HM4:Hid (Ln (((qa14 l m x)++[⟨12,0,m+1,0,0,nx,x.done+1⟩])++[⟨15,0,0,0,0,x.next,x.done+1⟩]) (m+1+1+1+1)):=HM3.out.next zo _
  clear h hm hd
  clear hmx
  go_enter Tryz.func45,Tryz.ntmps45
  go_upto_region 7 with fail
  go_region_held3 (fun W'=>W'.cell? ⟨U,0,none⟩=some (.func (Fn.func 18) #[] #[.pointer (some ⟨k.B,0,none⟩)])∧W'.cell? ⟨U,1,none⟩=some (.func (Fn.func 19) #[] #[.pointer (some ⟨k.L,0,none⟩)])∧W'.cell? ⟨U,2,none⟩=some (.int .i64 x.op)∧W'.cell? ⟨U,3,none⟩=some (.int .i64 x.D)∧W'.cell? ⟨U,4,none⟩=some (.int .i64 x.S)∧W'.cell? ⟨U,5,none⟩=some (.int .i64 x.O)∧W'.cell? ⟨U,6,none⟩=some (.int .u32 x.im)∧W'.cell? ⟨U,7,none⟩=some (.int .u32 x.pc)∧W'.cell? ⟨U,8,none⟩=some (.int .u32 x.next)∧W'.cell? ⟨U,9,none⟩=some (.int .i64 x.done)∧W'.cell? ⟨w.heap.size,0,none⟩=some (.int .i64 x.op)∧W'.cell? ⟨w.heap.size,1,none⟩=some (.int .i64 x.D)∧W'.cell? ⟨w.heap.size,2,none⟩=some (.int .i64 x.S)∧W'.cell? ⟨w.heap.size,3,none⟩=some (.int .i64 x.O)∧W'.cell? ⟨w.heap.size,4,none⟩=some (.int .u32 x.im)) (first|(simp[go_sem,r0,r1,r2,r3,r4,r5,r6,r7,r8,r9,rx0,rx1,rx2,rx3,rx4];done)|(simp[go_sem,q0,q1,q2,q3,q4,q5,q6,q7,q8,q9,qx0,qx1,qx2,qx3,qx4];done)|(simp[go_sem,v0,v1,v2,v3,v4,v5,v6,v7,v8,v9,vx0,vx1,vx2,vx3,vx4];done)|(simp[go_sem,u0,u1,u2,u3,u4,u5,u6,u7,u8,u9,lU];done))
    (first
      | (have HQ2:=H1;go_at_call 18;(first|rw[HNX.out]|rw[HNY.out]);rw[HWR.out];refine(lay_m k U x _ (m+1+1) ⟨12,0,m+1,0,0,nx,x.done+1⟩ _ ?_ HM2.out).mono ?_;(have hT:=H1.out.t;(exact zq11));rintro e w2 ⟨rfl,h2⟩;have H2:Hid (Em w1 w2 k U x ((qa14 l m x)++[⟨12,0,m+1,0,0,nx,x.done+1⟩])):=zq29;obtain⟨q0,q1,q2,q3,q4,q5,q6,q7,q8,q9⟩:=h2.t.cells;have HP2:Hid (hx w2 w x):=h2.kp.keep _ _ _ HP1.out HNP.out (by decide);obtain⟨qx0,qx1,qx2,qx3,qx4⟩:=ins_cells HP2.out;clear h2 HQ2)
      | (go_at_call 73;refine(holds_m k U x _ (m) x.O _ ?_ HM0.out zq9).mono ?_;(have hT:=HT.out;(exact zq15));rintro e w1 ⟨rfl,h1⟩;have H1:Hid _:=h1;obtain⟨v0,v1,v2,v3,v4,v5,v6,v7,v8,v9⟩:=h1.t.cells;have HP1:Hid (hx w1 w x):=h1.kp.keep _ _ _ HP0.out HNP.out (by decide);obtain⟨vx0,vx1,vx2,vx3,vx4⟩:=ins_cells HP1.out;clear h1))
  all_goals go_wp2_with (first
      | (have HQ3:=H2;go_at_call 72;refine(goes_m k U x _ (m+1+1+1) x.next _ ?_ HM3.out HDN.out).mono ?_;(have hT:=H2.out.t;(exact zq11));rintro e w3 ⟨rfl,h3⟩;have H3:Hid (Em w2 w3 k U x (((qa14 l m x)++[⟨12,0,m+1,0,0,nx,x.done+1⟩])++[⟨15,0,0,0,0,x.next,x.done+1⟩])):=zq33;obtain⟨r0,r1,r2,r3,r4,r5,r6,r7,r8,r9⟩:=h3.t.cells;have HP3:Hid (hx w3 w x):=h3.kp.keep _ _ _ HP2.out HNP.out (by decide);obtain⟨rx0,rx1,rx2,rx3,rx4⟩:=ins_cells HP3.out;clear h3 HQ3))
  all_goals go_end0
  all_goals exact⟨rfl,by first|exact(((Em.firstA HT.out H1.out)).trans H2.out).trans H3.out|exact(((Em.firstAD HT.out H1.out)).trans H2.out).trans H3.out⟩
end Go.Proofs.YtfokgedjocnnmaaGreat
