import Derived.Test.YtfokgedjocnnmaaGreatLB
set_option linter.unusedVariables false
set_option linter.unusedSimpArgs false
set_option maxHeartbeats 4000000
namespace Go.Proofs.YtfokgedjocnnmaaGreat
open Go.RowKit
set_option maxRecDepth 100000
structure Ln(l:List OpR)(m:Int):Prop where
  e:(l.length:Int)=m
  lt:m < 90000
theorem TU.cells{w:World}{k:BK}{U:Nat}{x:XI}{l:List OpR}(h:TU w k U x l):w.cell? ⟨U,0,none⟩=some (.func (Fn.func 18) #[] #[.pointer (some ⟨k.B,0,none⟩)])∧w.cell? ⟨U,1,none⟩=some (.func (Fn.func 19) #[] #[.pointer (some ⟨k.L,0,none⟩)])∧w.cell? ⟨U,2,none⟩=some (.int .i64 x.op)∧w.cell? ⟨U,3,none⟩=some (.int .i64 x.D)∧w.cell? ⟨U,4,none⟩=some (.int .i64 x.S)∧w.cell? ⟨U,5,none⟩=some (.int .i64 x.O)∧w.cell? ⟨U,6,none⟩=some (.int .u32 x.im)∧w.cell? ⟨U,7,none⟩=some (.int .u32 x.pc)∧w.cell? ⟨U,8,none⟩=some (.int .u32 x.next)∧w.cell? ⟨U,9,none⟩=some (.int .i64 x.done):=⟨row_cell h.bU 0,row_cell h.bU 1,row_cell h.bU 2,row_cell h.bU 3,row_cell h.bU 4,row_cell h.bU 5,row_cell h.bU 6,row_cell h.bU 7,row_cell h.bU 8,row_cell h.bU 9⟩
theorem ins_cells{w:World}{b:Nat}{x:XI}(h:w.heap[b]?=some (.cells #[.int .i64 x.op,.int .i64 x.D,.int .i64 x.S,.int .i64 x.O,.int .u32 x.im] 58)):w.cell? ⟨b,0,none⟩=some (.int .i64 x.op)∧w.cell? ⟨b,1,none⟩=some (.int .i64 x.D)∧w.cell? ⟨b,2,none⟩=some (.int .i64 x.S)∧w.cell? ⟨b,3,none⟩=some (.int .i64 x.O)∧w.cell? ⟨b,4,none⟩=some (.int .u32 x.im):=⟨row_cell h 0,row_cell h 1,row_cell h 2,row_cell h 3,row_cell h 4⟩
theorem Ln.lt'{l:List OpR}{m:Int}(h:Ln l m):l.length < 100000:=by have:=h.e;have:=h.lt;omega
theorem Ln.next{l:List OpR}{m:Int}(h:Ln l m)(h2:m+1 < 90000)(o:OpR):Ln (l++[o]) (m+1):=⟨by simp[h.e],h2⟩
theorem read_m(k:BK)(U:Nat)(x:XI)(l:List OpR)(m:Int)(slot:Int)(w:World)(h:TU w k U x l)(hm:Ln l m) :
    Calls Tryz.prog 19 #[.int .i64 slot,.pointer (some ⟨k.L,0,none⟩)] w fun e w'=>e=.returned (.int .i64 m)∧Em w w' k U x (l++[⟨2,slot,0,0,0,0,0⟩]):=by
  rw[← hm.e]
  exact read_tu k U x l slot w h hm.lt'
theorem number_m(k:BK)(U:Nat)(x:XI)(l:List OpR)(m:Int)(n:Nat)(w:World)(h:TU w k U x l)(hm:Ln l m) :
    Calls Tryz.prog 49 #[.pointer (some ⟨U,0,none⟩),.int .u32 n] w fun e w'=>e=.returned (.int .i64 m)∧Em w w' k U x (l++[⟨1,0,0,0,0,n,0⟩]):=by
  rw[← hm.e]
  exact number_tu k U x l n w h hm.lt'
theorem put_m(k:BK)(U:Nat)(x:XI)(l:List OpR)(m:Int)(slot v:Int)(w:World)(h:TU w k U x l)(hm:Ln l m) :
    Calls Tryz.prog 50 #[.pointer (some ⟨U,0,none⟩),.int .i64 slot,.int .i64 v] w fun e w'=>e=.returned (.tuple #[])∧Em w w' k U x (l++[⟨3,slot,v,0,0,0,0⟩]):=by
  exact put_tu k U x l slot v w h hm.lt'
theorem bin_m(k:BK)(U:Nat)(x:XI)(l:List OpR)(m:Int)(g a b:Int)(w:World)(h:TU w k U x l)(hm:Ln l m) :
    Calls Tryz.prog 77 #[.pointer (some ⟨U,0,none⟩),.int .i64 g,.int .i64 a,.int .i64 b] w fun e w'=>e=.returned (.int .i64 m)∧Em w w' k U x (l++[⟨4,g,a,b,0,0,0⟩]):=by
  rw[← hm.e]
  exact bin_tu k U x l g a b w h hm.lt'
theorem un_m(k:BK)(U:Nat)(x:XI)(l:List OpR)(m:Int)(g a:Int)(w:World)(h:TU w k U x l)(hm:Ln l m) :
    Calls Tryz.prog 79 #[.pointer (some ⟨U,0,none⟩),.int .i64 g,.int .i64 a] w fun e w'=>e=.returned (.int .i64 m)∧Em w w' k U x (l++[⟨5,g,a,0,0,0,0⟩]):=by
  rw[← hm.e]
  exact un_tu k U x l g a w h hm.lt'
theorem now_m(k:BK)(U:Nat)(x:XI)(l:List OpR)(m:Int)  (w:World)(h:TU w k U x l)(hm:Ln l m) :
    Calls Tryz.prog 76 #[.pointer (some ⟨U,0,none⟩)] w fun e w'=>e=.returned (.int .i64 m)∧Em w w' k U x (l++[⟨17,0,0,0,0,0,0⟩]):=by
  rw[← hm.e]
  exact now_tu k U x l w h hm.lt'
theorem load_m(k:BK)(U:Nat)(x:XI)(l:List OpR)(m:Int)(g a:Int)(w:World)(h:TU w k U x l)(hm:Ln l m) :
    Calls Tryz.prog 51 #[.pointer (some ⟨U,0,none⟩),.int .i64 g,.int .i64 a] w fun e w'=>e=.returned (.int .i64 m)∧Em w w' k U x (l++[⟨9,g,a,0,0,x.pc,x.done⟩]):=by
  rw[← hm.e]
  exact load_tu k U x l g a w h hm.lt'
theorem store_m(k:BK)(U:Nat)(x:XI)(l:List OpR)(m:Int)(g a v:Int)(w:World)(h:TU w k U x l)(hm:Ln l m) :
    Calls Tryz.prog 53 #[.pointer (some ⟨U,0,none⟩),.int .i64 g,.int .i64 a,.int .i64 v] w fun e w'=>e=.returned (.tuple #[])∧Em w w' k U x (l++[⟨10,g,a,v,0,x.pc,x.done⟩]):=by
  exact store_tu k U x l g a v w h hm.lt'
theorem watch_m(k:BK)(U:Nat)(x:XI)(l:List OpR)(m:Int)  (w:World)(h:TU w k U x l)(hm:Ln l m)(hd:0≤x.done∧x.done≤64) :
    Calls Tryz.prog 54 #[.pointer (some ⟨U,0,none⟩)] w fun e w'=>e=.returned (.tuple #[])∧Em w w' k U x (l++[⟨11,0,0,0,0,x.next,x.done+1⟩]):=by
  exact watch_tu k U x l w h hm.lt' hd
theorem goes_m(k:BK)(U:Nat)(x:XI)(l:List OpR)(m:Int)(n:Nat)(w:World)(h:TU w k U x l)(hm:Ln l m)(hd:0≤x.done∧x.done≤64) :
    Calls Tryz.prog 72 #[.pointer (some ⟨U,0,none⟩),.int .u32 n] w fun e w'=>e=.returned (.tuple #[])∧Em w w' k U x (l++[⟨15,0,0,0,0,n,x.done+1⟩]):=by
  exact goes_tu k U x l n w h hm.lt' hd
theorem goesTo_m(k:BK)(U:Nat)(x:XI)(l:List OpR)(m:Int)(v:Int)(w:World)(h:TU w k U x l)(hm:Ln l m)(hd:0≤x.done∧x.done≤64) :
    Calls Tryz.prog 74 #[.pointer (some ⟨U,0,none⟩),.int .i64 v] w fun e w'=>e=.returned (.tuple #[])∧Em w w' k U x (l++[⟨16,0,v,0,0,0,x.done+1⟩]):=by
  exact goesTo_tu k U x l v w h hm.lt' hd
theorem lay_m(k:BK)(U:Nat)(x:XI)(l:List OpR)(m:Int)(o:OpR)(w:World)(h:TU w k U x l)(hm:Ln l m) :
    Calls Tryz.prog 18 #[.agg #[.int .i64 o.kind,.int .i64 o.w,.int .i64 o.a,.int .i64 o.b,.int .i64 o.c,.int .u32 o.k,.int .i64 o.n],.pointer (some ⟨k.B,0,none⟩)] w fun e w'=>e=.returned (.int .i64 m)∧Em w w' k U x (l++[o]):=by
  rw[← hm.e]
  exact lay_tu k U x l o w h hm.lt'
theorem at_m(k:BK)(U:Nat)(x:XI)(l:List OpR)(m:Int)(w:World)(h:TU w k U x l)(hm:Ln l m)(hm3:m+40 < 90000) :
    Calls Tryz.prog 52 #[.pointer (some ⟨U,0,none⟩)] w fun e w'=>e=.returned (.int .i64 (m+1+1))∧Em w w' k U x (qa4 l m x):=by
  obtain⟨u0,u1,u2,u3,u4,u5,u6,u7,u8,u9⟩:=h.cells
  have HT:Hid _:=h
  have HM:Hid (Ln l m):=hm
  have HM1:Hid (Ln (l++[⟨2,x.S,0,0,0,0,0⟩]) (m+1)):=hm.next zo _
  have HM2:Hid (Ln (qa19 l m x) (m+1+1)):=HM1.out.next zo _
  clear h hm hm3
  go_enter Tryz.func52,Tryz.ntmps52
  go_upto_region 1 with fail
  go_region_held3 (fun W'=>W'.cell? ⟨U,0,none⟩=some (.func (Fn.func 18) #[] #[.pointer (some ⟨k.B,0,none⟩)])∧W'.cell? ⟨U,1,none⟩=some (.func (Fn.func 19) #[] #[.pointer (some ⟨k.L,0,none⟩)])∧W'.cell? ⟨U,2,none⟩=some (.int .i64 x.op)∧W'.cell? ⟨U,3,none⟩=some (.int .i64 x.D)∧W'.cell? ⟨U,4,none⟩=some (.int .i64 x.S)∧W'.cell? ⟨U,5,none⟩=some (.int .i64 x.O)∧W'.cell? ⟨U,6,none⟩=some (.int .u32 x.im)∧W'.cell? ⟨U,7,none⟩=some (.int .u32 x.pc)∧W'.cell? ⟨U,8,none⟩=some (.int .u32 x.next)∧W'.cell? ⟨U,9,none⟩=some (.int .i64 x.done)) (first|(simp[go_sem,r0,r1,r2,r3,r4,r5,r6,r7,r8,r9];done)|(simp[go_sem,q0,q1,q2,q3,q4,q5,q6,q7,q8,q9];done)|(simp[go_sem,v0,v1,v2,v3,v4,v5,v6,v7,v8,v9];done)|(simp[go_sem,u0,u1,u2,u3,u4,u5,u6,u7,u8,u9];done))
    (first
      | (go_at_call 19;refine(read_m k U x l m x.S _ ?_ HM.out).mono ?_;(have hT:=HT.out;(exact zq11));rintro e w1 ⟨rfl,h1⟩;have H1:Hid _:=h1;obtain⟨v0,v1,v2,v3,v4,v5,v6,v7,v8,v9⟩:=h1.t.cells)
      | (go_at_call 49;refine(number_m k U x _ (m+1) x.im _ H1.out.t HM1.out).mono ?_;rintro e w2 ⟨rfl,h2⟩;have H2:Hid _:=h2;obtain⟨q0,q1,q2,q3,q4,q5,q6,q7,q8,q9⟩:=h2.t.cells)
      | (go_at_call 77;refine(bin_m k U x _ (m+1+1) 0 m (m+1) _ H2.out.t HM2.out).mono ?_;rintro e w3 ⟨rfl,h3⟩;have H3:Hid _:=h3;obtain⟨r0,r1,r2,r3,r4,r5,r6,r7,r8,r9⟩:=h3.t.cells))
  go_wp2
  go_ret
  exact⟨rfl,((Em.first HT.out H1.out).trans H2.out).trans H3.out⟩
theorem TU.alw{w:World}{k:BK}{U:Nat}{x:XI}{l:List OpR}(h:TU w k U x l)(o:Obj):TU (w.alloc o) k U x l:=h.below ((Below.refl _ _).alloc (Nat.le_refl _) _)
theorem Em.firstA{w w':World}{k:BK}{U:Nat}{x:XI}{l l':List OpR}{o:Obj}(h:TU w k U x l)(g:Em (w.alloc o) w' k U x l'):Em w w' k U x l':=((Em.refl h).alloc o).trans g
theorem holds_m(k:BK)(U:Nat)(x:XI)(l:List OpR)(m:Int)(c:Int)(w:World)(h:TU w k U x l)(hm:Ln l m)(hmx:m+40 < 90000) :
    Calls Tryz.prog 73 #[.pointer (some ⟨U,0,none⟩),.int .i64 c] w fun e w'=>e=.returned (.int .i64 (m+1))∧Em w w' k U x ((l++[⟨17,0,0,0,0,0,0⟩])++[⟨8,c,m,0,0,0,0⟩]):=by
  obtain⟨u0,u1,u2,u3,u4,u5,u6,u7,u8,u9⟩:=h.cells
  have HT:Hid _:=h
  have HM0:Hid (Ln l m):=hm
  have HM1:Hid (Ln (l++[⟨17,0,0,0,0,0,0⟩]) (m+1)):=HM0.out.next zo _
  have HM2:Hid (Ln ((l++[⟨17,0,0,0,0,0,0⟩])++[⟨8,c,m,0,0,0,0⟩]) (m+1+1)):=HM1.out.next zo _
  clear h hm
  clear hmx
  go_enter Tryz.func73,Tryz.ntmps73
  go_upto_region 1 with fail
  go_region_held3 (fun W'=>W'.cell? ⟨U,0,none⟩=some (.func (Fn.func 18) #[] #[.pointer (some ⟨k.B,0,none⟩)])∧W'.cell? ⟨U,1,none⟩=some (.func (Fn.func 19) #[] #[.pointer (some ⟨k.L,0,none⟩)])∧W'.cell? ⟨U,2,none⟩=some (.int .i64 x.op)∧W'.cell? ⟨U,3,none⟩=some (.int .i64 x.D)∧W'.cell? ⟨U,4,none⟩=some (.int .i64 x.S)∧W'.cell? ⟨U,5,none⟩=some (.int .i64 x.O)∧W'.cell? ⟨U,6,none⟩=some (.int .u32 x.im)∧W'.cell? ⟨U,7,none⟩=some (.int .u32 x.pc)∧W'.cell? ⟨U,8,none⟩=some (.int .u32 x.next)∧W'.cell? ⟨U,9,none⟩=some (.int .i64 x.done)) (first|(simp[go_sem,q0,q1,q2,q3,q4,q5,q6,q7,q8,q9];done)|(simp[go_sem,v0,v1,v2,v3,v4,v5,v6,v7,v8,v9];done)|(simp[go_sem,u0,u1,u2,u3,u4,u5,u6,u7,u8,u9];done))
    (first
      | (have HQ2:=H1;go_at_call 18;refine(lay_m k U x _ (m+1) ⟨8,c,m,0,0,0,0⟩ _ H1.out.t HM1.out).mono ?_;rintro e w2 ⟨rfl,h2⟩;have H2:Hid _:=h2;obtain⟨q0,q1,q2,q3,q4,q5,q6,q7,q8,q9⟩:=h2.t.cells;clear h2 HQ2)
      | (go_at_call 76;refine(now_m k U x _ (m) _ ?_ HM0.out).mono ?_;(have hT:=HT.out;(exact zq16));rintro e w1 ⟨rfl,h1⟩;have H1:Hid _:=h1;obtain⟨v0,v1,v2,v3,v4,v5,v6,v7,v8,v9⟩:=h1.t.cells;clear h1))
  go_wp2_with fail
  go_ret
  exact⟨rfl,by first|exact((H1.out)).trans H2.out|exact((Em.first HT.out H1.out)).trans H2.out|exact((Em.firstA HT.out H1.out)).trans H2.out⟩
theorem push_m(k:BK)(U:Nat)(x:XI)(l:List OpR)(m:Int)(v:Int)(w:World)(h:TU w k U x l)(hm:Ln l m)(hmx:m+40 < 90000) :
    Calls Tryz.prog 75 #[.pointer (some ⟨U,0,none⟩),.int .i64 v] w fun e w'=>e=.returned (.tuple #[])∧Em w w' k U x (((((l++[⟨2,7,0,0,0,0,0⟩])++[⟨1,0,0,0,0,4,0⟩])++[⟨4,1,m,m+1,0,0,0⟩])++[⟨10,2,m+1+1,v,0,x.pc,x.done⟩])++[⟨3,7,m+1+1,0,0,0,0⟩]):=by
  obtain⟨u0,u1,u2,u3,u4,u5,u6,u7,u8,u9⟩:=h.cells
  have HT:Hid _:=h
  have HM0:Hid (Ln l m):=hm
  have HM1:Hid (Ln (l++[⟨2,7,0,0,0,0,0⟩]) (m+1)):=HM0.out.next zo _
  have HM2:Hid (Ln ((l++[⟨2,7,0,0,0,0,0⟩])++[⟨1,0,0,0,0,4,0⟩]) (m+1+1)):=HM1.out.next zo _
  have HM3:Hid (Ln (((l++[⟨2,7,0,0,0,0,0⟩])++[⟨1,0,0,0,0,4,0⟩])++[⟨4,1,m,m+1,0,0,0⟩]) (m+1+1+1)):=HM2.out.next zo _
  have HM4:Hid (Ln ((((l++[⟨2,7,0,0,0,0,0⟩])++[⟨1,0,0,0,0,4,0⟩])++[⟨4,1,m,m+1,0,0,0⟩])++[⟨10,2,m+1+1,v,0,x.pc,x.done⟩]) (m+1+1+1+1)):=HM3.out.next zo _
  have HM5:Hid (Ln (((((l++[⟨2,7,0,0,0,0,0⟩])++[⟨1,0,0,0,0,4,0⟩])++[⟨4,1,m,m+1,0,0,0⟩])++[⟨10,2,m+1+1,v,0,x.pc,x.done⟩])++[⟨3,7,m+1+1,0,0,0,0⟩]) (m+1+1+1+1+1)):=HM4.out.next zo _
  clear h hm
  clear hmx
  go_enter Tryz.func75,Tryz.ntmps75
  go_wp2_with (first
      | (have HQ5:=H4;go_at_call 50;refine(put_m k U x _ (m+1+1+1+1) 7 (m+1+1) _ H4.out.t HM4.out).mono ?_;rintro e w5 ⟨rfl,h5⟩;have H5:Hid _:=h5;obtain⟨t0,t1,t2,t3,t4,t5,t6,t7,t8,t9⟩:=h5.t.cells;clear h5 HQ5)
      | (have HQ4:=H3;go_at_call 53;refine(store_m k U x _ (m+1+1+1) 2 (m+1+1) (v) _ H3.out.t HM3.out).mono ?_;rintro e w4 ⟨rfl,h4⟩;have H4:Hid _:=h4;obtain⟨s0,s1,s2,s3,s4,s5,s6,s7,s8,s9⟩:=h4.t.cells;clear h4 HQ4)
      | (have HQ3:=H2;go_at_call 77;refine(bin_m k U x _ (m+1+1) 1 (m) (m+1) _ H2.out.t HM2.out).mono ?_;rintro e w3 ⟨rfl,h3⟩;have H3:Hid _:=h3;obtain⟨r0,r1,r2,r3,r4,r5,r6,r7,r8,r9⟩:=h3.t.cells;clear h3 HQ3)
      | (have HQ2:=H1;go_at_call 49;refine(number_m k U x _ (m+1) 4 _ H1.out.t HM1.out).mono ?_;rintro e w2 ⟨rfl,h2⟩;have H2:Hid _:=h2;obtain⟨q0,q1,q2,q3,q4,q5,q6,q7,q8,q9⟩:=h2.t.cells;clear h2 HQ2)
      | (go_at_call 19;refine(read_m k U x _ (m) 7 _ ?_ HM0.out).mono ?_;(have hT:=HT.out;(exact zq16));rintro e w1 ⟨rfl,h1⟩;have H1:Hid _:=h1;obtain⟨v0,v1,v2,v3,v4,v5,v6,v7,v8,v9⟩:=h1.t.cells;clear h1))
  go_end0
  exact⟨rfl,by first|exact(((((H1.out)).trans H2.out).trans H3.out).trans H4.out).trans H5.out|exact(((((Em.first HT.out H1.out)).trans H2.out).trans H3.out).trans H4.out).trans H5.out|exact(((((Em.firstA HT.out H1.out)).trans H2.out).trans H3.out).trans H4.out).trans H5.out⟩
theorem pops15(k:BK)(U:Nat)(x:XI)(l:List OpR)(m:Int)  (w:World)(h:TU w k U x l)(hm:Ln l m)(hmx:m+40 < 90000)(hd:0≤x.done∧x.done≤64)(hop:x.op=15) :
    Calls Tryz.prog 47 #[.pointer (some ⟨U,0,none⟩)] w fun e w'=>e=.returned (.tuple #[])∧Em w w' k U x ((qa3 l m x)++[⟨3,x.D,m+1,0,0,0,0⟩]):=by
  obtain⟨u0,u1,u2,u3,u4,u5,u6,u7,u8,u9⟩:=h.cells
  have HDN:Hid _:=hd
  have k15:(x.op==15)=true:=by simp[hop]
  clear hop
  have HT:Hid _:=h
  have HM0:Hid (Ln l m):=hm
  have HM1:Hid (Ln (l++[⟨2,7,0,0,0,0,0⟩]) (m+1)):=HM0.out.next zo _
  have HM2:Hid (Ln (qa16 l m x) (m+1+1)):=HM1.out.next zo _
  have HM3:Hid (Ln ((qa16 l m x)++[⟨1,0,0,0,0,4,0⟩]) (m+1+1+1)):=HM2.out.next zo _
  have HM4:Hid (Ln (qa33 l m x) (m+1+1+1+1)):=HM3.out.next zo _
  have HM5:Hid (Ln (qa3 l m x) (m+1+1+1+1+1)):=HM4.out.next zo _
  have HM6:Hid (Ln ((qa3 l m x)++[⟨3,x.D,m+1,0,0,0,0⟩]) (m+1+1+1+1+1+1)):=HM5.out.next zo _
  clear h hm
  clear hmx
  go_enter Tryz.func47,Tryz.ntmps47
  go_wp2_with (first
      | (have HQ6:=H5;go_at_call 50;refine(put_m k U x _ (m+1+1+1+1+1) x.D (m+1) _ H5.out.t HM5.out).mono ?_;rintro e w6 ⟨rfl,h6⟩;have H6:Hid _:=h6;obtain⟨y0,y1,y2,y3,y4,y5,y6,y7,y8,y9⟩:=h6.t.cells;clear h6 HQ6)
      | (have HQ5:=H4;go_at_call 50;refine(put_m k U x _ (m+1+1+1+1) 7 (m+1+1+1) _ H4.out.t HM4.out).mono ?_;rintro e w5 ⟨rfl,h5⟩;have H5:Hid _:=h5;obtain⟨t0,t1,t2,t3,t4,t5,t6,t7,t8,t9⟩:=h5.t.cells;clear h5 HQ5)
      | (have HQ4:=H3;go_at_call 77;refine(bin_m k U x _ (m+1+1+1) 0 (m) (m+1+1) _ H3.out.t HM3.out).mono ?_;rintro e w4 ⟨rfl,h4⟩;have H4:Hid _:=h4;obtain⟨s0,s1,s2,s3,s4,s5,s6,s7,s8,s9⟩:=h4.t.cells;clear h4 HQ4)
      | (have HQ3:=H2;go_at_call 49;refine(number_m k U x _ (m+1+1) 4 _ H2.out.t HM2.out).mono ?_;rintro e w3 ⟨rfl,h3⟩;have H3:Hid _:=h3;obtain⟨r0,r1,r2,r3,r4,r5,r6,r7,r8,r9⟩:=h3.t.cells;clear h3 HQ3)
      | (have HQ2:=H1;go_at_call 51;refine(load_m k U x _ (m+1) 4 (m) _ H1.out.t HM1.out).mono ?_;rintro e w2 ⟨rfl,h2⟩;have H2:Hid _:=h2;obtain⟨q0,q1,q2,q3,q4,q5,q6,q7,q8,q9⟩:=h2.t.cells;clear h2 HQ2)
      | (go_at_call 19;refine(read_m k U x _ (m) 7 _ ?_ HM0.out).mono ?_;(have hT:=HT.out;(exact zq16));rintro e w1 ⟨rfl,h1⟩;have H1:Hid _:=h1;obtain⟨v0,v1,v2,v3,v4,v5,v6,v7,v8,v9⟩:=h1.t.cells;clear h1))
  go_end0
  exact⟨rfl,by first|exact((((((H1.out)).trans H2.out).trans H3.out).trans H4.out).trans H5.out).trans H6.out|exact((((((Em.first HT.out H1.out)).trans H2.out).trans H3.out).trans H4.out).trans H5.out).trans H6.out|exact((((((Em.firstA HT.out H1.out)).trans H2.out).trans H3.out).trans H4.out).trans H5.out).trans H6.out⟩
theorem pops4(k:BK)(U:Nat)(x:XI)(l:List OpR)(m:Int)  (w:World)(h:TU w k U x l)(hm:Ln l m)(hmx:m+40 < 90000)(hd:0≤x.done∧x.done≤64)(hop:x.op=4) :
    Calls Tryz.prog 47 #[.pointer (some ⟨U,0,none⟩)] w fun e w'=>e=.returned (.tuple #[])∧Em w w' k U x ((qa24 l m x)++[⟨3,11,m+1,0,0,0,0⟩]):=by
  obtain⟨u0,u1,u2,u3,u4,u5,u6,u7,u8,u9⟩:=h.cells
  have HDN:Hid _:=hd
  have k15:(x.op==15)=false:=by simp[hop]
  have k4:(x.op==4)=true:=by simp[hop]
  clear hop
  have HT:Hid _:=h
  have HM0:Hid (Ln l m):=hm
  have HM1:Hid (Ln (l++[⟨2,7,0,0,0,0,0⟩]) (m+1)):=HM0.out.next zo _
  have HM2:Hid (Ln (qa16 l m x) (m+1+1)):=HM1.out.next zo _
  have HM3:Hid (Ln ((qa16 l m x)++[⟨1,0,0,0,0,4,0⟩]) (m+1+1+1)):=HM2.out.next zo _
  have HM4:Hid (Ln (qa33 l m x) (m+1+1+1+1)):=HM3.out.next zo _
  have HM5:Hid (Ln (qa3 l m x) (m+1+1+1+1+1)):=HM4.out.next zo _
  have HM6:Hid (Ln ((qa3 l m x)++[⟨1,0,0,0,0,0,0⟩]) (m+1+1+1+1+1+1)):=HM5.out.next zo _
  have HM7:Hid (Ln (qa24 l m x) (m+1+1+1+1+1+1+1)):=HM6.out.next zo _
  have HM8:Hid (Ln ((qa24 l m x)++[⟨3,11,m+1,0,0,0,0⟩]) (m+1+1+1+1+1+1+1+1)):=HM7.out.next zo _
  clear h hm
  clear hmx
  go_enter Tryz.func47,Tryz.ntmps47
  go_wp2_with (first
      | (have HQ8:=H7;go_at_call 50;refine(put_m k U x _ (m+1+1+1+1+1+1+1) 11 (m+1) _ H7.out.t HM7.out).mono ?_;rintro e w8 ⟨rfl,h8⟩;have H8:Hid _:=h8;obtain⟨a0,a1,a2,a3,a4,a5,a6,a7,a8,a9⟩:=h8.t.cells;clear h8 HQ8)
      | (have HQ7:=H6;go_at_call 50;refine(put_m k U x _ (m+1+1+1+1+1+1) 8 (m+1+1+1+1+1) _ H6.out.t HM6.out).mono ?_;rintro e w7 ⟨rfl,h7⟩;have H7:Hid _:=h7;obtain⟨z0,z1,z2,z3,z4,z5,z6,z7,z8,z9⟩:=h7.t.cells;clear h7 HQ7)
      | (have HQ6:=H5;go_at_call 49;refine(number_m k U x _ (m+1+1+1+1+1) 0 _ H5.out.t HM5.out).mono ?_;rintro e w6 ⟨rfl,h6⟩;have H6:Hid _:=h6;obtain⟨y0,y1,y2,y3,y4,y5,y6,y7,y8,y9⟩:=h6.t.cells;clear h6 HQ6)
      | (have HQ5:=H4;go_at_call 50;refine(put_m k U x _ (m+1+1+1+1) 7 (m+1+1+1) _ H4.out.t HM4.out).mono ?_;rintro e w5 ⟨rfl,h5⟩;have H5:Hid _:=h5;obtain⟨t0,t1,t2,t3,t4,t5,t6,t7,t8,t9⟩:=h5.t.cells;clear h5 HQ5)
      | (have HQ4:=H3;go_at_call 77;refine(bin_m k U x _ (m+1+1+1) 0 (m) (m+1+1) _ H3.out.t HM3.out).mono ?_;rintro e w4 ⟨rfl,h4⟩;have H4:Hid _:=h4;obtain⟨s0,s1,s2,s3,s4,s5,s6,s7,s8,s9⟩:=h4.t.cells;clear h4 HQ4)
      | (have HQ3:=H2;go_at_call 49;refine(number_m k U x _ (m+1+1) 4 _ H2.out.t HM2.out).mono ?_;rintro e w3 ⟨rfl,h3⟩;have H3:Hid _:=h3;obtain⟨r0,r1,r2,r3,r4,r5,r6,r7,r8,r9⟩:=h3.t.cells;clear h3 HQ3)
      | (have HQ2:=H1;go_at_call 51;refine(load_m k U x _ (m+1) 4 (m) _ H1.out.t HM1.out).mono ?_;rintro e w2 ⟨rfl,h2⟩;have H2:Hid _:=h2;obtain⟨q0,q1,q2,q3,q4,q5,q6,q7,q8,q9⟩:=h2.t.cells;clear h2 HQ2)
      | (go_at_call 19;refine(read_m k U x _ (m) 7 _ ?_ HM0.out).mono ?_;(have hT:=HT.out;(exact zq16));rintro e w1 ⟨rfl,h1⟩;have H1:Hid _:=h1;obtain⟨v0,v1,v2,v3,v4,v5,v6,v7,v8,v9⟩:=h1.t.cells;clear h1))
  go_end0
  exact⟨rfl,by first|exact((((((((H1.out)).trans H2.out).trans H3.out).trans H4.out).trans H5.out).trans H6.out).trans H7.out).trans H8.out|exact((((((((Em.first HT.out H1.out)).trans H2.out).trans H3.out).trans H4.out).trans H5.out).trans H6.out).trans H7.out).trans H8.out|exact((((((((Em.firstA HT.out H1.out)).trans H2.out).trans H3.out).trans H4.out).trans H5.out).trans H6.out).trans H7.out).trans H8.out⟩
theorem pops2(k:BK)(U:Nat)(x:XI)(l:List OpR)(m:Int)  (w:World)(h:TU w k U x l)(hm:Ln l m)(hmx:m+40 < 90000)(hd:0≤x.done∧x.done≤64)(hop:x.op=2) :
    Calls Tryz.prog 47 #[.pointer (some ⟨U,0,none⟩)] w fun e w'=>e=.returned (.tuple #[])∧Em w w' k U x ((qa3 l m x)++[⟨16,0,m+1,0,0,0,x.done+1⟩]):=by
  obtain⟨u0,u1,u2,u3,u4,u5,u6,u7,u8,u9⟩:=h.cells
  have HDN:Hid _:=hd
  have k15:(x.op==15)=false:=by simp[hop]
  have k4:(x.op==4)=false:=by simp[hop]
  have k2:(x.op==2)=true:=by simp[hop]
  clear hop
  have HT:Hid _:=h
  have HM0:Hid (Ln l m):=hm
  have HM1:Hid (Ln (l++[⟨2,7,0,0,0,0,0⟩]) (m+1)):=HM0.out.next zo _
  have HM2:Hid (Ln (qa16 l m x) (m+1+1)):=HM1.out.next zo _
  have HM3:Hid (Ln ((qa16 l m x)++[⟨1,0,0,0,0,4,0⟩]) (m+1+1+1)):=HM2.out.next zo _
  have HM4:Hid (Ln (qa33 l m x) (m+1+1+1+1)):=HM3.out.next zo _
  have HM5:Hid (Ln (qa3 l m x) (m+1+1+1+1+1)):=HM4.out.next zo _
  have HM6:Hid (Ln ((qa3 l m x)++[⟨16,0,m+1,0,0,0,x.done+1⟩]) (m+1+1+1+1+1+1)):=HM5.out.next zo _
  clear h hm
  clear hmx
  go_enter Tryz.func47,Tryz.ntmps47
  go_wp2_with (first
      | (have HQ6:=H5;go_at_call 74;refine(goesTo_m k U x _ (m+1+1+1+1+1) (m+1) _ H5.out.t HM5.out HDN.out).mono ?_;rintro e w6 ⟨rfl,h6⟩;have H6:Hid _:=h6;obtain⟨y0,y1,y2,y3,y4,y5,y6,y7,y8,y9⟩:=h6.t.cells;clear h6 HQ6)
      | (have HQ5:=H4;go_at_call 50;refine(put_m k U x _ (m+1+1+1+1) 7 (m+1+1+1) _ H4.out.t HM4.out).mono ?_;rintro e w5 ⟨rfl,h5⟩;have H5:Hid _:=h5;obtain⟨t0,t1,t2,t3,t4,t5,t6,t7,t8,t9⟩:=h5.t.cells;clear h5 HQ5)
      | (have HQ4:=H3;go_at_call 77;refine(bin_m k U x _ (m+1+1+1) 0 (m) (m+1+1) _ H3.out.t HM3.out).mono ?_;rintro e w4 ⟨rfl,h4⟩;have H4:Hid _:=h4;obtain⟨s0,s1,s2,s3,s4,s5,s6,s7,s8,s9⟩:=h4.t.cells;clear h4 HQ4)
      | (have HQ3:=H2;go_at_call 49;refine(number_m k U x _ (m+1+1) 4 _ H2.out.t HM2.out).mono ?_;rintro e w3 ⟨rfl,h3⟩;have H3:Hid _:=h3;obtain⟨r0,r1,r2,r3,r4,r5,r6,r7,r8,r9⟩:=h3.t.cells;clear h3 HQ3)
      | (have HQ2:=H1;go_at_call 51;refine(load_m k U x _ (m+1) 4 (m) _ H1.out.t HM1.out).mono ?_;rintro e w2 ⟨rfl,h2⟩;have H2:Hid _:=h2;obtain⟨q0,q1,q2,q3,q4,q5,q6,q7,q8,q9⟩:=h2.t.cells;clear h2 HQ2)
      | (go_at_call 19;refine(read_m k U x _ (m) 7 _ ?_ HM0.out).mono ?_;(have hT:=HT.out;(exact zq16));rintro e w1 ⟨rfl,h1⟩;have H1:Hid _:=h1;obtain⟨v0,v1,v2,v3,v4,v5,v6,v7,v8,v9⟩:=h1.t.cells;clear h1))
  go_end0
  exact⟨rfl,by first|exact((((((H1.out)).trans H2.out).trans H3.out).trans H4.out).trans H5.out).trans H6.out|exact((((((Em.first HT.out H1.out)).trans H2.out).trans H3.out).trans H4.out).trans H5.out).trans H6.out|exact((((((Em.firstA HT.out H1.out)).trans H2.out).trans H3.out).trans H4.out).trans H5.out).trans H6.out⟩
end Go.Proofs.YtfokgedjocnnmaaGreat
