import Derived.Test.YtfokgedjocnnmaaGreatJ29
set_option linter.unusedVariables false
set_option linter.unusedSimpArgs false
set_option maxHeartbeats 1000000
namespace Go.Proofs.YtfokgedjocnnmaaGreat
open Go.RowKit
set_option maxRecDepth 100000
structure XI where
 op:Int
 D:Int
 S:Int
 O:Int
 im:Nat
 pc:Nat
 next:Nat
 done:Int
theorem hpx(w:World)(x:XI):Hid ((w.alloc (.cells #[.int .i64 x.op,.int .i64 x.D,.int .i64 x.S,.int .i64 x.O,.int .u32 x.im] 58)).heap[w.heap.size]?=some (.cells #[.int .i64 x.op,.int .i64 x.D,.int .i64 x.S,.int .i64 x.O,.int .u32 x.im] 58)):=heap_alloc_last w _
abbrev hx(W w:World)(x:XI):Prop:=W.heap[w.heap.size]?=some (.cells #[.int .i64 x.op,.int .i64 x.D,.int .i64 x.S,.int .i64 x.O,.int .u32 x.im] 58)
abbrev qa0(l:List OpR)(m:Int)(x:XI):List OpR:=(((l++[⟨2,x.S,0,0,0,0,0⟩])++[⟨1,0,0,0,0,x.im,0⟩])++[⟨4,0,m,m+1,0,0,0⟩])++[⟨9,4,m+1+1,0,0,x.pc,x.done⟩]
abbrev qa1(l:List OpR)(m:Int)(x:XI):List OpR:=(((((qa0 l m x)++[⟨2,x.D,0,0,0,0,0⟩])++[⟨2,0,0,0,0,0,0⟩])++[⟨4,13,m+1+1+1+1+1,m+1+1+1,0,0,0⟩])++[⟨6,0,m+1+1+1+1+1+1,m+1+1+1+1,m+1+1+1,0,0⟩])++[⟨10,2,m+1+1,m+1+1+1+1+1+1+1,0,x.pc,x.done⟩]
abbrev qa2(l:List OpR)(m:Int)(x:XI):List OpR:=((l++[⟨2,x.D,0,0,0,0,0⟩])++[⟨1,0,0,0,0,1,0⟩])++[⟨17,0,0,0,0,0,0⟩]
abbrev qa3(l:List OpR)(m:Int)(x:XI):List OpR:=((((l++[⟨2,7,0,0,0,0,0⟩])++[⟨9,4,m,0,0,x.pc,x.done⟩])++[⟨1,0,0,0,0,4,0⟩])++[⟨4,0,m,m+1+1,0,0,0⟩])++[⟨3,7,m+1+1+1,0,0,0,0⟩]
abbrev qa4(l:List OpR)(m:Int)(x:XI):List OpR:=((l++[⟨2,x.S,0,0,0,0,0⟩])++[⟨1,0,0,0,0,x.im,0⟩])++[⟨4,0,m,m+1,0,0,0⟩]
abbrev qa5(l:List OpR)(m:Int)(x:XI):List OpR:=((((((qa0 l m x)++[⟨2,x.D,0,0,0,0,0⟩])++[⟨4,0,m+1+1+1,m+1+1+1+1,0,0,0⟩])++[⟨10,2,m+1+1,m+1+1+1+1+1,0,x.pc,x.done⟩])++[⟨3,x.D,m+1+1+1,0,0,0,0⟩])++[⟨1,0,0,0,0,1,0⟩])++[⟨3,8,m+1+1+1+1+1+1+1+1,0,0,0,0⟩]
abbrev qa6(l:List OpR)(m:Int)(x:XI):List OpR:=(((((l++[⟨2,x.S,0,0,0,0,0⟩])++[⟨1,0,0,0,0,x.next,0⟩])++[⟨2,7,0,0,0,0,0⟩])++[⟨1,0,0,0,0,4,0⟩])++[⟨4,1,m+1+1,m+1+1+1,0,0,0⟩])++[⟨10,2,m+1+1+1+1,m+1,0,x.pc,x.done⟩]
abbrev qa7(l:List OpR)(m:Int)(x:XI):List OpR:=(((((l++[⟨1,0,0,0,0,0,0⟩])++[⟨2,x.D,0,0,0,0,0⟩])++[⟨4,1,m,m+1,0,0,0⟩])++[⟨3,x.D,m+1+1,0,0,0,0⟩])++[⟨1,0,0,0,0,3,0⟩])++[⟨3,8,m+1+1+1+1,0,0,0,0⟩]
abbrev qa8(l:List OpR)(m:Int)(x:XI):List OpR:=((((l++[⟨1,0,0,0,0,x.next,0⟩])++[⟨2,7,0,0,0,0,0⟩])++[⟨1,0,0,0,0,4,0⟩])++[⟨4,1,m+1,m+1+1,0,0,0⟩])++[⟨10,2,m+1+1+1,m,0,x.pc,x.done⟩]
abbrev qa9(l:List OpR)(m:Int)(x:XI):List OpR:=((((l++[⟨2,x.S,0,0,0,0,0⟩])++[⟨2,7,0,0,0,0,0⟩])++[⟨1,0,0,0,0,4,0⟩])++[⟨4,1,m+1,m+1+1,0,0,0⟩])++[⟨10,2,m+1+1+1,m,0,x.pc,x.done⟩]
abbrev qa10(l:List OpR)(m:Int)(x:XI):List OpR:=((((l++[⟨17,0,0,0,0,0,0⟩])++[⟨2,7,0,0,0,0,0⟩])++[⟨1,0,0,0,0,4,0⟩])++[⟨4,1,m+1,m+1+1,0,0,0⟩])++[⟨10,2,m+1+1+1,m,0,x.pc,x.done⟩]
abbrev qa11(l:List OpR)(m:Int)(x:XI):List OpR:=((((qa2 l m x)++[⟨4,0,m,m+1,0,0,0⟩])++[⟨3,x.D,m+1+1+1,0,0,0,0⟩])++[⟨1,0,0,0,0,11,0⟩])++[⟨3,8,m+1+1+1+1+1,0,0,0,0⟩]
abbrev qa12(l:List OpR)(m:Int)(x:XI):List OpR:=((((qa2 l m x)++[⟨4,1,m,m+1,0,0,0⟩])++[⟨3,x.D,m+1+1+1,0,0,0,0⟩])++[⟨1,0,0,0,0,12,0⟩])++[⟨3,8,m+1+1+1+1+1,0,0,0,0⟩]
abbrev qa13(l:List OpR)(m:Int)(x:XI):List OpR:=((((qa1 l m x)++[⟨3,0,m+1+1+1,0,0,0,0⟩])++[⟨1,0,0,0,0,3,0⟩])++[⟨3,8,m+1+1+1+1+1+1+1+1+1+1,0,0,0,0⟩])++[⟨3,9,m+1+1+1+1+1,0,0,0,0⟩]
abbrev qa14(l:List OpR)(m:Int)(x:XI):List OpR:=(l++[⟨17,0,0,0,0,0,0⟩])++[⟨8,x.O,m,0,0,0,0⟩]
abbrev qa15(l:List OpR)(m:Int)(x:XI):List OpR:=(qa0 l m x)++[⟨2,x.D,0,0,0,0,0⟩]
abbrev qa16(l:List OpR)(m:Int)(x:XI):List OpR:=(l++[⟨2,7,0,0,0,0,0⟩])++[⟨9,4,m,0,0,x.pc,x.done⟩]
abbrev qa17(l:List OpR)(m:Int)(x:XI):List OpR:=((qa15 l m x)++[⟨4,0,m+1+1+1,m+1+1+1+1,0,0,0⟩])++[⟨10,2,m+1+1,m+1+1+1+1+1,0,x.pc,x.done⟩]
abbrev qa18(l:List OpR)(m:Int)(x:XI):List OpR:=((qa15 l m x)++[⟨10,2,m+1+1,m+1+1+1+1,0,x.pc,x.done⟩])++[⟨3,x.D,m+1+1+1,0,0,0,0⟩]
abbrev qa19(l:List OpR)(m:Int)(x:XI):List OpR:=(l++[⟨2,x.S,0,0,0,0,0⟩])++[⟨1,0,0,0,0,x.im,0⟩]
abbrev qa20(l:List OpR)(m:Int)(x:XI):List OpR:=((l++[⟨1,0,0,0,0,0,0⟩])++[⟨2,x.D,0,0,0,0,0⟩])++[⟨4,1,m,m+1,0,0,0⟩]
abbrev qa21(l:List OpR)(m:Int)(x:XI):List OpR:=((qa5 l m x)++[⟨3,9,m+1+1+1,0,0,0,0⟩])++[⟨3,10,m+1+1+1+1,0,0,0,0⟩]
abbrev qa22(l:List OpR)(m:Int)(x:XI):List OpR:=(((qa11 l m x)++[⟨3,9,m,0,0,0,0⟩])++[⟨3,10,m+1,0,0,0,0⟩])++[⟨3,11,m+1+1,0,0,0,0⟩]
abbrev qa23(l:List OpR)(m:Int)(x:XI):List OpR:=(((qa12 l m x)++[⟨3,9,m,0,0,0,0⟩])++[⟨3,10,m+1,0,0,0,0⟩])++[⟨3,11,m+1+1,0,0,0,0⟩]
abbrev qa24(l:List OpR)(m:Int)(x:XI):List OpR:=((qa3 l m x)++[⟨1,0,0,0,0,0,0⟩])++[⟨3,8,m+1+1+1+1+1,0,0,0,0⟩]
abbrev qa25(l:List OpR)(m:Int)(x:XI):List OpR:=((qa15 l m x)++[⟨2,0,0,0,0,0,0⟩])++[⟨4,13,m+1+1+1+1+1,m+1+1+1,0,0,0⟩]
abbrev qa26(l:List OpR)(m:Int)(x:XI):List OpR:=(l++[⟨2,x.S,0,0,0,0,0⟩])++[⟨1,0,0,0,0,x.next,0⟩]
abbrev qa27(l:List OpR)(m:Int)(x:XI):List OpR:=((l++[⟨2,x.D,0,0,0,0,0⟩])++[⟨5,0,m,0,0,0,0⟩])++[⟨3,x.D,m+1,0,0,0,0⟩]
abbrev qa28(l:List OpR)(m:Int)(x:XI):List OpR:=((qa10 l m x)++[⟨3,7,m+1+1+1,0,0,0,0⟩])++[⟨11,0,0,0,0,x.next,x.done+1⟩]
abbrev qa29(l:List OpR)(m:Int)(x:XI):List OpR:=((qa9 l m x)++[⟨3,7,m+1+1+1,0,0,0,0⟩])++[⟨11,0,0,0,0,x.next,x.done+1⟩]
abbrev qa30(l:List OpR)(m:Int)(x:XI):List OpR:=((qa6 l m x)++[⟨3,7,m+1+1+1+1,0,0,0,0⟩])++[⟨16,0,m,0,0,0,x.done+1⟩]
abbrev qa31(l:List OpR)(m:Int)(x:XI):List OpR:=((qa4 l m x)++[⟨2,x.D,0,0,0,0,0⟩])++[⟨10,x.O,m+1+1,m+1+1+1,0,x.pc,x.done⟩]
abbrev qa32(l:List OpR)(m:Int)(x:XI):List OpR:=(((l++[⟨2,x.D,0,0,0,0,0⟩])++[⟨1,0,0,0,0,3,0⟩])++[⟨3,8,m+1,0,0,0,0⟩])++[⟨3,9,m,0,0,0,0⟩]
abbrev qa33(l:List OpR)(m:Int)(x:XI):List OpR:=((qa16 l m x)++[⟨1,0,0,0,0,4,0⟩])++[⟨4,0,m,m+1+1,0,0,0⟩]
abbrev qa34(l:List OpR)(m:Int)(x:XI):List OpR:=((qa7 l m x)++[⟨3,9,m,0,0,0,0⟩])++[⟨3,10,m+1,0,0,0,0⟩]
abbrev qa35(l:List OpR)(m:Int)(x:XI):List OpR:=(qa8 l m x)++[⟨3,7,m+1+1+1,0,0,0,0⟩]
structure BK where
 base:Nat
 B:Nat
 L:Nat
 pc:Nat
 count:Int
 bytes:Int
structure LBx(w:World)(k:BK)(l:List OpR):Prop where
 ex:∃ sv,LB w k.base k.B k.pc k.count k.bytes sv l
structure TU(w:World)(k:BK)(U:Nat)(x:XI)(l:List OpR):Prop where
 lb:LBx w k l
 bL:w.heap[k.L]?=some (.cells #[.func (Fn.func 18) #[] #[.pointer (some ⟨k.B,0,none⟩)]] 55)
 bU:w.heap[U]?=some (.cells #[.func (Fn.func 18) #[] #[.pointer (some ⟨k.B,0,none⟩)],.func (Fn.func 19) #[] #[.pointer (some ⟨k.L,0,none⟩)],.int .i64 x.op,.int .i64 x.D,.int .i64 x.S,.int .i64 x.O,.int .u32 x.im,.int .u32 x.pc,.int .u32 x.next,.int .i64 x.done] 62)
 hb:k.base≤k.B
 hw:k.base≤w.heap.size
 nL:k.L≠k.B
 nU:U≠k.B
theorem TU.next{w w':World}{k:BK}{U:Nat}{x:XI}{l l':List OpR}(h:TU w k U x l)(h1:LBx w' k l')(h2:Kp k.B w w'):TU w' k U x l':=
 ⟨h1,h2.keep _ _ _ h.bL h.nL (by decide),h2.keep _ _ _ h.bU h.nU (by decide),h.hb,Nat.le_trans h.hw h2.size,h.nL,h.nU⟩
theorem LBx.below{w w':World}{k:BK}{l:List OpR}(h:LBx w k l)(b:Below w.heap.size w w'):LBx w' k l:=by
 obtain⟨sv,hs⟩:=h.ex
 exact⟨sv,hs.below b⟩
theorem TU.below{w w':World}{k:BK}{U:Nat}{x:XI}{l:List OpR}(h:TU w k U x l)(b:Below w.heap.size w w'):TU w' k U x l:=h.next (h.lb.below b) (Kp.of_below b)
structure Em(w w':World)(k:BK)(U:Nat)(x:XI)(l:List OpR):Prop where
 t:TU w' k U x l
 kp:Kp k.B w w'
 bel:Below k.base w w'
theorem Em.trans{a b c:World}{k:BK}{U:Nat}{x:XI}{l l':List OpR}(h:Em a b k U x l)(g:Em b c k U x l'):Em a c k U x l':=⟨g.t,h.kp.trans g.kp,h.bel.trans g.bel⟩
theorem Em.refl{w:World}{k:BK}{U:Nat}{x:XI}{l:List OpR}(h:TU w k U x l):Em w w k U x l:=⟨h,Kp.refl _ _,Below.refl _ _⟩
theorem Em.below{a b c:World}{k:BK}{U:Nat}{x:XI}{l:List OpR}(h:Em a b k U x l)(g:Below b.heap.size b c):Em a c k U x l:=h.trans ⟨h.t.below g,Kp.of_below g,g.mono h.t.hw⟩
theorem Em.drew{a b:World}{k:BK}{U:Nat}{x:XI}{l:List OpR}(h:Em a b k U x l):Em a b.drew k U x l:=h.below (Below.refl _ _).drew
theorem Em.alloc{a b:World}{k:BK}{U:Nat}{x:XI}{l:List OpR}(h:Em a b k U x l)(o:Obj):Em a (b.alloc o) k U x l:=h.below ((Below.refl _ _).alloc (Nat.le_refl _) _)
theorem lay_tu(k:BK)(U:Nat)(x:XI)(l:List OpR)(o:OpR)(w:World)(h:TU w k U x l)(hl:l.length < 100000) :
  Calls Tryz.prog 18 #[.agg #[.int .i64 o.kind,.int .i64 o.w,.int .i64 o.a,.int .i64 o.b,.int .i64 o.c,.int .u32 o.k,.int .i64 o.n],.pointer (some ⟨k.B,0,none⟩)] w fun e w'=>e=.returned (.int .i64 l.length)∧Em w w' k U x (l++[o]):=by
 obtain⟨sv,hs⟩:=h.lb.ex
 refine(lay_any k.base k.B k.pc k.count k.bytes sv l o w hs hl h.hb h.hw).mono ?_
 rintro e w' ⟨rfl,h1,h2,h3⟩
 exact⟨rfl,h.next ⟨h1⟩ h2,h2,h3⟩
theorem read_tu(k:BK)(U:Nat)(x:XI)(l:List OpR)(slot:Int)(w:World)(h:TU w k U x l)(hl:l.length < 100000) :
  Calls Tryz.prog 19 #[.int .i64 slot,.pointer (some ⟨k.L,0,none⟩)] w fun e w'=>e=.returned (.int .i64 l.length)∧Em w w' k U x (l++[⟨2,slot,0,0,0,0,0⟩]):=by
 have c0:w.cell? ⟨k.L,0,none⟩=some (.func (Fn.func 18) #[] #[.pointer (some ⟨k.B,0,none⟩)]):=row_cell h.bL 0
 have HT:Hid _:=h
 have HL:Hid _:=hl
 clear h hl
 go_enter Tryz.func19,Tryz.ntmps19
 go_wp2_with (go_at_call 18;refine(lay_tu k U x l ⟨2,slot,0,0,0,0,0⟩ _ HT.out HL.out).mono ?_;rintro e w1 ⟨rfl,h1⟩)
 go_ret
 exact⟨rfl,h1⟩
theorem wrap_done(d:Int)(h0:0≤d)(h1:d≤64):IntKind.i64.wrap (d+1)=d+1:=IntWalk.i64_in _ zo
theorem TU.drw{w:World}{k:BK}{U:Nat}{x:XI}{l:List OpR}(h:TU w k U x l):TU w.drew k U x l:=h.below (Below.refl _ _).drew
theorem Em.first{w w':World}{k:BK}{U:Nat}{x:XI}{l l':List OpR}(h:TU w k U x l)(g:Em w.drew w' k U x l'):Em w w' k U x l':=(Em.refl h).drew.trans g
theorem number_tu(k:BK)(U:Nat)(x:XI)(l:List OpR)(n:Nat)(w:World)(h:TU w k U x l)(hl:l.length < 100000) :
  Calls Tryz.prog 49 #[.pointer (some ⟨U,0,none⟩),.int .u32 n] w fun e w'=>e=.returned (.int .i64 l.length)∧Em w w' k U x (l++[⟨1,0,0,0,0,n,0⟩]):=by
 have u0:w.cell? ⟨U,0,none⟩=some (.func (Fn.func 18) #[] #[.pointer (some ⟨k.B,0,none⟩)]):=row_cell h.bU 0
 have u1:w.cell? ⟨U,1,none⟩=some (.func (Fn.func 19) #[] #[.pointer (some ⟨k.L,0,none⟩)]):=row_cell h.bU 1
 have u2:w.cell? ⟨U,2,none⟩=some (.int .i64 x.op):=row_cell h.bU 2
 have u3:w.cell? ⟨U,3,none⟩=some (.int .i64 x.D):=row_cell h.bU 3
 have u4:w.cell? ⟨U,4,none⟩=some (.int .i64 x.S):=row_cell h.bU 4
 have u5:w.cell? ⟨U,5,none⟩=some (.int .i64 x.O):=row_cell h.bU 5
 have u6:w.cell? ⟨U,6,none⟩=some (.int .u32 x.im):=row_cell h.bU 6
 have u7:w.cell? ⟨U,7,none⟩=some (.int .u32 x.pc):=row_cell h.bU 7
 have u8:w.cell? ⟨U,8,none⟩=some (.int .u32 x.next):=row_cell h.bU 8
 have u9:w.cell? ⟨U,9,none⟩=some (.int .i64 x.done):=row_cell h.bU 9
 have HT:Hid _:=h
 have HL:Hid _:=hl
 clear h hl
 go_enter Tryz.func49,Tryz.ntmps49
 go_wp2_with (go_at_call 18;refine(lay_tu k U x l ⟨1,0,0,0,0,n,0⟩ _ HT.out HL.out).mono ?_;rintro e w1 ⟨rfl,h1⟩)
 go_ret
 exact⟨rfl,h1⟩
theorem put_tu(k:BK)(U:Nat)(x:XI)(l:List OpR)(slot v:Int)(w:World)(h:TU w k U x l)(hl:l.length < 100000) :
  Calls Tryz.prog 50 #[.pointer (some ⟨U,0,none⟩),.int .i64 slot,.int .i64 v] w fun e w'=>e=.returned (.tuple #[])∧Em w w' k U x (l++[⟨3,slot,v,0,0,0,0⟩]):=by
 have u0:w.cell? ⟨U,0,none⟩=some (.func (Fn.func 18) #[] #[.pointer (some ⟨k.B,0,none⟩)]):=row_cell h.bU 0
 have u1:w.cell? ⟨U,1,none⟩=some (.func (Fn.func 19) #[] #[.pointer (some ⟨k.L,0,none⟩)]):=row_cell h.bU 1
 have u2:w.cell? ⟨U,2,none⟩=some (.int .i64 x.op):=row_cell h.bU 2
 have u3:w.cell? ⟨U,3,none⟩=some (.int .i64 x.D):=row_cell h.bU 3
 have u4:w.cell? ⟨U,4,none⟩=some (.int .i64 x.S):=row_cell h.bU 4
 have u5:w.cell? ⟨U,5,none⟩=some (.int .i64 x.O):=row_cell h.bU 5
 have u6:w.cell? ⟨U,6,none⟩=some (.int .u32 x.im):=row_cell h.bU 6
 have u7:w.cell? ⟨U,7,none⟩=some (.int .u32 x.pc):=row_cell h.bU 7
 have u8:w.cell? ⟨U,8,none⟩=some (.int .u32 x.next):=row_cell h.bU 8
 have u9:w.cell? ⟨U,9,none⟩=some (.int .i64 x.done):=row_cell h.bU 9
 have HT:Hid _:=h
 have HL:Hid _:=hl
 clear h hl
 go_enter Tryz.func50,Tryz.ntmps50
 go_wp2_with (go_at_call 18;refine(lay_tu k U x l ⟨3,slot,v,0,0,0,0⟩ _ HT.out HL.out).mono ?_;rintro e w1 ⟨rfl,h1⟩)
 go_end0
 exact⟨rfl,h1⟩
theorem bin_tu(k:BK)(U:Nat)(x:XI)(l:List OpR)(g a b:Int)(w:World)(h:TU w k U x l)(hl:l.length < 100000) :
  Calls Tryz.prog 77 #[.pointer (some ⟨U,0,none⟩),.int .i64 g,.int .i64 a,.int .i64 b] w fun e w'=>e=.returned (.int .i64 l.length)∧Em w w' k U x (l++[⟨4,g,a,b,0,0,0⟩]):=by
 have u0:w.cell? ⟨U,0,none⟩=some (.func (Fn.func 18) #[] #[.pointer (some ⟨k.B,0,none⟩)]):=row_cell h.bU 0
 have u1:w.cell? ⟨U,1,none⟩=some (.func (Fn.func 19) #[] #[.pointer (some ⟨k.L,0,none⟩)]):=row_cell h.bU 1
 have u2:w.cell? ⟨U,2,none⟩=some (.int .i64 x.op):=row_cell h.bU 2
 have u3:w.cell? ⟨U,3,none⟩=some (.int .i64 x.D):=row_cell h.bU 3
 have u4:w.cell? ⟨U,4,none⟩=some (.int .i64 x.S):=row_cell h.bU 4
 have u5:w.cell? ⟨U,5,none⟩=some (.int .i64 x.O):=row_cell h.bU 5
 have u6:w.cell? ⟨U,6,none⟩=some (.int .u32 x.im):=row_cell h.bU 6
 have u7:w.cell? ⟨U,7,none⟩=some (.int .u32 x.pc):=row_cell h.bU 7
 have u8:w.cell? ⟨U,8,none⟩=some (.int .u32 x.next):=row_cell h.bU 8
 have u9:w.cell? ⟨U,9,none⟩=some (.int .i64 x.done):=row_cell h.bU 9
 have HT:Hid _:=h
 have HL:Hid _:=hl
 clear h hl
 go_enter Tryz.func77,Tryz.ntmps77
 go_wp2_with (go_at_call 18;refine(lay_tu k U x l ⟨4,g,a,b,0,0,0⟩ _ HT.out HL.out).mono ?_;rintro e w1 ⟨rfl,h1⟩)
 go_ret
 exact⟨rfl,h1⟩
theorem un_tu(k:BK)(U:Nat)(x:XI)(l:List OpR)(g a:Int)(w:World)(h:TU w k U x l)(hl:l.length < 100000) :
  Calls Tryz.prog 79 #[.pointer (some ⟨U,0,none⟩),.int .i64 g,.int .i64 a] w fun e w'=>e=.returned (.int .i64 l.length)∧Em w w' k U x (l++[⟨5,g,a,0,0,0,0⟩]):=by
 have u0:w.cell? ⟨U,0,none⟩=some (.func (Fn.func 18) #[] #[.pointer (some ⟨k.B,0,none⟩)]):=row_cell h.bU 0
 have u1:w.cell? ⟨U,1,none⟩=some (.func (Fn.func 19) #[] #[.pointer (some ⟨k.L,0,none⟩)]):=row_cell h.bU 1
 have u2:w.cell? ⟨U,2,none⟩=some (.int .i64 x.op):=row_cell h.bU 2
 have u3:w.cell? ⟨U,3,none⟩=some (.int .i64 x.D):=row_cell h.bU 3
 have u4:w.cell? ⟨U,4,none⟩=some (.int .i64 x.S):=row_cell h.bU 4
 have u5:w.cell? ⟨U,5,none⟩=some (.int .i64 x.O):=row_cell h.bU 5
 have u6:w.cell? ⟨U,6,none⟩=some (.int .u32 x.im):=row_cell h.bU 6
 have u7:w.cell? ⟨U,7,none⟩=some (.int .u32 x.pc):=row_cell h.bU 7
 have u8:w.cell? ⟨U,8,none⟩=some (.int .u32 x.next):=row_cell h.bU 8
 have u9:w.cell? ⟨U,9,none⟩=some (.int .i64 x.done):=row_cell h.bU 9
 have HT:Hid _:=h
 have HL:Hid _:=hl
 clear h hl
 go_enter Tryz.func79,Tryz.ntmps79
 go_wp2_with (go_at_call 18;refine(lay_tu k U x l ⟨5,g,a,0,0,0,0⟩ _ HT.out HL.out).mono ?_;rintro e w1 ⟨rfl,h1⟩)
 go_ret
 exact⟨rfl,h1⟩
theorem now_tu(k:BK)(U:Nat)(x:XI)(l:List OpR)  (w:World)(h:TU w k U x l)(hl:l.length < 100000) :
  Calls Tryz.prog 76 #[.pointer (some ⟨U,0,none⟩)] w fun e w'=>e=.returned (.int .i64 l.length)∧Em w w' k U x (l++[⟨17,0,0,0,0,0,0⟩]):=by
 have u0:w.cell? ⟨U,0,none⟩=some (.func (Fn.func 18) #[] #[.pointer (some ⟨k.B,0,none⟩)]):=row_cell h.bU 0
 have u1:w.cell? ⟨U,1,none⟩=some (.func (Fn.func 19) #[] #[.pointer (some ⟨k.L,0,none⟩)]):=row_cell h.bU 1
 have u2:w.cell? ⟨U,2,none⟩=some (.int .i64 x.op):=row_cell h.bU 2
 have u3:w.cell? ⟨U,3,none⟩=some (.int .i64 x.D):=row_cell h.bU 3
 have u4:w.cell? ⟨U,4,none⟩=some (.int .i64 x.S):=row_cell h.bU 4
 have u5:w.cell? ⟨U,5,none⟩=some (.int .i64 x.O):=row_cell h.bU 5
 have u6:w.cell? ⟨U,6,none⟩=some (.int .u32 x.im):=row_cell h.bU 6
 have u7:w.cell? ⟨U,7,none⟩=some (.int .u32 x.pc):=row_cell h.bU 7
 have u8:w.cell? ⟨U,8,none⟩=some (.int .u32 x.next):=row_cell h.bU 8
 have u9:w.cell? ⟨U,9,none⟩=some (.int .i64 x.done):=row_cell h.bU 9
 have HT:Hid _:=h
 have HL:Hid _:=hl
 clear h hl
 go_enter Tryz.func76,Tryz.ntmps76
 go_wp2_with (go_at_call 18;refine(lay_tu k U x l ⟨17,0,0,0,0,0,0⟩ _ HT.out HL.out).mono ?_;rintro e w1 ⟨rfl,h1⟩)
 go_ret
 exact⟨rfl,h1⟩
theorem load_tu(k:BK)(U:Nat)(x:XI)(l:List OpR)(g a:Int)(w:World)(h:TU w k U x l)(hl:l.length < 100000) :
  Calls Tryz.prog 51 #[.pointer (some ⟨U,0,none⟩),.int .i64 g,.int .i64 a] w fun e w'=>e=.returned (.int .i64 l.length)∧Em w w' k U x (l++[⟨9,g,a,0,0,x.pc,x.done⟩]):=by
 have u0:w.cell? ⟨U,0,none⟩=some (.func (Fn.func 18) #[] #[.pointer (some ⟨k.B,0,none⟩)]):=row_cell h.bU 0
 have u1:w.cell? ⟨U,1,none⟩=some (.func (Fn.func 19) #[] #[.pointer (some ⟨k.L,0,none⟩)]):=row_cell h.bU 1
 have u2:w.cell? ⟨U,2,none⟩=some (.int .i64 x.op):=row_cell h.bU 2
 have u3:w.cell? ⟨U,3,none⟩=some (.int .i64 x.D):=row_cell h.bU 3
 have u4:w.cell? ⟨U,4,none⟩=some (.int .i64 x.S):=row_cell h.bU 4
 have u5:w.cell? ⟨U,5,none⟩=some (.int .i64 x.O):=row_cell h.bU 5
 have u6:w.cell? ⟨U,6,none⟩=some (.int .u32 x.im):=row_cell h.bU 6
 have u7:w.cell? ⟨U,7,none⟩=some (.int .u32 x.pc):=row_cell h.bU 7
 have u8:w.cell? ⟨U,8,none⟩=some (.int .u32 x.next):=row_cell h.bU 8
 have u9:w.cell? ⟨U,9,none⟩=some (.int .i64 x.done):=row_cell h.bU 9
 have HT:Hid _:=h
 have HL:Hid _:=hl
 clear h hl
 go_enter Tryz.func51,Tryz.ntmps51
 go_upto_region 1 with fail
 go_region_held3 (fun W'=>W'.cell? ⟨U,0,none⟩=some (.func (Fn.func 18) #[] #[.pointer (some ⟨k.B,0,none⟩)])∧W'.cell? ⟨U,1,none⟩=some (.func (Fn.func 19) #[] #[.pointer (some ⟨k.L,0,none⟩)])∧W'.cell? ⟨U,2,none⟩=some (.int .i64 x.op)∧W'.cell? ⟨U,3,none⟩=some (.int .i64 x.D)∧W'.cell? ⟨U,4,none⟩=some (.int .i64 x.S)∧W'.cell? ⟨U,5,none⟩=some (.int .i64 x.O)∧W'.cell? ⟨U,6,none⟩=some (.int .u32 x.im)∧W'.cell? ⟨U,7,none⟩=some (.int .u32 x.pc)∧W'.cell? ⟨U,8,none⟩=some (.int .u32 x.next)∧W'.cell? ⟨U,9,none⟩=some (.int .i64 x.done)) (first|(simp[go_sem,v0,v1,v2,v3,v4,v5,v6,v7,v8,v9];done)|(simp[go_sem,u0,u1,u2,u3,u4,u5,u6,u7,u8,u9];done))
  (first|(go_at_call 18;refine(lay_tu k U x l ⟨9,g,a,0,0,x.pc,x.done⟩ _ ?_ HL.out).mono ?_;(have hT:=HT.out;(exact zq27));rintro e w1 ⟨rfl,h1⟩;have v0:w1.cell? ⟨U,0,none⟩=some (.func (Fn.func 18) #[] #[.pointer (some ⟨k.B,0,none⟩)]):=row_cell h1.t.bU 0;have v1:w1.cell? ⟨U,1,none⟩=some (.func (Fn.func 19) #[] #[.pointer (some ⟨k.L,0,none⟩)]):=row_cell h1.t.bU 1;have v2:w1.cell? ⟨U,2,none⟩=some (.int .i64 x.op):=row_cell h1.t.bU 2;have v3:w1.cell? ⟨U,3,none⟩=some (.int .i64 x.D):=row_cell h1.t.bU 3;have v4:w1.cell? ⟨U,4,none⟩=some (.int .i64 x.S):=row_cell h1.t.bU 4;have v5:w1.cell? ⟨U,5,none⟩=some (.int .i64 x.O):=row_cell h1.t.bU 5;have v6:w1.cell? ⟨U,6,none⟩=some (.int .u32 x.im):=row_cell h1.t.bU 6;have v7:w1.cell? ⟨U,7,none⟩=some (.int .u32 x.pc):=row_cell h1.t.bU 7;have v8:w1.cell? ⟨U,8,none⟩=some (.int .u32 x.next):=row_cell h1.t.bU 8;have v9:w1.cell? ⟨U,9,none⟩=some (.int .i64 x.done):=row_cell h1.t.bU 9))
 go_wp2
 go_ret
 exact⟨rfl,Em.first HT.out h1⟩
theorem store_tu(k:BK)(U:Nat)(x:XI)(l:List OpR)(g a v:Int)(w:World)(h:TU w k U x l)(hl:l.length < 100000) :
  Calls Tryz.prog 53 #[.pointer (some ⟨U,0,none⟩),.int .i64 g,.int .i64 a,.int .i64 v] w fun e w'=>e=.returned (.tuple #[])∧Em w w' k U x (l++[⟨10,g,a,v,0,x.pc,x.done⟩]):=by
 have u0:w.cell? ⟨U,0,none⟩=some (.func (Fn.func 18) #[] #[.pointer (some ⟨k.B,0,none⟩)]):=row_cell h.bU 0
 have u1:w.cell? ⟨U,1,none⟩=some (.func (Fn.func 19) #[] #[.pointer (some ⟨k.L,0,none⟩)]):=row_cell h.bU 1
 have u2:w.cell? ⟨U,2,none⟩=some (.int .i64 x.op):=row_cell h.bU 2
 have u3:w.cell? ⟨U,3,none⟩=some (.int .i64 x.D):=row_cell h.bU 3
 have u4:w.cell? ⟨U,4,none⟩=some (.int .i64 x.S):=row_cell h.bU 4
 have u5:w.cell? ⟨U,5,none⟩=some (.int .i64 x.O):=row_cell h.bU 5
 have u6:w.cell? ⟨U,6,none⟩=some (.int .u32 x.im):=row_cell h.bU 6
 have u7:w.cell? ⟨U,7,none⟩=some (.int .u32 x.pc):=row_cell h.bU 7
 have u8:w.cell? ⟨U,8,none⟩=some (.int .u32 x.next):=row_cell h.bU 8
 have u9:w.cell? ⟨U,9,none⟩=some (.int .i64 x.done):=row_cell h.bU 9
 have HT:Hid _:=h
 have HL:Hid _:=hl
 clear h hl
 go_enter Tryz.func53,Tryz.ntmps53
 go_upto_region 0 with fail
 go_region_with 
  (first|(go_at_call 18;refine(lay_tu k U x l ⟨10,g,a,v,0,x.pc,x.done⟩ _ ?_ HL.out).mono ?_;(have hT:=HT.out;(exact zq27));rintro e w1 ⟨rfl,h1⟩;have v0:w1.cell? ⟨U,0,none⟩=some (.func (Fn.func 18) #[] #[.pointer (some ⟨k.B,0,none⟩)]):=row_cell h1.t.bU 0;have v1:w1.cell? ⟨U,1,none⟩=some (.func (Fn.func 19) #[] #[.pointer (some ⟨k.L,0,none⟩)]):=row_cell h1.t.bU 1;have v2:w1.cell? ⟨U,2,none⟩=some (.int .i64 x.op):=row_cell h1.t.bU 2;have v3:w1.cell? ⟨U,3,none⟩=some (.int .i64 x.D):=row_cell h1.t.bU 3;have v4:w1.cell? ⟨U,4,none⟩=some (.int .i64 x.S):=row_cell h1.t.bU 4;have v5:w1.cell? ⟨U,5,none⟩=some (.int .i64 x.O):=row_cell h1.t.bU 5;have v6:w1.cell? ⟨U,6,none⟩=some (.int .u32 x.im):=row_cell h1.t.bU 6;have v7:w1.cell? ⟨U,7,none⟩=some (.int .u32 x.pc):=row_cell h1.t.bU 7;have v8:w1.cell? ⟨U,8,none⟩=some (.int .u32 x.next):=row_cell h1.t.bU 8;have v9:w1.cell? ⟨U,9,none⟩=some (.int .i64 x.done):=row_cell h1.t.bU 9))
 all_goals go_wp2
 all_goals go_end0
 all_goals exact⟨rfl,Em.first HT.out h1⟩
theorem watch_tu(k:BK)(U:Nat)(x:XI)(l:List OpR)  (w:World)(h:TU w k U x l)(hl:l.length < 100000)(hd:0≤x.done∧x.done≤64) :
  Calls Tryz.prog 54 #[.pointer (some ⟨U,0,none⟩)] w fun e w'=>e=.returned (.tuple #[])∧Em w w' k U x (l++[⟨11,0,0,0,0,x.next,x.done+1⟩]):=by
 have u0:w.cell? ⟨U,0,none⟩=some (.func (Fn.func 18) #[] #[.pointer (some ⟨k.B,0,none⟩)]):=row_cell h.bU 0
 have u1:w.cell? ⟨U,1,none⟩=some (.func (Fn.func 19) #[] #[.pointer (some ⟨k.L,0,none⟩)]):=row_cell h.bU 1
 have u2:w.cell? ⟨U,2,none⟩=some (.int .i64 x.op):=row_cell h.bU 2
 have u3:w.cell? ⟨U,3,none⟩=some (.int .i64 x.D):=row_cell h.bU 3
 have u4:w.cell? ⟨U,4,none⟩=some (.int .i64 x.S):=row_cell h.bU 4
 have u5:w.cell? ⟨U,5,none⟩=some (.int .i64 x.O):=row_cell h.bU 5
 have u6:w.cell? ⟨U,6,none⟩=some (.int .u32 x.im):=row_cell h.bU 6
 have u7:w.cell? ⟨U,7,none⟩=some (.int .u32 x.pc):=row_cell h.bU 7
 have u8:w.cell? ⟨U,8,none⟩=some (.int .u32 x.next):=row_cell h.bU 8
 have u9:w.cell? ⟨U,9,none⟩=some (.int .i64 x.done):=row_cell h.bU 9
 obtain⟨d0,d1⟩:=hd
 have HWR:Hid (IntKind.i64.wrap (x.done+1)=x.done+1):=wrap_done x.done d0 d1
 have HT:Hid _:=h
 have HL:Hid _:=hl
 clear h hl
 go_enter Tryz.func54,Tryz.ntmps54
 go_upto_region 0 with fail
 go_region_with 
  (first|(go_at_call 18;rw[HWR.out];refine(lay_tu k U x l ⟨11,0,0,0,0,x.next,x.done+1⟩ _ ?_ HL.out).mono ?_;(have hT:=HT.out;(exact zq27));rintro e w1 ⟨rfl,h1⟩;have v0:w1.cell? ⟨U,0,none⟩=some (.func (Fn.func 18) #[] #[.pointer (some ⟨k.B,0,none⟩)]):=row_cell h1.t.bU 0;have v1:w1.cell? ⟨U,1,none⟩=some (.func (Fn.func 19) #[] #[.pointer (some ⟨k.L,0,none⟩)]):=row_cell h1.t.bU 1;have v2:w1.cell? ⟨U,2,none⟩=some (.int .i64 x.op):=row_cell h1.t.bU 2;have v3:w1.cell? ⟨U,3,none⟩=some (.int .i64 x.D):=row_cell h1.t.bU 3;have v4:w1.cell? ⟨U,4,none⟩=some (.int .i64 x.S):=row_cell h1.t.bU 4;have v5:w1.cell? ⟨U,5,none⟩=some (.int .i64 x.O):=row_cell h1.t.bU 5;have v6:w1.cell? ⟨U,6,none⟩=some (.int .u32 x.im):=row_cell h1.t.bU 6;have v7:w1.cell? ⟨U,7,none⟩=some (.int .u32 x.pc):=row_cell h1.t.bU 7;have v8:w1.cell? ⟨U,8,none⟩=some (.int .u32 x.next):=row_cell h1.t.bU 8;have v9:w1.cell? ⟨U,9,none⟩=some (.int .i64 x.done):=row_cell h1.t.bU 9))
 all_goals go_wp2
 all_goals go_end0
 all_goals exact⟨rfl,Em.first HT.out h1⟩
theorem goes_tu(k:BK)(U:Nat)(x:XI)(l:List OpR)(n:Nat)(w:World)(h:TU w k U x l)(hl:l.length < 100000)(hd:0≤x.done∧x.done≤64) :
  Calls Tryz.prog 72 #[.pointer (some ⟨U,0,none⟩),.int .u32 n] w fun e w'=>e=.returned (.tuple #[])∧Em w w' k U x (l++[⟨15,0,0,0,0,n,x.done+1⟩]):=by
 have u0:w.cell? ⟨U,0,none⟩=some (.func (Fn.func 18) #[] #[.pointer (some ⟨k.B,0,none⟩)]):=row_cell h.bU 0
 have u1:w.cell? ⟨U,1,none⟩=some (.func (Fn.func 19) #[] #[.pointer (some ⟨k.L,0,none⟩)]):=row_cell h.bU 1
 have u2:w.cell? ⟨U,2,none⟩=some (.int .i64 x.op):=row_cell h.bU 2
 have u3:w.cell? ⟨U,3,none⟩=some (.int .i64 x.D):=row_cell h.bU 3
 have u4:w.cell? ⟨U,4,none⟩=some (.int .i64 x.S):=row_cell h.bU 4
 have u5:w.cell? ⟨U,5,none⟩=some (.int .i64 x.O):=row_cell h.bU 5
 have u6:w.cell? ⟨U,6,none⟩=some (.int .u32 x.im):=row_cell h.bU 6
 have u7:w.cell? ⟨U,7,none⟩=some (.int .u32 x.pc):=row_cell h.bU 7
 have u8:w.cell? ⟨U,8,none⟩=some (.int .u32 x.next):=row_cell h.bU 8
 have u9:w.cell? ⟨U,9,none⟩=some (.int .i64 x.done):=row_cell h.bU 9
 obtain⟨d0,d1⟩:=hd
 have HWR:Hid (IntKind.i64.wrap (x.done+1)=x.done+1):=wrap_done x.done d0 d1
 have HT:Hid _:=h
 have HL:Hid _:=hl
 clear h hl
 go_enter Tryz.func72,Tryz.ntmps72
 go_upto_region 0 with fail
 go_region_with 
  (first|(go_at_call 18;rw[HWR.out];refine(lay_tu k U x l ⟨15,0,0,0,0,n,x.done+1⟩ _ ?_ HL.out).mono ?_;(have hT:=HT.out;(exact zq27));rintro e w1 ⟨rfl,h1⟩;have v0:w1.cell? ⟨U,0,none⟩=some (.func (Fn.func 18) #[] #[.pointer (some ⟨k.B,0,none⟩)]):=row_cell h1.t.bU 0;have v1:w1.cell? ⟨U,1,none⟩=some (.func (Fn.func 19) #[] #[.pointer (some ⟨k.L,0,none⟩)]):=row_cell h1.t.bU 1;have v2:w1.cell? ⟨U,2,none⟩=some (.int .i64 x.op):=row_cell h1.t.bU 2;have v3:w1.cell? ⟨U,3,none⟩=some (.int .i64 x.D):=row_cell h1.t.bU 3;have v4:w1.cell? ⟨U,4,none⟩=some (.int .i64 x.S):=row_cell h1.t.bU 4;have v5:w1.cell? ⟨U,5,none⟩=some (.int .i64 x.O):=row_cell h1.t.bU 5;have v6:w1.cell? ⟨U,6,none⟩=some (.int .u32 x.im):=row_cell h1.t.bU 6;have v7:w1.cell? ⟨U,7,none⟩=some (.int .u32 x.pc):=row_cell h1.t.bU 7;have v8:w1.cell? ⟨U,8,none⟩=some (.int .u32 x.next):=row_cell h1.t.bU 8;have v9:w1.cell? ⟨U,9,none⟩=some (.int .i64 x.done):=row_cell h1.t.bU 9))
 all_goals go_wp2
 all_goals go_end0
 all_goals exact⟨rfl,Em.first HT.out h1⟩
theorem goesTo_tu(k:BK)(U:Nat)(x:XI)(l:List OpR)(v:Int)(w:World)(h:TU w k U x l)(hl:l.length < 100000)(hd:0≤x.done∧x.done≤64) :
  Calls Tryz.prog 74 #[.pointer (some ⟨U,0,none⟩),.int .i64 v] w fun e w'=>e=.returned (.tuple #[])∧Em w w' k U x (l++[⟨16,0,v,0,0,0,x.done+1⟩]):=by
 have u0:w.cell? ⟨U,0,none⟩=some (.func (Fn.func 18) #[] #[.pointer (some ⟨k.B,0,none⟩)]):=row_cell h.bU 0
 have u1:w.cell? ⟨U,1,none⟩=some (.func (Fn.func 19) #[] #[.pointer (some ⟨k.L,0,none⟩)]):=row_cell h.bU 1
 have u2:w.cell? ⟨U,2,none⟩=some (.int .i64 x.op):=row_cell h.bU 2
 have u3:w.cell? ⟨U,3,none⟩=some (.int .i64 x.D):=row_cell h.bU 3
 have u4:w.cell? ⟨U,4,none⟩=some (.int .i64 x.S):=row_cell h.bU 4
 have u5:w.cell? ⟨U,5,none⟩=some (.int .i64 x.O):=row_cell h.bU 5
 have u6:w.cell? ⟨U,6,none⟩=some (.int .u32 x.im):=row_cell h.bU 6
 have u7:w.cell? ⟨U,7,none⟩=some (.int .u32 x.pc):=row_cell h.bU 7
 have u8:w.cell? ⟨U,8,none⟩=some (.int .u32 x.next):=row_cell h.bU 8
 have u9:w.cell? ⟨U,9,none⟩=some (.int .i64 x.done):=row_cell h.bU 9
 obtain⟨d0,d1⟩:=hd
 have HWR:Hid (IntKind.i64.wrap (x.done+1)=x.done+1):=wrap_done x.done d0 d1
 have HT:Hid _:=h
 have HL:Hid _:=hl
 clear h hl
 go_enter Tryz.func74,Tryz.ntmps74
 go_upto_region 0 with fail
 go_region_with 
  (first|(go_at_call 18;rw[HWR.out];refine(lay_tu k U x l ⟨16,0,v,0,0,0,x.done+1⟩ _ ?_ HL.out).mono ?_;(have hT:=HT.out;(exact zq27));rintro e w1 ⟨rfl,h1⟩;have v0:w1.cell? ⟨U,0,none⟩=some (.func (Fn.func 18) #[] #[.pointer (some ⟨k.B,0,none⟩)]):=row_cell h1.t.bU 0;have v1:w1.cell? ⟨U,1,none⟩=some (.func (Fn.func 19) #[] #[.pointer (some ⟨k.L,0,none⟩)]):=row_cell h1.t.bU 1;have v2:w1.cell? ⟨U,2,none⟩=some (.int .i64 x.op):=row_cell h1.t.bU 2;have v3:w1.cell? ⟨U,3,none⟩=some (.int .i64 x.D):=row_cell h1.t.bU 3;have v4:w1.cell? ⟨U,4,none⟩=some (.int .i64 x.S):=row_cell h1.t.bU 4;have v5:w1.cell? ⟨U,5,none⟩=some (.int .i64 x.O):=row_cell h1.t.bU 5;have v6:w1.cell? ⟨U,6,none⟩=some (.int .u32 x.im):=row_cell h1.t.bU 6;have v7:w1.cell? ⟨U,7,none⟩=some (.int .u32 x.pc):=row_cell h1.t.bU 7;have v8:w1.cell? ⟨U,8,none⟩=some (.int .u32 x.next):=row_cell h1.t.bU 8;have v9:w1.cell? ⟨U,9,none⟩=some (.int .i64 x.done):=row_cell h1.t.bU 9))
 all_goals go_wp2
 all_goals go_end0
 all_goals exact⟨rfl,Em.first HT.out h1⟩
end Go.Proofs.YtfokgedjocnnmaaGreat
