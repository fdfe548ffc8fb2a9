import Derived.Test.YtfokgedjocnnmaaGreatLG
import Derived.ArgAppend
set_option linter.unusedVariables false
set_option linter.unusedSimpArgs false
set_option maxHeartbeats 4000000
namespace Go.Proofs.YtfokgedjocnnmaaGreat
open Go.RowKit
set_option maxRecDepth 100000
def chL:List Value:=[.int .i64 0,.int .i64 1,.int .i64 0,.int .i64 0,.int .i64 2,.int .i64 3,.int .i64 1,.int .i64 3,.int .i64 0,.int .i64 1,.int .i64 4,.int .i64 3,.int .i64 2,.int .i64 5,.int .i64 1,.int .i64 3,.int .i64 5,.int .i64 1,.int .i64 4,.int .i64 5,.int .i64 1,.int .i64 0,.int .i64 0,.int .i64 0,.int .i64 0,.int .i64 0,.int .i64 0,.int .i64 5,.int .i64 6,.int .i64 2,.int .i64 6,.int .i64 7,.int .i64 2,.int .i64 7,.int .i64 8,.int .i64 2,.int .i64 8,.int .i64 9,.int .i64 2,.int .i64 9,.int .i64 10,.int .i64 0,.int .i64 11,.int .i64 5,.int .i64 1,.int .i64 12,.int .i64 5,.int .i64 1]
def chC:Array Value:=chL.toArray
def chZ:Array Value:=#[.int .i64 0,.int .i64 0,.int .i64 0,.int .i64 0,.int .i64 0,.int .i64 0,.int .i64 0,.int .i64 0,.int .i64 0,.int .i64 0,.int .i64 0,.int .i64 0,.int .i64 0,.int .i64 0,.int .i64 0,.int .i64 0,.int .i64 0,.int .i64 0,.int .i64 0,.int .i64 0,.int .i64 0,.int .i64 0,.int .i64 0,.int .i64 0,.int .i64 0,.int .i64 0,.int .i64 0,.int .i64 0,.int .i64 0,.int .i64 0,.int .i64 0,.int .i64 0,.int .i64 0,.int .i64 0,.int .i64 0,.int .i64 0,.int .i64 0,.int .i64 0,.int .i64 0,.int .i64 0,.int .i64 0,.int .i64 0,.int .i64 0,.int .i64 0,.int .i64 0,.int .i64 0,.int .i64 0,.int .i64 0]
theorem ch_info:(Tryz.prog.info? 155).map (fun i=>(i.zero,i.size))=some (some (.agg chZ),48):=by kernel_rfl
theorem i3_info:(Tryz.prog.info? 3).map (fun i=>(i.zero,i.size,i.bytes))=some (some (.int .i64 0),1,8):=by kernel_rfl
structure ChRow(O:Nat)(gb:Int)(gk:Nat)(og:Int):Prop where
 lt:O < 16
 c0:chC[O*3]?=some (.int .i64 gb)
 c1:chC[O*3+1]?=some (.int .i64 gk)
 c2:chC[O*3+2]?=some (.int .i64 og)
 gl:gk < 100
theorem chRow0:ChRow 0 0 1 0:=⟨by decide,by kernel_rfl,by kernel_rfl,by kernel_rfl,by decide⟩
theorem chRow1:ChRow 1 0 2 3:=⟨by decide,by kernel_rfl,by kernel_rfl,by kernel_rfl,by decide⟩
theorem chRow2:ChRow 2 1 3 0:=⟨by decide,by kernel_rfl,by kernel_rfl,by kernel_rfl,by decide⟩
theorem chRow3:ChRow 3 1 4 3:=⟨by decide,by kernel_rfl,by kernel_rfl,by kernel_rfl,by decide⟩
theorem chRow4:ChRow 4 2 5 1:=⟨by decide,by kernel_rfl,by kernel_rfl,by kernel_rfl,by decide⟩
theorem chRow5:ChRow 5 3 5 1:=⟨by decide,by kernel_rfl,by kernel_rfl,by kernel_rfl,by decide⟩
theorem chRow6:ChRow 6 4 5 1:=⟨by decide,by kernel_rfl,by kernel_rfl,by kernel_rfl,by decide⟩
theorem chRow9:ChRow 9 5 6 2:=⟨by decide,by kernel_rfl,by kernel_rfl,by kernel_rfl,by decide⟩
theorem chRow10:ChRow 10 6 7 2:=⟨by decide,by kernel_rfl,by kernel_rfl,by kernel_rfl,by decide⟩
theorem chRow11:ChRow 11 7 8 2:=⟨by decide,by kernel_rfl,by kernel_rfl,by kernel_rfl,by decide⟩
theorem chRow12:ChRow 12 8 9 2:=⟨by decide,by kernel_rfl,by kernel_rfl,by kernel_rfl,by decide⟩
theorem chRow13:ChRow 13 9 10 0:=⟨by decide,by kernel_rfl,by kernel_rfl,by kernel_rfl,by decide⟩
theorem chRow14:ChRow 14 11 5 1:=⟨by decide,by kernel_rfl,by kernel_rfl,by kernel_rfl,by decide⟩
theorem chRow15:ChRow 15 12 5 1:=⟨by decide,by kernel_rfl,by kernel_rfl,by kernel_rfl,by decide⟩
theorem setRow_alloc1(w:World)(Z C:Array Value)(T:TypeId):(w.alloc (.cells Z T)).setRow w.heap.size C=w.alloc (.cells C T):=World.setRow_alloc_new w Z C T
theorem wpList_app3{ops:Array Oper}{rest:List Oper}{o:Oper}{act:Act}{W:World}{Q:Exit→Act→World→Prop}(hg:o.guard=none)(s x:Operand)
  (ho:o.op=Op.call { callee:=Callee.builtin Builtin.append,args:=#[s,x],argTypes:=#[26,26] }) (P2 P1:Nat) (a b c:Int)
  (hs:act.eval s=.slice (some ⟨P2,0,none⟩) 2 2) (hx:act.eval x=.slice (some ⟨P1,0,none⟩) 1 1)
  (hP:W.heap[P2]?=some (.cells #[.int .i64 a,.int .i64 b] 3)) (hQ:W.heap[P1]?=some (.cells #[.int .i64 c] 3))
  (hK:∀ g cap A w',w'.heap[g]?=some (.cells A 3)→A[0]?=some (.int .i64 a)→A[1]?=some (.int .i64 b)→A[2]?=some (.int .i64 c)→Below W.heap.size W w'→W.heap.size≤g→wpList Tryz.prog ops Q rest (act.put o.dst (.slice (some ⟨g,0,none⟩) 3 cap)) w') :
  wpList Tryz.prog ops Q (o :: rest) act W:=by
 obtain⟨i0,hi,hz0,hz1,hz2⟩:=info_parts i3_info
 refine wpList_append_grows W hg s x 26 ho 3 i0 _ 1 8 Tryz.underlying26 hi hz0 hz1 hz2 rfl (by decide) (some ⟨P2,0,none⟩) 2 2 [.int .i64 a,.int .i64 b] hs (fun h=>by cases h) rfl ?_ ⟨P1,0,none⟩ 1 1 [.int .i64 c] hx rfl ?_ ?_ (by decide) (by decide) (by decide) ?_
 ·rintro b' hb' j u hu
  cases hb'
  rw[Addr.add_mid,Nat.zero_add,row_cell hP]
  simpa using hu
 ·intro j u hu
  rw[Addr.add_mid,Nat.zero_add,row_cell hQ]
  simpa using hu
 ·intro u hu
  simp only[List.mem_cons,List.not_mem_nil,or_false] at hu
  rw[hu];rfl
 ·intro v' w' hown hgr
  rcases hown.2 with ⟨-,h0⟩|⟨g,cap,cur,hv,hb,hh,h1,h2,h3,h4⟩
  ·omega
  ·rw[hv]
   have ht:cur.toList.take 3=[.int .i64 a,.int .i64 b,.int .i64 c]:=h4
   have hA:∀ j,j < 3→cur[j]?=[Value.int .i64 a,.int .i64 b,.int .i64 c][j]?:=fun j hj=>by
    rw[← ht,List.getElem?_take_of_lt hj,Array.getElem?_toList]
   exact hK g cap cur w' hh (hA 0 zo) (hA 1 zo) (hA 2 zo) (Below.grown (Below.refl _ _) hgr (Nat.le_refl _) (fun k hk=>by cases hk)) hb
theorem chgB(k:BK)(U:Nat)(x:XI)(l:List OpR)(m:Int)(a b:Int)(O:Nat)(gb:Int)(gk:Nat)(w:World)(h:TU w k U x l)(hm:Ln l m)(hmx:m+80 < 90000)(hd:0≤x.done∧x.done≤64)(hO:x.O=O)(hrow:ChRow O gb gk 0) :
  Calls Tryz.prog 80 #[.pointer (some ⟨U,0,none⟩),.int .i64 a,.int .i64 b] w fun e w'=>e=.returned (.tuple #[])∧Em w w' k U x ((((((l++[⟨4,gb,a,b,0,0,0⟩])++[⟨3,x.D,m,0,0,0,0⟩])++[⟨1,0,0,0,0,gk,0⟩])++[⟨3,8,m+1+1,0,0,0,0⟩])++[⟨3,9,a,0,0,0,0⟩])++[⟨3,10,b,0,0,0,0⟩]):=by
 obtain⟨u0,u1,u2,u3,u4,u5,u6,u7,u8,u9⟩:=h.cells
 have lU:=row_lt h.bU
 have HDN:Hid _:=hd
 have HMX:Hid (m+80 < 90000):=hmx
 have HWR:Hid _:=wrap_done x.done hd.1 hd.2
 have zW:=(Go.zero_of_info ch_info).1
 rw[hO] at u5
 obtain⟨kl,c0,c1,c2,gl⟩:=hrow
 have k0:(0:Int)≤O:=zo
 have k16:(O:Int) < 16:=zo
 have HKK:Hid (gk < 100):=gl
 have HNr:Hid (w.heap.size+1≠k.B):=show w.heap.size+1≠k.B by have:=h.ltB;omega
 have HPr0:Hid (((w.alloc (.cells chC 155)).alloc (.cells #[.int .i64 gb,.int .i64 gk,.int .i64 0] 154)).heap[w.heap.size+1]?=some (.cells #[.int .i64 gb,.int .i64 gk,.int .i64 0] 154)):=(al2 w _ _).2
 clear kl gl hO
 have HT:Hid _:=h
 have HM0:Hid (Ln l m):=hm
 have HM1:Hid (Ln (l++[⟨4,gb,a,b,0,0,0⟩]) (m+1)):=HM0.out.next zo _
 have HM2:Hid (Ln ((l++[⟨4,gb,a,b,0,0,0⟩])++[⟨3,x.D,m,0,0,0,0⟩]) (m+1+1)):=HM1.out.next zo _
 have HM3:Hid (Ln (((l++[⟨4,gb,a,b,0,0,0⟩])++[⟨3,x.D,m,0,0,0,0⟩])++[⟨1,0,0,0,0,gk,0⟩]) (m+1+1+1)):=HM2.out.next zo _
 have HM4:Hid (Ln ((((l++[⟨4,gb,a,b,0,0,0⟩])++[⟨3,x.D,m,0,0,0,0⟩])++[⟨1,0,0,0,0,gk,0⟩])++[⟨3,8,m+1+1,0,0,0,0⟩]) (m+1+1+1+1)):=HM3.out.next zo _
 have HM5:Hid (Ln (((((l++[⟨4,gb,a,b,0,0,0⟩])++[⟨3,x.D,m,0,0,0,0⟩])++[⟨1,0,0,0,0,gk,0⟩])++[⟨3,8,m+1+1,0,0,0,0⟩])++[⟨3,9,a,0,0,0,0⟩]) (m+1+1+1+1+1)):=HM4.out.next zo _
 have HM6:Hid (Ln ((((((l++[⟨4,gb,a,b,0,0,0⟩])++[⟨3,x.D,m,0,0,0,0⟩])++[⟨1,0,0,0,0,gk,0⟩])++[⟨3,8,m+1+1,0,0,0,0⟩])++[⟨3,9,a,0,0,0,0⟩])++[⟨3,10,b,0,0,0,0⟩]) (m+1+1+1+1+1+1)):=HM5.out.next zo _
 clear h hm hd
 clear hmx
 go_enter Tryz.func80,Tryz.ntmps80
 all_goals go_wp2_with (first
   | (have HQ3:=H2;go_at_call 78;refine(tell2 k U x _ (m+1+1) gk _ _ #[.int .i64 a,.int .i64 b] (a) (b) _ ?_ HM2.out zq9 ?_ rfl rfl ?_ HKK.out).mono ?_;(have hT:=H2.out.t;(exact zq1));(focus(exact HS2.out));(focus(exact(show w1.heap.size≠k.B by have:=H1.out.t.ltB;omega)));rintro e w3 ⟨rfl,h3⟩;have H3:Hid (Em w2 w3 k U x ((((((l++[⟨4,gb,a,b,0,0,0⟩])++[⟨3,x.D,m,0,0,0,0⟩])++[⟨1,0,0,0,0,gk,0⟩])++[⟨3,8,m+1+1,0,0,0,0⟩])++[⟨3,9,a,0,0,0,0⟩])++[⟨3,10,b,0,0,0,0⟩])):=(show Em _ _ _ _ _ _ from(have hT:=H2.out.t;have hE:=h3;zq0));obtain⟨r0,r1,r2,r3,r4,r5,r6,r7,r8,r9⟩:=h3.t.cells;have HPr3:Hid (w3.heap[w.heap.size+1]?=some (.cells #[.int .i64 gb,.int .i64 gk,.int .i64 0] 154)):=H3.out.kp.keep _ _ _ HPr2.out HNr.out (by decide);have rr0:w3.cell? ⟨w.heap.size+1,0,none⟩=some (.int .i64 gb):=row_cell HPr3.out 0;have rr1:w3.cell? ⟨w.heap.size+1,1,none⟩=some (.int .i64 gk):=row_cell HPr3.out 1;have rr2:w3.cell? ⟨w.heap.size+1,2,none⟩=some (.int .i64 0):=row_cell HPr3.out 2;have rlr:=row_lt HPr3.out;have rU:=row_lt H3.out.t.bU;clear h3 HQ3)
   | (have HQ2:=H1;go_at_call 50;refine(put_m k U x _ (m+1) x.D (m) _ ?_ HM1.out).mono ?_;(have hT:=H1.out.t;(exact zq1));rintro e w2 ⟨rfl,h2⟩;have H2:Hid (Em w1 w2 k U x ((l++[⟨4,gb,a,b,0,0,0⟩])++[⟨3,x.D,m,0,0,0,0⟩])):=(show Em _ _ _ _ _ _ from(have hT:=H1.out.t;have hE:=h2;zq0));obtain⟨q0,q1,q2,q3,q4,q5,q6,q7,q8,q9⟩:=h2.t.cells;have HPr2:Hid (w2.heap[w.heap.size+1]?=some (.cells #[.int .i64 gb,.int .i64 gk,.int .i64 0] 154)):=H2.out.kp.keep _ _ _ HPr1.out HNr.out (by decide);have qr0:w2.cell? ⟨w.heap.size+1,0,none⟩=some (.int .i64 gb):=row_cell HPr2.out 0;have qr1:w2.cell? ⟨w.heap.size+1,1,none⟩=some (.int .i64 gk):=row_cell HPr2.out 1;have qr2:w2.cell? ⟨w.heap.size+1,2,none⟩=some (.int .i64 0):=row_cell HPr2.out 2;have qlr:=row_lt HPr2.out;have qU:=row_lt H2.out.t.bU;have HS2:Hid (w2.heap[w1.heap.size]?=some (.cells #[.int .i64 a,.int .i64 b] 3)):=h2.kp.keep _ _ _ (heap_alloc_last w1 _) (by have:=H1.out.t.ltB;omega) (by decide);clear h2 HQ2)
   | (go_at_call 77;refine(bin_m k U x _ (m) gb (a) (b) _ ?_ HM0.out).mono ?_;(have hT:=HT.out;(exact zq1));rintro e w1 ⟨rfl,h1⟩;have H1:Hid (Em w w1 k U x (l++[⟨4,gb,a,b,0,0,0⟩])):=(show Em _ _ _ _ _ _ from(have hT:=HT.out;have hE:=h1;zq0));obtain⟨v0,v1,v2,v3,v4,v5,v6,v7,v8,v9⟩:=h1.t.cells;have HPr1:Hid (w1.heap[w.heap.size+1]?=some (.cells #[.int .i64 gb,.int .i64 gk,.int .i64 0] 154)):=h1.kp.keep _ _ _ HPr0.out HNr.out (by decide);have vr0:w1.cell? ⟨w.heap.size+1,0,none⟩=some (.int .i64 gb):=row_cell HPr1.out 0;have vr1:w1.cell? ⟨w.heap.size+1,1,none⟩=some (.int .i64 gk):=row_cell HPr1.out 1;have vr2:w1.cell? ⟨w.heap.size+1,2,none⟩=some (.int .i64 0):=row_cell HPr1.out 2;have vlr:=row_lt HPr1.out;have vU:=row_lt H1.out.t.bU;clear h1)
   | (refine Gu.wpList_pureAt 11 15 _ _ _ ⟨#[.pointer (some ⟨U,0,none⟩),.int .i64 a,.int .i64 b,undef,undef,undef,undef,undef,undef,undef,undef,.agg #[.int .i64 0,.int .i64 1,.int .i64 0],.agg #[.int .i64 0,.int .i64 2,.int .i64 3],.agg #[.int .i64 1,.int .i64 3,.int .i64 0],.agg #[.int .i64 1,.int .i64 4,.int .i64 3],.agg #[.int .i64 2,.int .i64 5,.int .i64 1],.agg #[.int .i64 3,.int .i64 5,.int .i64 1],.agg #[.int .i64 4,.int .i64 5,.int .i64 1],.agg #[.int .i64 5,.int .i64 6,.int .i64 2],.agg #[.int .i64 6,.int .i64 7,.int .i64 2],.agg #[.int .i64 7,.int .i64 8,.int .i64 2],.agg #[.int .i64 8,.int .i64 9,.int .i64 2],.agg #[.int .i64 9,.int .i64 10,.int .i64 0],.agg #[.int .i64 11,.int .i64 5,.int .i64 1],.agg #[.int .i64 12,.int .i64 5,.int .i64 1],.agg chC,undef,undef,undef,undef,undef,undef,undef,undef,undef,undef,undef,undef,undef,undef,undef,undef,undef,undef,undef,undef,undef,undef,undef,undef,undef,undef,undef,undef,undef,undef,undef,undef,undef,undef,undef,undef,undef,undef,undef,undef,undef,undef,undef,undef,undef,undef,undef,undef,undef,undef,undef,undef,undef,undef,undef,undef,undef,undef,undef,undef,undef,undef],[]⟩ rfl (by kernel_rfl) ?_;simp only[List.drop_succ_cons,List.drop_zero])
   | (refine Gu.wpList_alloc_as rfl 155 rfl _ zW w.heap.size rfl ?_)
   | (refine wpList_store_row rfl 155 _ _ rfl w.heap.size chC (by rfl) (by rfl) 155 chZ (heap_alloc_last w _) (Go.zero_of_info ch_info).2 (by rfl) (by kernel_rfl) ?_;rw[setRow_alloc1]))
 all_goals go_end0
 all_goals exact⟨rfl,((H1.out).trans H2.out).trans H3.out⟩
theorem chgV(k:BK)(U:Nat)(x:XI)(l:List OpR)(m:Int)(a b:Int)(O:Nat)(gb:Int)(gk:Nat)(w:World)(h:TU w k U x l)(hm:Ln l m)(hmx:m+80 < 90000)(hd:0≤x.done∧x.done≤64)(hO:x.O=O)(hrow:ChRow O gb gk 1) :
  Calls Tryz.prog 80 #[.pointer (some ⟨U,0,none⟩),.int .i64 a,.int .i64 b] w fun e w'=>e=.returned (.tuple #[])∧Em w w' k U x (((((l++[⟨4,gb,a,b,0,0,0⟩])++[⟨3,x.D,m,0,0,0,0⟩])++[⟨1,0,0,0,0,gk,0⟩])++[⟨3,8,m+1+1,0,0,0,0⟩])++[⟨3,9,m,0,0,0,0⟩]):=by
 obtain⟨u0,u1,u2,u3,u4,u5,u6,u7,u8,u9⟩:=h.cells
 have lU:=row_lt h.bU
 have HDN:Hid _:=hd
 have HMX:Hid (m+80 < 90000):=hmx
 have HWR:Hid _:=wrap_done x.done hd.1 hd.2
 have zW:=(Go.zero_of_info ch_info).1
 rw[hO] at u5
 obtain⟨kl,c0,c1,c2,gl⟩:=hrow
 have k0:(0:Int)≤O:=zo
 have k16:(O:Int) < 16:=zo
 have HKK:Hid (gk < 100):=gl
 have HNr:Hid (w.heap.size+1≠k.B):=show w.heap.size+1≠k.B by have:=h.ltB;omega
 have HPr0:Hid (((w.alloc (.cells chC 155)).alloc (.cells #[.int .i64 gb,.int .i64 gk,.int .i64 1] 154)).heap[w.heap.size+1]?=some (.cells #[.int .i64 gb,.int .i64 gk,.int .i64 1] 154)):=(al2 w _ _).2
 clear kl gl hO
 have HT:Hid _:=h
 have HM0:Hid (Ln l m):=hm
 have HM1:Hid (Ln (l++[⟨4,gb,a,b,0,0,0⟩]) (m+1)):=HM0.out.next zo _
 have HM2:Hid (Ln ((l++[⟨4,gb,a,b,0,0,0⟩])++[⟨3,x.D,m,0,0,0,0⟩]) (m+1+1)):=HM1.out.next zo _
 have HM3:Hid (Ln (((l++[⟨4,gb,a,b,0,0,0⟩])++[⟨3,x.D,m,0,0,0,0⟩])++[⟨1,0,0,0,0,gk,0⟩]) (m+1+1+1)):=HM2.out.next zo _
 have HM4:Hid (Ln ((((l++[⟨4,gb,a,b,0,0,0⟩])++[⟨3,x.D,m,0,0,0,0⟩])++[⟨1,0,0,0,0,gk,0⟩])++[⟨3,8,m+1+1,0,0,0,0⟩]) (m+1+1+1+1)):=HM3.out.next zo _
 have HM5:Hid (Ln (((((l++[⟨4,gb,a,b,0,0,0⟩])++[⟨3,x.D,m,0,0,0,0⟩])++[⟨1,0,0,0,0,gk,0⟩])++[⟨3,8,m+1+1,0,0,0,0⟩])++[⟨3,9,m,0,0,0,0⟩]) (m+1+1+1+1+1)):=HM4.out.next zo _
 clear h hm hd
 clear hmx
 go_enter Tryz.func80,Tryz.ntmps80
 all_goals go_wp2_with (first
   | (have HQ3:=H2;go_at_call 78;refine(tell1 k U x _ (m+1+1) gk _ _ #[.int .i64 m] (m) _ ?_ HM2.out zq9 ?_ rfl ?_ HKK.out).mono ?_;(have hT:=H2.out.t;(exact zq1));(focus(exact HS2.out));(focus(exact(show w1.heap.size+1≠k.B by have:=H1.out.t.ltB;omega)));rintro e w3 ⟨rfl,h3⟩;have H3:Hid (Em w2 w3 k U x (((((l++[⟨4,gb,a,b,0,0,0⟩])++[⟨3,x.D,m,0,0,0,0⟩])++[⟨1,0,0,0,0,gk,0⟩])++[⟨3,8,m+1+1,0,0,0,0⟩])++[⟨3,9,m,0,0,0,0⟩])):=(show Em _ _ _ _ _ _ from(have hT:=H2.out.t;have hE:=h3;zq0));obtain⟨r0,r1,r2,r3,r4,r5,r6,r7,r8,r9⟩:=h3.t.cells;have HPr3:Hid (w3.heap[w.heap.size+1]?=some (.cells #[.int .i64 gb,.int .i64 gk,.int .i64 1] 154)):=H3.out.kp.keep _ _ _ HPr2.out HNr.out (by decide);have rr0:w3.cell? ⟨w.heap.size+1,0,none⟩=some (.int .i64 gb):=row_cell HPr3.out 0;have rr1:w3.cell? ⟨w.heap.size+1,1,none⟩=some (.int .i64 gk):=row_cell HPr3.out 1;have rr2:w3.cell? ⟨w.heap.size+1,2,none⟩=some (.int .i64 1):=row_cell HPr3.out 2;have rlr:=row_lt HPr3.out;have rU:=row_lt H3.out.t.bU;clear h3 HQ3)
   | (have HQ2:=H1;go_at_call 50;refine(put_m k U x _ (m+1) x.D (m) _ ?_ HM1.out).mono ?_;(have hT:=H1.out.t;(exact zq1));rintro e w2 ⟨rfl,h2⟩;have H2:Hid (Em w1 w2 k U x ((l++[⟨4,gb,a,b,0,0,0⟩])++[⟨3,x.D,m,0,0,0,0⟩])):=(show Em _ _ _ _ _ _ from(have hT:=H1.out.t;have hE:=h2;zq0));obtain⟨q0,q1,q2,q3,q4,q5,q6,q7,q8,q9⟩:=h2.t.cells;have HPr2:Hid (w2.heap[w.heap.size+1]?=some (.cells #[.int .i64 gb,.int .i64 gk,.int .i64 1] 154)):=H2.out.kp.keep _ _ _ HPr1.out HNr.out (by decide);have qr0:w2.cell? ⟨w.heap.size+1,0,none⟩=some (.int .i64 gb):=row_cell HPr2.out 0;have qr1:w2.cell? ⟨w.heap.size+1,1,none⟩=some (.int .i64 gk):=row_cell HPr2.out 1;have qr2:w2.cell? ⟨w.heap.size+1,2,none⟩=some (.int .i64 1):=row_cell HPr2.out 2;have qlr:=row_lt HPr2.out;have qU:=row_lt H2.out.t.bU;have HS2:Hid (w2.heap[w1.heap.size+1]?=some (.cells #[.int .i64 m] 3)):=h2.kp.keep _ _ _ (al2 w1 _ _).2 (by have:=H1.out.t.ltB;omega) (by decide);clear h2 HQ2)
   | (go_at_call 77;refine(bin_m k U x _ (m) gb (a) (b) _ ?_ HM0.out).mono ?_;(have hT:=HT.out;(exact zq1));rintro e w1 ⟨rfl,h1⟩;have H1:Hid (Em w w1 k U x (l++[⟨4,gb,a,b,0,0,0⟩])):=(show Em _ _ _ _ _ _ from(have hT:=HT.out;have hE:=h1;zq0));obtain⟨v0,v1,v2,v3,v4,v5,v6,v7,v8,v9⟩:=h1.t.cells;have HPr1:Hid (w1.heap[w.heap.size+1]?=some (.cells #[.int .i64 gb,.int .i64 gk,.int .i64 1] 154)):=h1.kp.keep _ _ _ HPr0.out HNr.out (by decide);have vr0:w1.cell? ⟨w.heap.size+1,0,none⟩=some (.int .i64 gb):=row_cell HPr1.out 0;have vr1:w1.cell? ⟨w.heap.size+1,1,none⟩=some (.int .i64 gk):=row_cell HPr1.out 1;have vr2:w1.cell? ⟨w.heap.size+1,2,none⟩=some (.int .i64 1):=row_cell HPr1.out 2;have vlr:=row_lt HPr1.out;have vU:=row_lt H1.out.t.bU;clear h1)
   | (refine Gu.wpList_pureAt 11 15 _ _ _ ⟨#[.pointer (some ⟨U,0,none⟩),.int .i64 a,.int .i64 b,undef,undef,undef,undef,undef,undef,undef,undef,.agg #[.int .i64 0,.int .i64 1,.int .i64 0],.agg #[.int .i64 0,.int .i64 2,.int .i64 3],.agg #[.int .i64 1,.int .i64 3,.int .i64 0],.agg #[.int .i64 1,.int .i64 4,.int .i64 3],.agg #[.int .i64 2,.int .i64 5,.int .i64 1],.agg #[.int .i64 3,.int .i64 5,.int .i64 1],.agg #[.int .i64 4,.int .i64 5,.int .i64 1],.agg #[.int .i64 5,.int .i64 6,.int .i64 2],.agg #[.int .i64 6,.int .i64 7,.int .i64 2],.agg #[.int .i64 7,.int .i64 8,.int .i64 2],.agg #[.int .i64 8,.int .i64 9,.int .i64 2],.agg #[.int .i64 9,.int .i64 10,.int .i64 0],.agg #[.int .i64 11,.int .i64 5,.int .i64 1],.agg #[.int .i64 12,.int .i64 5,.int .i64 1],.agg chC,undef,undef,undef,undef,undef,undef,undef,undef,undef,undef,undef,undef,undef,undef,undef,undef,undef,undef,undef,undef,undef,undef,undef,undef,undef,undef,undef,undef,undef,undef,undef,undef,undef,undef,undef,undef,undef,undef,undef,undef,undef,undef,undef,undef,undef,undef,undef,undef,undef,undef,undef,undef,undef,undef,undef,undef,undef,undef,undef,undef,undef,undef],[]⟩ rfl (by kernel_rfl) ?_;simp only[List.drop_succ_cons,List.drop_zero])
   | (refine Gu.wpList_alloc_as rfl 155 rfl _ zW w.heap.size rfl ?_)
   | (refine wpList_store_row rfl 155 _ _ rfl w.heap.size chC (by rfl) (by rfl) 155 chZ (heap_alloc_last w _) (Go.zero_of_info ch_info).2 (by rfl) (by kernel_rfl) ?_;rw[setRow_alloc1]))
 all_goals go_end0
 all_goals exact⟨rfl,((H1.out).trans H2.out).trans H3.out⟩
theorem chgF(k:BK)(U:Nat)(x:XI)(l:List OpR)(m:Int)(a b:Int)(O:Nat)(gb:Int)(gk:Nat)(w:World)(h:TU w k U x l)(hm:Ln l m)(hmx:m+80 < 90000)(hd:0≤x.done∧x.done≤64)(hO:x.O=O)(hrow:ChRow O gb gk 2) :
  Calls Tryz.prog 80 #[.pointer (some ⟨U,0,none⟩),.int .i64 a,.int .i64 b] w fun e w'=>e=.returned (.tuple #[])∧Em w w' k U x ((((((((l++[⟨4,gb,a,b,0,0,0⟩])++[⟨17,0,0,0,0,0,0⟩])++[⟨3,x.D,m,0,0,0,0⟩])++[⟨1,0,0,0,0,gk,0⟩])++[⟨3,8,m+1+1+1,0,0,0,0⟩])++[⟨3,9,a,0,0,0,0⟩])++[⟨3,10,b,0,0,0,0⟩])++[⟨3,11,m+1,0,0,0,0⟩]):=by
 obtain⟨u0,u1,u2,u3,u4,u5,u6,u7,u8,u9⟩:=h.cells
 have lU:=row_lt h.bU
 have HDN:Hid _:=hd
 have HMX:Hid (m+80 < 90000):=hmx
 have HWR:Hid _:=wrap_done x.done hd.1 hd.2
 have zW:=(Go.zero_of_info ch_info).1
 rw[hO] at u5
 obtain⟨kl,c0,c1,c2,gl⟩:=hrow
 have k0:(0:Int)≤O:=zo
 have k16:(O:Int) < 16:=zo
 have HKK:Hid (gk < 100):=gl
 have HNr:Hid (w.heap.size+1≠k.B):=show w.heap.size+1≠k.B by have:=h.ltB;omega
 have HPr0:Hid (((w.alloc (.cells chC 155)).alloc (.cells #[.int .i64 gb,.int .i64 gk,.int .i64 2] 154)).heap[w.heap.size+1]?=some (.cells #[.int .i64 gb,.int .i64 gk,.int .i64 2] 154)):=(al2 w _ _).2
 clear kl gl hO
 have HT:Hid _:=h
 have HM0:Hid (Ln l m):=hm
 have HM1:Hid (Ln (l++[⟨4,gb,a,b,0,0,0⟩]) (m+1)):=HM0.out.next zo _
 have HM2:Hid (Ln ((l++[⟨4,gb,a,b,0,0,0⟩])++[⟨17,0,0,0,0,0,0⟩]) (m+1+1)):=HM1.out.next zo _
 have HM3:Hid (Ln (((l++[⟨4,gb,a,b,0,0,0⟩])++[⟨17,0,0,0,0,0,0⟩])++[⟨3,x.D,m,0,0,0,0⟩]) (m+1+1+1)):=HM2.out.next zo _
 have HM4:Hid (Ln ((((l++[⟨4,gb,a,b,0,0,0⟩])++[⟨17,0,0,0,0,0,0⟩])++[⟨3,x.D,m,0,0,0,0⟩])++[⟨1,0,0,0,0,gk,0⟩]) (m+1+1+1+1)):=HM3.out.next zo _
 have HM5:Hid (Ln (((((l++[⟨4,gb,a,b,0,0,0⟩])++[⟨17,0,0,0,0,0,0⟩])++[⟨3,x.D,m,0,0,0,0⟩])++[⟨1,0,0,0,0,gk,0⟩])++[⟨3,8,m+1+1+1,0,0,0,0⟩]) (m+1+1+1+1+1)):=HM4.out.next zo _
 have HM6:Hid (Ln ((((((l++[⟨4,gb,a,b,0,0,0⟩])++[⟨17,0,0,0,0,0,0⟩])++[⟨3,x.D,m,0,0,0,0⟩])++[⟨1,0,0,0,0,gk,0⟩])++[⟨3,8,m+1+1+1,0,0,0,0⟩])++[⟨3,9,a,0,0,0,0⟩]) (m+1+1+1+1+1+1)):=HM5.out.next zo _
 have HM7:Hid (Ln (((((((l++[⟨4,gb,a,b,0,0,0⟩])++[⟨17,0,0,0,0,0,0⟩])++[⟨3,x.D,m,0,0,0,0⟩])++[⟨1,0,0,0,0,gk,0⟩])++[⟨3,8,m+1+1+1,0,0,0,0⟩])++[⟨3,9,a,0,0,0,0⟩])++[⟨3,10,b,0,0,0,0⟩]) (m+1+1+1+1+1+1+1)):=HM6.out.next zo _
 have HM8:Hid (Ln ((((((((l++[⟨4,gb,a,b,0,0,0⟩])++[⟨17,0,0,0,0,0,0⟩])++[⟨3,x.D,m,0,0,0,0⟩])++[⟨1,0,0,0,0,gk,0⟩])++[⟨3,8,m+1+1+1,0,0,0,0⟩])++[⟨3,9,a,0,0,0,0⟩])++[⟨3,10,b,0,0,0,0⟩])++[⟨3,11,m+1,0,0,0,0⟩]) (m+1+1+1+1+1+1+1+1)):=HM7.out.next zo _
 clear h hm hd
 clear hmx
 go_enter Tryz.func80,Tryz.ntmps80
 all_goals go_wp2_with (first
   | (have HQ5:=H4;go_at_call 78;refine(tell3 k U x _ (m+1+1+1) gk _ _ A (a) (b) (m+1) _ ?_ HM3.out zq9 ?_ HA0.out HA1.out HA2.out ?_ HKK.out).mono ?_;(have hT:=H4.out.t;(exact zq1));(focus(exact HS4.out));(focus(exact HNG.out));rintro e w5 ⟨rfl,h5⟩;have H5:Hid (Em w4 w5 k U x ((((((((l++[⟨4,gb,a,b,0,0,0⟩])++[⟨17,0,0,0,0,0,0⟩])++[⟨3,x.D,m,0,0,0,0⟩])++[⟨1,0,0,0,0,gk,0⟩])++[⟨3,8,m+1+1+1,0,0,0,0⟩])++[⟨3,9,a,0,0,0,0⟩])++[⟨3,10,b,0,0,0,0⟩])++[⟨3,11,m+1,0,0,0,0⟩])):=(show Em _ _ _ _ _ _ from(have hT:=H4.out.t;have hE:=h5;zq0));obtain⟨t0,t1,t2,t3,t4,t5,t6,t7,t8,t9⟩:=h5.t.cells;have HPr5:Hid (w5.heap[w.heap.size+1]?=some (.cells #[.int .i64 gb,.int .i64 gk,.int .i64 2] 154)):=H5.out.kp.keep _ _ _ HPr4.out HNr.out (by decide);have tr0:w5.cell? ⟨w.heap.size+1,0,none⟩=some (.int .i64 gb):=row_cell HPr5.out 0;have tr1:w5.cell? ⟨w.heap.size+1,1,none⟩=some (.int .i64 gk):=row_cell HPr5.out 1;have tr2:w5.cell? ⟨w.heap.size+1,2,none⟩=some (.int .i64 2):=row_cell HPr5.out 2;have tlr:=row_lt HPr5.out;have tU:=row_lt H5.out.t.bU;clear h5 HQ5)
   | (have HQ4:=H3;go_at_call 50;refine(put_m k U x _ (m+1+1) x.D (m) _ ?_ HM2.out).mono ?_;(have hT:=H3.out.t;(exact zq1));rintro e w4 ⟨rfl,h4⟩;have H4:Hid (Em w3 w4 k U x (((l++[⟨4,gb,a,b,0,0,0⟩])++[⟨17,0,0,0,0,0,0⟩])++[⟨3,x.D,m,0,0,0,0⟩])):=(show Em _ _ _ _ _ _ from(have hT:=H3.out.t;have hE:=h4;zq0));obtain⟨s0,s1,s2,s3,s4,s5,s6,s7,s8,s9⟩:=h4.t.cells;have HPr4:Hid (w4.heap[w.heap.size+1]?=some (.cells #[.int .i64 gb,.int .i64 gk,.int .i64 2] 154)):=H4.out.kp.keep _ _ _ HPr3.out HNr.out (by decide);have sr0:w4.cell? ⟨w.heap.size+1,0,none⟩=some (.int .i64 gb):=row_cell HPr4.out 0;have sr1:w4.cell? ⟨w.heap.size+1,1,none⟩=some (.int .i64 gk):=row_cell HPr4.out 1;have sr2:w4.cell? ⟨w.heap.size+1,2,none⟩=some (.int .i64 2):=row_cell HPr4.out 2;have slr:=row_lt HPr4.out;have sU:=row_lt H4.out.t.bU;have HS4:Hid (w4.heap[g]?=some (.cells A 3)):=H4.out.kp.keep _ _ _ HS3.out HNG.out (by decide);clear h4 HQ4)
   | (have HQ3:=H2;at_builtin;refine wpList_app3 rfl _ _ rfl w1.heap.size w2.heap.size a b (m+1) rfl rfl ?_ ?_ ?_;(focus(exact(al_old w2 _ _ (row_lt HS2.out)).trans HS2.out));(focus(exact heap_alloc_last _ _));intro g cap A w3 hA h0 h1 h2 hb hge;have H3:Hid (Em w2 w3 k U x ((l++[⟨4,gb,a,b,0,0,0⟩])++[⟨17,0,0,0,0,0,0⟩])):=((Em.refl H2.out.t).alloc _).below hb;obtain⟨r0,r1,r2,r3,r4,r5,r6,r7,r8,r9⟩:=H3.out.t.cells;have HPr3:Hid (w3.heap[w.heap.size+1]?=some (.cells #[.int .i64 gb,.int .i64 gk,.int .i64 2] 154)):=H3.out.kp.keep _ _ _ HPr2.out HNr.out (by decide);have rr0:w3.cell? ⟨w.heap.size+1,0,none⟩=some (.int .i64 gb):=row_cell HPr3.out 0;have rr1:w3.cell? ⟨w.heap.size+1,1,none⟩=some (.int .i64 gk):=row_cell HPr3.out 1;have rr2:w3.cell? ⟨w.heap.size+1,2,none⟩=some (.int .i64 2):=row_cell HPr3.out 2;have rlr:=row_lt HPr3.out;have rU:=row_lt H3.out.t.bU;have HS3:Hid (w3.heap[g]?=some (.cells A 3)):=hA;have HA0:Hid _:=h0;have HA1:Hid _:=h1;have HA2:Hid _:=h2;have HNG:Hid (g≠k.B):=(show g≠k.B by have:=H2.out.t.ltB;rw[al_size] at hge;omega);clear hA h0 h1 h2 hb hge;clear HQ3)
   | (have HQ2:=H1;go_at_call 76;refine(now_m k U x _ (m+1) _ ?_ HM1.out).mono ?_;(have hT:=H1.out.t;(exact zq1));rintro e w2 ⟨rfl,h2⟩;have H2:Hid (Em w1 w2 k U x ((l++[⟨4,gb,a,b,0,0,0⟩])++[⟨17,0,0,0,0,0,0⟩])):=(show Em _ _ _ _ _ _ from(have hT:=H1.out.t;have hE:=h2;zq0));obtain⟨q0,q1,q2,q3,q4,q5,q6,q7,q8,q9⟩:=h2.t.cells;have HPr2:Hid (w2.heap[w.heap.size+1]?=some (.cells #[.int .i64 gb,.int .i64 gk,.int .i64 2] 154)):=H2.out.kp.keep _ _ _ HPr1.out HNr.out (by decide);have qr0:w2.cell? ⟨w.heap.size+1,0,none⟩=some (.int .i64 gb):=row_cell HPr2.out 0;have qr1:w2.cell? ⟨w.heap.size+1,1,none⟩=some (.int .i64 gk):=row_cell HPr2.out 1;have qr2:w2.cell? ⟨w.heap.size+1,2,none⟩=some (.int .i64 2):=row_cell HPr2.out 2;have qlr:=row_lt HPr2.out;have qU:=row_lt H2.out.t.bU;have HS2:Hid (w2.heap[w1.heap.size]?=some (.cells #[.int .i64 a,.int .i64 b] 3)):=h2.kp.keep _ _ _ (heap_alloc_last w1 _) (by have:=H1.out.t.ltB;omega) (by decide);clear h2 HQ2)
   | (go_at_call 77;refine(bin_m k U x _ (m) gb (a) (b) _ ?_ HM0.out).mono ?_;(have hT:=HT.out;(exact zq1));rintro e w1 ⟨rfl,h1⟩;have H1:Hid (Em w w1 k U x (l++[⟨4,gb,a,b,0,0,0⟩])):=(show Em _ _ _ _ _ _ from(have hT:=HT.out;have hE:=h1;zq0));obtain⟨v0,v1,v2,v3,v4,v5,v6,v7,v8,v9⟩:=h1.t.cells;have HPr1:Hid (w1.heap[w.heap.size+1]?=some (.cells #[.int .i64 gb,.int .i64 gk,.int .i64 2] 154)):=h1.kp.keep _ _ _ HPr0.out HNr.out (by decide);have vr0:w1.cell? ⟨w.heap.size+1,0,none⟩=some (.int .i64 gb):=row_cell HPr1.out 0;have vr1:w1.cell? ⟨w.heap.size+1,1,none⟩=some (.int .i64 gk):=row_cell HPr1.out 1;have vr2:w1.cell? ⟨w.heap.size+1,2,none⟩=some (.int .i64 2):=row_cell HPr1.out 2;have vlr:=row_lt HPr1.out;have vU:=row_lt H1.out.t.bU;clear h1)
   | (refine Gu.wpList_pureAt 11 15 _ _ _ ⟨#[.pointer (some ⟨U,0,none⟩),.int .i64 a,.int .i64 b,undef,undef,undef,undef,undef,undef,undef,undef,.agg #[.int .i64 0,.int .i64 1,.int .i64 0],.agg #[.int .i64 0,.int .i64 2,.int .i64 3],.agg #[.int .i64 1,.int .i64 3,.int .i64 0],.agg #[.int .i64 1,.int .i64 4,.int .i64 3],.agg #[.int .i64 2,.int .i64 5,.int .i64 1],.agg #[.int .i64 3,.int .i64 5,.int .i64 1],.agg #[.int .i64 4,.int .i64 5,.int .i64 1],.agg #[.int .i64 5,.int .i64 6,.int .i64 2],.agg #[.int .i64 6,.int .i64 7,.int .i64 2],.agg #[.int .i64 7,.int .i64 8,.int .i64 2],.agg #[.int .i64 8,.int .i64 9,.int .i64 2],.agg #[.int .i64 9,.int .i64 10,.int .i64 0],.agg #[.int .i64 11,.int .i64 5,.int .i64 1],.agg #[.int .i64 12,.int .i64 5,.int .i64 1],.agg chC,undef,undef,undef,undef,undef,undef,undef,undef,undef,undef,undef,undef,undef,undef,undef,undef,undef,undef,undef,undef,undef,undef,undef,undef,undef,undef,undef,undef,undef,undef,undef,undef,undef,undef,undef,undef,undef,undef,undef,undef,undef,undef,undef,undef,undef,undef,undef,undef,undef,undef,undef,undef,undef,undef,undef,undef,undef,undef,undef,undef,undef,undef],[]⟩ rfl (by kernel_rfl) ?_;simp only[List.drop_succ_cons,List.drop_zero])
   | (refine Gu.wpList_alloc_as rfl 155 rfl _ zW w.heap.size rfl ?_)
   | (refine wpList_store_row rfl 155 _ _ rfl w.heap.size chC (by rfl) (by rfl) 155 chZ (heap_alloc_last w _) (Go.zero_of_info ch_info).2 (by rfl) (by kernel_rfl) ?_;rw[setRow_alloc1]))
 all_goals go_end0
 all_goals exact⟨rfl,((((H1.out).trans H2.out).trans H3.out).trans H4.out).trans H5.out⟩
end Go.Proofs.YtfokgedjocnnmaaGreat
