import Derived.Test.YthcpipfmicbnmaaGreatHI
import Derived.Test.YthcpipfmicbnmaaGreatRA
import Derived.Deep.RegionHeld3
set_option linter.unusedVariables false
set_option linter.unusedSimpArgs false
set_option maxHeartbeats 4000000
namespace Go.Proofs.YthcpipfmicbnmaaGreat.Ho
open Go.RowKit
set_option maxRecDepth 100000
theorem zB8(R X I ST BR BF BD r:Nat)(ws tb:Value)(h:HP)(has:Int)(st:Bool)(fm:Int)(w:World)(hf:fm=1∨fm=2∨fm=4∨fm=128)(d:DW w R X I ST BR BF BD ws tb h has st)(hr:r < 16) :
  Calls Tryz.prog 48 #[.int .u16 fm,.int .i64 r,.pointer (some ⟨BF,0,none⟩),.pointer (some ⟨BD,0,none⟩),.pointer (some ⟨BR,0,none⟩)] w fun e w'=>e=.returned (.int .u32 (uI (hb has fm) h r))∧DW w' R X I ST BR BF BD ws tb h has (st || tkS (hb has fm) h r)∧zI [ST] w w':=by
 rcases hf with rfl|rfl|rfl|rfl
 ·exact zNG R X I ST BR BF BD r ws tb h has st w d hr
 ·exact zNH R X I ST BR BF BD r ws tb h has st w d hr
 ·exact zNI R X I ST BR BF BD r ws tb h has st w d hr
 ·exact zJ9 R X I ST BR BF BD r ws tb h has st w d hr
theorem DW.al{w:World}{R X I ST BR BF BD:Nat}{ws tb:Value}{h:HP}{has:Int}{st:Bool}(d:DW w R X I ST BR BF BD ws tb h has st)(o:Obj):DW (w.alloc o) R X I ST BR BF BD ws tb h has st:=
 d.step (((zI.refl [ST] w).alloc o)) ((((zI.refl ([]:List Nat) w).alloc o)).keep d.s aS)
structure DS(w W:World)(R X I:Nat)(ws tb:Value)(h:HP)(A:Array Value)(has:Int):Prop where
 d:DW W R X I (w.heap.size+1+1+1) w.heap.size (w.heap.size+1) (w.heap.size+1+1+1+1) ws tb h has false
 i:W.heap[I]?=some (.cells A 90)
 l:W.heap[w.heap.size+1+1]?=some (.cells (yE ⟨0,0,0,0,0,0⟩) 37)
 b:Below w.heap.size w W
theorem zIV{w:World}{R X I:Nat}{ws tb:Value}{h:HP}(x:Cd)(f:Fo)(n:Int)(hR:RB w R (yB ws tb X h))(hI:w.heap[I]?=some (.cells (yT x f n) 90)) :
  DS w (((((w.alloc (.cells #[.pointer (some ⟨R,0,none⟩)] 85)).alloc (.cells #[.pointer (some ⟨I,8,none⟩)] 94)).alloc (.cells (yE ⟨0,0,0,0,0,0⟩) 37)).alloc (.cells #[.bool false] 4)).alloc (.cells #[.func (Fn.func 47) #[] #[.pointer (some ⟨w.heap.size+1+1+1,0,none⟩),.pointer (some ⟨w.heap.size,0,none⟩)]] 110)) R X I ws tb h (yT x f n) f.has:=by
 have lI:=zE hI
 have lR:=hR.lt
 have a1:=heap_alloc_last w (.cells #[.pointer (some ⟨R,0,none⟩)] 85)
 have a2:=heap_alloc_last (w.alloc (.cells #[.pointer (some ⟨R,0,none⟩)] 85)) (.cells #[.pointer (some ⟨I,8,none⟩)] 94)
 have a3:=heap_alloc_last ((w.alloc (.cells #[.pointer (some ⟨R,0,none⟩)] 85)).alloc (.cells #[.pointer (some ⟨I,8,none⟩)] 94)) (.cells (yE ⟨0,0,0,0,0,0⟩) 37)
 have a4:=heap_alloc_last (((w.alloc (.cells #[.pointer (some ⟨R,0,none⟩)] 85)).alloc (.cells #[.pointer (some ⟨I,8,none⟩)] 94)).alloc (.cells (yE ⟨0,0,0,0,0,0⟩) 37)) (.cells #[.bool false] 4)
 have a5:=heap_alloc_last ((((w.alloc (.cells #[.pointer (some ⟨R,0,none⟩)] 85)).alloc (.cells #[.pointer (some ⟨I,8,none⟩)] 94)).alloc (.cells (yE ⟨0,0,0,0,0,0⟩) 37)).alloc (.cells #[.bool false] 4)) (.cells #[.func (Fn.func 47) #[] #[.pointer (some ⟨w.heap.size+1+1+1,0,none⟩),.pointer (some ⟨w.heap.size,0,none⟩)]] 110)
 simp only[World.size_alloc] at a2 a3 a4 a5
 have e:(((((w.alloc (.cells #[.pointer (some ⟨R,0,none⟩)] 85)).alloc (.cells #[.pointer (some ⟨I,8,none⟩)] 94)).alloc (.cells (yE ⟨0,0,0,0,0,0⟩) 37)).alloc (.cells #[.bool false] 4)).alloc (.cells #[.func (Fn.func 47) #[] #[.pointer (some ⟨w.heap.size+1+1+1,0,none⟩),.pointer (some ⟨w.heap.size,0,none⟩)]] 110)).heap[I]?=some (.cells (yT x f n) 90):=by
  rw[Below.heap_alloc _ _ _ zq30,Below.heap_alloc _ _ _ zq30,Below.heap_alloc _ _ _ zq30,Below.heap_alloc _ _ _ zq30,Below.heap_alloc _ _ _ lI];exact hI
 refine⟨⟨((((hR.al _).al _).al _).al _).al _,?_,?_,?_,a5,zA e 11,zE e,by omega,by omega,by omega,by omega,by omega⟩,e,?_,?_⟩
 ·rw[Below.heap_alloc _ _ _ aS];exact a4
 ·rw[Below.heap_alloc _ _ _ zq30,Below.heap_alloc _ _ _ zq30,Below.heap_alloc _ _ _ zq30,Below.heap_alloc _ _ _ aS];exact a1
 ·rw[Below.heap_alloc _ _ _ zq30,Below.heap_alloc _ _ _ zq30,Below.heap_alloc _ _ _ zq30];exact a2
 ·rw[Below.heap_alloc _ _ _ zq30,Below.heap_alloc _ _ _ zq30];exact a3
 ·exact((((((zI.refl ([]:List Nat) w).alloc _).alloc _).alloc _).alloc _).alloc _).below aL aS
structure DT(w W:World)(R X I:Nat)(ws tb:Value)(h:HP)(A:Array Value)(st:Bool)(va vb vc vd B:Nat):Prop where
 r:RB W R (yB ws tb X h)
 i:W.heap[I]?=some (.cells A 90)
 p:W.heap[w.heap.size]?=some (.cells #[.pointer (some ⟨R,0,none⟩)] 85)
 f:W.heap[w.heap.size+1]?=some (.cells #[.pointer (some ⟨I,8,none⟩)] 94)
 l:W.heap[w.heap.size+1+1]?=some (.cells (yE ⟨0,0,0,0,0,0⟩) 37)
 s:W.heap[w.heap.size+1+1+1]?=some (.cells #[.bool st] 4)
 q:W.heap[w.heap.size+1+1+1+1]?=some (.cells #[.func (Fn.func 47) #[] #[.pointer (some ⟨w.heap.size+1+1+1,0,none⟩),.pointer (some ⟨w.heap.size,0,none⟩)]] 110)
 t:W.heap[B]?=some (.cells (uW va vb vc vd) 113)
 b:Below w.heap.size w W
 n:w.heap.size+1+1+1+1 < B
theorem zPR{w W w4:World}{R X I:Nat}{ws tb:Value}{h:HP}{A:Array Value}{has:Int}{st:Bool}(va vb vc vd:Nat)(H:DS w W R X I ws tb h A has)(d:DW w4 R X I (w.heap.size+1+1+1) w.heap.size (w.heap.size+1) (w.heap.size+1+1+1+1) ws tb h has st)(c:zI [w.heap.size+1+1+1] W w4)(lI:I < w.heap.size):DT w (w4.alloc (.cells (uW va vb vc vd) 113)) R X I ws tb h A st va vb vc vd w4.heap.size:=
 have a:zI [] w4 (w4.alloc (.cells (uW va vb vc vd) 113)):=(zI.refl _ _).alloc _
 ⟨d.r.al _,a.keep (c.keep H.i zq7) aS,a.keep d.br aS,a.keep d.bf aS,a.keep (c.keep H.l aS) aS,a.keep d.s aS,a.keep d.bd aS,heap_alloc_last _ _,H.b.trans ((c.below (n:=w.heap.size) (by have:=zE H.l;omega) zq7).trans (a.below (n:=w.heap.size) (by have:=zE d.br;omega) aS)),zE d.bd⟩
theorem zKf{w W w4:World}{R X I B:Nat}{ws tb:Value}{h:HP}{A:Array Value}{has:Int}{st:Bool}(va vb vc vd:Nat)(H:DS w W R X I ws tb h A has)(d:DW w4 R X I (w.heap.size+1+1+1) w.heap.size (w.heap.size+1) (w.heap.size+1+1+1+1) ws tb h has st)(c:zI [w.heap.size+1+1+1] W w4)(lI:I < w.heap.size)(lR:R < w.heap.size)(hb:w4.heap[B]?=some (.cells (uW 0 0 0 0) 113))(hB:w.heap.size+1+1+1+1 < B) :
  DT w ((((w4.setCell ⟨B,0,none⟩ (.int .u32 va)).setCell ⟨B,1,none⟩ (.int .u32 vb)).setCell ⟨B,2,none⟩ (.int .u32 vc)).setCell ⟨B,3,none⟩ (.int .u32 vd)) R X I ws tb h A st va vb vc vd B:=
 have a:zI [B] w4 ((((w4.setCell ⟨B,0,none⟩ (.int .u32 va)).setCell ⟨B,1,none⟩ (.int .u32 vb)).setCell ⟨B,2,none⟩ (.int .u32 vc)).setCell ⟨B,3,none⟩ (.int .u32 vd)):=((((zI.refl _ _).set aC _ _).set aC _ _).set aC _ _).set aC _ _
 ⟨d.r.chg a zq7,a.keep (c.keep H.i zq7) zq7,a.keep d.br zq7,a.keep d.bf zq7,a.keep (c.keep H.l aS) zq7,a.keep d.s zq7,a.keep d.bd zq7,by rw[zZ (zZ (zZ (zZ hb _) _) _) _];rfl,H.b.trans ((c.below (n:=w.heap.size) (by have:=zE H.l;omega) zq7).trans (a.below (n:=w.heap.size) (by have:=zE d.br;omega) zq7)),hB⟩
theorem zAO{w W:World}{v0 v1 v2 v3 v4 v5:Value}(b:w.heap.size≤W.heap.size):Below w.heap.size W ((((((W.setCell ⟨w.heap.size+1+1,0,none⟩ v0).setCell ⟨w.heap.size+1+1,1,none⟩ v1).setCell ⟨w.heap.size+1+1,2,none⟩ v2).setCell ⟨w.heap.size+1+1,3,none⟩ v3).setCell ⟨w.heap.size+1+1,4,none⟩ v4).setCell ⟨w.heap.size+1+1,5,none⟩ v5):=
 (((((((zI.refl [w.heap.size+1+1] W).set aC 0 v0).set aC 1 v1).set aC 2 v2).set aC 3 v3).set aC 4 v4).set aC 5 v5).below b zq7
theorem DT.low{w W W1:World}{R X I:Nat}{ws tb:Value}{h:HP}{A:Array Value}{st:Bool}{va vb vc vd B:Nat}(H:DT w W R X I ws tb h A st va vb vc vd B)(b:Below W.heap.size W W1):DT w W1 R X I ws tb h A st va vb vc vd B:=
 have c:zI [] W W1:=zI.of_below _ b
 ⟨H.r.chg c aS,c.keep H.i aS,c.keep H.p aS,c.keep H.f aS,c.keep H.l aS,c.keep H.s aS,c.keep H.q aS,c.keep H.t aS,H.b.trans (b.mono H.b.size),H.n⟩
def DvS(W:World)(w:World)(R I B C:Nat)(x:Cd)(va vb vc:Nat)(kd sv:Int):Prop:=W.cell? ⟨w.heap.size,0,none⟩=some (.pointer (some ⟨R,0,none⟩))∧W.cell? ⟨I,1,none⟩=some (.int .i64 x.d)∧W.cell? ⟨B,0,none⟩=some (.int .u32 va)∧W.cell? ⟨B,1,none⟩=some (.int .u32 vb)∧W.cell? ⟨B,2,none⟩=some (.int .u32 vc)∧W.cell? ⟨C,0,none⟩=some (.int .i64 kd)∧W.cell? ⟨C,1,none⟩=some (.int .i64 sv)∧W.cell? ⟨C,2,none⟩=some (.int .i64 0)∧W.cell? ⟨C,3,none⟩=some (.int .i64 0)∧W.cell? ⟨C,4,none⟩=some (.int .i64 0)∧W.cell? ⟨C,5,none⟩=some (.int .u32 x.k)∧W.cell? ⟨C,6,none⟩=some (.int .i64 0)
theorem zLY{w W:World}{R I B C:Nat}{x:Cd}{f:Fo}{n:Int}{va vb vc vd:Nat}{kd sv:Int}(hp:W.heap[w.heap.size]?=some (.cells #[.pointer (some ⟨R,0,none⟩)] 85))(hi:W.heap[I]?=some (.cells (yT x f n) 90))(ht:W.heap[B]?=some (.cells (uW va vb vc vd) 113))(ho:W.heap[C]?=some (.cells #[.int .i64 kd,.int .i64 sv,.int .i64 0,.int .i64 0,.int .i64 0,.int .u32 x.k,.int .i64 0] 115)):DvS W w R I B C x va vb vc kd sv:=
 ⟨zA hp 0,zA hi 1,zA ht 0,zA ht 1,zA ht 2,zA ho 0,zA ho 1,zA ho 2,zA ho 3,zA ho 4,zA ho 5,zA ho 6⟩
theorem zP8{a b c:Nat}(h:a < c)(k:b < c):c+1+1∉[a,b]:=by simp;omega
theorem zDF{a b:Nat}(h:a < b):b∉[a]:=by simp;omega
theorem zPp{D G:Nat→World→Prop}{P:Prop}(k:∀ B W,D B W→G B W)(m:Hid (∀ B W,D B W→G B W)→P):P:=m k
theorem DT.spl{w W W5:World}{R X I:Nat}{ws tb:Value}{h:HP}{A:Array Value}{st st':Bool}{va vb vc vd B:Nat}(H:DT w W R X I ws tb h A st va vb vc vd B)(lI:I < w.heap.size)(lR:R < w.heap.size)(c:zI [w.heap.size+1+1+1] W W5)(hs:W5.heap[w.heap.size+1+1+1]?=some (.cells #[.bool st'] 4))(v:Nat):DT w (W5.setCell ⟨B,3,none⟩ (.int .u32 v)) R X I ws tb h A st' va vb vc v B:=
 have n:=H.n
 have a:zI [B] W5 (W5.setCell ⟨B,3,none⟩ (.int .u32 v)):=(zI.refl _ _).set aC _ _
 ⟨(H.r.chg c zq7).chg a zq7,a.keep (c.keep H.i zq7) zq7,a.keep (c.keep H.p zq7) zq7,a.keep (c.keep H.f aS) zq7,a.keep (c.keep H.l aS) zq7,a.keep hs zq7,a.keep (c.keep H.q aS) zq7,by rw[zZ (c.keep H.t zq7) _];rfl,H.b.trans ((c.below (n:=w.heap.size) (by have:=zE H.l;omega) zq7).trans (a.below (n:=w.heap.size) (by have:=zE H.l;have:=c.size;omega) zq7)),H.n⟩
structure DoK(w:World)(R X I:Nat)(ws tb:Value)(x:Cd)(f:Fo)(n:Int)(h:HP)(d va vb vc vd:Nat)(st:Bool)(L:LF)(Q:World→Prop):Prop where
 k:(st=true∧L=⟨5,0,0,0,0,0⟩∧Q w)∨
  (st=false∧f.kind≠0∧L=⟨0,0,0,0,0,0⟩∧x.op≠8∧∃ kd sv:Int,∃ v:Nat,f.kind=kd∧0≤kd∧kd≤255∧0≤f.first∧f.first≤255∧x.op - f.first=sv∧-1000≤sv∧sv≤1000∧(∀ W,Calls Tryz.prog 50 #[.agg #[.int .i64 kd,.int .i64 sv,.int .i64 0,.int .i64 0,.int .i64 0,.int .u32 x.k,.int .i64 0],.int .u32 va,.int .u32 vb,.int .u32 vc] W fun e w'=>e=.returned (.int .u32 v)∧Below W.heap.size W w')∧(∀ u,RB u R (yB ws tb X (h.reg d v))→zI [R] w u→Q u))∨
  (st=false∧f.kind=0∧f.most=64∧x.op≠8∧∀ W,Below w.heap.size w W→RB W R (yB ws tb X h)→W.heap[I]?=some (.cells (yT x f n) 90)→Calls Tryz.prog 52 #[.pointer (some ⟨R,0,none⟩),.pointer (some ⟨I,0,none⟩),.pointer (some ⟨I,8,none⟩),.agg (uW va vb vc vd)] W fun e w'=>e=.returned (.agg (yE L))∧Q w'∧zI [R,X] W w')∨
  (st=false∧f.kind=0∧f.most≠64∧L=⟨0,0,0,0,0,0⟩∧∀ W,Below w.heap.size w W→RB W R (yB ws tb X h)→W.heap[I]?=some (.cells (yT x f n) 90)→Calls Tryz.prog 53 #[.pointer (some ⟨R,0,none⟩),.pointer (some ⟨I,0,none⟩),.agg (uW va vb vc vd)] W fun e w'=>e=.returned (.tuple #[])∧Q w'∧zI [R] W w')
 s:∀ u v,Q u→Below w.heap.size u v→Q v
theorem vR(R X I a b c d nn:Nat)(ws tb:Value)(x:Cd)(f:Fo)(n:Int)(h:HP)(L:LF)(Q:World→Prop)(w:World)(hR:RB w R (yB ws tb X h))(hI:w.heap[I]?=some (.cells (yT x f n) 90))(ea:x.a=a)(eb:x.b=b)(ec:x.c=c)(ed:x.d=d)(en:x.n=nn)(la:a < 16)(lb:b < 16)(lc:c < 16)(ld:d < 16)(lX:X < w.heap.size)(hIR:I≠R)(ln:x.op=8→nn < 2048)
  (hk:DoK w R X I ws tb x f n h d (uI (hb f.has 1) h a) (uI (hb f.has 2) h b) (uI (hb f.has 4) h c) (if x.op=8 then h.sn nn else(uI (hb f.has 128) h d)) (if x.op=8 then((((false || tkS (hb f.has 1) h a) || tkS (hb f.has 2) h b) || tkS (hb f.has 4) h c) || tkS (hb f.has 128) h d) || (h.se nn !=h.ent) else((((false || tkS (hb f.has 1) h a) || tkS (hb f.has 2) h b) || tkS (hb f.has 4) h c) || tkS (hb f.has 128) h d)) L Q) :
  Calls Tryz.prog 34 #[.pointer (some ⟨R,0,none⟩),.pointer (some ⟨I,0,none⟩),.pointer (some ⟨I,8,none⟩)] w fun e w'=>e=.returned (.agg (yE L))∧Q w':=by
 have HR:Hid _:=hR
 have HI:Hid _:=hI
 have HLA:Hid _:=la
 have HLB:Hid _:=lb
 have HLC:Hid _:=lc
 have HLD:Hid _:=ld
 have HEA:Hid _:=ea
 have HEB:Hid _:=eb
 have HEC:Hid _:=ec
 have HED:Hid _:=ed
 have HEN:Hid _:=en
 have HLN:Hid _:=ln
 have HKK:Hid _:=hk
 have HLX:Hid _:=lX
 have HIR:Hid _:=hIR
 clear hR hI ea eb ec ed en la lb lc ld ln hk lX hIR
 go_enter Tryz.func34,Tryz.ntmps34
 go_upto_region 4 with fail
 refine zJ (fun W'=>DS w W' R X I ws tb h (yT x f n) f.has) (zIV x f n HR.out HI.out) ?_
 intro W hD
 have k1:W.cell? ⟨I,1,none⟩=some (.int .i64 d):=by rw[zA hD.i 1,← HED.out];rfl
 have k2:W.cell? ⟨I,2,none⟩=some (.int .i64 a):=by rw[zA hD.i 2,← HEA.out];rfl
 have k3:W.cell? ⟨I,3,none⟩=some (.int .i64 b):=by rw[zA hD.i 3,← HEB.out];rfl
 have k4:W.cell? ⟨I,4,none⟩=some (.int .i64 c):=by rw[zA hD.i 4,← HEC.out];rfl
 have k5:I < W.heap.size:=hD.d.lI
 have k6:=Nat.lt_succ_of_lt k5
 have HLI:Hid (I < W.heap.size):=k5
 have HNI:Hid (I∉[w.heap.size+1+1+1]):=show I∉[w.heap.size+1+1+1] from by have:=zE HI.out;simp;omega
 have HD:Hid _:=hD.d
 have HS:Hid _:=hD
 clear hD
 apply zPp (D:=fun B W'=>DT w W' R X I ws tb h (yT x f n) ((((false || tkS (hb f.has 1) h a) || tkS (hb f.has 2) h b) || tkS (hb f.has 4) h c) || tkS (hb f.has 128) h d) (uI (hb f.has 1) h a) (uI (hb f.has 2) h b) (uI (hb f.has 4) h c) (uI (hb f.has 128) h d) B) ?hk ?hm
 case hm=>
  intro HK
  go_region_held3 (fun W'=>W'.cell? ⟨I,1,none⟩=some (.int .i64 d)∧W'.cell? ⟨I,2,none⟩=some (.int .i64 a)∧W'.cell? ⟨I,3,none⟩=some (.int .i64 b)∧W'.cell? ⟨I,4,none⟩=some (.int .i64 c)) (first|(simp[go_sem,z4_1,z4_2,z4_3,z4_4,zl4,zm4];done)|(simp[go_sem,z3_1,z3_2,z3_3,z3_4,zl3,zm3];done)|(simp[go_sem,z2_1,z2_2,z2_3,z2_4,zl2,zm2];done)|(simp[go_sem,z1_1,z1_2,z1_3,z1_4,zl1,zm1];done)|(simp[go_sem,k1,k2,k3,k4,k5,k6];done)) (first|(go_at_call 48;have HQ:=H3;refine(zB8 R X I _ _ _ _ d ws tb h f.has _ 128 _ zq49 (by first|exact H3.out|exact H3.out.drw|exact H3.out.al _|exact(H3.out.al _).drw) HLD.out).mono ?_;rintro e w4 ⟨rfl,hd4,hc4⟩;have H4:Hid _:=hd4;have HC4:Hid (zI [w.heap.size+1+1+1] W w4):=(by first|exact HC3.out.trans hc4|exact(HC3.out.alloc _).trans hc4|exact HC3.out.drew.trans hc4|exact(HC3.out.alloc _).drew.trans hc4);have z4_1:w4.cell? ⟨I,1,none⟩=some (.int .i64 d):=(World.cell?_of_block (w:=W) (HC4.out.block I HLI.out HNI.out)).trans k1;have z4_2:w4.cell? ⟨I,2,none⟩=some (.int .i64 a):=(World.cell?_of_block (w:=W) (HC4.out.block I HLI.out HNI.out)).trans k2;have z4_3:w4.cell? ⟨I,3,none⟩=some (.int .i64 b):=(World.cell?_of_block (w:=W) (HC4.out.block I HLI.out HNI.out)).trans k3;have z4_4:w4.cell? ⟨I,4,none⟩=some (.int .i64 c):=(World.cell?_of_block (w:=W) (HC4.out.block I HLI.out HNI.out)).trans k4;have zl4:I < w4.heap.size:=Nat.lt_of_lt_of_le HLI.out HC4.out.size;have zm4:=Nat.lt_succ_of_lt zl4;(try((first|(have ob4:w4.heap[w2.heap.size]?=some (.cells (uW 0 0 0 0) 113):=hc4.keep ob3 (zDF (zE H2.out.s)))|(have ob4:w4.heap[w1.heap.size]?=some (.cells (uW 0 0 0 0) 113):=hc4.keep ob3 (zDF (zE H1.out.s)))|(have ob4:w4.heap[W.heap.size]?=some (.cells (uW 0 0 0 0) 113):=hc4.keep ob3 (zDF (zE HD.out.s)))|(have ob4:w4.heap[w3.heap.size]?=some (.cells (uW 0 0 0 0) 113):=hc4.keep (heap_alloc_last w3 _) (zDF (zE H3.out.s))));have oc4_0:=zA ob4 0;have oc4_1:=zA ob4 1;have oc4_2:=zA ob4 2;have oc4_3:=zA ob4 3;have of4:=zD ob4;have ol4:=zE ob4));clear hd4 hc4)|(go_at_call 48;have HQ:=H2;refine(zB8 R X I _ _ _ _ c ws tb h f.has _ 4 _ zq49 (by first|exact H2.out|exact H2.out.drw|exact H2.out.al _|exact(H2.out.al _).drw) HLC.out).mono ?_;rintro e w3 ⟨rfl,hd3,hc3⟩;have H3:Hid _:=hd3;have HC3:Hid (zI [w.heap.size+1+1+1] W w3):=(by first|exact HC2.out.trans hc3|exact(HC2.out.alloc _).trans hc3|exact HC2.out.drew.trans hc3|exact(HC2.out.alloc _).drew.trans hc3);have z3_1:w3.cell? ⟨I,1,none⟩=some (.int .i64 d):=(World.cell?_of_block (w:=W) (HC3.out.block I HLI.out HNI.out)).trans k1;have z3_2:w3.cell? ⟨I,2,none⟩=some (.int .i64 a):=(World.cell?_of_block (w:=W) (HC3.out.block I HLI.out HNI.out)).trans k2;have z3_3:w3.cell? ⟨I,3,none⟩=some (.int .i64 b):=(World.cell?_of_block (w:=W) (HC3.out.block I HLI.out HNI.out)).trans k3;have z3_4:w3.cell? ⟨I,4,none⟩=some (.int .i64 c):=(World.cell?_of_block (w:=W) (HC3.out.block I HLI.out HNI.out)).trans k4;have zl3:I < w3.heap.size:=Nat.lt_of_lt_of_le HLI.out HC3.out.size;have zm3:=Nat.lt_succ_of_lt zl3;(try((first|(have ob3:w3.heap[w1.heap.size]?=some (.cells (uW 0 0 0 0) 113):=hc3.keep ob2 (zDF (zE H1.out.s)))|(have ob3:w3.heap[W.heap.size]?=some (.cells (uW 0 0 0 0) 113):=hc3.keep ob2 (zDF (zE HD.out.s)))|(have ob3:w3.heap[w2.heap.size]?=some (.cells (uW 0 0 0 0) 113):=hc3.keep (heap_alloc_last w2 _) (zDF (zE H2.out.s))));have oc3_0:=zA ob3 0;have oc3_1:=zA ob3 1;have oc3_2:=zA ob3 2;have oc3_3:=zA ob3 3;have of3:=zD ob3;have ol3:=zE ob3));clear hd3 hc3)|(go_at_call 48;have HQ:=H1;refine(zB8 R X I _ _ _ _ b ws tb h f.has _ 2 _ zq49 (by first|exact H1.out|exact H1.out.drw|exact H1.out.al _|exact(H1.out.al _).drw) HLB.out).mono ?_;rintro e w2 ⟨rfl,hd2,hc2⟩;have H2:Hid _:=hd2;have HC2:Hid (zI [w.heap.size+1+1+1] W w2):=(by first|exact HC1.out.trans hc2|exact(HC1.out.alloc _).trans hc2|exact HC1.out.drew.trans hc2|exact(HC1.out.alloc _).drew.trans hc2);have z2_1:w2.cell? ⟨I,1,none⟩=some (.int .i64 d):=(World.cell?_of_block (w:=W) (HC2.out.block I HLI.out HNI.out)).trans k1;have z2_2:w2.cell? ⟨I,2,none⟩=some (.int .i64 a):=(World.cell?_of_block (w:=W) (HC2.out.block I HLI.out HNI.out)).trans k2;have z2_3:w2.cell? ⟨I,3,none⟩=some (.int .i64 b):=(World.cell?_of_block (w:=W) (HC2.out.block I HLI.out HNI.out)).trans k3;have z2_4:w2.cell? ⟨I,4,none⟩=some (.int .i64 c):=(World.cell?_of_block (w:=W) (HC2.out.block I HLI.out HNI.out)).trans k4;have zl2:I < w2.heap.size:=Nat.lt_of_lt_of_le HLI.out HC2.out.size;have zm2:=Nat.lt_succ_of_lt zl2;(try((first|(have ob2:w2.heap[W.heap.size]?=some (.cells (uW 0 0 0 0) 113):=hc2.keep ob1 (zDF (zE HD.out.s)))|(have ob2:w2.heap[w1.heap.size]?=some (.cells (uW 0 0 0 0) 113):=hc2.keep (heap_alloc_last w1 _) (zDF (zE H1.out.s))));have oc2_0:=zA ob2 0;have oc2_1:=zA ob2 1;have oc2_2:=zA ob2 2;have oc2_3:=zA ob2 3;have of2:=zD ob2;have ol2:=zE ob2));clear hd2 hc2)|(go_at_call 48;have HQ:=HD;refine(zB8 R X I _ _ _ _ a ws tb h f.has _ 1 _ zq49 (by first|exact HD.out|exact HD.out.drw|exact HD.out.al _|exact(HD.out.al _).drw) HLA.out).mono ?_;rintro e w1 ⟨rfl,hd1,hc1⟩;have H1:Hid _:=hd1;have HC1:Hid (zI [w.heap.size+1+1+1] W w1):=(by first|exact(zI.refl _ _).trans hc1|exact((zI.refl _ _).alloc _).trans hc1|exact(zI.refl _ _).drew.trans hc1|exact((zI.refl _ _).alloc _).drew.trans hc1);have z1_1:w1.cell? ⟨I,1,none⟩=some (.int .i64 d):=(World.cell?_of_block (w:=W) (HC1.out.block I HLI.out HNI.out)).trans k1;have z1_2:w1.cell? ⟨I,2,none⟩=some (.int .i64 a):=(World.cell?_of_block (w:=W) (HC1.out.block I HLI.out HNI.out)).trans k2;have z1_3:w1.cell? ⟨I,3,none⟩=some (.int .i64 b):=(World.cell?_of_block (w:=W) (HC1.out.block I HLI.out HNI.out)).trans k3;have z1_4:w1.cell? ⟨I,4,none⟩=some (.int .i64 c):=(World.cell?_of_block (w:=W) (HC1.out.block I HLI.out HNI.out)).trans k4;have zl1:I < w1.heap.size:=Nat.lt_of_lt_of_le HLI.out HC1.out.size;have zm1:=Nat.lt_succ_of_lt zl1;(try((first|(have ob1:w1.heap[W.heap.size]?=some (.cells (uW 0 0 0 0) 113):=hc1.keep (heap_alloc_last W _) (zDF (zE HD.out.s))));have oc1_0:=zA ob1 0;have oc1_1:=zA ob1 1;have oc1_2:=zA ob1 2;have oc1_3:=zA ob1 3;have of1:=zD ob1;have ol1:=zE ob1));clear hd1 hc1))
  all_goals first
   | (have hd:=zKf (B:=w3.heap.size) (uI (hb f.has 1) h a) (uI (hb f.has 2) h b) (uI (hb f.has 4) h c) (uI (hb f.has 128) h d) HS.out H4.out HC4.out (zE HI.out) HR.out.lt ob4 (zE H3.out.bd);revert hd;generalize ((((w4.setCell ⟨w3.heap.size,0,none⟩ (.int .u32 (uI (hb f.has 1) h a))).setCell ⟨w3.heap.size,1,none⟩ (.int .u32 (uI (hb f.has 2) h b))).setCell ⟨w3.heap.size,2,none⟩ (.int .u32 (uI (hb f.has 4) h c))).setCell ⟨w3.heap.size,3,none⟩ (.int .u32 (uI (hb f.has 128) h d)))=W9;generalize w3.heap.size=B;intro hd;with_reducible exact HK.out B W9 hd)
   | (have hd:=zKf (B:=w2.heap.size) (uI (hb f.has 1) h a) (uI (hb f.has 2) h b) (uI (hb f.has 4) h c) (uI (hb f.has 128) h d) HS.out H4.out HC4.out (zE HI.out) HR.out.lt ob4 (zE H2.out.bd);revert hd;generalize ((((w4.setCell ⟨w2.heap.size,0,none⟩ (.int .u32 (uI (hb f.has 1) h a))).setCell ⟨w2.heap.size,1,none⟩ (.int .u32 (uI (hb f.has 2) h b))).setCell ⟨w2.heap.size,2,none⟩ (.int .u32 (uI (hb f.has 4) h c))).setCell ⟨w2.heap.size,3,none⟩ (.int .u32 (uI (hb f.has 128) h d)))=W9;generalize w2.heap.size=B;intro hd;with_reducible exact HK.out B W9 hd)
   | (have hd:=zKf (B:=w1.heap.size) (uI (hb f.has 1) h a) (uI (hb f.has 2) h b) (uI (hb f.has 4) h c) (uI (hb f.has 128) h d) HS.out H4.out HC4.out (zE HI.out) HR.out.lt ob4 (zE H1.out.bd);revert hd;generalize ((((w4.setCell ⟨w1.heap.size,0,none⟩ (.int .u32 (uI (hb f.has 1) h a))).setCell ⟨w1.heap.size,1,none⟩ (.int .u32 (uI (hb f.has 2) h b))).setCell ⟨w1.heap.size,2,none⟩ (.int .u32 (uI (hb f.has 4) h c))).setCell ⟨w1.heap.size,3,none⟩ (.int .u32 (uI (hb f.has 128) h d)))=W9;generalize w1.heap.size=B;intro hd;with_reducible exact HK.out B W9 hd)
   | (have hd:=zKf (B:=W.heap.size) (uI (hb f.has 1) h a) (uI (hb f.has 2) h b) (uI (hb f.has 4) h c) (uI (hb f.has 128) h d) HS.out H4.out HC4.out (zE HI.out) HR.out.lt ob4 (zE HD.out.bd);revert hd;generalize ((((w4.setCell ⟨W.heap.size,0,none⟩ (.int .u32 (uI (hb f.has 1) h a))).setCell ⟨W.heap.size,1,none⟩ (.int .u32 (uI (hb f.has 2) h b))).setCell ⟨W.heap.size,2,none⟩ (.int .u32 (uI (hb f.has 4) h c))).setCell ⟨W.heap.size,3,none⟩ (.int .u32 (uI (hb f.has 128) h d)))=W9;generalize W.heap.size=B;intro hd;with_reducible exact HK.out B W9 hd)
   | (have hd:=zPR (uI (hb f.has 1) h a) (uI (hb f.has 2) h b) (uI (hb f.has 4) h c) (uI (hb f.has 128) h d) HS.out H4.out HC4.out (zE HI.out);generalize w4.alloc (.cells (uW (uI (hb f.has 1) h a) (uI (hb f.has 2) h b) (uI (hb f.has 4) h c) (uI (hb f.has 128) h d)) 113)=W9 at hd ⊢;generalize w4.heap.size=B at hd ⊢;with_reducible exact HK.out B W9 hd)
 case hk=>
  intro B W5 hT
  clear k1 k2 k3 k4 k5 k6 HLI HNI HD HS
  have HT:Hid _:=hT
  have o0:W5.cell? ⟨I,0,none⟩=some (.int .i64 x.op):=zA hT.i 0
  have lI:=zE hT.i
  clear hT
  go_upto_region 5 with fail
  by_cases h8:x.op=8
  ·have b8:(x.op==8)=true:=by simp[h8]
   have hK8:=HKK.out
   rw[if_pos h8,if_pos h8] at hK8
   have HK8:Hid _:=hK8
   clear hK8
   clear HKK
   go_upto_region 6 with fail
   refine zJ (fun W'=>DT w W' R X I ws tb h (yT x f n) ((((false || tkS (hb f.has 1) h a) || tkS (hb f.has 2) h b) || tkS (hb f.has 4) h c) || tkS (hb f.has 128) h d) (uI (hb f.has 1) h a) (uI (hb f.has 2) h b) (uI (hb f.has 4) h c) (uI (hb f.has 128) h d) B) HT.out ?_
   intro W6 hT
   have HT6:Hid _:=hT
   have q0:=zA hT.q 0
   have p0:=zA hT.p 0
   have i5:W6.cell? ⟨I,5,none⟩=some (.int .i64 nn):=by rw[zA hT.i 5,← HEN.out];rfl
   have lI6:=zE hT.i
   have lp:=zE hT.p
   have lq:=zE hT.q
   have m0:(0:Int)≤nn:=aO
   have m1:(nn:Int) < 2048:=by have:=HLN.out h8;omega
   clear hT o0 lI
   go_region_held3 (fun W'=>W'.cell? ⟨w.heap.size+1+1+1+1,0,none⟩=some (.func (Fn.func 47) #[] #[.pointer (some ⟨w.heap.size+1+1+1,0,none⟩),.pointer (some ⟨w.heap.size,0,none⟩)])∧W'.cell? ⟨w.heap.size,0,none⟩=some (.pointer (some ⟨R,0,none⟩))∧W'.cell? ⟨I,5,none⟩=some (.int .i64 nn)) (first|(simp[go_sem,q0,p0,i5];done)|(simp[go_sem,q1,p1,i51];done)) (first|(go_at_call 47;refine(zGs R nn X (w.heap.size+1+1+1) w.heap.size ((((false || tkS (hb f.has 1) h a) || tkS (hb f.has 2) h b) || tkS (hb f.has 4) h c) || tkS (hb f.has 128) h d) ws tb h _ (by first|exact HT6.out.r|exact HT6.out.r.drw) (HLN.out h8) (by exact HT6.out.s) (by exact HT6.out.p) (by have:=HR.out.lt;omega) aO).mono ?_;rintro e w1 ⟨rfl,hs1,hc1⟩;have HS1:Hid _:=hs1;have HC1:Hid (zI [w.heap.size+1+1+1] W6 w1):=(by first|exact hc1|exact(zI.refl _ _).drew.trans hc1);have q1:=zA (HC1.out.keep HT6.out.q aS) 0;have p1:=zA (HC1.out.keep HT6.out.p zq7) 0;have i51:w1.cell? ⟨I,5,none⟩=some (.int .i64 nn):=(World.cell?_of_block (w:=W6) (HC1.out.block I lI6 (by have:=zE HI.out;simp;omega))).trans i5;have ht1:=HC1.out.keep HT6.out.t (by have:=HT6.out.n;simp;omega);have t3':=zA ht1 3;have tf':=zD ht1;have tl':=zE ht1;clear hs1 hc1 ht1))
   go_upto_region 7 with fail
   refine zJ (fun W'=>DT w W' R X I ws tb h (yT x f n) (((((false || tkS (hb f.has 1) h a) || tkS (hb f.has 2) h b) || tkS (hb f.has 4) h c) || tkS (hb f.has 128) h d) || (h.se nn !=h.ent)) (uI (hb f.has 1) h a) (uI (hb f.has 2) h b) (uI (hb f.has 4) h c) (h.sn nn) B) (HT6.out.spl (zE HI.out) HR.out.lt HC1.out HS1.out _) ?_
   intro W7 hT
   have HT7:Hid _:=hT
   have i0:W7.cell? ⟨I,0,none⟩=some (.int .i64 x.op):=zA hT.i 0
   have i1:W7.cell? ⟨I,1,none⟩=some (.int .i64 d):=by rw[zA hT.i 1,← HED.out];rfl
   have i6:W7.cell? ⟨I,6,none⟩=some (.int .u32 x.k):=zA hT.i 6
   have i8:W7.cell? ⟨I,8,none⟩=some (.int .u8 f.first):=zA hT.i 8
   have i10:W7.cell? ⟨I,10,none⟩=some (.int .u8 f.kind):=zA hT.i 10
   have i12:W7.cell? ⟨I,12,none⟩=some (.int .u16 f.most):=zA hT.i 12
   have p0:=zA hT.p 0
   have f0:=zA hT.f 0
   have s0:=zA hT.s 0
   have t0:=zA hT.t 0
   have t1:=zA hT.t 1
   have t2:=zA hT.t 2
   have t3:=zA hT.t 3
   have l0:=zA hT.l 0
   have l1:=zA hT.l 1
   have l2:=zA hT.l 2
   have l3:=zA hT.l 3
   have l4:=zA hT.l 4
   have l5:=zA hT.l 5
   have lfr:=zD hT.l
   have lI7:=zE hT.i
   have lp:=zE hT.p
   have lf:=zE hT.f
   have ls:=zE hT.s
   have lt:=zE hT.t
   have ll:=zE hT.l
   clear hT
   rcases HK8.out.k with ⟨hs,hL,hq⟩|⟨hs,hkd,hL,h8',kd,sv,v,e1,e2,e3,e4,e5,e6,e7,e8,hv,hq⟩|⟨hs,hkd,hm,h8',hg⟩|⟨hs,hkd,hm,hL,hg⟩
   ·rw[hs] at s0
    go_wp2
    subst hL
    exact bodyPost_ret (v:=.agg (yE ⟨5,0,0,0,0,0⟩)) (by simp[results,Tryz.results34,go_sem,l0,l1,l2,l3,l4,l5,lfr,ll]) rfl ⟨rfl,HK8.out.s _ _ hq (HT7.out.b.trans (zAO HT7.out.b.size))⟩
   ·exact absurd h8 h8'
   ·exact absurd h8 h8'
   ·have b0:(f.kind==0)=true:=by simp[hkd]
    have b1:(f.most==64)=false:=by simpa using hm
    have HG:Hid _:=hg
    clear hg hkd hm
    rw[hs] at s0
    go_wp2_with (first|(go_at_call 51;refine(zBL I 8 f.most _ i12 lI7).mono ?_;rintro e w1 ⟨rfl,rfl⟩)|(go_at_call 53;refine(HG.out _ HT7.out.b HT7.out.r HT7.out.i).mono ?_;rintro e w2 ⟨rfl,hq2,hc2⟩;have HQ2:Hid _:=hq2;have hl2:=hc2.keep HT7.out.l (by have:=HR.out.lt;simp;omega);have g0:=zA hl2 0;have g1:=zA hl2 1;have g2:=zA hl2 2;have g3:=zA hl2 3;have g4:=zA hl2 4;have g5:=zA hl2 5;have gf:=zD hl2;have gl:=zE hl2;clear hq2 hc2 hl2))
    subst hL
    exact bodyPost_ret (v:=.agg (yE ⟨0,0,0,0,0,0⟩)) zq66 rfl ⟨rfl,HK8.out.s _ _ HQ2.out (zAO aO)⟩
  ·have b8:(x.op==8)=false:=by simp[h8]
   have hK8:=HKK.out
   rw[if_neg h8,if_neg h8] at hK8
   have HK8:Hid _:=hK8
   clear hK8
   clear HKK
   go_upto_region 7 with fail
   refine zJ (fun W'=>DT w W' R X I ws tb h (yT x f n) ((((false || tkS (hb f.has 1) h a) || tkS (hb f.has 2) h b) || tkS (hb f.has 4) h c) || tkS (hb f.has 128) h d) (uI (hb f.has 1) h a) (uI (hb f.has 2) h b) (uI (hb f.has 4) h c) (uI (hb f.has 128) h d) B) HT.out ?_
   intro W7 hT
   have HT7:Hid _:=hT
   have i0:W7.cell? ⟨I,0,none⟩=some (.int .i64 x.op):=zA hT.i 0
   have i1:W7.cell? ⟨I,1,none⟩=some (.int .i64 d):=by rw[zA hT.i 1,← HED.out];rfl
   have i6:W7.cell? ⟨I,6,none⟩=some (.int .u32 x.k):=zA hT.i 6
   have i8:W7.cell? ⟨I,8,none⟩=some (.int .u8 f.first):=zA hT.i 8
   have i10:W7.cell? ⟨I,10,none⟩=some (.int .u8 f.kind):=zA hT.i 10
   have i12:W7.cell? ⟨I,12,none⟩=some (.int .u16 f.most):=zA hT.i 12
   have p0:=zA hT.p 0
   have f0:=zA hT.f 0
   have s0:=zA hT.s 0
   have t0:=zA hT.t 0
   have t1:=zA hT.t 1
   have t2:=zA hT.t 2
   have t3:=zA hT.t 3
   have l0:=zA hT.l 0
   have l1:=zA hT.l 1
   have l2:=zA hT.l 2
   have l3:=zA hT.l 3
   have l4:=zA hT.l 4
   have l5:=zA hT.l 5
   have lfr:=zD hT.l
   have lI7:=zE hT.i
   have lp:=zE hT.p
   have lf:=zE hT.f
   have ls:=zE hT.s
   have lt:=zE hT.t
   have ll:=zE hT.l
   clear hT
   rcases HK8.out.k with ⟨hs,hL,hq⟩|⟨hs,hkd,hL,h8',kd,sv,v,e1,e2,e3,e4,e5,e6,e7,e8,hv,hq⟩|⟨hs,hkd,hm,h8',hg⟩|⟨hs,hkd,hm,hL,hg⟩
   ·rw[hs] at s0
    go_wp2
    subst hL
    exact bodyPost_ret (v:=.agg (yE ⟨5,0,0,0,0,0⟩)) (by simp[results,Tryz.results34,go_sem,l0,l1,l2,l3,l4,l5,lfr,ll]) rfl ⟨rfl,HK8.out.s _ _ hq (HT7.out.b.trans (zAO HT7.out.b.size))⟩
   ·have HV:Hid _:=hv
    have HQ9:Hid _:=hq
    have HC9:Hid (IntKind.i64.wrap f.kind=kd∧IntKind.i64.wrap f.first=f.first∧IntKind.i64.wrap (x.op - f.first)=sv):=⟨by rw[e1];exact IntWalk.i64_in _ aO,IntWalk.i64_in _ aO,by rw[e6];exact IntWalk.i64_in _ aO⟩
    clear hv hq
    have c1:=HC9.out.1
    have c2:=HC9.out.2.1
    have c3:=HC9.out.2.2
    have b0:(f.kind==0)=false:=by simpa using hkd
    clear e1 e2 e3 e4 e5 e6 e7 e8 hkd
    rw[hs] at s0
    go_upto_region 11 with fail
    go_region_held3 (fun W'=>W'.cell? ⟨I,0,none⟩=some (.int .i64 x.op)∧W'.cell? ⟨I,6,none⟩=some (.int .u32 x.k)∧W'.cell? ⟨I,8,none⟩=some (.int .u8 f.first)∧W'.cell? ⟨I,10,none⟩=some (.int .u8 f.kind)∧W'.cell? ⟨w.heap.size+1,0,none⟩=some (.pointer (some ⟨I,8,none⟩))) ((simp[go_sem,i0,i6,i8,i10,f0,lI7,lf];done)) (fail)
    go_upto_region 12 with fail
    refine zJ (fun W'=>DT w W' R X I ws tb h (yT x f n) ((((false || tkS (hb f.has 1) h a) || tkS (hb f.has 2) h b) || tkS (hb f.has 4) h c) || tkS (hb f.has 128) h d) (uI (hb f.has 1) h a) (uI (hb f.has 2) h b) (uI (hb f.has 4) h c) (uI (hb f.has 128) h d) B∧W'.heap[W7.heap.size]?=some (.cells #[.int .i64 kd,.int .i64 sv,.int .i64 0,.int .i64 0,.int .i64 0,.int .u32 x.k,.int .i64 0] 115)) ⟨HT7.out.low ((aB.alloc aL _).drew),heap_alloc_last W7 _⟩ ?_
    rintro W8 ⟨hT8,hO8⟩
    have HT8:Hid _:=hT8
    have HO8:Hid _:=hO8
    have hS:=zLY (w:=w) hT8.p hT8.i hT8.t hO8
    unfold DvS at hS
    rw[HED.out] at hS
    have HS8:Hid _:=hS
    obtain⟨a0,a1,a2,a3,a4,a5,a6,a7,a8,a9,a10,a11⟩:=hS
    have d0:(0:Int)≤d:=aO
    have d1:(d:Int) < 16:=by have:=HLD.out;omega
    clear hT8 hO8 i0 i1 i6 i8 i10 i12 p0 f0 s0 t0 t1 t2 t3 l0 l1 l2 l3 l4 l5 lfr lI7 lp lf ls lt ll c1 c2 c3
    go_region_held3 (fun W'=>W'.cell? ⟨w.heap.size,0,none⟩=some (.pointer (some ⟨R,0,none⟩))∧W'.cell? ⟨I,1,none⟩=some (.int .i64 d)∧W'.cell? ⟨B,0,none⟩=some (.int .u32 (uI (hb f.has 1) h a))∧W'.cell? ⟨B,1,none⟩=some (.int .u32 (uI (hb f.has 2) h b))∧W'.cell? ⟨B,2,none⟩=some (.int .u32 (uI (hb f.has 4) h c))∧W'.cell? ⟨W7.heap.size,0,none⟩=some (.int .i64 kd)∧W'.cell? ⟨W7.heap.size,1,none⟩=some (.int .i64 sv)∧W'.cell? ⟨W7.heap.size,2,none⟩=some (.int .i64 0)∧W'.cell? ⟨W7.heap.size,3,none⟩=some (.int .i64 0)∧W'.cell? ⟨W7.heap.size,4,none⟩=some (.int .i64 0)∧W'.cell? ⟨W7.heap.size,5,none⟩=some (.int .u32 x.k)∧W'.cell? ⟨W7.heap.size,6,none⟩=some (.int .i64 0)) (first|(simp[go_sem,a0,a1,a2,a3,a4,a5,a6,a7,a8,a9,a10,a11];done)|(simp[go_sem,u0,u1,u2,u3,u4,u5,u6,u7,u8,u9,u10,u11];done)|(simp[go_sem,v0,v1,v2,v3,v4,v5,v6,v7,v8,v9,v10,v11];done)) (first|(go_at_call 50;refine(HV.out _).mono ?_;rintro e w1 ⟨rfl,hb1⟩;have HT9:Hid (DT w w1 R X I ws tb h (yT x f n) ((((false || tkS (hb f.has 1) h a) || tkS (hb f.has 2) h b) || tkS (hb f.has 4) h c) || tkS (hb f.has 128) h d) (uI (hb f.has 1) h a) (uI (hb f.has 2) h b) (uI (hb f.has 4) h c) (uI (hb f.has 128) h d) B):=HT8.out.low (by first|exact hb1|exact(aB.drew).trans hb1);have hO9:=(zI.of_below ([]:List Nat) (by first|exact hb1|exact(aB.drew).trans hb1)).keep HO8.out aS;have HO9:Hid _:=hO9;have hS9:=zLY (w:=w) HT9.out.p HT9.out.i HT9.out.t hO9;unfold DvS at hS9;rw[HED.out] at hS9;have HS9:Hid _:=hS9;obtain⟨u0,u1,u2,u3,u4,u5,u6,u7,u8,u9,u10,u11⟩:=hS9;clear hb1 hO9)|(go_at_call 49;refine(zAP R d v X ws tb h w1 HT9.out.r HLD.out).mono ?_;rintro e w2 ⟨rfl,hr2,hc2⟩;have HR2:Hid _:=hr2;have HC2:Hid _:=hc2;have hS2:=zLY (w:=w) (hc2.keep HT9.out.p (by have:=HR.out.lt;simp;omega)) (hc2.keep HT9.out.i (by have:=HIR.out;simpa using this)) (hc2.keep HT9.out.t (by have:=HR.out.lt;have:=HT9.out.n;simp;omega)) (hc2.keep HO9.out (by have:=HR.out.lt;have:=HT7.out.b.size;simp;omega));unfold DvS at hS2;rw[HED.out] at hS2;obtain⟨v0,v1,v2,v3,v4,v5,v6,v7,v8,v9,v10,v11⟩:=hS2;have hl2:=hc2.keep HT9.out.l (by have:=HR.out.lt;simp;omega);have g0:=zA hl2 0;have g1:=zA hl2 1;have g2:=zA hl2 2;have g3:=zA hl2 3;have g4:=zA hl2 4;have g5:=zA hl2 5;have gf:=zD hl2;have gl:=zE hl2;clear hr2 hc2 hl2))
    go_wp2
    subst hL
    exact bodyPost_ret (v:=.agg (yE ⟨0,0,0,0,0,0⟩)) zq66 rfl ⟨rfl,HK8.out.s _ _ (HQ9.out _ HR2.out ((zI.of_below _ HT9.out.b).trans HC2.out)) (zAO aO)⟩
   ·have b0:(f.kind==0)=true:=by simp[hkd]
    have b1:(f.most==64)=true:=by simp[hm]
    have HG:Hid _:=hg
    clear hg hkd hm
    rw[hs] at s0
    go_wp2_with (first|(go_at_call 51;refine(zBL I 8 f.most _ i12 lI7).mono ?_;rintro e w1 ⟨rfl,rfl⟩)|(go_at_call 52;refine(HG.out _ HT7.out.b HT7.out.r HT7.out.i).mono ?_;rintro e w2 ⟨rfl,hq2,hc2⟩;have HQ2:Hid _:=hq2;have hl2:=hc2.keep HT7.out.l (zP8 HR.out.lt HLX.out);have g0:=zA hl2 0;have g1:=zA hl2 1;have g2:=zA hl2 2;have g3:=zA hl2 3;have g4:=zA hl2 4;have g5:=zA hl2 5;have gf:=zD hl2;have gl:=zE hl2;clear hq2 hc2 hl2))
    exact bodyPost_ret (v:=.agg (yE L)) zq66 rfl ⟨rfl,HK8.out.s _ _ HQ2.out (zAO aO)⟩
   ·have b0:(f.kind==0)=true:=by simp[hkd]
    have b1:(f.most==64)=false:=by simpa using hm
    have HG:Hid _:=hg
    clear hg hkd hm
    rw[hs] at s0
    go_wp2_with (first|(go_at_call 51;refine(zBL I 8 f.most _ i12 lI7).mono ?_;rintro e w1 ⟨rfl,rfl⟩)|(go_at_call 53;refine(HG.out _ HT7.out.b HT7.out.r HT7.out.i).mono ?_;rintro e w2 ⟨rfl,hq2,hc2⟩;have HQ2:Hid _:=hq2;have hl2:=hc2.keep HT7.out.l (by have:=HR.out.lt;simp;omega);have g0:=zA hl2 0;have g1:=zA hl2 1;have g2:=zA hl2 2;have g3:=zA hl2 3;have g4:=zA hl2 4;have g5:=zA hl2 5;have gf:=zD hl2;have gl:=zE hl2;clear hq2 hc2 hl2))
    subst hL
    exact bodyPost_ret (v:=.agg (yE ⟨0,0,0,0,0,0⟩)) zq66 rfl ⟨rfl,HK8.out.s _ _ HQ2.out (zAO aO)⟩
end Go.Proofs.YthcpipfmicbnmaaGreat.Ho
