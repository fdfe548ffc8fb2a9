import Derived.Test.YthcpipfmicbnmaaGreatWJ01
import Derived.Deep.RegionLaw
import Derived.Lib.SliceRun
set_option linter.unusedVariables false
set_option linter.unusedSimpArgs false
set_option maxHeartbeats 2000000
namespace Go.Proofs.YthcpipfmicbnmaaGreat.Va
open Go.RowKit
set_option maxRecDepth 100000
abbrev goV:Value:=.agg #[.int .i64 0,.int .u32 0]
abbrev stV(k:Int)(x:Nat):Value:=.agg #[.int .i64 k,.int .u32 x]
theorem PM.alloc{w:World}{X:Nat}{s:MS}(h:PM w X s)(o:Obj):PM (w.alloc o) X s:=h.below ((Below.refl w.heap.size w).alloc aL o) h.lt
theorem RM.alloc{w:World}{k:RB}{s:MS}(h:RM w k s)(o:Obj):RM (w.alloc o) k s:=h.below ((Below.refl w.heap.size w).alloc aL o) aL
theorem own2{w w':World}{v0 v1:Value}{t:TypeId}(hb:Below (w.alloc (.cells #[v0,v1] t)).heap.size (w.alloc (.cells #[v0,v1] t)) w') :
  w'.cell? ⟨w.heap.size,0,none⟩=some v0∧w'.cell? ⟨w.heap.size,1,none⟩=some v1∧(∀ o,w'.frozen? ⟨w.heap.size,o,none⟩=false)∧w.heap.size < w'.heap.size:=by
 have h1:w'.heap[w.heap.size]?=some (.cells #[v0,v1] t (0,0)):=(hb.block _ aS).trans (heap_alloc_last w _)
 refine⟨(cell_of_row _ _ 0 _ t (0,0) h1).trans rfl,(cell_of_row _ _ 1 _ t (0,0) h1).trans rfl,fun o=>by simp only[World.frozen?,h1];simp,?_⟩
 have:=hb.size
 simp at this
 omega
theorem zBC{w w':World}{o:Obj}(hb:Below (w.alloc o).heap.size (w.alloc o) w')(v0 v1:Value):Below w.heap.size w ((w'.setCell ⟨w.heap.size,0,none⟩ v0).setCell ⟨w.heap.size,1,none⟩ v1):=
 (((aB.alloc aL o).trans (hb.mono aS)).setCell aL _).setCell aL _
theorem zBb{w w':World}{o:Obj}(hb:Below (w.alloc o).heap.size (w.alloc o) w')(v0 v1:Value)(o2:Obj):Below w.heap.size w (((w'.setCell ⟨w.heap.size,0,none⟩ v0).setCell ⟨w.heap.size,1,none⟩ v1).alloc o2).drew:=
 ((zBC hb v0 v1).alloc (zBC hb v0 v1).size o2).drew
theorem zCH(X a x:Nat)(n r:Int)(s:MS)(w:World)(ha:a < 4294967296)(hr:r=1∨r=2∨r=4)(hs:s.Ok)(h:PM w X s)(hb:yA s r a n.toNat=some x) :
  Calls Tryz.prog 105 #[.pointer (some ⟨X,0,none⟩),.int .u32 a,.int .i64 n,.int .i64 r] w fun e w'=>e=.returned (.tuple #[.int .u32 x,.bool false])∧w=w':=by
 have:=zCG X a n r s w ha hr hs h
 rw[hb] at this
 exact this
theorem zBJ(X a:Nat)(n r:Int)(s:MS)(w:World)(ha:a < 4294967296)(hr:r=1∨r=2∨r=4)(hs:s.Ok)(h:PM w X s)(hb:yA s r a n.toNat=none) :
  Calls Tryz.prog 105 #[.pointer (some ⟨X,0,none⟩),.int .u32 a,.int .i64 n,.int .i64 r] w fun e w'=>e=.returned (.tuple #[.int .u32 0,.bool true])∧w=w':=by
 have:=zCG X a n r s w ha hr hs h
 rw[hb] at this
 exact this
theorem zHi(k':RB)(a x:Nat)(n r kind:Int)(s:MS)(w:World)(ha:a < 4294967296)(hr:r=1∨r=2∨r=4)(hs:s.Ok)(h:RM w k' s)(hb:yA s r a n.toNat=some x) :
  Calls Tryz.prog 85 #[.pointer (some ⟨k'.y,0,none⟩),.int .u32 a,.int .i64 n,.int .i64 r,.int .i64 kind] w fun e w'=>e=.returned (stV kind x)∧Below w.heap.size w w':=by
 have:=zHh k' a n r kind s w ha hr hs h
 rw[hb] at this
 exact this
theorem zF0(k':RB)(a:Nat)(n r kind:Int)(s:MS)(w:World)(ha:a < 4294967296)(hr:r=1∨r=2∨r=4)(hs:s.Ok)(h:RM w k' s)(hb:yA s r a n.toNat=none) :
  Calls Tryz.prog 85 #[.pointer (some ⟨k'.y,0,none⟩),.int .u32 a,.int .i64 n,.int .i64 r,.int .i64 kind] w fun e w'=>e=.returned goV∧Below w.heap.size w w':=by
 have:=zHh k' a n r kind s w ha hr hs h
 rw[hb] at this
 exact this
def zv(v:Nat)(j:Nat):Int:=((v / 256 ^ j%256:Nat):Int)
theorem zGB(X a v:Nat)(n:Int)(w:World)(hn:¬(n=1∨n=2∨n=4)) :
  Calls Tryz.prog 100 #[.pointer (some ⟨X,0,none⟩),.int .u32 a,.int .i64 n,.int .u32 v] w fun e w'=>e=.returned goV∧Below w.heap.size w w':=by
 have HN:Hid (¬(n=1∨n=2∨n=4)):=hn
 clear hn
 go_enter Tryz.func100,Tryz.ntmps100
 go_wp2_with (go_at_call 106;refine(zIB _ _ HN.out).mono ?_;rintro e w' ⟨rfl,rfl⟩)
 exact bodyPost_ret (v:=goV) (by simp[results,Tryz.results100,go_sem]) rfl ⟨rfl,by first|exact(aB.alloc aL _).setCell aL _|exact aB.alloc aL _⟩
theorem zH9(X a v x:Nat)(n:Int)(s:MS)(w:World)(hn:n=1∨n=2∨n=4)(ha:a < 4294967296)(hs:s.Ok)(h:PM w X s)(hb:yA s 2 a n.toNat=some x) :
  Calls Tryz.prog 100 #[.pointer (some ⟨X,0,none⟩),.int .u32 a,.int .i64 n,.int .u32 v] w fun e w'=>e=.returned (stV 6 x)∧Below w.heap.size w w':=by
 have HN:Hid (n=1∨n=2∨n=4):=hn
 have HP:Hid (PM w X s):=h
 have HB:Hid (yA s 2 a n.toNat=some x):=hb
 clear hn h hb
 go_enter Tryz.func100,Tryz.ntmps100
 go_wp2_with first
  | (go_at_call 106;refine(zEs _ _ HN.out).mono ?_;rintro e w' ⟨rfl,rfl⟩)
  | (go_at_call 105;refine(zCH X a x n 2 s _ ha (.inr (.inl rfl)) hs (HP.out.alloc _) HB.out).mono ?_;rintro e w' ⟨rfl,rfl⟩)
 exact bodyPost_ret (v:=stV 6 x) (by simp[results,Tryz.results100,go_sem]) rfl ⟨rfl,by first|exact((aB.alloc aL _).setCell aL _).setCell aL _|exact(aB.alloc aL _).setCell aL _|exact aB.alloc aL _⟩
theorem zI.res{S:List Nat}{w w':World}{o:Obj}(h:zI S (w.alloc o) w')(v0 v1:Value):zI S w ((w'.setCell ⟨w.heap.size,0,none⟩ v0).setCell ⟨w.heap.size,1,none⟩ v1):=by
 have h1:zI S w w':=(zI.of_below S ((Below.refl w.heap.size w).alloc aL o)).trans h
 exact(h1.new aL ((zAA.refl _ _).setCell 0 v0)).new aL ((zAA.refl _ _).setCell 1 v1)
theorem zI.own2{S:List Nat}{w w':World}{v0 v1:Value}{t:TypeId}(hb:zI S (w.alloc (.cells #[v0,v1] t)) w')(hS:w.heap.size∉S) :
  w'.cell? ⟨w.heap.size,0,none⟩=some v0∧w'.cell? ⟨w.heap.size,1,none⟩=some v1∧(∀ o,w'.frozen? ⟨w.heap.size,o,none⟩=false)∧w.heap.size < w'.heap.size:=by
 have h1:w'.heap[w.heap.size]?=some (.cells #[v0,v1] t (0,0)):=(hb.block _ aS hS).trans (heap_alloc_last w _)
 refine⟨(cell_of_row _ _ 0 _ t (0,0) h1).trans rfl,(cell_of_row _ _ 1 _ t (0,0) h1).trans rfl,fun o=>by simp only[World.frozen?,h1];simp,?_⟩
 have:=hb.size
 simp at this
 omega
theorem zPF(v j:Nat)(h:j=0∨j=1∨j=2∨j=3):(v:Int) / 2 ^ min (8*j) 32%256=zv v j:=by
 unfold zv
 rcases h with rfl|rfl|rfl|rfl
 ·simp
 ·show(v:Int) / 256%256=_;omega
 ·show(v:Int) / 65536%256=_;omega
 ·show(v:Int) / 16777216%256=_;omega
theorem zI.drew{S:List Nat}{w w':World}(h:zI S w w'):zI S w w'.drew:=⟨h.os,h.tape,h.output,h.size,h.block⟩
theorem zFo{w w':World}{o:Obj}(hb:Below (w.alloc o).heap.size (w.alloc o) w')(v0 v1:Value)(o2:Obj):Below w.heap.size w (((w'.setCell ⟨w.heap.size,0,none⟩ v0).setCell ⟨w.heap.size,1,none⟩ v1).alloc o2):=
 (zBC hb v0 v1).alloc (zBC hb v0 v1).size o2
theorem zJ7(X a v n:Nat)(s:MS)(w:World)(hn:n=1∨n=2∨n=4)(ha:a < 4294967296)(hv:v < 4294967296)(hs:s.Ok)(h:PM w X s)(hb:yA s 2 a n=none) :
  Calls Tryz.prog 100 #[.pointer (some ⟨X,0,none⟩),.int .u32 a,.int .i64 n,.int .u32 v] w fun e w'=>e=.returned goV∧PM w' X (uD s a n (zv v))∧zI [X] w w':=by
 have HN:Hid ((n:Int)=1∨(n:Int)=2∨(n:Int)=4):=show _∨_∨_ by omega
 have HN4:Hid (n≤4∧0 < n):=show _∧_ by omega
 have hl:=zCV hb (show 0 < n by omega)
 have HL:Hid (a+n≤65536):=hl
 have ha0:(0:Int)≤a:=aO
 have ha1:(a:Int) < 4294967296:=aO
 have hv0:(0:Int)≤v:=aO
 have hv1:(v:Int) < 4294967296:=aO
 have HP:Hid (PM w X s):=h
 have HB:Hid (yA s 2 a (n:Int).toNat=none):=hb
 clear hn h hb hl
 go_enter Tryz.func100,Tryz.ntmps100
 go_wp2_with first
  | (go_at_call 106;refine(zEs _ _ HN.out).mono ?_;rintro e w' ⟨rfl,rfl⟩)
  | (go_at_call 105;refine(zBJ X a n 2 s _ ha (.inr (.inl rfl)) hs (HP.out.alloc _) HB.out).mono ?_;rintro e w' ⟨rfl,rfl⟩)
 go_loopw [28] (fun i wr=>∃ j:Nat,i=.int .i64 j∧j≤n∧PM wr X { s with B:=ovr s.B a j (zv v) }∧zI [X] (w.alloc (.cells #[.int .i64 0,.int .u32 0] 35)) wr) (fun i _=>n - (intOf i).toNat)
 case atStart=>exact⟨0,rfl,by omega,by rw[zE8];exact HP.out.alloc _,zI.refl _ _⟩
 case round=>
  obtain⟨j,rfl,hj,hR,hC⟩:=hrel
  have HR:Hid (PM wr X { s with B:=ovr s.B a j (zv v) }):=hR
  have HC:Hid (zI [X] (w.alloc (.cells #[.int .i64 0,.int .u32 0] 35)) wr):=hC
  clear hC
  by_cases hlt:j < n
  ·have hai:a+j < 65536:=by have:=HL.out;omega
   have hcb:=hR.by_ (a+j) hai
   have hfb:=hR.fr (a+j)
   have hji:(j:Int) < n:=aO
   have hj4:j=0∨j=1∨j=2∨j=3:=by have:=HN4.out;omega
   have hwa:IntKind.i64.wrap (a:Int)=a:=by rw[IntKind.wrap_i64];omega
   have hwb:IntKind.i64.wrap ((a:Int)+(j:Int))=(a:Int)+(j:Int):=by rw[IntKind.wrap_i64];omega
   have htn:((a:Int)+(j:Int)).toNat=a+j:=aO
   have hb0:(0:Int)≤(a:Int)+(j:Int):=aO
   have hb1:(a:Int)+(j:Int) < 65536:=aO
   have hm8:IntKind.i64.wrap (8*(j:Int))=8*(j:Int):=by rw[IntKind.wrap_i64];omega
   have h80:(0:Int)≤8*(j:Int):=aO
   have HJ:Hid (j=0∨j=1∨j=2∨j=3):=hj4
   clear hR hj hj4
   go_wp2
   go_region
   go_wp2
   go_roundw
   case rel=>exact⟨j+1,by go_num,by omega,by
    have:=(HR.out.setByte (a+j) hai (zv v j)).drew
    simp only[zE7] at this
    rw[zPF v j HJ.out]
    exact this,(HC.out.set).drew⟩
   case measure=>simp[intOf];omega
  ·have hjn:j=n:=aO
   subst hjn
   have hX:X < w.heap.size:=HP.out.lt
   clear hR hj
   have hlj:(j:Int)≤4:=by have:=HN4.out;omega
   have hlj0:(0:Int)≤j:=aO
   go_wp2_with (go_at_call 27;refine(zBK X a j _ _ HL.out HR.out).mono ?_;rintro e w' ⟨rfl,hP',hC'⟩;have hCC:=HC.out.trans hC';obtain⟨q0,q1,q2,q3⟩:=hCC.own2 zq7;have HQ:Hid _:=hP';have HCC:Hid _:=hCC;clear hP' hC' hCC)
   refine bodyPost_ret (v:=goV) (by simp[results,Tryz.results100,go_sem,q0,q1]) rfl ⟨rfl,?_,HCC.out.res _ _⟩
   exact HQ.out.of_block (by rw[Below.heap_setCell _ _ _ _ zq7,Below.heap_setCell _ _ _ _ zq7])
theorem zFE(k:RB)(a v:Nat)(n:Int)(w:World)(hn:¬(n=1∨n=2∨n=4)) :
  Calls Tryz.prog 73 #[.pointer (some ⟨k.y,0,none⟩),.int .u32 a,.int .i64 n,.int .u32 v] w fun e w'=>e=.returned goV∧Below w.heap.size w w':=by
 have h1:(n==1)=false:=by simp;omega
 have h2:(n==2)=false:=by simp;omega
 have h4:(n==4)=false:=by simp;omega
 have g1:(n !=1)=true:=by simp[bne,h1]
 have g2:(n !=2)=true:=by simp[bne,h2]
 have g4:(n !=4)=true:=by simp[bne,h4]
 clear hn
 go_enter Tryz.func73,Tryz.ntmps73
 go_wp2
 exact bodyPost_ret (v:=goV) (by simp[results,Tryz.results73,go_sem]) rfl ⟨rfl,by first|exact(aB.alloc aL _).setCell aL _|exact aB.alloc aL _⟩
theorem zGx(k:RB)(a v x:Nat)(n:Int)(s:MS)(w:World)(hn:n=1∨n=2∨n=4)(ha:a < 4294967296)(hs:s.Ok)(h:RM w k s)(hb:yA s 2 a n.toNat=some x) :
  Calls Tryz.prog 73 #[.pointer (some ⟨k.y,0,none⟩),.int .u32 a,.int .i64 n,.int .u32 v] w fun e w'=>e=.returned (stV 6 x)∧Below w.heap.size w w':=by
 have HP:Hid (RM w k s):=h
 have HB:Hid (yA s 2 a n.toNat=some x):=hb
 clear h hb
 rcases hn with rfl|rfl|rfl
 all_goals
  go_enter Tryz.func73,Tryz.ntmps73
  go_wp2_with (go_at_call 85;refine(zHi k a x _ 2 6 s _ ha (.inr (.inl rfl)) hs (HP.out.alloc _) HB.out).mono ?_;rintro e w' ⟨rfl,hBl⟩;obtain⟨q0,q1,q2,q3⟩:=own2 hBl;have HBl:Hid _:=hBl;clear hBl)
  exact bodyPost_ret (v:=stV 6 x) (by simp[results,Tryz.results73,go_sem,q0,q1,q3]) rfl ⟨rfl,by first|exact zFo HBl.out _ _ _|exact zBb HBl.out _ _ _⟩
theorem zLJ(v j:Nat):zv v j=(((v / 256 ^ j:Nat):Int)%256):=by unfold zv;omega
structure StR(k:RB)(s:MS)(a v:Nat)(w w1:World)(j:Nat)(wr:World):Prop where
 rm:RM wr k (uD s a j (zv v))
 chg:zI k.all w1 wr
theorem zJX(k:RB)(a v N:Nat)(n:Int)(s:MS)(w:World)(hN:n=(N:Int))(hn:n=1∨n=2∨n=4)(ha:a < 4294967296)(hv:v < 4294967296)(hs:s.Ok)(h:RM w k s)(hb:yA s 2 a n.toNat=none) :
  Calls Tryz.prog 73 #[.pointer (some ⟨k.y,0,none⟩),.int .u32 a,.int .i64 n,.int .u32 v] w fun e w'=>e=.returned goV∧RM w' k (uD s a N (zv v))∧zI k.all w w':=by
 have HN:Hid (n=(N:Int)):=hN
 have HN4:Hid (N≤4∧0 < N):=show _∧_ by omega
 have hl:=zCV hb (show 0 < n.toNat by omega)
 have HL:Hid (a+N≤65536):=show a+N≤65536 by omega
 have ha0:(0:Int)≤a:=aO
 have ha1:(a:Int) < 4294967296:=aO
 have HV:Hid (v < 4294967296):=hv
 have HP:Hid (RM w k s):=h
 have HB:Hid (yA s 2 a n.toNat=none):=hb
 have hn4:n≤4:=aO
 have hn0:0≤n:=aO
 clear hb hl hv
 have key:∀ w',Below (w.alloc (.cells #[.int .i64 0,.int .u32 0] 35)).heap.size (w.alloc (.cells #[.int .i64 0,.int .u32 0] 35)) w'→RM (w'.alloc (.cells #[.int .i64 0,.int .u32 0] 35)) k s∧zI k.all (w.alloc (.cells #[.int .i64 0,.int .u32 0] 35)) (w'.alloc (.cells #[.int .i64 0,.int .u32 0] 35))∧w.heap.size∉k.all∧w'.heap.size∉k.all∧w.heap.size < w'.heap.size:=by
  intro w' hb
  have h1:RM w' k s:=(h.alloc _).below hb aL
  obtain⟨-,-,-,q3⟩:=own2 hb
  refine⟨h1.alloc _,zI.of_below _ (hb.alloc hb.size _),fun hm=>?_,fun hm=>?_,q3⟩
  ·have:=h.lt _ (aM _ hm);omega
  ·have:=h1.lt _ (aM _ hm);omega
 have HK:Hid _:=key
 clear key h hN
 have hcase:(n==1)=true∨((n==1)=false∧(n==2)=true)∨((n==1)=false∧(n==2)=false∧(n==4)=true):=by
  rcases hn with rfl|rfl|rfl
  ·exact .inl rfl
  ·exact .inr (.inl ⟨rfl,rfl⟩)
  ·exact .inr (.inr ⟨rfl,rfl,rfl⟩)
 clear hn
 have hcase':(n !=1)=false∨((n !=1)=true∧(n !=2)=false)∨((n !=1)=true∧(n !=2)=true∧(n !=4)=false):=by
  rcases hcase with h|h|h
  ·exact .inl (by simp[bne,h])
  ·exact .inr (.inl ⟨by simp[bne,h.1],by simp[bne,h.2]⟩)
  ·exact .inr (.inr ⟨by simp[bne,h.1],by simp[bne,h.2.1],by simp[bne,h.2.2]⟩)
 clear hcase
 rcases hcase' with g1|⟨g1,g2⟩|⟨g1,g2,g4⟩
 all_goals
  go_enter Tryz.func73,Tryz.ntmps73
  go_wp2_with (go_at_call 85;refine(zF0 k a n 2 6 s _ ha (.inr (.inl rfl)) hs (HP.out.alloc _) HB.out).mono ?_;rintro e w' ⟨rfl,hBl⟩;obtain⟨q0,q1,q2,q3⟩:=own2 hBl;have HKK:=HK.out w' hBl;have HKH:Hid _:=HKK;have HBl:Hid _:=hBl;clear hBl HKK)
  go_loopw [3,10] (fun vv i wr=>∃ j p:Nat,i=.int .i64 j∧vv=.int .u32 p∧(j≤N∧p=v / 256 ^ j)∧StR k s a v w (w'.alloc (.cells #[.int .i64 0,.int .u32 0] 35)) j wr) (fun _ i _=>N - (intOf i).toNat)
  case atStart=>exact⟨0,v,rfl,rfl,⟨by omega,by simp⟩,⟨by rw[zBO];exact HKH.out.1,zI.refl _ _⟩⟩
  case round=>
   obtain⟨j,p,rfl,rfl,⟨hj,hp⟩,hR,hC⟩:=hrel
   have HR:Hid (RM wr k (uD s a j (zv v))):=hR
   have HC:Hid (zI k.all (w'.alloc (.cells #[.int .i64 0,.int .u32 0] 35)) wr):=hC
   have hNn:=HN.out
   clear hC
   by_cases hlt:j < N
   ·have hlt':(j:Int) < n:=aO
    have hai:a+j < 65536:=by have:=HL.out;omega
    have hd0:=hR.c0
    have hcb:=hR.by_ (a+j) hai
    have hfb:=hR.fb (a+j)
    have hj0:(0:Int)≤j:=aO
    obtain⟨x,hx⟩:∃ x,a+j=x:=⟨_,rfl⟩
    obtain⟨q,hq⟩:∃ q,x / 256=q:=⟨_,rfl⟩
    have hsum:(a:Int)+j=x:=aO
    have hdiv:(x:Int) / 256=q:=aO
    have hx0:(0:Int)≤x:=aO
    have hx1:(x:Int) < 65536:=aO
    have hq1:q < 256:=aO
    have hp0:(0:Int)≤p:=aO
    have hp1:(p:Int) < 4294967296:=by
     have h1:=HV.out
     have h2:v / 256 ^ j≤v:=Nat.div_le_self _ _
     omega
    have HZ:Hid (zv v j=(p:Int)%256):=show _=_ by rw[zLJ,← hp]
    have HPP:Hid (p / 256=v / 256 ^ (j+1)):=show _=_ by rw[hp,Nat.pow_succ,← Nat.div_div_eq_div_mul]
    have hz0:(0:Int)≤(p:Int)%256:=aO
    have hz1:(p:Int)%256 < 256:=aO
    rw[hx] at hcb hfb
    have HX:Hid (a+j=x∧x / 256=q):=⟨hx,hq⟩
    clear hR hai hx hq hj hp hNn
    go_wp2_with (go_at_call 28;refine(zBu k q _ _ hq1 (HR.out.setByte x aO ((p:Int)%256))).mono ?_;rintro e w2 ⟨rfl,hP',hC'⟩)
    have HQ':Hid (RM w2 k (vL { uD s a j (zv v) with B:=upd (uD s a j (zv v)).B x ((p:Int)%256) } q)):=hP'
    have HC':Hid (zI k.all (wr.setCell ⟨k.b,x,none⟩ (.int .u8 ((p:Int)%256))) w2):=hC'
    clear hP' hC'
    go_roundw
    case rel=>exact⟨j+1,p / 256,by go_num,by go_num,⟨by omega,HPP.out⟩,⟨by
     have:=HQ'.out
     rw[← HX.out.2,← HX.out.1,← HZ.out,zDs] at this
     exact this,(HC.out.setIn (by simp[RB.all])).trans HC'.out⟩⟩
    case measure=>simp[intOf];omega
   ·have hjn:j=N:=aO
    subst hjn
    have hlt':¬(j:Int) < n:=aO
    have hCw:=HKH.out.2.1.trans HC.out
    obtain⟨e0,e1,ef,-⟩:=zI.own2 hCw HKH.out.2.2.1
    obtain⟨e2,e3,eg,e5⟩:=zI.own2 HC.out HKH.out.2.2.2.1
    have HCW:Hid _:=hCw
    clear hR hj hp hNn hCw
    go_wp2
    refine bodyPost_ret (v:=goV) (by simp[results,Tryz.results73,go_sem,e0,e1]) rfl ⟨rfl,?_,HCW.out.res _ _⟩
    refine HR.out.of_blocks fun x hx=>?_
    have hne:x≠w.heap.size:=by have:=HP.out.lt x hx;omega
    rw[Below.heap_setCell _ _ _ _ hne,Below.heap_setCell _ _ _ _ hne]
theorem zH4(k:RB)(a v n:Nat)(s:MS)(w:World)(hn:n=1∨n=2∨n=4)(ha:a < 4294967296)(hv:v < 4294967296)(hs:s.Ok)(h:RM w k s)(hb:yA s 2 a n=none) :
  Calls Tryz.prog 73 #[.pointer (some ⟨k.y,0,none⟩),.int .u32 a,.int .i64 n,.int .u32 v] w fun e w'=>e=.returned goV∧RM w' k (uD s a n (zv v))∧zI k.all w w':=
 zJX k a v n n s w rfl aO ha hv hs h hb
def ldv(B:Nat→Int)(a:Nat):Nat→Int
 | 0=>0
 | n+1=>ldv B a n+B (a+n)*256 ^ n
theorem zEa(B:Nat→Int)(a:Nat)(hB:∀ i,0≤B i∧B i≤255):∀ n,0≤ldv B a n∧ldv B a n < 256 ^ n
 | 0=>by simp[ldv]
 | n+1=>by
  have h:=zEa B a hB n
  have hb:=hB (a+n)
  have hp:(0:Int) < 256 ^ n:=Int.pow_pos aD
  simp only[ldv,Int.pow_succ]
  generalize (256:Int) ^ n=p at *
  generalize B (a+n)=b at *
  have h1:0≤b*p:=Int.mul_nonneg hb.1 aO
  have h2:b*p≤255*p:=Int.mul_le_mul_of_nonneg_right hb.2 aO
  omega
theorem zM6(a y:Int)(s:Nat)(ha:0≤a)(has:a < 2 ^ s)(hy:0≤y)(hs:y*2 ^ s < 4294967296)(hs2:(2:Int) ^ s≤4294967296):bits .or .u32 a (y*2 ^ s)=a+y*2 ^ s:=by
 have h2:(0:Int) < 2 ^ s:=Int.pow_pos aD
 rw[u32_or a (y*2 ^ s) ha aO (Int.mul_nonneg hy aO) hs]
 obtain⟨m,rfl⟩:=Int.eq_ofNat_of_zero_le ha
 obtain⟨n,rfl⟩:=Int.eq_ofNat_of_zero_le hy
 have e1:((n:Int)*2 ^ s).toNat=2 ^ s*n:=by
  have:(n:Int)*2 ^ s=((n*2 ^ s:Nat):Int):=by simp
  rw[this,Int.toNat_natCast,Nat.mul_comm]
 have hm:m < 2 ^ s:=by
   have:((2 ^ s:Nat):Int)=2 ^ s:=by simp
   omega
 rw[e1,Int.toNat_natCast,Nat.or_comm,← Nat.two_pow_add_eq_or_of_lt hm]
 simp[Int.mul_comm,Int.add_comm]
theorem zOI(j:Nat)(L b:Int)(hj:j=0∨j=1∨j=2∨j=3)(hL0:0≤L)(hL:L < 256 ^ j)(hb0:0≤b)(hb1:b≤255):bits .or .u32 L (b*2 ^ (8*j)%4294967296)=L+b*256 ^ j:=by
 have hp:(2:Int) ^ (8*j)=256 ^ j:=by rw[Int.pow_mul];rfl
 have h4:b*256 ^ j < 4294967296∧(256:Int) ^ j≤4294967296:=by
  rcases hj with rfl|rfl|rfl|rfl
  ·simp;omega
  ·show b*256 < _∧(256:Int)≤_;omega
  ·show b*65536 < _∧(65536:Int)≤_;omega
  ·show b*16777216 < _∧(16777216:Int)≤_;omega
 have h0:0≤b*256 ^ j:=Int.mul_nonneg hb0 (Int.le_of_lt (Int.pow_pos aD))
 have hmod:b*2 ^ (8*j)%4294967296=b*2 ^ (8*j):=Int.emod_eq_of_lt (by rw[hp];exact h0) (by rw[hp];exact h4.1)
 rw[hmod,zM6 L b (8*j) hL0 (by rw[hp];exact hL) hb0 (by rw[hp];exact h4.1) (by rw[hp];exact h4.2),hp]
theorem zJu(X a x:Nat)(n:Int)(s:MS)(w:World)(ha:a < 4294967296)(hs:s.Ok)(h:PM w X s)(hb:yA s 1 a n.toNat=some x) :
  Calls Tryz.prog 99 #[.pointer (some ⟨X,0,none⟩),.int .u32 a,.int .i64 n] w fun e w'=>e=.returned (.tuple #[.int .u32 0,stV 5 x])∧Below w.heap.size w w':=by
 have HP:Hid (PM w X s):=h
 have HB:Hid (yA s 1 a n.toNat=some x):=hb
 clear h hb
 go_enter Tryz.func99,Tryz.ntmps99
 go_wp2_with (go_at_call 105;refine(zCH X a x n 1 s _ ha (.inl rfl) hs (HP.out.alloc _) HB.out).mono ?_;rintro e w' ⟨rfl,rfl⟩)
 exact bodyPost_ret (v:=.tuple #[.int .u32 0,stV 5 x]) (by simp[results,Tryz.results99,go_sem]) rfl ⟨rfl,by first|exact((aB.alloc aL _).setCell aL _).setCell aL _|exact(aB.alloc aL _).setCell aL _|exact aB.alloc aL _⟩
theorem zHF(X a:Nat)(n:Int)(s:MS)(w:World)(hn:¬(n=1∨n=2∨n=4))(ha:a < 4294967296)(hs:s.Ok)(h:PM w X s)(hb:yA s 1 a n.toNat=none) :
  Calls Tryz.prog 99 #[.pointer (some ⟨X,0,none⟩),.int .u32 a,.int .i64 n] w fun e w'=>e=.returned (.tuple #[.int .u32 0,goV])∧Below w.heap.size w w':=by
 have HP:Hid (PM w X s):=h
 have HB:Hid (yA s 1 a n.toNat=none):=hb
 have HN:Hid (¬(n=1∨n=2∨n=4)):=hn
 clear h hb hn
 go_enter Tryz.func99,Tryz.ntmps99
 go_wp2_with first
  | (go_at_call 105;refine(zBJ X a n 1 s _ ha (.inl rfl) hs (HP.out.alloc _) HB.out).mono ?_;rintro e w' ⟨rfl,rfl⟩)
  | (go_at_call 106;refine(zIB _ _ HN.out).mono ?_;rintro e w' ⟨rfl,rfl⟩)
 exact bodyPost_ret (v:=.tuple #[.int .u32 0,goV]) (by simp[results,Tryz.results99,go_sem]) rfl ⟨rfl,by first|exact((aB.alloc aL _).setCell aL _).setCell aL _|exact(aB.alloc aL _).setCell aL _|exact aB.alloc aL _⟩
theorem zLb(X a n:Nat)(s:MS)(w:World)(hn:n=1∨n=2∨n=4)(ha:a < 4294967296)(hs:s.Ok)(h:PM w X s)(hb:yA s 1 a n=none) :
  Calls Tryz.prog 99 #[.pointer (some ⟨X,0,none⟩),.int .u32 a,.int .i64 n] w fun e w'=>e=.returned (.tuple #[.int .u32 (ldv s.B a n),goV])∧Below w.heap.size w w':=by
 have HN:Hid ((n:Int)=1∨(n:Int)=2∨(n:Int)=4):=show _∨_∨_ by omega
 have HN4:Hid (n≤4∧0 < n):=show _∧_ by omega
 have hl:=zCV hb (show 0 < n by omega)
 have HL:Hid (a+n≤65536):=hl
 have ha0:(0:Int)≤a:=aO
 have ha1:(a:Int) < 4294967296:=aO
 have hs1:(a:Int)+n≤65536:=aO
 have hn0:(0:Int)≤n:=aO
 have hne:¬65536=a:=aO
 have hs0:(0:Int)≤(a:Int)+n:=aO
 have ht:((a:Int)+n).toNat=a+n:=aO
 have hle:(a:Int)≤(a:Int)+n:=aO
 have HP:Hid (PM w X s):=h
 have HB:Hid (yA s 1 a (n:Int).toNat=none):=hb
 clear hn h hb hl
 go_enter Tryz.func99,Tryz.ntmps99
 go_wp2_with first
  | (go_at_call 105;refine(zBJ X a n 1 s _ ha (.inl rfl) hs (HP.out.alloc _) HB.out).mono ?_;rintro e w' ⟨rfl,rfl⟩)
  | (go_at_call 106;refine(zEs _ _ HN.out).mono ?_;rintro e w' ⟨rfl,rfl⟩)
 go_loop [10,38] (fun vv i=>∃ j:Nat,i=.int .i64 j∧vv=.int .u32 (ldv s.B a j)∧j≤n) (fun _ i=>n - (intOf i).toNat)
 case atStart=>exact⟨0,rfl,rfl,by omega⟩
 case round=>
  obtain⟨j,rfl,rfl,hj⟩:=hrel
  have hbd:=zEa s.B a hs.by_ j
  by_cases hlt:j < n
  ·have hai:a+j < 65536:=by have:=HL.out;omega
   have hX:X < w.heap.size:=HP.out.lt
   have hcb:=HP.out.by_ (a+j) hai
   have hj0:(0:Int)≤j:=aO
   have hji:(j:Int) < n:=aO
   obtain⟨b,hbb⟩:∃ b,s.B (a+j)=b:=⟨_,rfl⟩
   have hB:=hs.by_ (a+j)
   rw[hbb] at hcb hB
   obtain⟨hB0,hB1⟩:=hB
   obtain⟨L,hL⟩:∃ L,ldv s.B a j=L:=⟨_,rfl⟩
   have HLJ:Hid (ldv s.B a (j+1)=L+b*256 ^ j):=show _=_ by rw[ldv,hL,hbb]
   have HJ:Hid ((j=0∨j=1∨j=2∨j=3)∧0≤L∧L < 256 ^ j):=⟨by have:=HN4.out;omega,by rw[← hL];exact hbd⟩
   have h80:(0:Int)≤8*(j:Int):=aO
   have hj4:(j:Int)≤3:=by have:=HN4.out;omega
   rw[hL]
   clear hbb hbd hL hai hj
   go_wp2
   go_round
   case rel=>exact⟨j+1,by go_num,by rw[HLJ.out,zOI j L b HJ.out.1 HJ.out.2.1 HJ.out.2.2 hB0 hB1],by omega⟩
   case measure=>simp[intOf];omega
  ·have hjn:j=n:=aO
   subst hjn
   clear hbd hj
   go_wp2
   exact bodyPost_ret (v:=.tuple #[.int .u32 (ldv s.B a j),goV]) (by simp[results,Tryz.results99,go_sem]) rfl ⟨rfl,by first|exact((aB.alloc aL _).setCell aL _).setCell aL _|exact(aB.alloc aL _).setCell aL _|exact aB.alloc aL _⟩
theorem zHY(k:RB)(a x:Nat)(n:Int)(s:MS)(w:World)(ha:a < 4294967296)(hs:s.Ok)(h:RM w k s)(hb:yA s 1 a n.toNat=some x) :
  Calls Tryz.prog 71 #[.pointer (some ⟨k.y,0,none⟩),.int .u32 a,.int .i64 n] w fun e w'=>e=.returned (.tuple #[.int .u32 0,stV 5 x])∧Below w.heap.size w w':=by
 have HP:Hid (RM w k s):=h
 have HB:Hid (yA s 1 a n.toNat=some x):=hb
 clear h hb
 go_enter Tryz.func71,Tryz.ntmps71
 go_wp2_with (go_at_call 85;refine(zHi k a x n 1 5 s _ ha (.inl rfl) hs (HP.out.alloc _) HB.out).mono ?_;rintro e w' ⟨rfl,hBl⟩;obtain⟨q0,q1,q2,q3⟩:=own2 hBl;have HBl:Hid _:=hBl;clear hBl)
 go_region
 all_goals
  go_wp2
  exact bodyPost_ret (v:=.tuple #[.int .u32 0,stV 5 x]) (by simp[results,Tryz.results71,go_sem,q0,q1,q3]) rfl ⟨rfl,zBb HBl.out _ _ _⟩
theorem zGv(k:RB)(a:Nat)(n:Int)(s:MS)(w:World)(hn:¬(n=1∨n=2∨n=4))(ha:a < 4294967296)(hs:s.Ok)(h:RM w k s)(hb:yA s 1 a n.toNat=none) :
  Calls Tryz.prog 71 #[.pointer (some ⟨k.y,0,none⟩),.int .u32 a,.int .i64 n] w fun e w'=>e=.returned (.tuple #[.int .u32 0,goV])∧Below w.heap.size w w':=by
 have HP:Hid (RM w k s):=h
 have HB:Hid (yA s 1 a n.toNat=none):=hb
 have h1:(n==1)=false:=by simp;omega
 have h2:(n==2)=false:=by simp;omega
 have h4:(n==4)=false:=by simp;omega
 have g1:(n !=1)=true:=by simp[bne,h1]
 have g2:(n !=2)=true:=by simp[bne,h2]
 have g4:(n !=4)=true:=by simp[bne,h4]
 clear h hb hn
 go_enter Tryz.func71,Tryz.ntmps71
 go_wp2_with (go_at_call 85;refine(zF0 k a n 1 5 s _ ha (.inl rfl) hs (HP.out.alloc _) HB.out).mono ?_;rintro e w' ⟨rfl,hBl⟩;obtain⟨q0,q1,q2,q3⟩:=own2 hBl;have HBl:Hid _:=hBl;clear hBl)
 go_region
 all_goals
  go_wp2
  exact bodyPost_ret (v:=.tuple #[.int .u32 0,goV]) (by simp[results,Tryz.results71,go_sem,q0,q1,q3]) rfl ⟨rfl,zBb HBl.out _ _ _⟩
theorem zE2(B:Nat→Int)(a:Nat):∀ n,ldv B a (n+1)=ldv B (a+1) n*256+B a
 | 0=>by simp[ldv]
 | n+1=>by
  have ih:=zE2 B a n
  rw[ldv,ih,ldv,Nat.add_right_comm a 1 n,← Nat.add_assoc a n 1,Int.pow_succ]
  rw[Int.add_mul,Int.mul_assoc]
  omega
structure LdR(s:MS)(a N j:Nat)(x:Int):Prop where
 le:j≤N
 eq:x=ldv s.B (a+j) (N - j)
theorem zLr(k:RB)(a N:Nat)(n:Int)(s:MS)(w:World)(hN:n=(N:Int))(hn:n=1∨n=2∨n=4)(ha:a < 4294967296)(hs:s.Ok)(h:RM w k s)(hb:yA s 1 a n.toNat=none) :
  Calls Tryz.prog 71 #[.pointer (some ⟨k.y,0,none⟩),.int .u32 a,.int .i64 n] w fun e w'=>e=.returned (.tuple #[.int .u32 (ldv s.B a N),goV])∧Below w.heap.size w w':=by
 have HN:Hid (n=(N:Int)):=hN
 have HN4:Hid (N≤4∧0 < N):=show _∧_ by omega
 have hl:=zCV hb (show 0 < n.toNat by omega)
 have HL:Hid (a+N≤65536):=show a+N≤65536 by omega
 have ha0:(0:Int)≤a:=aO
 have ha1:(a:Int) < 65536:=aO
 have HP:Hid (RM w k s):=h
 have HB:Hid (yA s 1 a n.toNat=none):=hb
 have hn4:n≤4:=aO
 have hn0:0≤n:=aO
 have key:∀ w',Below (w.alloc (.cells #[.int .i64 0,.int .u32 0] 35)).heap.size (w.alloc (.cells #[.int .i64 0,.int .u32 0] 35)) w'→RM w' k s:=fun w' hb=>(h.alloc _).below hb aL
 have HK:Hid _:=key
 clear h hb key hl
 have hcase:(n==1)=true∨((n==1)=false∧(n==2)=true)∨((n==1)=false∧(n==2)=false∧(n==4)=true):=by
  rcases hn with rfl|rfl|rfl
  ·exact .inl rfl
  ·exact .inr (.inl ⟨rfl,rfl⟩)
  ·exact .inr (.inr ⟨rfl,rfl,rfl⟩)
 clear hn hN
 have hcase':(n !=1)=false∨((n !=1)=true∧(n !=2)=false)∨((n !=1)=true∧(n !=2)=true∧(n !=4)=false):=by
  rcases hcase with h|h|h
  ·exact .inl (by simp[bne,h])
  ·exact .inr (.inl ⟨by simp[bne,h.1],by simp[bne,h.2]⟩)
  ·exact .inr (.inr ⟨by simp[bne,h.1],by simp[bne,h.2.1],by simp[bne,h.2.2]⟩)
 clear hcase
 rcases hcase' with g1|⟨g1,g2⟩|⟨g1,g2,g4⟩
 all_goals
  go_enter Tryz.func71,Tryz.ntmps71
  go_wp2_with (go_at_call 85;refine(zF0 k a n 1 5 s _ ha (.inl rfl) hs (HP.out.alloc _) HB.out).mono ?_;rintro e w' ⟨rfl,hBl⟩;obtain⟨q0,q1,q2,q3⟩:=own2 hBl;have hR:=HK.out w' hBl;have hlty:=hR.lty;have hltb:=hR.ltb;have d0:=hR.c0;have HR:Hid (RM w' k s):=hR;have HBl:Hid _:=hBl;clear hBl hR)
  go_loop [9,10] (fun vv i=>∃ (j:Nat) (x:Int),i=.int .i64 ((j:Int) - 1)∧vv=.int .u32 x∧LdR s a N j x) (fun _ i=>(intOf i+1).toNat)
  case atStart=>exact⟨N,0,by rw[← HN.out],rfl,Nat.le_refl _,by simp[ldv]⟩
  case round=>
   obtain⟨j,x,rfl,rfl,hjN,hx⟩:=hrel
   have hbd:=zEa s.B (a+j) hs.by_ (N - j)
   have h44:=HN4.out
   cases j with
   | zero=>
    have hz:((0:Nat):Int) - 1 = -1:=rfl
    rw[hz]
    have HX:Hid (x=ldv s.B a N):=show _=_ by simpa using hx
    clear hbd hx hjN h44 hz
    go_wp2
    go_region
    all_goals
     go_wp2
     refine bodyPost_ret (v:=.tuple #[.int .u32 x,goV]) (by simp[results,Tryz.results71,go_sem,q0,q1,q3]) rfl ⟨by rw[HX.out],zBb HBl.out _ _ _⟩
   | succ t=>
    have e:((t+1:Nat):Int) - 1=(t:Int):=aO
    rw[e]
    have hat:a+t < 65536:=by have:=HL.out;omega
    have hcb:=HR.out.by_ (a+t) hat
    obtain⟨b,hbb⟩:∃ b,s.B (a+t)=b:=⟨_,rfl⟩
    have hB:=hs.by_ (a+t)
    rw[hbb] at hcb hB
    obtain⟨hB0,hB1⟩:=hB
    rw[← hx] at hbd
    obtain⟨hx0,hx1⟩:=hbd
    have hx2:x < 16777216:=by
     have hc:N - (t+1)=0∨N - (t+1)=1∨N - (t+1)=2∨N - (t+1)=3:=aO
     rcases hc with h|h|h|h<;>rw[h] at hx1<;>simp at hx1<;>omega
    have HX:Hid (x*256+b=ldv s.B (a+t) (N - t)):=show _=_ by
     rw[show N - t=(N - (t+1))+1 by omega,zE2,hbb,hx,Nat.add_assoc]
    have HT:Hid (t≤N):=show t≤N by omega
    have ht0:(0:Int)≤t:=aO
    have ht4:(t:Int)≤4:=aO
    have hti:(a:Int)+t < 65536:=aO
    clear hx hjN h44 e hx1 hbb hat
    go_wp2
    go_round
    case rel=>exact⟨t,x*256+b,by go_num,by go_num,HT.out,HX.out⟩
    case measure=>simp[intOf]
theorem zJQ(k:RB)(a n:Nat)(s:MS)(w:World)(hn:n=1∨n=2∨n=4)(ha:a < 4294967296)(hs:s.Ok)(h:RM w k s)(hb:yA s 1 a n=none) :
  Calls Tryz.prog 71 #[.pointer (some ⟨k.y,0,none⟩),.int .u32 a,.int .i64 n] w fun e w'=>e=.returned (.tuple #[.int .u32 (ldv s.B a n),goV])∧Below w.heap.size w w':=
 zLr k a n n s w rfl aO ha hs h hb
theorem zOE:(Tryz.prog.info? 3).map (fun i=>(i.zero,i.size,i.bytes))=some (some (.int .i64 0),1,8):=by kernel_rfl
end Go.Proofs.YthcpipfmicbnmaaGreat.Va
