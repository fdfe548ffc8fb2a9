import Derived.Test.YtkmjenjahbicpaaWJ01
import Derived.Deep.RegionLaw
import Derived.Lib.SliceRun
set_option linter.unusedVariables false
set_option linter.unusedSimpArgs false
set_option maxHeartbeats 2000000
namespace Go.Proofs.Ytkmjenjahbicpaa.Va
open Go.RowKit
set_option maxRecDepth 100000
abbrev goV:Value:=.agg #[.int .i64 0,.int .u32 0]
abbrev stV(k:Int)(x:Nat):Value:=.agg #[.int .i64 k,.int .u32 x]
theorem PM.alloc{w:World}{X:Nat}{s:MS}(h:PM w X s)(o:Obj):PM (w.alloc o) X s:=h.below ((Below.refl w.heap.size w).alloc aL o) h.lt
theorem RM.alloc{w:World}{k:RB}{s:MS}(h:RM w k s)(o:Obj):RM (w.alloc o) k s:=h.below ((Below.refl w.heap.size w).alloc aL o) aL
theorem own2{w w':World}{v0 v1:Value}{t:TypeId}(hb:Below (w.alloc (.cells #[v0,v1] t)).heap.size (w.alloc (.cells #[v0,v1] t)) w') :
  w'.cell? ⟨w.heap.size,0,none⟩=some v0∧w'.cell? ⟨w.heap.size,1,none⟩=some v1∧(∀ o,w'.frozen? ⟨w.heap.size,o,none⟩=false)∧w.heap.size < w'.heap.size:=by
 have h1:w'.heap[w.heap.size]?=some (.cells #[v0,v1] t (0,0)):=(hb.block _ aS).trans (heap_alloc_last w _)
 refine⟨(cell_of_row _ _ 0 _ t (0,0) h1).trans rfl,(cell_of_row _ _ 1 _ t (0,0) h1).trans rfl,fun o=>by simp only[World.frozen?,h1];simp,?_⟩
 have:=hb.size
 simp at this
 omega
theorem zCN{w w':World}{o:Obj}(hb:Below (w.alloc o).heap.size (w.alloc o) w')(v0 v1:Value):Below w.heap.size w ((w'.setCell ⟨w.heap.size,0,none⟩ v0).setCell ⟨w.heap.size,1,none⟩ v1):=
 (((aB.alloc aL o).trans (hb.mono aS)).setCell aL _).setCell aL _
theorem zCf{w w':World}{o:Obj}(hb:Below (w.alloc o).heap.size (w.alloc o) w')(v0 v1:Value)(o2:Obj):Below w.heap.size w (((w'.setCell ⟨w.heap.size,0,none⟩ v0).setCell ⟨w.heap.size,1,none⟩ v1).alloc o2).drew:=
 ((zCN hb v0 v1).alloc (zCN hb v0 v1).size o2).drew
theorem zIC(k':RB)(a x:Nat)(n r kind:Int)(s:MS)(w:World)(ha:a < 4294967296)(hr:r=1∨r=2∨r=4)(hs:s.Ok)(h:RM w k' s)(hb:vA s r a n.toNat=some x) :
  Calls Try.prog 83 #[.pointer (some ⟨k'.y,0,none⟩),.int .u32 a,.int .i64 n,.int .i64 r,.int .i64 kind] w fun e w'=>e=.returned (stV kind x)∧Below w.heap.size w w':=by
 have:=zIB k' a n r kind s w ha hr hs h
 rw[hb] at this
 exact this
theorem zHc(k':RB)(a:Nat)(n r kind:Int)(s:MS)(w:World)(ha:a < 4294967296)(hr:r=1∨r=2∨r=4)(hs:s.Ok)(h:RM w k' s)(hb:vA s r a n.toNat=none) :
  Calls Try.prog 83 #[.pointer (some ⟨k'.y,0,none⟩),.int .u32 a,.int .i64 n,.int .i64 r,.int .i64 kind] w fun e w'=>e=.returned goV∧Below w.heap.size w w':=by
 have:=zIB k' a n r kind s w ha hr hs h
 rw[hb] at this
 exact this
def zv(v:Nat)(j:Nat):Int:=((v / 256 ^ j%256:Nat):Int)
theorem zJ.res{S:List Nat}{w w':World}{o:Obj}(h:zJ S (w.alloc o) w')(v0 v1:Value):zJ S w ((w'.setCell ⟨w.heap.size,0,none⟩ v0).setCell ⟨w.heap.size,1,none⟩ v1):=by
 have h1:zJ S w w':=(zJ.of_below S ((Below.refl w.heap.size w).alloc aL o)).trans h
 exact(h1.new aL ((zBD.refl _ _).setCell 0 v0)).new aL ((zBD.refl _ _).setCell 1 v1)
theorem zJ.own2{S:List Nat}{w w':World}{v0 v1:Value}{t:TypeId}(hb:zJ S (w.alloc (.cells #[v0,v1] t)) w')(hS:w.heap.size∉S) :
  w'.cell? ⟨w.heap.size,0,none⟩=some v0∧w'.cell? ⟨w.heap.size,1,none⟩=some v1∧(∀ o,w'.frozen? ⟨w.heap.size,o,none⟩=false)∧w.heap.size < w'.heap.size:=by
 have h1:w'.heap[w.heap.size]?=some (.cells #[v0,v1] t (0,0)):=(hb.block _ aS hS).trans (heap_alloc_last w _)
 refine⟨(cell_of_row _ _ 0 _ t (0,0) h1).trans rfl,(cell_of_row _ _ 1 _ t (0,0) h1).trans rfl,fun o=>by simp only[World.frozen?,h1];simp,?_⟩
 have:=hb.size
 simp at this
 omega
theorem zJ.drew{S:List Nat}{w w':World}(h:zJ S w w'):zJ S w w'.drew:=⟨h.os,h.tape,h.output,h.size,h.block⟩
theorem zGJ{w w':World}{o:Obj}(hb:Below (w.alloc o).heap.size (w.alloc o) w')(v0 v1:Value)(o2:Obj):Below w.heap.size w (((w'.setCell ⟨w.heap.size,0,none⟩ v0).setCell ⟨w.heap.size,1,none⟩ v1).alloc o2):=
 (zCN hb v0 v1).alloc (zCN hb v0 v1).size o2
theorem zGP(k:RB)(a v:Nat)(n:Int)(w:World)(hn:¬(n=1∨n=2∨n=4)) :
  Calls Try.prog 57 #[.pointer (some ⟨k.y,0,none⟩),.int .u32 a,.int .i64 n,.int .u32 v] w fun e w'=>e=.returned goV∧Below w.heap.size w w':=by
 have h1:(n==1)=false:=by simp;omega
 have h2:(n==2)=false:=by simp;omega
 have h4:(n==4)=false:=by simp;omega
 have g1:(n !=1)=true:=by simp[bne,h1]
 have g2:(n !=2)=true:=by simp[bne,h2]
 have g4:(n !=4)=true:=by simp[bne,h4]
 clear hn
 go_enter Try.func57,Try.ntmps57
 go_wp2
 exact bodyPost_ret (v:=goV) (by simp[results,Try.results57,go_sem]) rfl ⟨rfl,by first|exact(aB.alloc aL _).setCell aL _|exact aB.alloc aL _⟩
theorem zHM(k:RB)(a v x:Nat)(n:Int)(s:MS)(w:World)(hn:n=1∨n=2∨n=4)(ha:a < 4294967296)(hs:s.Ok)(h:RM w k s)(hb:vA s 2 a n.toNat=some x) :
  Calls Try.prog 57 #[.pointer (some ⟨k.y,0,none⟩),.int .u32 a,.int .i64 n,.int .u32 v] w fun e w'=>e=.returned (stV 6 x)∧Below w.heap.size w w':=by
 have HP:Hid (RM w k s):=h
 have HB:Hid (vA s 2 a n.toNat=some x):=hb
 clear h hb
 rcases hn with rfl|rfl|rfl
 all_goals
  go_enter Try.func57,Try.ntmps57
  go_wp2_with (go_at_call 83;refine(zIC k a x _ 2 6 s _ ha (.inr (.inl rfl)) hs (HP.out.alloc _) HB.out).mono ?_;rintro e w' ⟨rfl,hBl⟩;obtain⟨q0,q1,q2,q3⟩:=own2 hBl;have HBl:Hid _:=hBl;clear hBl)
  exact bodyPost_ret (v:=stV 6 x) (by simp[results,Try.results57,go_sem,q0,q1,q3]) rfl ⟨rfl,by first|exact zGJ HBl.out _ _ _|exact zCf HBl.out _ _ _⟩
theorem zOF(v j:Nat):zv v j=(((v / 256 ^ j:Nat):Int)%256):=by unfold zv;omega
structure StR(k:RB)(s:MS)(a v:Nat)(w w1:World)(j:Nat)(wr:World):Prop where
 rm:RM wr k (uL s a j (zv v))
 chg:zJ k.all w1 wr
theorem zMn(k:RB)(a v N:Nat)(n:Int)(s:MS)(w:World)(hN:n=(N:Int))(hn:n=1∨n=2∨n=4)(ha:a < 4294967296)(hv:v < 4294967296)(hs:s.Ok)(h:RM w k s)(hb:vA s 2 a n.toNat=none) :
  Calls Try.prog 57 #[.pointer (some ⟨k.y,0,none⟩),.int .u32 a,.int .i64 n,.int .u32 v] w fun e w'=>e=.returned goV∧RM w' k (uL s a N (zv v))∧zJ k.all w w':=by
 have HN:Hid (n=(N:Int)):=hN
 have HN4:Hid (N≤4∧0 < N):=show _∧_ by omega
 have hl:=zH5 hb (show 0 < n.toNat by omega)
 have HL:Hid (a+N≤65536):=show a+N≤65536 by omega
 have ha0:(0:Int)≤a:=aO
 have ha1:(a:Int) < 4294967296:=aO
 have HV:Hid (v < 4294967296):=hv
 have HP:Hid (RM w k s):=h
 have HB:Hid (vA s 2 a n.toNat=none):=hb
 have hn4:n≤4:=aO
 have hn0:0≤n:=aO
 clear hb hl hv
 have key:∀ w',Below (w.alloc (.cells #[.int .i64 0,.int .u32 0] 42)).heap.size (w.alloc (.cells #[.int .i64 0,.int .u32 0] 42)) w'→RM (w'.alloc (.cells #[.int .i64 0,.int .u32 0] 42)) k s∧zJ k.all (w.alloc (.cells #[.int .i64 0,.int .u32 0] 42)) (w'.alloc (.cells #[.int .i64 0,.int .u32 0] 42))∧w.heap.size∉k.all∧w'.heap.size∉k.all∧w.heap.size < w'.heap.size:=by
  intro w' hb
  have h1:RM w' k s:=(h.alloc _).below hb aL
  obtain⟨-,-,-,q3⟩:=own2 hb
  refine⟨h1.alloc _,zJ.of_below _ (hb.alloc hb.size _),fun hm=>?_,fun hm=>?_,q3⟩
  ·have:=h.lt _ (aM _ hm);omega
  ·have:=h1.lt _ (aM _ hm);omega
 have HK:Hid _:=key
 clear key h hN
 have hcase:(n==1)=true∨((n==1)=false∧(n==2)=true)∨((n==1)=false∧(n==2)=false∧(n==4)=true):=by
  rcases hn with rfl|rfl|rfl
  ·exact .inl rfl
  ·exact .inr (.inl ⟨rfl,rfl⟩)
  ·exact .inr (.inr ⟨rfl,rfl,rfl⟩)
 clear hn
 have hcase':(n !=1)=false∨((n !=1)=true∧(n !=2)=false)∨((n !=1)=true∧(n !=2)=true∧(n !=4)=false):=by
  rcases hcase with h|h|h
  ·exact .inl (by simp[bne,h])
  ·exact .inr (.inl ⟨by simp[bne,h.1],by simp[bne,h.2]⟩)
  ·exact .inr (.inr ⟨by simp[bne,h.1],by simp[bne,h.2.1],by simp[bne,h.2.2]⟩)
 clear hcase
 rcases hcase' with g1|⟨g1,g2⟩|⟨g1,g2,g4⟩
 all_goals
  go_enter Try.func57,Try.ntmps57
  go_wp2_with (go_at_call 83;refine(zHc k a n 2 6 s _ ha (.inr (.inl rfl)) hs (HP.out.alloc _) HB.out).mono ?_;rintro e w' ⟨rfl,hBl⟩;obtain⟨q0,q1,q2,q3⟩:=own2 hBl;have HKK:=HK.out w' hBl;have HKH:Hid _:=HKK;have HBl:Hid _:=hBl;clear hBl HKK)
  go_loopw [3,10] (fun vv i wr=>∃ j p:Nat,i=.int .i64 j∧vv=.int .u32 p∧(j≤N∧p=v / 256 ^ j)∧StR k s a v w (w'.alloc (.cells #[.int .i64 0,.int .u32 0] 42)) j wr) (fun _ i _=>N - (intOf i).toNat)
  case atStart=>exact⟨0,v,rfl,rfl,⟨by omega,by simp⟩,⟨by rw[zC0];exact HKH.out.1,zJ.refl _ _⟩⟩
  case round=>
   obtain⟨j,p,rfl,rfl,⟨hj,hp⟩,hR,hC⟩:=hrel
   have HR:Hid (RM wr k (uL s a j (zv v))):=hR
   have HC:Hid (zJ k.all (w'.alloc (.cells #[.int .i64 0,.int .u32 0] 42)) wr):=hC
   have hNn:=HN.out
   clear hC
   by_cases hlt:j < N
   ·have hlt':(j:Int) < n:=aO
    have hai:a+j < 65536:=by have:=HL.out;omega
    have hd0:=hR.c0
    have hcb:=hR.by_ (a+j) hai
    have hfb:=hR.fb (a+j)
    have hj0:(0:Int)≤j:=aO
    obtain⟨x,hx⟩:∃ x,a+j=x:=⟨_,rfl⟩
    obtain⟨q,hq⟩:∃ q,x / 256=q:=⟨_,rfl⟩
    have hsum:(a:Int)+j=x:=aO
    have hdiv:(x:Int) / 256=q:=aO
    have hx0:(0:Int)≤x:=aO
    have hx1:(x:Int) < 65536:=aO
    have hq1:q < 256:=aO
    have hp0:(0:Int)≤p:=aO
    have hp1:(p:Int) < 4294967296:=by
     have h1:=HV.out
     have h2:v / 256 ^ j≤v:=Nat.div_le_self _ _
     omega
    have HZ:Hid (zv v j=(p:Int)%256):=show _=_ by rw[zOF,← hp]
    have HPP:Hid (p / 256=v / 256 ^ (j+1)):=show _=_ by rw[hp,Nat.pow_succ,← Nat.div_div_eq_div_mul]
    have hz0:(0:Int)≤(p:Int)%256:=aO
    have hz1:(p:Int)%256 < 256:=aO
    rw[hx] at hcb hfb
    have HX:Hid (a+j=x∧x / 256=q):=⟨hx,hq⟩
    clear hR hai hx hq hj hp hNn
    go_wp2_with (go_at_call 38;refine(zCE k q _ _ hq1 (HR.out.setByte x aO ((p:Int)%256))).mono ?_;rintro e w2 ⟨rfl,hP',hC'⟩)
    have HQ':Hid (RM w2 k (vP { uL s a j (zv v) with B:=upd (uL s a j (zv v)).B x ((p:Int)%256) } q)):=hP'
    have HC':Hid (zJ k.all (wr.setCell ⟨k.b,x,none⟩ (.int .u8 ((p:Int)%256))) w2):=hC'
    clear hP' hC'
    go_roundw
    case rel=>exact⟨j+1,p / 256,by go_num,by go_num,⟨by omega,HPP.out⟩,⟨by
     have:=HQ'.out
     rw[← HX.out.2,← HX.out.1,← HZ.out,zEO] at this
     exact this,(HC.out.setIn (by simp[RB.all])).trans HC'.out⟩⟩
    case measure=>simp[intOf];omega
   ·have hjn:j=N:=aO
    subst hjn
    have hlt':¬(j:Int) < n:=aO
    have hCw:=HKH.out.2.1.trans HC.out
    obtain⟨e0,e1,ef,-⟩:=zJ.own2 hCw HKH.out.2.2.1
    obtain⟨e2,e3,eg,e5⟩:=zJ.own2 HC.out HKH.out.2.2.2.1
    have HCW:Hid _:=hCw
    clear hR hj hp hNn hCw
    go_wp2
    refine bodyPost_ret (v:=goV) (by simp[results,Try.results57,go_sem,e0,e1]) rfl ⟨rfl,?_,HCW.out.res _ _⟩
    refine HR.out.of_blocks fun x hx=>?_
    have hne:x≠w.heap.size:=by have:=HP.out.lt x hx;omega
    rw[Below.heap_setCell _ _ _ _ hne,Below.heap_setCell _ _ _ _ hne]
theorem zJW(k:RB)(a v n:Nat)(s:MS)(w:World)(hn:n=1∨n=2∨n=4)(ha:a < 4294967296)(hv:v < 4294967296)(hs:s.Ok)(h:RM w k s)(hb:vA s 2 a n=none) :
  Calls Try.prog 57 #[.pointer (some ⟨k.y,0,none⟩),.int .u32 a,.int .i64 n,.int .u32 v] w fun e w'=>e=.returned goV∧RM w' k (uL s a n (zv v))∧zJ k.all w w':=
 zMn k a v n n s w rfl aO ha hv hs h hb
def ldv(B:Nat→Int)(a:Nat):Nat→Int
 | 0=>0
 | n+1=>ldv B a n+B (a+n)*256 ^ n
theorem zG6(B:Nat→Int)(a:Nat)(hB:∀ i,0≤B i∧B i≤255):∀ n,0≤ldv B a n∧ldv B a n < 256 ^ n
 | 0=>by simp[ldv]
 | n+1=>by
  have h:=zG6 B a hB n
  have hb:=hB (a+n)
  have hp:(0:Int) < 256 ^ n:=Int.pow_pos aD
  simp only[ldv,Int.pow_succ]
  generalize (256:Int) ^ n=p at *
  generalize B (a+n)=b at *
  have h1:0≤b*p:=Int.mul_nonneg hb.1 aO
  have h2:b*p≤255*p:=Int.mul_le_mul_of_nonneg_right hb.2 aO
  omega
theorem zJQ(k:RB)(a x:Nat)(n:Int)(s:MS)(w:World)(ha:a < 4294967296)(hs:s.Ok)(h:RM w k s)(hb:vA s 1 a n.toNat=some x) :
  Calls Try.prog 55 #[.pointer (some ⟨k.y,0,none⟩),.int .u32 a,.int .i64 n] w fun e w'=>e=.returned (.tuple #[.int .u32 0,stV 5 x])∧Below w.heap.size w w':=by
 have HP:Hid (RM w k s):=h
 have HB:Hid (vA s 1 a n.toNat=some x):=hb
 clear h hb
 go_enter Try.func55,Try.ntmps55
 go_wp2_with (go_at_call 83;refine(zIC k a x n 1 5 s _ ha (.inl rfl) hs (HP.out.alloc _) HB.out).mono ?_;rintro e w' ⟨rfl,hBl⟩;obtain⟨q0,q1,q2,q3⟩:=own2 hBl;have HBl:Hid _:=hBl;clear hBl)
 go_region
 all_goals
  go_wp2
  exact bodyPost_ret (v:=.tuple #[.int .u32 0,stV 5 x]) (by simp[results,Try.results55,go_sem,q0,q1,q3]) rfl ⟨rfl,zCf HBl.out _ _ _⟩
theorem zHL(k:RB)(a:Nat)(n:Int)(s:MS)(w:World)(hn:¬(n=1∨n=2∨n=4))(ha:a < 4294967296)(hs:s.Ok)(h:RM w k s)(hb:vA s 1 a n.toNat=none) :
  Calls Try.prog 55 #[.pointer (some ⟨k.y,0,none⟩),.int .u32 a,.int .i64 n] w fun e w'=>e=.returned (.tuple #[.int .u32 0,goV])∧Below w.heap.size w w':=by
 have HP:Hid (RM w k s):=h
 have HB:Hid (vA s 1 a n.toNat=none):=hb
 have h1:(n==1)=false:=by simp;omega
 have h2:(n==2)=false:=by simp;omega
 have h4:(n==4)=false:=by simp;omega
 have g1:(n !=1)=true:=by simp[bne,h1]
 have g2:(n !=2)=true:=by simp[bne,h2]
 have g4:(n !=4)=true:=by simp[bne,h4]
 clear h hb hn
 go_enter Try.func55,Try.ntmps55
 go_wp2_with (go_at_call 83;refine(zHc k a n 1 5 s _ ha (.inl rfl) hs (HP.out.alloc _) HB.out).mono ?_;rintro e w' ⟨rfl,hBl⟩;obtain⟨q0,q1,q2,q3⟩:=own2 hBl;have HBl:Hid _:=hBl;clear hBl)
 go_region
 all_goals
  go_wp2
  exact bodyPost_ret (v:=.tuple #[.int .u32 0,goV]) (by simp[results,Try.results55,go_sem,q0,q1,q3]) rfl ⟨rfl,zCf HBl.out _ _ _⟩
theorem zGt(B:Nat→Int)(a:Nat):∀ n,ldv B a (n+1)=ldv B (a+1) n*256+B a
 | 0=>by simp[ldv]
 | n+1=>by
  have ih:=zGt B a n
  rw[ldv,ih,ldv,Nat.add_right_comm a 1 n,← Nat.add_assoc a n 1,Int.pow_succ]
  rw[Int.add_mul,Int.mul_assoc]
  omega
structure LdR(s:MS)(a N j:Nat)(x:Int):Prop where
 le:j≤N
 eq:x=ldv s.B (a+j) (N - j)
theorem zOj(k:RB)(a N:Nat)(n:Int)(s:MS)(w:World)(hN:n=(N:Int))(hn:n=1∨n=2∨n=4)(ha:a < 4294967296)(hs:s.Ok)(h:RM w k s)(hb:vA s 1 a n.toNat=none) :
  Calls Try.prog 55 #[.pointer (some ⟨k.y,0,none⟩),.int .u32 a,.int .i64 n] w fun e w'=>e=.returned (.tuple #[.int .u32 (ldv s.B a N),goV])∧Below w.heap.size w w':=by
 have HN:Hid (n=(N:Int)):=hN
 have HN4:Hid (N≤4∧0 < N):=show _∧_ by omega
 have hl:=zH5 hb (show 0 < n.toNat by omega)
 have HL:Hid (a+N≤65536):=show a+N≤65536 by omega
 have ha0:(0:Int)≤a:=aO
 have ha1:(a:Int) < 65536:=aO
 have HP:Hid (RM w k s):=h
 have HB:Hid (vA s 1 a n.toNat=none):=hb
 have hn4:n≤4:=aO
 have hn0:0≤n:=aO
 have key:∀ w',Below (w.alloc (.cells #[.int .i64 0,.int .u32 0] 42)).heap.size (w.alloc (.cells #[.int .i64 0,.int .u32 0] 42)) w'→RM w' k s:=fun w' hb=>(h.alloc _).below hb aL
 have HK:Hid _:=key
 clear h hb key hl
 have hcase:(n==1)=true∨((n==1)=false∧(n==2)=true)∨((n==1)=false∧(n==2)=false∧(n==4)=true):=by
  rcases hn with rfl|rfl|rfl
  ·exact .inl rfl
  ·exact .inr (.inl ⟨rfl,rfl⟩)
  ·exact .inr (.inr ⟨rfl,rfl,rfl⟩)
 clear hn hN
 have hcase':(n !=1)=false∨((n !=1)=true∧(n !=2)=false)∨((n !=1)=true∧(n !=2)=true∧(n !=4)=false):=by
  rcases hcase with h|h|h
  ·exact .inl (by simp[bne,h])
  ·exact .inr (.inl ⟨by simp[bne,h.1],by simp[bne,h.2]⟩)
  ·exact .inr (.inr ⟨by simp[bne,h.1],by simp[bne,h.2.1],by simp[bne,h.2.2]⟩)
 clear hcase
 rcases hcase' with g1|⟨g1,g2⟩|⟨g1,g2,g4⟩
 all_goals
  go_enter Try.func55,Try.ntmps55
  go_wp2_with (go_at_call 83;refine(zHc k a n 1 5 s _ ha (.inl rfl) hs (HP.out.alloc _) HB.out).mono ?_;rintro e w' ⟨rfl,hBl⟩;obtain⟨q0,q1,q2,q3⟩:=own2 hBl;have hR:=HK.out w' hBl;have hlty:=hR.lty;have hltb:=hR.ltb;have d0:=hR.c0;have HR:Hid (RM w' k s):=hR;have HBl:Hid _:=hBl;clear hBl hR)
  go_loop [9,10] (fun vv i=>∃ (j:Nat) (x:Int),i=.int .i64 ((j:Int) - 1)∧vv=.int .u32 x∧LdR s a N j x) (fun _ i=>(intOf i+1).toNat)
  case atStart=>exact⟨N,0,by rw[← HN.out],rfl,Nat.le_refl _,by simp[ldv]⟩
  case round=>
   obtain⟨j,x,rfl,rfl,hjN,hx⟩:=hrel
   have hbd:=zG6 s.B (a+j) hs.by_ (N - j)
   have h44:=HN4.out
   cases j with
   | zero=>
    have hz:((0:Nat):Int) - 1 = -1:=rfl
    rw[hz]
    have HX:Hid (x=ldv s.B a N):=show _=_ by simpa using hx
    clear hbd hx hjN h44 hz
    go_wp2
    go_region
    all_goals
     go_wp2
     refine bodyPost_ret (v:=.tuple #[.int .u32 x,goV]) (by simp[results,Try.results55,go_sem,q0,q1,q3]) rfl ⟨by rw[HX.out],zCf HBl.out _ _ _⟩
   | succ t=>
    have e:((t+1:Nat):Int) - 1=(t:Int):=aO
    rw[e]
    have hat:a+t < 65536:=by have:=HL.out;omega
    have hcb:=HR.out.by_ (a+t) hat
    obtain⟨b,hbb⟩:∃ b,s.B (a+t)=b:=⟨_,rfl⟩
    have hB:=hs.by_ (a+t)
    rw[hbb] at hcb hB
    obtain⟨hB0,hB1⟩:=hB
    rw[← hx] at hbd
    obtain⟨hx0,hx1⟩:=hbd
    have hx2:x < 16777216:=by
     have hc:N - (t+1)=0∨N - (t+1)=1∨N - (t+1)=2∨N - (t+1)=3:=aO
     rcases hc with h|h|h|h<;>rw[h] at hx1<;>simp at hx1<;>omega
    have HX:Hid (x*256+b=ldv s.B (a+t) (N - t)):=show _=_ by
     rw[show N - t=(N - (t+1))+1 by omega,zGt,hbb,hx,Nat.add_assoc]
    have HT:Hid (t≤N):=show t≤N by omega
    have ht0:(0:Int)≤t:=aO
    have ht4:(t:Int)≤4:=aO
    have hti:(a:Int)+t < 65536:=aO
    clear hx hjN h44 e hx1 hbb hat
    go_wp2
    go_round
    case rel=>exact⟨t,x*256+b,by go_num,by go_num,HT.out,HX.out⟩
    case measure=>simp[intOf]
theorem zMi(k:RB)(a n:Nat)(s:MS)(w:World)(hn:n=1∨n=2∨n=4)(ha:a < 4294967296)(hs:s.Ok)(h:RM w k s)(hb:vA s 1 a n=none) :
  Calls Try.prog 55 #[.pointer (some ⟨k.y,0,none⟩),.int .u32 a,.int .i64 n] w fun e w'=>e=.returned (.tuple #[.int .u32 (ldv s.B a n),goV])∧Below w.heap.size w w':=
 zOj k a n n s w rfl aO ha hs h hb
theorem zOK:(Try.prog.info? 3).map (fun i=>(i.zero,i.size,i.bytes))=some (some (.int .i64 0),1,8):=by kernel_rfl
end Go.Proofs.Ytkmjenjahbicpaa.Va
