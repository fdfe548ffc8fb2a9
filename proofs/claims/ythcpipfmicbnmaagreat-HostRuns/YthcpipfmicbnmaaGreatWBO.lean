import Derived.Test.YthcpipfmicbnmaaGreatWED
import Derived.Test.YthcpipfmicbnmaaGreatWJ03
import Derived.BigRegion
import Derived.Test.YthcpipfmicbnmaaGreatYC
import Derived.Deep.AppendLies
import Derived.Deep.LoopGhost
import Derived.Test.YthcpipfmicbnmaaGreatWEC
set_option linter.unusedVariables false
set_option linter.unusedSimpArgs false
set_option maxHeartbeats 4000000
namespace Go.Proofs.YthcpipfmicbnmaaGreat.Va
open Go.RowKit
set_option maxRecDepth 100000
theorem PM.setWatch{w:World}{X:Nat}{s:MS}(h:PM w X s)(p:Nat)(hp:p < 256)(v:Bool):PM (w.setCell ⟨X,65792+p,none⟩ (.bool v)) X { s with M:=upd s.M p v }:=by
 have hc:=vN (.bool v) (h.wa p hp)
 refine⟨fun j hj=>?_,fun j hj=>?_,fun j hj=>?_,fun j hj=>?_,?_,fun o=>?_⟩
 ·rw[hc,if_neg aO];exact h.by_ j hj
 ·rw[hc,if_neg aO];exact h.ri j hj
 ·rw[hc];by_cases e:j=p
  ·subst e;rw[if_pos rfl];simp[upd]
  ·rw[if_neg aO,h.wa j hj];simp[upd,e]
 ·rw[hc,if_neg aO];exact h.to j hj
 ·rw[hc,if_neg aO];exact h.te
 ·rw[World.frozen?_setCell];exact h.fr o
theorem RM.setWatch{w:World}{k:RB}{s:MS}(h:RM w k s)(p:Nat)(hp:p < 256)(v:Bool):RM (w.setCell ⟨k.m,p,none⟩ (.bool v)) k { s with M:=upd s.M p v }:=by
 obtain⟨n1,n2,n3,n4,n5,n6,n7,n8,n9,n10⟩:=h.ne
 have hc:=vN (.bool v) (h.wa p hp)
 have ho:∀ Y,Y≠k.m→∀ o',(w.setCell ⟨k.m,p,none⟩ (.bool v)).cell? ⟨Y,o',none⟩=w.cell? ⟨Y,o',none⟩:=fun Y hY o'=>zAw _ hY o'
 refine⟨?_,?_,?_,?_,fun j hj=>?_,fun j hj=>?_,fun j hj=>?_,fun j hj=>?_,fun o=>?_,fun o=>?_,fun o=>?_,fun o=>?_,h.ne⟩
 ·rw[ho _ aO];exact h.c0
 ·rw[ho _ aO];exact h.c1
 ·rw[ho _ aO];exact h.c2
 ·rw[ho _ aO];exact h.c3
 ·rw[ho _ aO];exact h.by_ j hj
 ·rw[ho _ aO];exact h.ri j hj
 ·rw[hc];by_cases e:j=p
  ·subst e;rw[if_pos rfl];simp[upd]
  ·rw[if_neg e,h.wa j hj];simp[upd,e]
 ·rw[ho _ aO];exact h.to j hj
 ·rw[World.frozen?_setCell];exact h.fb o
 ·rw[World.frozen?_setCell];exact h.fr o
 ·rw[World.frozen?_setCell];exact h.fm o
 ·rw[World.frozen?_setCell];exact h.ft o
def zCE(s:MS)(p:Nat)(on:Bool):MS:=if on then { s with M:=upd s.M p true } else { s with M:=upd s.M p false,T:=upd s.T p false }
theorem zLc(X:Nat)(p:Int)(on:Bool)(w:World)(hp:p < 0∨256≤p) :
  Calls Tryz.prog 18 #[.pointer (some ⟨X,0,none⟩),.int .i64 p,.bool on] w fun e w'=>e=.returned (.int .i64 4)∧w=w':=by
 go_enter Tryz.func18,Tryz.ntmps18
 go_wp2_with (go_at_call 29;refine(zDZ _ _ hp).mono ?_;rintro e w' ⟨rfl,rfl⟩)
 go_ret
 exact⟨rfl,rfl⟩
theorem zJR(k:RB)(p:Int)(on:Bool)(w:World)(hp:p < 0∨256≤p) :
  Calls Tryz.prog 19 #[.pointer (some ⟨k.y,0,none⟩),.int .i64 p,.bool on] w fun e w'=>e=.returned (.int .i64 4)∧w=w':=by
 go_enter Tryz.func19,Tryz.ntmps19
 go_wp2_with (go_at_call 31;refine(zG8 _ _ hp).mono ?_;rintro e w' ⟨rfl,rfl⟩)
 go_ret
 exact⟨rfl,rfl⟩
theorem zJx(X p:Nat)(on:Bool)(s:MS)(w:World)(hp:p < 256)(h:PM w X s) :
  Calls Tryz.prog 18 #[.pointer (some ⟨X,0,none⟩),.int .i64 p,.bool on] w fun e w'=>e=.returned (.int .i64 0)∧PM w' X (zCE s p on)∧zI [X] w w':=by
 have h0:(0:Int)≤p:=aO
 have h1:(p:Int) < 256:=aO
 have c1:=h.wa p hp
 have c2:=h.to p hp
 have c3:=h.te
 have f0:=h.fr (65792+p)
 have f1:=h.fr (66048+p)
 have f2:=h.fr 66304
 have hn:=zFU s.T 256
 cases on
 ·cases hT:s.T p
  ·rw[hT] at c2
   have e:zCE s p false={ s with M:=upd s.M p false }:=by simp only[zCE];rw[zB9 _ _ _ hT];rfl
   rw[e]
   clear hT e
   go_enter Tryz.func18,Tryz.ntmps18
   go_wp2_with (go_at_call 29;refine(zAc _ _ hp).mono ?_;rintro e w' ⟨rfl,rfl⟩)
   go_ret
   exact⟨rfl,h.setWatch p hp false,(zI.refl _ _).set⟩
  ·rw[hT] at c2
   have HU:Hid (cnt (upd s.T p false) 256+1=cnt s.T 256):=zEZ s.T 256 p hp hT
   have hpos:0 < cnt s.T 256:=zGX s.T 256 p hp hT
   clear hT
   go_enter Tryz.func18,Tryz.ntmps18
   go_wp2_with (go_at_call 29;refine(zAc _ _ hp).mono ?_;rintro e w' ⟨rfl,rfl⟩)
   go_ret
   refine⟨rfl,(h.setWatch p hp false).setTold p hp false _ ?_,(((zI.refl _ _).set).set).set⟩
   have:=HU.out
   show(cnt s.T 256:Int) - 1=(cnt (upd s.T p false) 256:Int)
   omega
 ·go_enter Tryz.func18,Tryz.ntmps18
  go_wp2_with (go_at_call 29;refine(zAc _ _ hp).mono ?_;rintro e w' ⟨rfl,rfl⟩)
  go_ret
  exact⟨rfl,h.setWatch p hp true,(zI.refl _ _).set⟩
theorem zH0(k:RB)(p:Nat)(on:Bool)(s:MS)(w:World)(hp:p < 256)(h:RM w k s) :
  Calls Tryz.prog 19 #[.pointer (some ⟨k.y,0,none⟩),.int .i64 p,.bool on] w fun e w'=>e=.returned (.int .i64 0)∧RM w' k (zCE s p on)∧zI k.all w w':=by
 have h0:(0:Int)≤p:=aO
 have h1:(p:Int) < 256:=aO
 have c1:=h.wa p hp
 have d2:=h.c2
 have f0:=h.fm p
 have hw:=h.setWatch p hp on
 have d3':=hw.c3
 have c2':=hw.to p hp
 have f1':=hw.ft p
 cases on
 ·go_enter Tryz.func19,Tryz.ntmps19
  go_wp2_with (go_at_call 31;refine(zA6 _ _ hp).mono ?_;rintro e w' ⟨rfl,rfl⟩)
  go_ret
  exact⟨rfl,hw.setTold p hp false,((zI.refl _ _).setIn (by simp[RB.all])).setIn (by simp[RB.all])⟩
 ·go_enter Tryz.func19,Tryz.ntmps19
  go_wp2_with (go_at_call 31;refine(zA6 _ _ hp).mono ?_;rintro e w' ⟨rfl,rfl⟩)
  go_ret
  exact⟨rfl,hw,(zI.refl _ _).setIn (by simp[RB.all])⟩
def zAE(p:Int):Prop:=0≤p∧p < 256
instance (p:Int):Decidable (zAE p):=by unfold zAE;infer_instance
def zDP(p:Int):Int:=if zAE p then 0 else 4
def markT(s:MS)(p:Int)(on:Bool):MS:=if zAE p then zCE s p.toNat on else s
theorem zJw(X:Nat)(p:Int)(on:Bool)(s:MS)(w:World)(h:PM w X s) :
  Calls Tryz.prog 18 #[.pointer (some ⟨X,0,none⟩),.int .i64 p,.bool on] w fun e w'=>e=.returned (.int .i64 (zDP p))∧PM w' X (markT s p on)∧zI [X] w w':=by
 by_cases hv:zAE p
 ·obtain⟨n,rfl⟩:∃ n:Nat,p=n:=⟨p.toNat,by unfold zAE at hv;omega⟩
  have e1:zDP n=0:=if_pos hv
  have e2:markT s n on=zCE s n on:=if_pos hv
  rw[e1,e2]
  exact zJx X n on s w (by unfold zAE at hv;omega) h
 ·have e1:zDP p=4:=if_neg hv
  have e2:markT s p on=s:=if_neg hv
  rw[e1,e2]
  refine(zLc X p on w (by unfold zAE at hv;omega)).mono fun e w' ⟨he,hw⟩=>⟨he,?_,zI.same _ hw⟩
  subst hw;exact h
theorem zHZ(k:RB)(p:Int)(on:Bool)(s:MS)(w:World)(h:RM w k s) :
  Calls Tryz.prog 19 #[.pointer (some ⟨k.y,0,none⟩),.int .i64 p,.bool on] w fun e w'=>e=.returned (.int .i64 (zDP p))∧RM w' k (markT s p on)∧zI k.all w w':=by
 by_cases hv:zAE p
 ·obtain⟨n,rfl⟩:∃ n:Nat,p=n:=⟨p.toNat,by unfold zAE at hv;omega⟩
  have e1:zDP n=0:=if_pos hv
  have e2:markT s n on=zCE s n on:=if_pos hv
  rw[e1,e2]
  exact zH0 k n on s w (by unfold zAE at hv;omega) h
 ·have e1:zDP p=4:=if_neg hv
  have e2:markT s p on=s:=if_neg hv
  rw[e1,e2]
  refine(zJR k p on w (by unfold zAE at hv;omega)).mono fun e w' ⟨he,hw⟩=>⟨he,?_,zI.same _ hw⟩
  subst hw;exact h
theorem zE5{s:MS}(h:s.Ok)(p:Int)(on:Bool):(markT s p on).Ok:=by
 unfold markT;split
 ·unfold zCE;split<;>exact⟨h.by_,h.ri⟩
 ·exact h
structure zBm(w:World)(b o:Nat)(A:Int)(bp:Option Addr)(n c:Nat)(R:Int)(z:Nat→Int):Prop where
 c0:w.cell? ⟨b,o,none⟩=some (.int .i64 A)
 c1:w.cell? ⟨b,o+1,none⟩=some (.slice bp n c)
 c2:w.cell? ⟨b,o+2,none⟩=some (.int .i64 R)
 hA:I64 A
 row:0 < n→∃ b' off',bp=some ⟨b',off',none⟩∧∀ i,i < n→w.cell? ⟨b',off'+i,none⟩=some (.int .u8 (z i))
 le:n≤140737488355328
 bd:∀ i,i < n→0≤z i∧z i≤255
structure zBT(w:World)(sp:Option Addr)(len:Nat):Prop where
 row:0 < len→∃ b off,sp=some ⟨b,off,none⟩∧∀ i,i < len→∃ A bp n c R z,zBm w b (off+i*3) A bp n c R z
 le:len≤140737488355328
structure BS(W wr:World)(X:Nat)(k:RB)(m1 m2:MS):Prop where
 pm:PM wr X m1
 rm:RM wr k m2
 ok1:m1.Ok
 ok2:m2.Ok
 bel:Below W.heap.size W wr
 far:∀ x∈X :: k.y :: k.all,W.heap.size≤x
 ne:X∉k.y :: k.all
theorem BS.x{W wr w':World}{X:Nat}{k:RB}{m1 m2 m':MS}(h:BS W wr X k m1 m2)(hP:PM w' X m')(hm:m'.Ok)(hc:zI [X] wr w'):BS W w' X k m' m2:=
 ⟨hP,h.rm.keep hc (fun x hx hm=>h.ne (by simp at hm;subst hm;exact hx)),hm,h.ok2,h.bel.trans (hc.below h.bel.size (fun x hx=>by simp at hx;subst hx;exact h.far _ aC)),h.far,h.ne⟩
theorem BS.k{W wr w':World}{X:Nat}{k:RB}{m1 m2 m':MS}(h:BS W wr X k m1 m2)(hR:RM w' k m')(hm:m'.Ok)(hc:zI k.all wr w'):BS W w' X k m1 m':=
 ⟨h.pm.keep hc (fun hm=>h.ne (aM _ hm)),hR,h.ok1,hm,h.bel.trans (hc.below h.bel.size (fun x hx=>h.far _ (aM _ (aM _ hx)))),h.far,h.ne⟩
theorem BS.alloc{W wr:World}{X:Nat}{k:RB}{m1 m2:MS}(h:BS W wr X k m1 m2)(o:Obj):BS W (wr.alloc o) X k m1 m2:=
 ⟨h.pm.alloc o,h.rm.alloc o,h.ok1,h.ok2,h.bel.alloc h.bel.size o,h.far,h.ne⟩
theorem BS.nX{W wr:World}{X:Nat}{k:RB}{m1 m2:MS}(h:BS W wr X k m1 m2){P:Nat}(hP:wr.heap.size≤P):P∉[X]:=fun hm=>by
 simp at hm;subst hm;have:=h.pm.lt;omega
theorem BS.nK{W wr:World}{X:Nat}{k:RB}{m1 m2:MS}(h:BS W wr X k m1 m2){P:Nat}(hP:wr.heap.size≤P):P∉k.all:=fun hm=>by
 have:=h.rm.lt P (aM _ hm);omega
theorem zIK(W:World){k:RB}{w3:World}(h1:zLX (W.alloc (.cells zBl 81)) k w3):BS W w3 W.heap.size k zDE zDE:=by
 have hb1:=h1.bel
 simp only[World.size_alloc] at hb1
 have hl1:∀ x∈k.y :: k.all,W.heap.size+1≤x:=fun x hx=>by have:=h1.le x hx;simp only[World.size_alloc] at this;omega
 refine⟨(zM4 W).below hb1 aO,h1.rm,zG7,zG7,?_,fun x hx=>?_,fun hm=>by have:=hl1 _ hm;omega⟩
 ·exact(aB.alloc aL _).trans (hb1.mono aO)
 ·rcases List.mem_cons.1 hx with rfl|hx
  ·exact Nat.le_refl _
  ·have:=hl1 x hx;omega
theorem zBm.sr{W w:World}{b o:Nat}{A:Int}{bp:Option Addr}{n c:Nat}{R:Int}{z:Nat→Int}(h:zBm W b o A bp n c R z)(bel:Below W.heap.size W w):SR w bp n z:=fun h0=>by
 obtain⟨b',off',hp,hr⟩:=h.row h0
 exact⟨b',off',hp,fun i hi=>(bel.cell (p:=⟨b',off'+i,none⟩) (lt_of_cell (hr i hi))).trans (hr i hi)⟩
theorem zBm.off{W w:World}{b o:Nat}{A:Int}{bp:Option Addr}{n c:Nat}{R:Int}{z:Nat→Int}{X:Nat}{k:RB}{m1 m2:MS}(h:zBm W b o A bp n c R z)(hB:BS W w X k m1 m2):0 < n→∀ b1 o1,bp=some ⟨b1,o1,none⟩→b1∉k.all:=fun h0 b1 o1 e hm=>by
 obtain⟨b',off',hp,hr⟩:=h.row h0
 rw[hp] at e
 cases e
 have h1:=lt_of_cell (hr 0 h0)
 have h2:=hB.far b1 (aM _ (aM _ hm))
 simp only at h1
 omega
abbrev zC3(A:Int)(bp:Option Addr)(n c:Nat)(R:Int):Obj:=.cells #[.int .i64 A,.slice bp n c,.int .i64 R] 51
theorem zAv{w:World}{P:Nat}{A:Int}{bp:Option Addr}{n c:Nat}{R:Int}(h:w.heap[P]?=some (zC3 A bp n c R)):w.cell? ⟨P,0,none⟩=some (.int .i64 A)∧w.cell? ⟨P,1,none⟩=some (.slice bp n c)∧w.cell? ⟨P,2,none⟩=some (.int .i64 R):=
 ⟨cell_of_row _ _ 0 _ 51 (0,0) h,cell_of_row _ _ 1 _ 51 (0,0) h,cell_of_row _ _ 2 _ 51 (0,0) h⟩
structure Marks(w:World)(sp:Option Addr)(len:Nat):Prop where
 row:0 < len→∃ b off,sp=some ⟨b,off,none⟩∧∀ i,i < len→∃ v:Int,w.cell? ⟨b,off+i,none⟩=some (.int .i64 v)
 le:len≤140737488355328
theorem zDb(sp mp:Option Addr)(len cap mlen mcap:Nat)(W:World)(hs:zBT W sp len)(hm:Marks W mp mlen) :
  Calls Tryz.prog 4 #[.slice sp len cap,.slice mp mlen mcap] W fun e w'=>∃ X k m,e=.returned (.tuple #[.pointer (some ⟨X,0,none⟩),.pointer (some ⟨k.y,0,none⟩),.bool true])∧BS W w' X k m m:=by
 have HS:Hid (zBT W sp len):=hs
 have HMK:Hid (Marks W mp mlen):=hm
 have ml1:(mlen:Int)≤140737488355328:=by have:=hm.le;omega
 have hl1:(len:Int)≤140737488355328:=by have:=hs.le;omega
 clear hs hm
 go_enter Tryz.func4,Tryz.ntmps4
 go_wp2_with first
  | (go_at_call 12;refine(zLg _).mono ?_;rintro e w' ⟨rfl,rfl⟩)
  | (go_at_call 13;refine(zJS _).mono ?_;rintro e w3 ⟨k,rfl,hn1⟩;have HN1:Hid (zLX (W.alloc (.cells zBl 81)) k w3):=hn1;clear hn1)
 have HP0:Hid (BS W w3 W.heap.size k zDE zDE):=zIK W HN1.out
 clear HN1
 go_loopw [24] (fun i wr=>∃ (j:Nat) (m:MS),i=.int .i64 j∧j≤len∧BS W wr W.heap.size k m m) (fun i _=>len - (intOf i).toNat)
 case atStart=>exact⟨0,zDE,rfl,Nat.zero_le _,HP0.out⟩
 case round=>
  obtain⟨j,m,rfl,hj,hB⟩:=hrel
  have HB:Hid _:=hB
  clear hB
  by_cases hlt:j < len
  ·obtain⟨b,off,rfl,hr⟩:=HS.out.row aO
   obtain⟨A,bp,n,c,R,z,hp⟩:=hr j hlt
   have HPt:Hid _:=hp
   have hji:(j:Int) < len:=aO
   have hj0:(0:Int)≤j:=aO
   have hbW:b < W.heap.size:=lt_of_cell hp.c0
   have e0:=(HB.out.bel.cell (p:=⟨b,off+j*3,none⟩) hbW).trans hp.c0
   have e1:=(HB.out.bel.cell (p:=⟨b,off+j*3+1,none⟩) hbW).trans hp.c1
   have e2:=(HB.out.bel.cell (p:=⟨b,off+j*3+2,none⟩) hbW).trans hp.c2
   clear hr hp
   have HAI:Hid (I64 A):=HPt.out.hA
   have hlw:=HB.out.bel.size
   have hbr:b < wr.heap.size:=aO
   obtain⟨t,ht⟩:∃ t,A.tmod 65536=t:=⟨_,rfl⟩
   have t1:t < 65536:=ht▸Int.tmod_lt_of_pos A (show(0:Int) < 65536 by omega)
   have t2 : -65536 < t:=ht▸Int.lt_tmod_of_pos A (show(0:Int) < 65536 by omega)
   by_cases hneg:t < 0
   ·have dn:decide (t < 0)=true:=decide_eq_true hneg
    obtain⟨x,hx⟩:∃ x,t+65536=x:=⟨_,rfl⟩
    have x0:0≤x:=aO
    have x1:x < 65536:=aO
    have HX:Hid (True∧I64 x):=⟨trivial,by omega,by omega⟩
    clear hneg
    go_wp2_with first
     | (go_at_call 14;refine(zFc W.heap.size x bp n c z m _ HX.out.2 (HPt.out.sr (HB.out.alloc _).bel) (HB.out.alloc _).pm).mono ?_;rintro e w1 ⟨rfl,hP1,hC1⟩;have HB1:Hid (BS W w1 W.heap.size k (uY m x n z) m):=(HB.out.alloc _).x hP1 (zAy HB.out.ok1 _ _ _ HPt.out.bd) hC1;have HQ1:Hid (w1.heap[wr.heap.size]?=some (zC3 A bp n c R)):=(hC1.block _ aS (HB.out.nX aL)).trans (heap_alloc_last wr _);obtain⟨f0,f1,f2⟩:=zAv HQ1.out;clear hP1 hC1)
     | (go_at_call 15;refine(zD3 k x bp n c z m _ HX.out.2 (Nat.le_trans HPt.out.le aD) (HPt.out.sr HB1.out.bel) (HPt.out.off HB1.out) HB1.out.rm).mono ?_;rintro e w2 ⟨rfl,hR2,hC2⟩;have HB2:Hid (BS W w2 W.heap.size k (uY m x n z) (uY m x n z)):=HB1.out.k hR2 (zAy HB.out.ok1 _ _ _ HPt.out.bd) hC2;have HQ2:Hid (w2.heap[wr.heap.size]?=some (zC3 A bp n c R)):=(hC2.block _ (lt_of_block HQ1.out) (HB.out.nK aL)).trans HQ1.out;obtain⟨g0,g1,g2⟩:=zAv HQ2.out;clear hR2 hC2)
     | (go_at_call 16;refine(zFd W.heap.size (x / 256) R _ _ HB2.out.pm).mono ?_;rintro e w3' ⟨rfl,hP3,hC3⟩;have HB3:Hid (BS W w3' W.heap.size k (zAV (uY m x n z) (x / 256) R) (uY m x n z)):=HB2.out.x hP3 (zB4 (zAy HB.out.ok1 _ _ _ HPt.out.bd) _ _) hC3;have HQ3:Hid (w3'.heap[wr.heap.size]?=some (zC3 A bp n c R)):=(hC3.block _ (lt_of_block HQ2.out) (HB.out.nX aL)).trans HQ2.out;obtain⟨y0,y1,y2⟩:=zAv HQ3.out;clear hP3 hC3)
     | (go_at_call 17;refine(zD4 k (x / 256) R _ _ HB3.out.rm).mono ?_;rintro e w4 ⟨rfl,hR4,hC4⟩;have HB4:Hid (BS W w4 W.heap.size k (zAV (uY m x n z) (x / 256) R) (zAV (uY m x n z) (x / 256) R)):=HB3.out.k hR4 (zB4 (zAy HB.out.ok1 _ _ _ HPt.out.bd) _ _) hC4;clear hR4 hC4)
    go_roundw
    case rel=>exact⟨j+1,_,by go_num,by omega,HB4.out⟩
    case measure=>simp[intOf];omega
   ·have dn:decide (t < 0)=false:=decide_eq_false hneg
    obtain⟨x,hx⟩:∃ x,t=x:=⟨_,rfl⟩
    subst hx
    obtain⟨x,hx⟩:∃ x,x=t:=⟨_,rfl⟩
    subst hx
    have x0:0≤x:=aO
    have HX:Hid (True∧I64 x):=⟨trivial,by omega,by omega⟩
    clear hneg
    go_wp2_with first
     | (go_at_call 14;refine(zFc W.heap.size x bp n c z m _ HX.out.2 (HPt.out.sr (HB.out.alloc _).bel) (HB.out.alloc _).pm).mono ?_;rintro e w1 ⟨rfl,hP1,hC1⟩;have HB1:Hid (BS W w1 W.heap.size k (uY m x n z) m):=(HB.out.alloc _).x hP1 (zAy HB.out.ok1 _ _ _ HPt.out.bd) hC1;have HQ1:Hid (w1.heap[wr.heap.size]?=some (zC3 A bp n c R)):=(hC1.block _ aS (HB.out.nX aL)).trans (heap_alloc_last wr _);obtain⟨f0,f1,f2⟩:=zAv HQ1.out;clear hP1 hC1)
     | (go_at_call 15;refine(zD3 k x bp n c z m _ HX.out.2 (Nat.le_trans HPt.out.le aD) (HPt.out.sr HB1.out.bel) (HPt.out.off HB1.out) HB1.out.rm).mono ?_;rintro e w2 ⟨rfl,hR2,hC2⟩;have HB2:Hid (BS W w2 W.heap.size k (uY m x n z) (uY m x n z)):=HB1.out.k hR2 (zAy HB.out.ok1 _ _ _ HPt.out.bd) hC2;have HQ2:Hid (w2.heap[wr.heap.size]?=some (zC3 A bp n c R)):=(hC2.block _ (lt_of_block HQ1.out) (HB.out.nK aL)).trans HQ1.out;obtain⟨g0,g1,g2⟩:=zAv HQ2.out;clear hR2 hC2)
     | (go_at_call 16;refine(zFd W.heap.size (x / 256) R _ _ HB2.out.pm).mono ?_;rintro e w3' ⟨rfl,hP3,hC3⟩;have HB3:Hid (BS W w3' W.heap.size k (zAV (uY m x n z) (x / 256) R) (uY m x n z)):=HB2.out.x hP3 (zB4 (zAy HB.out.ok1 _ _ _ HPt.out.bd) _ _) hC3;have HQ3:Hid (w3'.heap[wr.heap.size]?=some (zC3 A bp n c R)):=(hC3.block _ (lt_of_block HQ2.out) (HB.out.nX aL)).trans HQ2.out;obtain⟨y0,y1,y2⟩:=zAv HQ3.out;clear hP3 hC3)
     | (go_at_call 17;refine(zD4 k (x / 256) R _ _ HB3.out.rm).mono ?_;rintro e w4 ⟨rfl,hR4,hC4⟩;have HB4:Hid (BS W w4 W.heap.size k (zAV (uY m x n z) (x / 256) R) (zAV (uY m x n z) (x / 256) R)):=HB3.out.k hR4 (zB4 (zAy HB.out.ok1 _ _ _ HPt.out.bd) _ _) hC4;clear hR4 hC4)
    go_roundw
    case rel=>exact⟨j+1,_,by go_num,by omega,HB4.out⟩
    case measure=>simp[intOf];omega
  ·have hjl:j=len:=aO
   subst hjl
   have d0:decide ((j:Int) < (j:Int))=false:=aF
   go_wp2
   go_loopw [68] (fun i wr=>∃ (j2:Nat) (m:MS),i=.int .i64 j2∧j2≤mlen∧BS W wr W.heap.size k m m) (fun i _=>mlen - (intOf i).toNat)
   case atStart=>exact⟨0,m,rfl,Nat.zero_le _,HB.out⟩
   case round=>
    obtain⟨j2,m2,rfl,hj2,hB2⟩:=hrel
    have HBB:Hid _:=hB2
    clear hB2
    by_cases hlt2:j2 < mlen
    ·obtain⟨b,off,rfl,hr⟩:=HMK.out.row aO
     obtain⟨v,hv⟩:=hr j2 hlt2
     have hji:(j2:Int) < mlen:=aO
     have hj0:(0:Int)≤j2:=aO
     have e0:=(HBB.out.bel.cell (p:=⟨b,off+j2,none⟩) (lt_of_cell hv)).trans hv
     clear hr hv
     go_wp2_with first
      | (go_at_call 18;refine(zJw W.heap.size v true m2 _ HBB.out.pm).mono ?_;rintro e w1 ⟨rfl,hP1,hC1⟩;have HB1:Hid (BS W w1 W.heap.size k (markT m2 v true) m2):=HBB.out.x hP1 (zE5 HBB.out.ok1 _ _) hC1;clear hP1 hC1)
      | (go_at_call 19;refine(zHZ k v true m2 _ HB1.out.rm).mono ?_;rintro e w2 ⟨rfl,hR2,hC2⟩;have HB2:Hid (BS W w2 W.heap.size k (markT m2 v true) (markT m2 v true)):=HB1.out.k hR2 (zE5 HBB.out.ok1 _ _) hC2;clear hR2 hC2)
     go_roundw
     case rel=>exact⟨j2+1,_,by go_num,by omega,HB2.out⟩
     case measure=>simp[intOf];omega
    ·have hjl:j2=mlen:=aO
     subst hjl
     have d2:decide ((j2:Int) < (j2:Int))=false:=aF
     go_wp2
     refine bodyPost_ret (v:=.tuple #[.pointer (some ⟨W.heap.size,0,none⟩),.pointer (some ⟨k.y,0,none⟩),.bool true]) (by simp[results,Tryz.results4,go_sem]) rfl ⟨_,k,_,rfl,HBB.out⟩
theorem zCj(X:Nat)(k:RB)(s:MS)(w:World)(h:PM w X s)(hr:RM w k s) :
  Calls Tryz.prog 8 #[.pointer (some ⟨X,0,none⟩),.pointer (some ⟨k.y,0,none⟩)] w fun e w'=>e=.returned (.bool true)∧Below w.heap.size w w':=by
 have HP:Hid (PM w X s):=h
 have HR:Hid (RM w k s):=hr
 have HA:Hid (I64 0):=⟨by omega,by omega⟩
 have HE:Hid (zEU 0 65536=65536∧zGL 0 65536=0):=⟨rfl,rfl⟩
 clear h hr
 go_enter Tryz.func8,Tryz.ntmps8
 go_wp2_with (go_at_call 25;refine(zJF X 0 65536 s _ HA.out HP.out).mono ?_;rintro e w1 ⟨p1,c1,rfl,hO⟩;rw[HE.out.1,HE.out.2] at *;have hr1:RM w1 k s:=HR.out.below hO.bel aL;have HR1:Hid (RM w1 k s):=hr1;have HO:Hid (Out w w1 p1 65536 (fun i=>s.B ((0:Int).toNat+i))):=hO;clear hr1 hO)
 obtain⟨b,off,rfl,hc⟩:=HO.out.sr aO
 have HCC:Hid _:=hc
 clear hc
 go_loopw [22] (fun i wr=>∃ j:Nat,i=.int .i64 j∧j≤65536∧Below w1.heap.size w1 wr) (fun i _=>65536 - (intOf i).toNat)
 case atStart=>exact⟨0,rfl,by omega,Below.refl _ _⟩
 case round=>
  obtain⟨j,rfl,hj,hB⟩:=hrel
  have HB:Hid _:=hB
  by_cases hlt:j < 65536
  ·have hji:(j:Int) < 65536:=aO
   have dj:decide ((j:Int) < 65536)=true:=decide_eq_true hji
   have j0:(0:Int)≤(j:Int):=aO
   have HLT:Hid _:=hlt
   have hr2:=HR1.out.below hB aL
   have e0:=hr2.c0
   have e1:=hr2.by_ j hlt
   have e2:wr.cell? ⟨b,off+j,none⟩=some (.int .u8 (s.B j)):=by
    have h3:=HCC.out j hlt
    simp only[Int.toNat_zero,Nat.zero_add] at h3
    exact(hB.cell (p:=⟨b,off+j,none⟩) (lt_of_cell h3)).trans h3
   clear hr2 hB hlt
   go_wp2
   go_region
   all_goals go_wp2
   all_goals go_roundw
   case rel=>exact⟨j+1,by go_num,HLT.out,HB.out.drew⟩
   case measure=>have:=HLT.out;simp[intOf];omega
  ·obtain rfl:j=65536:=aO
   clear hB hlt
   go_wp2
   go_ret
   exact⟨rfl,HO.out.bel.trans (HB.out.mono HO.out.bel.size)⟩
end Go.Proofs.YthcpipfmicbnmaaGreat.Va
namespace Go.Proofs.YthcpipfmicbnmaaGreat.Ho
open Go.RowKit
set_option maxRecDepth 100000
def zFR(ws:Nat→Nat)(m:Nat):List Value:=(List.range m).map (fun i=>.int .u32 (ws i))
theorem zFn(ws:Nat→Nat)(m:Nat):(zFR ws m).length=m:=by simp[zFR]
theorem zFm(ws:Nat→Nat)(m i:Nat)(h:i < m):(zFR ws m)[i]?=some (.int .u32 (ws i)):=by simp[zFR,h]
theorem zKb(ws:Nat→Nat)(m:Nat):∀ u∈zFR ws m,u.oneCell'=true:=by
 intro u hu
 simp only[zFR,List.mem_map] at hu
 obtain⟨i,-,rfl⟩:=hu
 rfl
theorem zEx{w:World}{ops:Array Oper}{rest:List Oper}{o:Oper}{a:Act}{Q:Exit→Act→World→Prop}(hgd:o.guard=none)(s x:Operand)
  (ho:o.op=.call { callee:=.builtin .append,args:=#[s,x],argTypes:=#[22,22] }) (hs:a.eval s=.slice none 0 0) (b off m c:Nat) (hx:a.eval x=.slice (some ⟨b,off,none⟩) m c) (ws:Nat→Nat) (hr:WR w b off m ws) (hm:0 < m) (hl:m≤35184372088832) (H:Nat) (hH:w.heap.size=H)
  (h:∀ cap w',WR w' H 0 m ws→Below H w w'→m≤cap→wpList Tryz.prog ops Q rest (a.put o.dst (.slice (some ⟨H,0,none⟩) m cap)) w'):wpList Tryz.prog ops Q (o :: rest) a w:=by
 subst hH
 obtain⟨i0,hi,hz0,hz1,hz2⟩:=info_parts zIg
 refine wpList_append_lies _ hgd s x 22 ho w.heap.size 23 i0 (.int .u32 0) 1 4 Tryz.underlying22 hi hz0 hz1 hz2 rfl aD (.slice none 0 0) 0 [] hs (World.ownsRow_nil _ _ _ _) ⟨b,off,none⟩ m c (zFR ws m) hx (by rw[zFn];omega) (fun j u hu=>?_) (zKb _ _) hm
  (by unfold maxLen;omega) aO aL w.heap.size rfl ?_
 ·rw[Addr.add_mid]
  have hj:j < m:=by
   rcases Nat.lt_or_ge j m with g|g
   ·exact g
   ·rw[List.getElem?_eq_none (by rw[zFn];exact g)] at hu;cases hu
  rw[hr.cell j hj,← hu,zFm _ _ _ hj]
 intro g cap w1 hown hgrow hat hlt
 have hg:g=w.heap.size:=by
  rcases hat with h|h
  ·simp[Value.ownBlock] at h
  ·exact h
 subst hg
 have hbel:Below w.heap.size w w1:=aB.grown hgrow aL (fun k hk=>by simp[Value.ownBlock] at hk)
 rw[Nat.zero_add] at *
 have hcap:m≤cap:=by
  rcases hown.2 with ⟨h,-⟩|⟨g,c,cur,h,-,hcur,h1,h2,-⟩
  ·cases h
  ·simp only[Value.slice.injEq,Option.some.injEq,Addr.mk.injEq] at h
   obtain⟨⟨rfl,-,-⟩,-,rfl⟩:=h
   omega
 exact h cap w1 ⟨fun i hi=>by
  rw[Nat.zero_add,hown.cellAt i (by simpa using hi)]
  simp only[List.nil_append]
  exact zFm _ _ _ hi,hr.lt,hlt⟩ hbel hcap
theorem zGE(a:Option Addr)(cap:Nat)(w:World):Calls Tryz.prog 5 #[.slice a 0 cap] w fun e w'=>e=.returned (.slice none 0 0)∧Below w.heap.size w w':=by
 cases a
 all_goals
  go_enter Tryz.func5,Tryz.ntmps5
  go_wp2
  go_ret
  exact⟨rfl,Below.refl _ _⟩
theorem zGD(b off len cap:Nat)(ws:Nat→Nat)(w:World)(hr:WR w b off len ws)(h0:0 < len)(hl:len≤35184372088832) :
  Calls Tryz.prog 5 #[.slice (some ⟨b,off,none⟩) len cap] w fun e w'=>∃ c,e=.returned (.slice (some ⟨w.heap.size,0,none⟩) len c)∧WR w' w.heap.size 0 len ws∧Below w.heap.size w w'∧len≤c:=by
 have HR:Hid _:=hr
 have H0:Hid _:=h0
 have HL:Hid _:=hl
 clear hr h0 hl
 go_enter Tryz.func5,Tryz.ntmps5
 go_wp2_with (at_builtin;refine zEx rfl _ _ rfl rfl b off len cap rfl ws HR.out H0.out HL.out w.heap.size rfl ?_;intro c w2 hr2 hb2 hc2;have HR2:Hid _:=hr2;have HB2:Hid _:=hb2;have HC2:Hid _:=hc2;clear hr2 hb2 hc2)
 go_ret
 exact⟨_,rfl,HR2.out,HB2.out,HC2.out⟩
theorem zCs(a1 a2:Option Addr)(len c1 c2:Nat)(ws:Nat→Nat)(w:World)(h1:Wds w a1 len c1 ws)(h2:Wds w a2 len c2 ws) :
  Calls Tryz.prog 11 #[.slice a1 len c1,.slice a2 len c2] w fun e w'=>e=.returned (.bool true)∧Below w.heap.size w w':=by
 by_cases h0:len=0
 ·subst h0
  go_enter Tryz.func11,Tryz.ntmps11
  go_wp2
  refine wp_loop_rounds 1 ?_
  rw[rounds_succ]
  go_wp2
  go_ret
  exact⟨rfl,Below.refl _ _⟩
 ·rcases h1 with h|⟨b1,o1,rfl,-,hl,r1⟩
  ·exact absurd h h0
  rcases h2 with h|⟨b2,o2,rfl,-,-,r2⟩
  ·exact absurd h h0
  have ln0:(0:Int)≤len:=aO
  have ln1:(len:Int)≤140737488355328:=aO
  go_enter Tryz.func11,Tryz.ntmps11
  go_wp2
  go_loopw [13] (fun i wr=>∃ k:Nat,k≤len∧i=.int .i64 k∧Below w.heap.size w wr) (fun i _=>len - (intOf i).toNat)
  case atStart=>exact⟨0,by omega,rfl,Below.refl _ _⟩
  case round=>
   obtain⟨k,hk,rfl,hbel⟩:=hrel
   by_cases hlt:k < len
   ·have z1:wr.cell? ⟨b1,o1+k,none⟩=some (.int .u32 (ws k)):=(hbel.cell (p:=⟨b1,o1+k,none⟩) r1.lb).trans (r1.cell k hlt)
    have z2:wr.cell? ⟨b2,o2+k,none⟩=some (.int .u32 (ws k)):=(hbel.cell (p:=⟨b2,o2+k,none⟩) r2.lb).trans (r2.cell k hlt)
    have lb1:b1 < wr.heap.size:=Nat.lt_of_lt_of_le r1.lb hbel.size
    have lb2:b2 < wr.heap.size:=Nat.lt_of_lt_of_le r2.lb hbel.size
    have k0:(0:Int)≤k:=aO
    have k1:(k:Int) < len:=aO
    go_upto_region 6 with fail
    go_quiet (fail)
    go_wp2
    go_roundw
    case rel=>exact⟨k+1,by omega,by go_num,hbel.trans ⟨rfl,rfl,rfl,Nat.le_refl _,fun _ _=>rfl⟩⟩
    case measure=>simp[intOf];omega
   ·have hk2:k=len:=aO
    subst hk2
    go_wp2
    go_ret
    exact⟨rfl,hbel⟩
theorem zCu(a:Option Addr)(len cap:Nat)(ws:Nat→Nat)(w:World)(h:Wds w a len cap ws)(hl:len≤35184372088832) :
  Calls Tryz.prog 5 #[.slice a len cap] w fun e w'=>∃ oa oc,e=.returned (.slice oa len oc)∧Wds w' oa len oc ws∧Below w.heap.size w w'∧(∀ b o,oa=some ⟨b,o,none⟩→w.heap.size≤b∧b < w'.heap.size):=by
 by_cases h0:len=0
 ·subst h0
  refine(zGE a cap w).mono ?_
  rintro e w' ⟨rfl,hb⟩
  exact⟨none,0,rfl,.inl rfl,hb,fun b o e=>by cases e⟩
 ·rcases h with h|⟨b,off,rfl,h1,h2,hr⟩
  ·exact absurd h h0
  ·refine(zGD b off len cap ws w hr aO hl).mono ?_
   rintro e w' ⟨c,rfl,hr',hb,hc⟩
   exact⟨_,c,rfl,.inr ⟨_,_,rfl,hc,by omega,hr'⟩,hb,fun b o e=>by cases e;exact⟨Nat.le_refl _,hr'.lb⟩⟩
def etL(tp:Nat→Nat)(ta:Nat→Int):Nat→Nat→List Value
 | _,0=>[]
 | i,n+1=>.int .u32 (tp i) :: .int .i64 (ta i) :: etL tp ta (i+1) n
theorem zEg(tp:Nat→Nat)(ta:Nat→Int):∀ n i,(etL tp ta i n).length=n*2
 | 0,_=>rfl
 | n+1,i=>by show(etL tp ta (i+1) n).length+1+1=_;rw[zEg tp ta n];omega
theorem zG0(tp:Nat→Nat)(ta:Nat→Int):∀ n i,∀ u∈etL tp ta i n,u.oneCell'=true
 | 0,_,u,h=>by cases h
 | n+1,i,u,h=>by
  rcases List.mem_cons.1 h with rfl|h
  ·rfl
  ·rcases List.mem_cons.1 h with rfl|h
   ·rfl
   ·exact zG0 tp ta n _ u h
theorem zGH(tp:Nat→Nat)(ta:Nat→Int):∀ n i j,j < n→(etL tp ta i n)[j*2]?=some (.int .u32 (tp (i+j)))∧(etL tp ta i n)[j*2+1]?=some (.int .i64 (ta (i+j)))
 | 0,_,_,h=>by omega
 | n+1,i,0,h=>⟨rfl,rfl⟩
 | n+1,i,j+1,h=>by
  have:=zGH tp ta n (i+1) j aO
  rw[show(j+1)*2=j*2+1+1 by omega,show i+(j+1)=i+1+j by omega]
  exact this
theorem zOG:(Tryz.prog.info? 42).map (fun i=>(i.zero,i.size,i.bytes))=some (some (.agg #[.int .u32 0,.int .i64 0]),2,16):=by kernel_rfl
theorem zFa{w:World}{base g n cap:Nat}{xs:List Value}(h:w.ownsRow base 42 2 (.slice (some ⟨g,0,none⟩) n cap) n xs)(j:Nat)(hj:j < n*2):w.cell? ⟨g,j,none⟩=xs[j]?:=by
 rcases h.2 with ⟨hv,-⟩|⟨g',c',cur,hv,-,hh,-,-,-,ht⟩
 ·cases hv
 ·cases hv
  rw[zA hh j,← ht,List.getElem?_take_of_lt hj,Array.getElem?_toList]
theorem zDB{w:World}{ops:Array Oper}{rest:List Oper}{o:Oper}{a:Act}{Q:Exit→Act→World→Prop}(hgd:o.guard=none)(s x:Operand)
  (ho:o.op=.call { callee:=.builtin .append,args:=#[s,x],argTypes:=#[28,28] }) (hs:a.eval s=.slice none 0 0) (b off m c:Nat) (hx:a.eval x=.slice (some ⟨b,off,none⟩) m c) (tp:Nat→Nat) (ta:Nat→Int) (hr:TR w b off m tp ta) (hm:0 < m) (hl:m≤8796093022208) (H:Nat) (hH:w.heap.size=H)
  (h:∀ cap w',TR w' H 0 m tp ta→Below H w w'→wpList Tryz.prog ops Q rest (a.put o.dst (.slice (some ⟨H,0,none⟩) m cap)) w'):wpList Tryz.prog ops Q (o :: rest) a w:=by
 subst hH
 obtain⟨i0,hi,hz0,hz1,hz2⟩:=info_parts zOG
 refine wpList_append_lies _ hgd s x 28 ho w.heap.size 42 i0 (.agg #[.int .u32 0,.int .i64 0]) 2 16 Tryz.underlying28 hi hz0 hz1 hz2 rfl aD (.slice none 0 0) 0 [] hs (World.ownsRow_nil _ _ _ _) ⟨b,off,none⟩ m c (etL tp ta 0 m) hx (by rw[zEg]) (fun j u hu=>?_) (zG0 _ _ _ _) hm
  (by unfold maxLen;omega) aO aL w.heap.size rfl ?_
 ·rw[Addr.add_mid]
  have hj:j < m*2:=by
   rcases Nat.lt_or_ge j (m*2) with g|g
   ·exact g
   ·rw[List.getElem?_eq_none (by rw[zEg];exact g)] at hu;cases hu
  have hp:=zGH tp ta m 0 (j / 2) aO
  rcases Nat.mod_two_eq_zero_or_one j with e|e
  ·have ej:j=j / 2*2:=aO
   rw[ej] at hu ⊢
   rw[hp.1,Nat.zero_add] at hu
   rw[hr.p _ aO,hu]
  ·have ej:j=j / 2*2+1:=aO
   rw[ej] at hu ⊢
   rw[hp.2,Nat.zero_add] at hu
   rw[← Nat.add_assoc,hr.a _ aO,hu]
 intro g cap w1 hown hgrow hat hlt
 have hg:g=w.heap.size:=by
  rcases hat with h|h
  ·simp[Value.ownBlock] at h
  ·exact h
 subst hg
 have hbel:Below w.heap.size w w1:=aB.grown hgrow aL (fun k hk=>by simp[Value.ownBlock] at hk)
 rw[Nat.zero_add] at *
 refine h cap w1 ⟨fun i hi=>?_,fun i hi=>?_,hlt⟩ hbel
 ·rw[zFa hown _ aO,List.nil_append,Nat.zero_add,(zGH tp ta m 0 i hi).1,Nat.zero_add]
 ·rw[zFa hown _ aO,List.nil_append,Nat.zero_add,(zGH tp ta m 0 i hi).2,Nat.zero_add]
structure Kp(wx:World)(L:List (Nat × Obj)):Prop where
 k:∀ p∈L,wx.heap[p.1]?=some p.2
theorem Kp.lt{wx:World}{L:List (Nat × Obj)}(h:Kp wx L){p:Nat × Obj}(hp:p∈L):p.1 < wx.heap.size:=ltb (h.k p hp)
theorem Kp.chg{wx w':World}{L:List (Nat × Obj)}{S:List Nat}(h:Kp wx L)(k:zI S wx w')(hn:∀ p∈L,p.1∉S):Kp w' L:=⟨fun p hp=>(k.block _ (h.lt hp) (hn p hp)).trans (h.k p hp)⟩
theorem Kp.new{wx:World}{L:List (Nat × Obj)}(h:Kp wx L)(o:Obj):Kp (wx.alloc o) ((wx.heap.size,o) :: L):=⟨fun p hp=>by
 rcases List.mem_cons.1 hp with rfl|hp
 ·exact heap_alloc_last wx o
 ·exact(((Below.refl wx.heap.size wx).alloc aL o).block _ (h.lt hp)).trans (h.k p hp)⟩
theorem zEv{W w:World}{b o:Nat}{A:Int}{bp:Option Addr}{n c:Nat}{R:Int}{z:Nat→Int}(h:Va.zBm W b o A bp n c R z)(k:Below W.heap.size W w):Va.zBm w b o A bp n c R z:=
 ⟨(k.cell (p:=⟨b,o,none⟩) (Va.lt_of_cell h.c0)).trans h.c0,(k.cell (p:=⟨b,o+1,none⟩) (Va.lt_of_cell h.c1)).trans h.c1,(k.cell (p:=⟨b,o+2,none⟩) (Va.lt_of_cell h.c2)).trans h.c2,h.hA,fun h0=>by
  obtain⟨b',off',e,hc⟩:=h.row h0
  exact⟨b',off',e,fun i hi=>(k.cell (p:=⟨b',off'+i,none⟩) (Va.lt_of_cell (hc i hi))).trans (hc i hi)⟩,h.le,h.bd⟩
theorem zBt{W w:World}{sp:Option Addr}{len:Nat}(h:Va.zBT W sp len)(k:Below W.heap.size W w):Va.zBT w sp len:=
 ⟨fun h0=>by
  obtain⟨b,off,e,hc⟩:=h.row h0
  exact⟨b,off,e,fun i hi=>by obtain⟨A,bp,n,c,R,z,hp⟩:=hc i hi;exact⟨A,bp,n,c,R,z,zEv hp k⟩⟩,h.le⟩
theorem zBs{W w:World}{sp:Option Addr}{len:Nat}(h:Va.Marks W sp len)(k:Below W.heap.size W w):Va.Marks w sp len:=
 ⟨fun h0=>by
  obtain⟨b,off,e,hc⟩:=h.row h0
  exact⟨b,off,e,fun i hi=>by obtain⟨v,hv⟩:=hc i hi;exact⟨v,(k.cell (p:=⟨b,off+i,none⟩) (Va.lt_of_cell hv)).trans hv⟩⟩,h.le⟩
structure G3(W w:World)(X:Nat)(k:Va.RB)(m:Va.MS)(ca:Option Addr)(cap:Nat)(oa:Option Addr)(oc:Nat)(ta:Option Addr)(t2:Option Addr)(T:PT)(c:Nat→Nat):Prop where
 pm:Va.PM w X m
 rm:Va.RM w k m
 ok:m.Ok
 ne:X∉k.y :: k.all
 far:∀ x∈X :: k.y :: k.all,W.heap.size+1≤x∧x < w.heap.size
 b0:w.heap[W.heap.size]?=some (.cells (Va.cxA c) 25)
 wd1:Wds w ca T.len cap T.ws
 wd2:Wds w oa T.len oc T.ws
 n1:0 < T.len→∀ b o,ca=some ⟨b,o,none⟩→b < w.heap.size∧b∉X :: k.y :: k.all
 n2:0 < T.len→∀ b o,oa=some ⟨b,o,none⟩→b < w.heap.size∧b∉X :: k.y :: k.all
 tr1:(T.tl=0∨∃ tq toff,ta=some ⟨tq,toff,none⟩∧TR w tq toff T.tl T.tp T.ta∧T.tl≤140737488355328)
 tr2:(T.tl=0∨∃ tq toff,t2=some ⟨tq,toff,none⟩∧TR w tq toff T.tl T.tp T.ta∧T.tl≤140737488355328)
 n3:0 < T.tl→∀ b o,ta=some ⟨b,o,none⟩→b < w.heap.size∧b∉X :: k.y :: k.all
 n4:0 < T.tl→∀ b o,t2=some ⟨b,o,none⟩→b < w.heap.size∧b∉X :: k.y :: k.all
 bel:Below W.heap.size W w
structure G1(W w:World)(X:Nat)(k:Va.RB)(m:Va.MS)(ca:Option Addr)(cap:Nat)(ta:Option Addr)(T:PT)(c:Nat→Nat):Prop where
 pm:Va.PM w X m
 rm:Va.RM w k m
 ok:m.Ok
 ne:X∉k.y :: k.all
 far:∀ x∈X :: k.y :: k.all,W.heap.size+1≤x∧x < w.heap.size
 b0:w.heap[W.heap.size]?=some (.cells (Va.cxA c) 25)
 wd1:Wds w ca T.len cap T.ws
 n1:0 < T.len→∀ b o,ca=some ⟨b,o,none⟩→b < W.heap.size
 tr1:(T.tl=0∨∃ tq toff,ta=some ⟨tq,toff,none⟩∧TR w tq toff T.tl T.tp T.ta∧T.tl≤140737488355328)
 n3:0 < T.tl→∀ b o,ta=some ⟨b,o,none⟩→b < W.heap.size
 bel:Below W.heap.size W w
theorem G1.start{W w:World}{X:Nat}{k:Va.RB}{m:Va.MS}{ca:Option Addr}{cap:Nat}{ta:Option Addr}{T:PT}{c:Nat→Nat}(hB:Va.BS (W.alloc (.cells (Va.cxA c) 25)) w X k m m)(hw:Wds W ca T.len cap T.ws)(n1:0 < T.len→∀ b o,ca=some ⟨b,o,none⟩→b < W.heap.size)(ht:(T.tl=0∨∃ tq toff,ta=some ⟨tq,toff,none⟩∧TR W tq toff T.tl T.tp T.ta∧T.tl≤140737488355328))(n3:0 < T.tl→∀ b o,ta=some ⟨b,o,none⟩→b < W.heap.size):G1 W w X k m ca cap ta T c:=by
 have b1:Below W.heap.size W (W.alloc (.cells (Va.cxA c) 25)):=aB.alloc aL _
 have bel:Below W.heap.size W w:=b1.trans (hB.bel.mono aS)
 refine⟨hB.pm,hB.rm,hB.ok1,hB.ne,fun x hx=>⟨by have:=hB.far x hx;simp at this;omega,?_⟩,(hB.bel.block _ aS).trans (heap_alloc_last W _),yD hw bel,n1,ht.imp id (fun ⟨tq,toff,e,hT,hl⟩=>⟨tq,toff,e,hT.keep bel,hl⟩),n3,bel⟩
 rcases List.mem_cons.1 hx with rfl|hx
 ·exact hB.pm.lt
 ·exact hB.rm.lt x hx
theorem G1.below{W w w':World}{X:Nat}{k:Va.RB}{m:Va.MS}{ca:Option Addr}{cap:Nat}{ta:Option Addr}{T:PT}{c:Nat→Nat}(h:G1 W w X k m ca cap ta T c)(b:Below w.heap.size w w'):G1 W w' X k m ca cap ta T c:=
 ⟨h.pm.below b h.pm.lt,h.rm.below b aL,h.ok,h.ne,fun x hx=>⟨(h.far x hx).1,Nat.lt_of_lt_of_le (h.far x hx).2 b.size⟩,(b.block _ (ltb h.b0)).trans h.b0,yD h.wd1 b,h.n1,h.tr1.imp id (fun ⟨tq,toff,e,hT,hl⟩=>⟨tq,toff,e,hT.keep b,hl⟩),h.n3,h.bel.trans (b.mono h.bel.size)⟩
theorem zIf{W w w':World}{X:Nat}{k:Va.RB}{m:Va.MS}{ca:Option Addr}{cap:Nat}{oa:Option Addr}{oc:Nat}{ta t2:Option Addr}{T:PT}{c:Nat→Nat}(h:G1 W w X k m ca cap ta T c)(b:Below w.heap.size w w')(h2:Wds w' oa T.len oc T.ws)(n2:∀ b o,oa=some ⟨b,o,none⟩→w.heap.size≤b∧b < w'.heap.size)(t:(T.tl=0∨∃ tq toff,t2=some ⟨tq,toff,none⟩∧TR w' tq toff T.tl T.tp T.ta∧T.tl≤140737488355328))(n4:∀ b o,t2=some ⟨b,o,none⟩→w.heap.size≤b∧b < w'.heap.size):G3 W w' X k m ca cap oa oc ta t2 T c:=by
 have h':=h.below b
 have nb:∀ y,w.heap.size≤y→y∉X :: k.y :: k.all:=fun y hy e=>by have:=(h.far y e).2;omega
 have nw:∀ y,y < W.heap.size→y∉X :: k.y :: k.all:=fun y hy e=>by have:=(h.far y e).1;omega
 have lw:=h'.bel.size
 exact⟨h'.pm,h'.rm,h'.ok,h'.ne,h'.far,h'.b0,h'.wd1,h2,fun hp b o e=>⟨Nat.lt_of_lt_of_le (h.n1 hp b o e) lw,nw _ (h.n1 hp b o e)⟩,fun _ b o e=>⟨(n2 b o e).2,nb _ (n2 b o e).1⟩,h'.tr1,t,fun hp b o e=>⟨Nat.lt_of_lt_of_le (h.n3 hp b o e) lw,nw _ (h.n3 hp b o e)⟩,fun _ b o e=>⟨(n4 b o e).2,nb _ (n4 b o e).1⟩,h'.bel⟩
structure GX(w wx:World)(X:Nat)(k:Va.RB)(m1 m2:Va.MS)(L:List (Nat × Obj)):Prop where
 pm:Va.PM wx X m1
 rm:Va.RM wx k m2
 ch:zI (X :: k.all) w wx
 kp:Kp wx L
 nl:∀ p∈L,w.heap.size≤p.1
theorem GX.start{W w:World}{X:Nat}{k:Va.RB}{m:Va.MS}{ca:Option Addr}{cap:Nat}{oa:Option Addr}{oc:Nat}{ta:Option Addr}{t2:Option Addr}{T:PT}{c:Nat→Nat}(h:G3 W w X k m ca cap oa oc ta t2 T c):GX w w X k m m []:=⟨h.pm,h.rm,zI.refl _ _,⟨fun p hp=>by cases hp⟩,fun p hp=>by cases hp⟩
theorem GX.bel{w wx:World}{X:Nat}{k:Va.RB}{m1 m2:Va.MS}{L:List (Nat × Obj)}{w':World}(g:GX w wx X k m1 m2 L)(b:Below wx.heap.size wx w'):GX w w' X k m1 m2 L:=
 ⟨g.pm.below b g.pm.lt,g.rm.below b aL,g.ch.trans (zI.of_below _ b),g.kp.chg (zI.of_below [] b) (fun _ _=>by simp),g.nl⟩
theorem GX.two{w wx:World}{X:Nat}{k:Va.RB}{m1 m2:Va.MS}{L:List (Nat × Obj)}(g:GX w wx X k m1 m2 L)(o o':Obj):GX w ((wx.alloc o).alloc o') X k m1 m2 ((wx.heap.size+1,o') :: (wx.heap.size,o) :: L):=by
 have b1:Below wx.heap.size wx (wx.alloc o):=aB.alloc aL o
 have g1:=GX.bel g (b1.alloc aS o')
 have k2:=(g.kp.new o).new o'
 rw[show(wx.alloc o).heap.size=wx.heap.size+1 by simp] at k2
 refine⟨g1.pm,g1.rm,g1.ch,k2,fun p hp=>?_⟩
 have:=g.ch.size
 rcases List.mem_cons.1 hp with rfl|hp
 ·show w.heap.size≤wx.heap.size+1;omega
 ·rcases List.mem_cons.1 hp with rfl|hp
  ·exact this
  ·exact g.nl p hp
theorem GX.run1{W w:World}{X:Nat}{k:Va.RB}{m:Va.MS}{ca:Option Addr}{cap:Nat}{oa:Option Addr}{oc:Nat}{ta:Option Addr}{t2:Option Addr}{T:PT}{c:Nat→Nat}(h:G3 W w X k m ca cap oa oc ta t2 T c){wx w':World}{m1 m2 m':Va.MS}{L:List (Nat × Obj)}(g:GX w wx X k m1 m2 L)(hm:Va.PM w' X m')(hc:zI [X] wx w'):GX w w' X k m' m2 L:=
 ⟨hm,g.rm.keep (zQ hc) (fun x hx e=>by rw[List.mem_singleton] at e;subst e;exact h.ne hx),g.ch.trans (hc.mono aS),g.kp.chg hc (fun p hp e=>by rw[List.mem_singleton] at e;have h1:=g.nl p hp;have h2:=(h.far X aS).2;omega),g.nl⟩
theorem GX.run2{W w:World}{X:Nat}{k:Va.RB}{m:Va.MS}{ca:Option Addr}{cap:Nat}{oa:Option Addr}{oc:Nat}{ta:Option Addr}{t2:Option Addr}{T:PT}{c:Nat→Nat}(h:G3 W w X k m ca cap oa oc ta t2 T c){wx w':World}{m1 m2 m':Va.MS}{L:List (Nat × Obj)}(g:GX w wx X k m1 m2 L)(hm:Va.RM w' k m')(hc:zI k.all wx w'):GX w w' X k m1 m' L:=
 ⟨g.pm.keep (zQ hc) (fun e=>h.ne (aM _ e)),hm,g.ch.trans (hc.mono (fun x hx=>aM _ hx)),g.kp.chg hc (fun p hp e=>by have h1:=g.nl p hp;have h2:=(h.far p.1 (by simp[e])).2;omega),g.nl⟩
theorem G3.nn{W w:World}{X:Nat}{k:Va.RB}{m:Va.MS}{ca:Option Addr}{cap:Nat}{oa:Option Addr}{oc:Nat}{ta:Option Addr}{t2:Option Addr}{T:PT}{c:Nat→Nat}(h:G3 W w X k m ca cap oa oc ta t2 T c){b:Nat}(hb:b∉X :: k.y :: k.all):b∉X :: k.all:=fun e=>hb (by
 rcases List.mem_cons.1 e with rfl|e
 ·exact List.mem_cons_self ..
 ·exact aM _ (aM _ e))
theorem GX.w1{W w:World}{X:Nat}{k:Va.RB}{m:Va.MS}{ca:Option Addr}{cap:Nat}{oa:Option Addr}{oc:Nat}{ta:Option Addr}{t2:Option Addr}{T:PT}{c:Nat→Nat}(h:G3 W w X k m ca cap oa oc ta t2 T c){wx:World}{m1 m2:Va.MS}{L:List (Nat × Obj)}(g:GX w wx X k m1 m2 L):Wds wx ca T.len cap T.ws:=vZ h.wd1 g.ch (fun hp b o e=>h.nn (h.n1 hp b o e).2)
theorem GX.w2{W w:World}{X:Nat}{k:Va.RB}{m:Va.MS}{ca:Option Addr}{cap:Nat}{oa:Option Addr}{oc:Nat}{ta:Option Addr}{t2:Option Addr}{T:PT}{c:Nat→Nat}(h:G3 W w X k m ca cap oa oc ta t2 T c){wx:World}{m1 m2:Va.MS}{L:List (Nat × Obj)}(g:GX w wx X k m1 m2 L):Wds wx oa T.len oc T.ws:=vZ h.wd2 g.ch (fun hp b o e=>h.nn (h.n2 hp b o e).2)
theorem GX.t1{W w:World}{X:Nat}{k:Va.RB}{m:Va.MS}{ca:Option Addr}{cap:Nat}{oa:Option Addr}{oc:Nat}{ta:Option Addr}{t2:Option Addr}{T:PT}{c:Nat→Nat}(h:G3 W w X k m ca cap oa oc ta t2 T c){wx:World}{m1 m2:Va.MS}{L:List (Nat × Obj)}(g:GX w wx X k m1 m2 L):(T.tl=0∨∃ tq toff,ta=some ⟨tq,toff,none⟩∧TR wx tq toff T.tl T.tp T.ta∧T.tl≤140737488355328):=zDa h.tr1 g.ch (fun hp b o e=>h.nn (h.n3 hp b o e).2)
theorem GX.t2'{W w:World}{X:Nat}{k:Va.RB}{m:Va.MS}{ca:Option Addr}{cap:Nat}{oa:Option Addr}{oc:Nat}{ta:Option Addr}{t2:Option Addr}{T:PT}{c:Nat→Nat}(h:G3 W w X k m ca cap oa oc ta t2 T c){wx:World}{m1 m2:Va.MS}{L:List (Nat × Obj)}(g:GX w wx X k m1 m2 L):(T.tl=0∨∃ tq toff,t2=some ⟨tq,toff,none⟩∧TR wx tq toff T.tl T.tp T.ta∧T.tl≤140737488355328):=zDa h.tr2 g.ch (fun hp b o e=>h.nn (h.n4 hp b o e).2)
theorem GX.b0{W w:World}{X:Nat}{k:Va.RB}{m:Va.MS}{ca:Option Addr}{cap:Nat}{oa:Option Addr}{oc:Nat}{ta:Option Addr}{t2:Option Addr}{T:PT}{c:Nat→Nat}(h:G3 W w X k m ca cap oa oc ta t2 T c){wx:World}{m1 m2:Va.MS}{L:List (Nat × Obj)}(g:GX w wx X k m1 m2 L):wx.heap[W.heap.size]?=some (.cells (Va.cxA c) 25):=(g.ch.block _ (ltb h.b0) (h.nn (fun e=>by have:=(h.far _ e).1;omega))).trans h.b0
theorem GX.out{W w:World}{X:Nat}{k:Va.RB}{m:Va.MS}{ca:Option Addr}{cap:Nat}{oa:Option Addr}{oc:Nat}{ta:Option Addr}{t2:Option Addr}{T:PT}{c:Nat→Nat}(h:G3 W w X k m ca cap oa oc ta t2 T c){wx:World}{m1 m2:Va.MS}{L:List (Nat × Obj)}(g:GX w wx X k m1 m2 L):Below W.heap.size W wx:=h.bel.trans (g.ch.below h.bel.size (fun x hx=>by
 have hx':x∈X :: k.y :: k.all:=by
  rcases List.mem_cons.1 hx with rfl|e
  ·exact List.mem_cons_self ..
  ·exact aM _ (aM _ e)
 have:=(h.far x hx').1;omega))
theorem zDf{W w:World}{X:Nat}{k:Va.RB}{m:Va.MS}{ca:Option Addr}{cap:Nat}{oa:Option Addr}{oc:Nat}{ta:Option Addr}{t2:Option Addr}{T:PT}{c:Nat→Nat}(h:G3 W w X k m ca cap oa oc ta t2 T c){wx:World}{m2:Va.MS}{L:List (Nat × Obj)}(g:GX w wx X k m m2 L)(tcap:Nat)(tv:Value)(htv:tv=.slice ta T.tl tcap)(at0:Int)(hws:∀ i,T.ws i < 4294967296)(hc:Va.zA0 c)(hlen:T.len≤140737488355328)(hlf : -9223372036854775808≤T.left∧T.left≤9223372036854775807) :
  Calls Tryz.prog 6 #[.slice ca T.len cap,.int .i64 at0,Va.cxV c,.pointer (some ⟨X,0,none⟩),.int .i64 T.left,tv] wx fun e w'=>e=.returned (.tuple #[Va.cxV (zAD T at0 c m).2.c,.agg (yE (zAD T at0 c m).1)])∧GX w w' X k (zAD T at0 c m).2.m m2 L:=by
 subst htv
 have hs:=g.ch.size
 refine(zJq X ca cap ta tcap T c m at0 wx Va.zJl hws g.pm h.ok hc (g.w1 h) (g.t1 h) (fun hp b o e=>⟨Nat.lt_of_lt_of_le (h.n1 hp b o e).1 hs,fun e'=>(h.n1 hp b o e).2 (by simp[e'])⟩) (fun hp b o e=>⟨Nat.lt_of_lt_of_le (h.n3 hp b o e).1 hs,fun e'=>(h.n3 hp b o e).2 (by simp[e'])⟩) hlen hlf).mono ?_
 rintro e w' ⟨rfl,hm,hcc⟩
 exact⟨rfl,g.run1 h hm hcc⟩
theorem zDg{W w:World}{X:Nat}{k:Va.RB}{m:Va.MS}{ca:Option Addr}{cap:Nat}{oa:Option Addr}{oc:Nat}{ta:Option Addr}{t2:Option Addr}{T:PT}{c:Nat→Nat}(h:G3 W w X k m ca cap oa oc ta t2 T c){wx:World}{m1:Va.MS}{L:List (Nat × Obj)}(g:GX w wx X k m1 m L)(tcap:Nat)(tv:Value)(htv:tv=.slice t2 T.tl tcap)(at0:Int)(hws:∀ i,T.ws i < 4294967296)(hc:Va.zA0 c)(hlen:T.len≤140737488355328)(hlf : -9223372036854775808≤T.left∧T.left≤9223372036854775807) :
  Calls Tryz.prog 7 #[.slice oa T.len oc,.int .i64 at0,Va.cxV c,.pointer (some ⟨k.y,0,none⟩),.int .i64 T.left,tv] wx fun e w'=>e=.returned (.tuple #[Va.cxV (zAD T at0 c m).2.c,.agg (yE (zAD T at0 c m).1)])∧GX w w' X k m1 (zAD T at0 c m).2.m L:=by
 subst htv
 have hs:=g.ch.size
 have nn:∀ b,b∉X :: k.y :: k.all→b∉k.all:=fun b hb e=>hb (by simp[e])
 refine(zJW k oa oc t2 tcap T c m at0 wx hws g.rm h.ok hc (g.w2 h) (g.t2' h) (fun hp b o e=>⟨Nat.lt_of_lt_of_le (h.n2 hp b o e).1 hs,nn b (h.n2 hp b o e).2⟩) (fun hp b o e=>⟨Nat.lt_of_lt_of_le (h.n4 hp b o e).1 hs,nn b (h.n4 hp b o e).2⟩) hlen hlf).mono ?_
 rintro e w' ⟨rfl,hm,hcc⟩
 exact⟨rfl,g.run2 h hm hcc⟩
theorem zPS(d:Nat)(x:Int)(w:World):(Op.equalIn (d+1) 23 (.int .u32 x) (.int .u32 x)).run Tryz.prog w=.ok true w:=by
 rw[run_equalIn_int w d 23 .u32 .u32 x x Tryz.underlying23]
 simp
theorem zM8(xs:Array Value)(i:Nat)(x:Int)(h:xs[i]?=some (.int .u32 x))(w:World):(part 23 xs i).run Tryz.prog w=.ok (.int .u32 x) w:=by
 simp[part,h,go_sem]
theorem zId(a0 a1 a2 a3 a4 a5 a6 a7 a8 a9 a10 a11:Int)(w:World):(Op.equalIn 10000 25 (.agg #[.int .u32 a0,.int .u32 a1,.int .u32 a2,.int .u32 a3,.int .u32 a4,.int .u32 a5,.int .u32 a6,.int .u32 a7,.int .u32 a8,.int .u32 a9,.int .u32 a10,.int .u32 a11]) (.agg #[.int .u32 a0,.int .u32 a1,.int .u32 a2,.int .u32 a3,.int .u32 a4,.int .u32 a5,.int .u32 a6,.int .u32 a7,.int .u32 a8,.int .u32 a9,.int .u32 a10,.int .u32 a11])).run Tryz.prog w=.ok true w:=by
 obtain⟨i,hi⟩:∃ i,Tryz.prog.info? 23=some i:=⟨_,rfl⟩
 have hc:Tryz.prog.cellsOf 23=1:=by kernel_rfl
 rw[show(10000:Nat)=9999+1 from rfl,run_equalIn_array w 9999 _ _ Tryz.underlying25 hi,hc]
 have e:=fun x=>zPS 9998 x w
 have p:=fun xs i x h=>zM8 xs i x h w
 simp[List.range,List.range.loop,Op.eqItems,e,p]
end Go.Proofs.YthcpipfmicbnmaaGreat.Ho
