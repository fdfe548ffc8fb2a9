import Derived.Test.YtkmjenjahbicpaaWED
import Derived.Test.YtkmjenjahbicpaaWJ03
import Derived.BigRegion
import Derived.Test.YtkmjenjahbicpaaVJ07
import Derived.Deep.AppendLies
import Derived.Deep.RegionHeld3
import Derived.Below
import Derived.Test.YtkmjenjahbicpaaRP
import Derived.Test.YtkmjenjahbicpaaTC
import Derived.Test.YtkmjenjahbicpaaWEW
import Derived.Test.YtkmjenjahbicpaaWER
import Derived.Test.YtkmjenjahbicpaaCR
import Derived.Test.YtkmjenjahbicpaaGT
set_option linter.unusedVariables false
set_option linter.unusedSimpArgs false
set_option maxHeartbeats 8000000
namespace Go.Proofs.Ytkmjenjahbicpaa.Va
open Go.RowKit
set_option maxRecDepth 100000
theorem PM.setWatch{w:World}{X:Nat}{s:MS}(h:PM w X s)(p:Nat)(hp:p < 256)(v:Bool):PM (w.setCell ⟨X,65792+p,none⟩ (.bool v)) X { s with M:=upd s.M p v }:=by
 have hc:=vY (.bool v) (h.wa p hp)
 refine⟨fun j hj=>?_,fun j hj=>?_,fun j hj=>?_,fun j hj=>?_,?_,fun o=>?_⟩
 ·rw[hc,if_neg aO];exact h.by_ j hj
 ·rw[hc,if_neg aO];exact h.ri j hj
 ·rw[hc];by_cases e:j=p
  ·subst e;rw[if_pos rfl];simp[upd]
  ·rw[if_neg aO,h.wa j hj];simp[upd,e]
 ·rw[hc,if_neg aO];exact h.to j hj
 ·rw[hc,if_neg aO];exact h.te
 ·rw[World.frozen?_setCell];exact h.fr o
theorem RM.setWatch{w:World}{k:RB}{s:MS}(h:RM w k s)(p:Nat)(hp:p < 256)(v:Bool):RM (w.setCell ⟨k.m,p,none⟩ (.bool v)) k { s with M:=upd s.M p v }:=by
 obtain⟨n1,n2,n3,n4,n5,n6,n7,n8,n9,n10⟩:=h.ne
 have hc:=vY (.bool v) (h.wa p hp)
 have ho:∀ Y,Y≠k.m→∀ o',(w.setCell ⟨k.m,p,none⟩ (.bool v)).cell? ⟨Y,o',none⟩=w.cell? ⟨Y,o',none⟩:=fun Y hY o'=>uI _ hY o'
 refine⟨?_,?_,?_,?_,fun j hj=>?_,fun j hj=>?_,fun j hj=>?_,fun j hj=>?_,fun o=>?_,fun o=>?_,fun o=>?_,fun o=>?_,h.ne⟩
 ·rw[ho _ aO];exact h.c0
 ·rw[ho _ aO];exact h.c1
 ·rw[ho _ aO];exact h.c2
 ·rw[ho _ aO];exact h.c3
 ·rw[ho _ aO];exact h.by_ j hj
 ·rw[ho _ aO];exact h.ri j hj
 ·rw[hc];by_cases e:j=p
  ·subst e;rw[if_pos rfl];simp[upd]
  ·rw[if_neg e,h.wa j hj];simp[upd,e]
 ·rw[ho _ aO];exact h.to j hj
 ·rw[World.frozen?_setCell];exact h.fb o
 ·rw[World.frozen?_setCell];exact h.fr o
 ·rw[World.frozen?_setCell];exact h.fm o
 ·rw[World.frozen?_setCell];exact h.ft o
def zC8(s:MS)(p:Nat)(on:Bool):MS:=if on then { s with M:=upd s.M p true } else { s with M:=upd s.M p false,T:=upd s.T p false }
theorem zNU(X:Nat)(p:Int)(on:Bool)(w:World)(hp:p < 0∨256≤p) :
  Calls Try.prog 17 #[.pointer (some ⟨X,0,none⟩),.int .i64 p,.bool on] w fun e w'=>e=.returned (.int .i64 4)∧w=w':=by
 go_enter Try.func17,Try.ntmps17
 go_wp2_with (go_at_call 39;refine(zFk _ _ hp).mono ?_;rintro e w' ⟨rfl,rfl⟩)
 go_ret
 exact⟨rfl,rfl⟩
theorem zMj(k:RB)(p:Int)(on:Bool)(w:World)(hp:p < 0∨256≤p) :
  Calls Try.prog 18 #[.pointer (some ⟨k.y,0,none⟩),.int .i64 p,.bool on] w fun e w'=>e=.returned (.int .i64 4)∧w=w':=by
 go_enter Try.func18,Try.ntmps18
 go_wp2_with (go_at_call 41;refine(zIl _ _ hp).mono ?_;rintro e w' ⟨rfl,rfl⟩)
 go_ret
 exact⟨rfl,rfl⟩
theorem zLT(X p:Nat)(on:Bool)(s:MS)(w:World)(hp:p < 256)(h:PM w X s) :
  Calls Try.prog 17 #[.pointer (some ⟨X,0,none⟩),.int .i64 p,.bool on] w fun e w'=>e=.returned (.int .i64 0)∧PM w' X (zC8 s p on)∧zJ [X] w w':=by
 have h0:(0:Int)≤p:=aO
 have h1:(p:Int) < 256:=aO
 have c1:=h.wa p hp
 have c2:=h.to p hp
 have c3:=h.te
 have f0:=h.fr (65792+p)
 have f1:=h.fr (66048+p)
 have f2:=h.fr 66304
 have hn:=zKj s.T 256
 cases on
 ·cases hT:s.T p
  ·rw[hT] at c2
   have e:zC8 s p false={ s with M:=upd s.M p false }:=by simp only[zC8];rw[zDq _ _ _ hT];rfl
   rw[e]
   clear hT e
   go_enter Try.func17,Try.ntmps17
   go_wp2_with (go_at_call 39;refine(zAM _ _ hp).mono ?_;rintro e w' ⟨rfl,rfl⟩)
   go_ret
   exact⟨rfl,h.setWatch p hp false,(zJ.refl _ _).set⟩
  ·rw[hT] at c2
   have HU:Hid (cnt (upd s.T p false) 256+1=cnt s.T 256):=zGm s.T 256 p hp hT
   have hpos:0 < cnt s.T 256:=zIa s.T 256 p hp hT
   clear hT
   go_enter Try.func17,Try.ntmps17
   go_wp2_with (go_at_call 39;refine(zAM _ _ hp).mono ?_;rintro e w' ⟨rfl,rfl⟩)
   go_ret
   refine⟨rfl,(h.setWatch p hp false).setTold p hp false _ ?_,(((zJ.refl _ _).set).set).set⟩
   have:=HU.out
   show(cnt s.T 256:Int) - 1=(cnt (upd s.T p false) 256:Int)
   omega
 ·go_enter Try.func17,Try.ntmps17
  go_wp2_with (go_at_call 39;refine(zAM _ _ hp).mono ?_;rintro e w' ⟨rfl,rfl⟩)
  go_ret
  exact⟨rfl,h.setWatch p hp true,(zJ.refl _ _).set⟩
theorem zJS(k:RB)(p:Nat)(on:Bool)(s:MS)(w:World)(hp:p < 256)(h:RM w k s) :
  Calls Try.prog 18 #[.pointer (some ⟨k.y,0,none⟩),.int .i64 p,.bool on] w fun e w'=>e=.returned (.int .i64 0)∧RM w' k (zC8 s p on)∧zJ k.all w w':=by
 have h0:(0:Int)≤p:=aO
 have h1:(p:Int) < 256:=aO
 have c1:=h.wa p hp
 have d2:=h.c2
 have f0:=h.fm p
 have hw:=h.setWatch p hp on
 have d3':=hw.c3
 have c2':=hw.to p hp
 have f1':=hw.ft p
 cases on
 ·go_enter Try.func18,Try.ntmps18
  go_wp2_with (go_at_call 41;refine(zB1 _ _ hp).mono ?_;rintro e w' ⟨rfl,rfl⟩)
  go_ret
  exact⟨rfl,hw.setTold p hp false,((zJ.refl _ _).setIn (by simp[RB.all])).setIn (by simp[RB.all])⟩
 ·go_enter Try.func18,Try.ntmps18
  go_wp2_with (go_at_call 41;refine(zB1 _ _ hp).mono ?_;rintro e w' ⟨rfl,rfl⟩)
  go_ret
  exact⟨rfl,hw,(zJ.refl _ _).setIn (by simp[RB.all])⟩
def zBo(p:Int):Prop:=0≤p∧p < 256
instance (p:Int):Decidable (zBo p):=by unfold zBo;infer_instance
def zE5(p:Int):Int:=if zBo p then 0 else 4
def markT(s:MS)(p:Int)(on:Bool):MS:=if zBo p then zC8 s p.toNat on else s
theorem zLS(X:Nat)(p:Int)(on:Bool)(s:MS)(w:World)(h:PM w X s) :
  Calls Try.prog 17 #[.pointer (some ⟨X,0,none⟩),.int .i64 p,.bool on] w fun e w'=>e=.returned (.int .i64 (zE5 p))∧PM w' X (markT s p on)∧zJ [X] w w':=by
 by_cases hv:zBo p
 ·obtain⟨n,rfl⟩:∃ n:Nat,p=n:=⟨p.toNat,by unfold zBo at hv;omega⟩
  have e1:zE5 n=0:=if_pos hv
  have e2:markT s n on=zC8 s n on:=if_pos hv
  rw[e1,e2]
  exact zLT X n on s w (by unfold zBo at hv;omega) h
 ·have e1:zE5 p=4:=if_neg hv
  have e2:markT s p on=s:=if_neg hv
  rw[e1,e2]
  refine(zNU X p on w (by unfold zBo at hv;omega)).mono fun e w' ⟨he,hw⟩=>⟨he,?_,zJ.same _ hw⟩
  subst hw;exact h
theorem zJR(k:RB)(p:Int)(on:Bool)(s:MS)(w:World)(h:RM w k s) :
  Calls Try.prog 18 #[.pointer (some ⟨k.y,0,none⟩),.int .i64 p,.bool on] w fun e w'=>e=.returned (.int .i64 (zE5 p))∧RM w' k (markT s p on)∧zJ k.all w w':=by
 by_cases hv:zBo p
 ·obtain⟨n,rfl⟩:∃ n:Nat,p=n:=⟨p.toNat,by unfold zBo at hv;omega⟩
  have e1:zE5 n=0:=if_pos hv
  have e2:markT s n on=zC8 s n on:=if_pos hv
  rw[e1,e2]
  exact zJS k n on s w (by unfold zBo at hv;omega) h
 ·have e1:zE5 p=4:=if_neg hv
  have e2:markT s p on=s:=if_neg hv
  rw[e1,e2]
  refine(zMj k p on w (by unfold zBo at hv;omega)).mono fun e w' ⟨he,hw⟩=>⟨he,?_,zJ.same _ hw⟩
  subst hw;exact h
theorem zGw{s:MS}(h:s.Ok)(p:Int)(on:Bool):(markT s p on).Ok:=by
 unfold markT;split
 ·unfold zC8;split<;>exact⟨h.by_,h.ri⟩
 ·exact h
structure zCu(w:World)(b o:Nat)(A:Int)(bp:Option Addr)(n c:Nat)(R:Int)(z:Nat→Int):Prop where
 c0:w.cell? ⟨b,o,none⟩=some (.int .i64 A)
 c1:w.cell? ⟨b,o+1,none⟩=some (.slice bp n c)
 c2:w.cell? ⟨b,o+2,none⟩=some (.int .i64 R)
 hA:I64 A
 row:0 < n→∃ b' off',bp=some ⟨b',off',none⟩∧∀ i,i < n→w.cell? ⟨b',off'+i,none⟩=some (.int .u8 (z i))
 le:n≤140737488355328
 bd:∀ i,i < n→0≤z i∧z i≤255
structure zDG(w:World)(sp:Option Addr)(len:Nat):Prop where
 row:0 < len→∃ b off,sp=some ⟨b,off,none⟩∧∀ i,i < len→∃ A bp n c R z,zCu w b (off+i*3) A bp n c R z
 le:len≤140737488355328
structure BS(W wr:World)(X:Nat)(k:RB)(m1 m2:MS):Prop where
 pm:PM wr X m1
 rm:RM wr k m2
 ok1:m1.Ok
 ok2:m2.Ok
 bel:Below W.heap.size W wr
 far:∀ x∈X :: k.y :: k.all,W.heap.size≤x
 ne:X∉k.y :: k.all
theorem BS.x{W wr w':World}{X:Nat}{k:RB}{m1 m2 m':MS}(h:BS W wr X k m1 m2)(hP:PM w' X m')(hm:m'.Ok)(hc:zJ [X] wr w'):BS W w' X k m' m2:=
 ⟨hP,h.rm.keep hc (fun x hx hm=>h.ne (by simp at hm;subst hm;exact hx)),hm,h.ok2,h.bel.trans (hc.below h.bel.size (fun x hx=>by simp at hx;subst hx;exact h.far _ aC)),h.far,h.ne⟩
theorem BS.k{W wr w':World}{X:Nat}{k:RB}{m1 m2 m':MS}(h:BS W wr X k m1 m2)(hR:RM w' k m')(hm:m'.Ok)(hc:zJ k.all wr w'):BS W w' X k m1 m':=
 ⟨h.pm.keep hc (fun hm=>h.ne (aM _ hm)),hR,h.ok1,hm,h.bel.trans (hc.below h.bel.size (fun x hx=>h.far _ (aM _ (aM _ hx)))),h.far,h.ne⟩
theorem BS.alloc{W wr:World}{X:Nat}{k:RB}{m1 m2:MS}(h:BS W wr X k m1 m2)(o:Obj):BS W (wr.alloc o) X k m1 m2:=
 ⟨h.pm.alloc o,h.rm.alloc o,h.ok1,h.ok2,h.bel.alloc h.bel.size o,h.far,h.ne⟩
theorem BS.nX{W wr:World}{X:Nat}{k:RB}{m1 m2:MS}(h:BS W wr X k m1 m2){P:Nat}(hP:wr.heap.size≤P):P∉[X]:=fun hm=>by
 simp at hm;subst hm;have:=h.pm.lt;omega
theorem BS.nK{W wr:World}{X:Nat}{k:RB}{m1 m2:MS}(h:BS W wr X k m1 m2){P:Nat}(hP:wr.heap.size≤P):P∉k.all:=fun hm=>by
 have:=h.rm.lt P (aM _ hm);omega
theorem zKU(W:World){k:RB}{w3:World}(h1:zO2 (W.alloc (.cells zCt 105)) k w3):BS W w3 W.heap.size k zD4 zD4:=by
 have hb1:=h1.bel
 simp only[World.size_alloc] at hb1
 have hl1:∀ x∈k.y :: k.all,W.heap.size+1≤x:=fun x hx=>by have:=h1.le x hx;simp only[World.size_alloc] at this;omega
 refine⟨(zQs W).below hb1 aO,h1.rm,zIk,zIk,?_,fun x hx=>?_,fun hm=>by have:=hl1 _ hm;omega⟩
 ·exact(aB.alloc aL _).trans (hb1.mono aO)
 ·rcases List.mem_cons.1 hx with rfl|hx
  ·exact Nat.le_refl _
  ·have:=hl1 x hx;omega
theorem zCu.sr{W w:World}{b o:Nat}{A:Int}{bp:Option Addr}{n c:Nat}{R:Int}{z:Nat→Int}(h:zCu W b o A bp n c R z)(bel:Below W.heap.size W w):SR w bp n z:=fun h0=>by
 obtain⟨b',off',hp,hr⟩:=h.row h0
 exact⟨b',off',hp,fun i hi=>(bel.cell (p:=⟨b',off'+i,none⟩) (lt_of_cell (hr i hi))).trans (hr i hi)⟩
theorem zCu.off{W w:World}{b o:Nat}{A:Int}{bp:Option Addr}{n c:Nat}{R:Int}{z:Nat→Int}{X:Nat}{k:RB}{m1 m2:MS}(h:zCu W b o A bp n c R z)(hB:BS W w X k m1 m2):0 < n→∀ b1 o1,bp=some ⟨b1,o1,none⟩→b1∉k.all:=fun h0 b1 o1 e hm=>by
 obtain⟨b',off',hp,hr⟩:=h.row h0
 rw[hp] at e
 cases e
 have h1:=lt_of_cell (hr 0 h0)
 have h2:=hB.far b1 (aM _ (aM _ hm))
 simp only at h1
 omega
abbrev zD7(A:Int)(bp:Option Addr)(n c:Nat)(R:Int):Obj:=.cells #[.int .i64 A,.slice bp n c,.int .i64 R] 58
theorem zBc{w:World}{P:Nat}{A:Int}{bp:Option Addr}{n c:Nat}{R:Int}(h:w.heap[P]?=some (zD7 A bp n c R)):w.cell? ⟨P,0,none⟩=some (.int .i64 A)∧w.cell? ⟨P,1,none⟩=some (.slice bp n c)∧w.cell? ⟨P,2,none⟩=some (.int .i64 R):=
 ⟨cell_of_row _ _ 0 _ 58 (0,0) h,cell_of_row _ _ 1 _ 58 (0,0) h,cell_of_row _ _ 2 _ 58 (0,0) h⟩
structure Qt(m:MS):Prop where
 M:∀ p,m.M p=false
 T:∀ p,m.T p=false
theorem Qt.new:Qt zD4:=⟨fun _=>rfl,fun _=>rfl⟩
theorem Qt.tS{m:MS}(h:Qt m)(p:Nat):Qt (vP m p):=by
 unfold vP;rw[h.M p];exact h
theorem Qt.tB{m:MS}(h:Qt m)(a n:Nat):Qt (zAP m a n):=by
 unfold zAP
 split
 ·exact h
 ·exact⟨h.M,fun p=>by show(m.T p || (m.M p && _))=false;rw[h.T,h.M];rfl⟩
theorem Qt.poke{m:MS}(h:Qt m)(a:Int)(n:Nat)(z:Nat→Int):Qt (zAk m a n z):=by
 unfold zAk uL
 split
 ·refine Qt.tB ?_ _ _
  exact⟨h.M,h.T⟩
 ·exact h
theorem Qt.prot{m:MS}(h:Qt m)(p r:Int):Qt (zBs m p r):=by
 unfold zBs zBG
 split
 ·split
  ·exact h
  ·refine Qt.tS ?_ _
   exact⟨h.M,h.T⟩
 ·exact h
theorem zOB{m:MS}(h:∀ p,m.T p=false)(v:Int):∀ p,(markT m v true).T p=false:=by
 intro p
 unfold markT zC8
 split
 ·exact h p
 ·exact h p
structure Marks(w:World)(sp:Option Addr)(len:Nat):Prop where
 row:0 < len→∃ b off,sp=some ⟨b,off,none⟩∧∀ i,i < len→∃ v:Int,w.cell? ⟨b,off+i,none⟩=some (.int .i64 v)
 le:len≤140737488355328
theorem zGh(sp mp:Option Addr)(len cap mlen mcap:Nat)(W:World)(hs:zDG W sp len)(hm:Marks W mp mlen) :
  Calls Try.prog 4 #[.slice sp len cap,.slice mp mlen mcap] W fun e w'=>∃ X k m,e=.returned (.tuple #[.pointer (some ⟨X,0,none⟩),.pointer (some ⟨k.y,0,none⟩),.bool true])∧BS W w' X k m m∧∀ p,m.T p=false:=by
 have HS:Hid (zDG W sp len):=hs
 have HMK:Hid (Marks W mp mlen):=hm
 have ml1:(mlen:Int)≤140737488355328:=by have:=hm.le;omega
 have hl1:(len:Int)≤140737488355328:=by have:=hs.le;omega
 clear hs hm
 go_enter Try.func4,Try.ntmps4
 go_wp2_with first
  | (go_at_call 11;refine(zN2 _).mono ?_;rintro e w' ⟨rfl,rfl⟩)
  | (go_at_call 12;refine(zMk _).mono ?_;rintro e w3 ⟨k,rfl,hn1⟩;have HN1:Hid (zO2 (W.alloc (.cells zCt 105)) k w3):=hn1;clear hn1)
 have HP0:Hid (BS W w3 W.heap.size k zD4 zD4):=zKU W HN1.out
 clear HN1
 go_loopw [24] (fun i wr=>∃ (j:Nat) (m:MS),i=.int .i64 j∧j≤len∧BS W wr W.heap.size k m m∧Qt m) (fun i _=>len - (intOf i).toNat)
 case atStart=>exact⟨0,zD4,rfl,Nat.zero_le _,HP0.out,Qt.new⟩
 case round=>
  obtain⟨j,m,rfl,hj,hB,hQ⟩:=hrel
  have HQt:Hid (Qt m):=hQ
  clear hQ
  have HB:Hid _:=hB
  clear hB
  by_cases hlt:j < len
  ·obtain⟨b,off,rfl,hr⟩:=HS.out.row aO
   obtain⟨A,bp,n,c,R,z,hp⟩:=hr j hlt
   have HPt:Hid _:=hp
   have hji:(j:Int) < len:=aO
   have hj0:(0:Int)≤j:=aO
   have hbW:b < W.heap.size:=lt_of_cell hp.c0
   have e0:=(HB.out.bel.cell (p:=⟨b,off+j*3,none⟩) hbW).trans hp.c0
   have e1:=(HB.out.bel.cell (p:=⟨b,off+j*3+1,none⟩) hbW).trans hp.c1
   have e2:=(HB.out.bel.cell (p:=⟨b,off+j*3+2,none⟩) hbW).trans hp.c2
   clear hr hp
   have HAI:Hid (I64 A):=HPt.out.hA
   have hlw:=HB.out.bel.size
   have hbr:b < wr.heap.size:=aO
   obtain⟨t,ht⟩:∃ t,A.tmod 65536=t:=⟨_,rfl⟩
   have t1:t < 65536:=ht▸Int.tmod_lt_of_pos A (show(0:Int) < 65536 by omega)
   have t2 : -65536 < t:=ht▸Int.lt_tmod_of_pos A (show(0:Int) < 65536 by omega)
   by_cases hneg:t < 0
   ·have dn:decide (t < 0)=true:=decide_eq_true hneg
    obtain⟨x,hx⟩:∃ x,t+65536=x:=⟨_,rfl⟩
    have x0:0≤x:=aO
    have x1:x < 65536:=aO
    have HX:Hid (True∧I64 x):=⟨trivial,by omega,by omega⟩
    clear hneg
    go_wp2_with first
     | (go_at_call 13;refine(zGz W.heap.size x bp n c z m _ HX.out.2 (HPt.out.sr (HB.out.alloc _).bel) (HB.out.alloc _).pm).mono ?_;rintro e w1 ⟨rfl,hP1,hC1⟩;have HB1:Hid (BS W w1 W.heap.size k (zAk m x n z) m):=(HB.out.alloc _).x hP1 (zBk HB.out.ok1 _ _ _ HPt.out.bd) hC1;have HQ1:Hid (w1.heap[wr.heap.size]?=some (zD7 A bp n c R)):=(hC1.block _ aS (HB.out.nX aL)).trans (heap_alloc_last wr _);obtain⟨f0,f1,f2⟩:=zBc HQ1.out;clear hP1 hC1)
     | (go_at_call 14;refine(zFq k x bp n c z m _ HX.out.2 (Nat.le_trans HPt.out.le aD) (HPt.out.sr HB1.out.bel) (HPt.out.off HB1.out) HB1.out.rm).mono ?_;rintro e w2 ⟨rfl,hR2,hC2⟩;have HB2:Hid (BS W w2 W.heap.size k (zAk m x n z) (zAk m x n z)):=HB1.out.k hR2 (zBk HB.out.ok1 _ _ _ HPt.out.bd) hC2;have HQ2:Hid (w2.heap[wr.heap.size]?=some (zD7 A bp n c R)):=(hC2.block _ (lt_of_block HQ1.out) (HB.out.nK aL)).trans HQ1.out;obtain⟨g0,g1,g2⟩:=zBc HQ2.out;clear hR2 hC2)
     | (go_at_call 15;refine(zGA W.heap.size (x / 256) R _ _ HB2.out.pm).mono ?_;rintro e w3' ⟨rfl,hP3,hC3⟩;have HB3:Hid (BS W w3' W.heap.size k (zBs (zAk m x n z) (x / 256) R) (zAk m x n z)):=HB2.out.x hP3 (zDl (zBk HB.out.ok1 _ _ _ HPt.out.bd) _ _) hC3;have HQ3:Hid (w3'.heap[wr.heap.size]?=some (zD7 A bp n c R)):=(hC3.block _ (lt_of_block HQ2.out) (HB.out.nX aL)).trans HQ2.out;obtain⟨y0,y1,y2⟩:=zBc HQ3.out;clear hP3 hC3)
     | (go_at_call 16;refine(zFr k (x / 256) R _ _ HB3.out.rm).mono ?_;rintro e w4 ⟨rfl,hR4,hC4⟩;have HB4:Hid (BS W w4 W.heap.size k (zBs (zAk m x n z) (x / 256) R) (zBs (zAk m x n z) (x / 256) R)):=HB3.out.k hR4 (zDl (zBk HB.out.ok1 _ _ _ HPt.out.bd) _ _) hC4;clear hR4 hC4)
    go_roundw
    case rel=>exact⟨j+1,_,by go_num,by omega,HB4.out,(HQt.out.poke _ _ _).prot _ _⟩
    case measure=>simp[intOf];omega
   ·have dn:decide (t < 0)=false:=decide_eq_false hneg
    obtain⟨x,hx⟩:∃ x,t=x:=⟨_,rfl⟩
    subst hx
    obtain⟨x,hx⟩:∃ x,x=t:=⟨_,rfl⟩
    subst hx
    have x0:0≤x:=aO
    have HX:Hid (True∧I64 x):=⟨trivial,by omega,by omega⟩
    clear hneg
    go_wp2_with first
     | (go_at_call 13;refine(zGz W.heap.size x bp n c z m _ HX.out.2 (HPt.out.sr (HB.out.alloc _).bel) (HB.out.alloc _).pm).mono ?_;rintro e w1 ⟨rfl,hP1,hC1⟩;have HB1:Hid (BS W w1 W.heap.size k (zAk m x n z) m):=(HB.out.alloc _).x hP1 (zBk HB.out.ok1 _ _ _ HPt.out.bd) hC1;have HQ1:Hid (w1.heap[wr.heap.size]?=some (zD7 A bp n c R)):=(hC1.block _ aS (HB.out.nX aL)).trans (heap_alloc_last wr _);obtain⟨f0,f1,f2⟩:=zBc HQ1.out;clear hP1 hC1)
     | (go_at_call 14;refine(zFq k x bp n c z m _ HX.out.2 (Nat.le_trans HPt.out.le aD) (HPt.out.sr HB1.out.bel) (HPt.out.off HB1.out) HB1.out.rm).mono ?_;rintro e w2 ⟨rfl,hR2,hC2⟩;have HB2:Hid (BS W w2 W.heap.size k (zAk m x n z) (zAk m x n z)):=HB1.out.k hR2 (zBk HB.out.ok1 _ _ _ HPt.out.bd) hC2;have HQ2:Hid (w2.heap[wr.heap.size]?=some (zD7 A bp n c R)):=(hC2.block _ (lt_of_block HQ1.out) (HB.out.nK aL)).trans HQ1.out;obtain⟨g0,g1,g2⟩:=zBc HQ2.out;clear hR2 hC2)
     | (go_at_call 15;refine(zGA W.heap.size (x / 256) R _ _ HB2.out.pm).mono ?_;rintro e w3' ⟨rfl,hP3,hC3⟩;have HB3:Hid (BS W w3' W.heap.size k (zBs (zAk m x n z) (x / 256) R) (zAk m x n z)):=HB2.out.x hP3 (zDl (zBk HB.out.ok1 _ _ _ HPt.out.bd) _ _) hC3;have HQ3:Hid (w3'.heap[wr.heap.size]?=some (zD7 A bp n c R)):=(hC3.block _ (lt_of_block HQ2.out) (HB.out.nX aL)).trans HQ2.out;obtain⟨y0,y1,y2⟩:=zBc HQ3.out;clear hP3 hC3)
     | (go_at_call 16;refine(zFr k (x / 256) R _ _ HB3.out.rm).mono ?_;rintro e w4 ⟨rfl,hR4,hC4⟩;have HB4:Hid (BS W w4 W.heap.size k (zBs (zAk m x n z) (x / 256) R) (zBs (zAk m x n z) (x / 256) R)):=HB3.out.k hR4 (zDl (zBk HB.out.ok1 _ _ _ HPt.out.bd) _ _) hC4;clear hR4 hC4)
    go_roundw
    case rel=>exact⟨j+1,_,by go_num,by omega,HB4.out,(HQt.out.poke _ _ _).prot _ _⟩
    case measure=>simp[intOf];omega
  ·have hjl:j=len:=aO
   subst hjl
   have d0:decide ((j:Int) < (j:Int))=false:=aF
   go_wp2
   go_loopw [68] (fun i wr=>∃ (j2:Nat) (m:MS),i=.int .i64 j2∧j2≤mlen∧BS W wr W.heap.size k m m∧∀ p,m.T p=false) (fun i _=>mlen - (intOf i).toNat)
   case atStart=>exact⟨0,m,rfl,Nat.zero_le _,HB.out,HQt.out.T⟩
   case round=>
    obtain⟨j2,m2,rfl,hj2,hB2,hT2⟩:=hrel
    have HTT:Hid _:=hT2
    clear hT2
    have HBB:Hid _:=hB2
    clear hB2
    by_cases hlt2:j2 < mlen
    ·obtain⟨b,off,rfl,hr⟩:=HMK.out.row aO
     obtain⟨v,hv⟩:=hr j2 hlt2
     have hji:(j2:Int) < mlen:=aO
     have hj0:(0:Int)≤j2:=aO
     have e0:=(HBB.out.bel.cell (p:=⟨b,off+j2,none⟩) (lt_of_cell hv)).trans hv
     clear hr hv
     go_wp2_with first
      | (go_at_call 17;refine(zLS W.heap.size v true m2 _ HBB.out.pm).mono ?_;rintro e w1 ⟨rfl,hP1,hC1⟩;have HB1:Hid (BS W w1 W.heap.size k (markT m2 v true) m2):=HBB.out.x hP1 (zGw HBB.out.ok1 _ _) hC1;clear hP1 hC1)
      | (go_at_call 18;refine(zJR k v true m2 _ HB1.out.rm).mono ?_;rintro e w2 ⟨rfl,hR2,hC2⟩;have HB2:Hid (BS W w2 W.heap.size k (markT m2 v true) (markT m2 v true)):=HB1.out.k hR2 (zGw HBB.out.ok1 _ _) hC2;clear hR2 hC2)
     go_roundw
     case rel=>exact⟨j2+1,_,by go_num,by omega,HB2.out,zOB HTT.out v⟩
     case measure=>simp[intOf];omega
    ·have hjl:j2=mlen:=aO
     subst hjl
     have d2:decide ((j2:Int) < (j2:Int))=false:=aF
     go_wp2
     refine bodyPost_ret (v:=.tuple #[.pointer (some ⟨W.heap.size,0,none⟩),.pointer (some ⟨k.y,0,none⟩),.bool true]) (by simp[results,Try.results4,go_sem]) rfl ⟨_,k,_,rfl,HBB.out,HTT.out⟩
theorem zIH{W:World}{b n:Nat}{V:Nat→Value}(h:∀ i,i < n→W.cell? ⟨b,i,none⟩=some (V i)):∀ j u,((List.range n).map V)[j]?=some u→W.cell? ((⟨b,0,none⟩:Addr).add j)=some u:=fun j u hu=>by
 rw[Addr.add_mid,Nat.zero_add]
 rcases Nat.lt_or_ge j n with g|g
 ·rw[List.getElem?_map,List.getElem?_range g] at hu
  rw[h j g]
  exact hu
 ·rw[List.getElem?_eq_none (by simpa using g)] at hu;cases hu
structure NV(w:World)(g n cap:Nat)(T:TypeId)(V:Nat→Value):Prop where
 ex:∃ cur,w.heap[g]?=some (.cells cur T)∧∀ i,i < n→cur[i]?=some (V i)
 cp:n≤cap
theorem NV.of_owns{w:World}{base g n cap:Nat}{T:TypeId}{V:Nat→Value}(h:w.ownsRow base T 1 (.slice (some ⟨g,0,none⟩) (0+n) cap) (0+n) ([]++(List.range n).map V))(hn:0 < n):NV w g n cap T V:=by
 rw[Nat.zero_add,List.nil_append] at h
 rcases h.2 with ⟨-,h0⟩|⟨g',c',cur,hv,hb,hh,h1,h2,h3,h4⟩
 ·omega
 ·cases hv
  refine⟨⟨cur,hh,fun i hi=>?_⟩,h1⟩
  have h5:(cur.toList.take (n*1))[i]?=some (V i):=by rw[h4,List.getElem?_map,List.getElem?_range hi];rfl
  rw[List.getElem?_take_of_lt aO,Array.getElem?_toList] at h5
  exact h5
theorem NV.keep{w w':World}{g n cap:Nat}{T:TypeId}{V:Nat→Value}(h:NV w g n cap T V)(b:Below w.heap.size w w'):NV w' g n cap T V:=by
 obtain⟨cur,h1,h2⟩:=h.ex
 exact⟨⟨cur,(b.block _ (zE h1)).trans h1,h2⟩,h.cp⟩
theorem NV.cell{w:World}{g n cap:Nat}{T:TypeId}{V:Nat→Value}(h:NV w g n cap T V)(i:Nat)(hi:i < n):w.cell? ⟨g,i,none⟩=some (V i):=by
 obtain⟨cur,h1,h2⟩:=h.ex
 exact(zA h1 i).trans (h2 i hi)
theorem NV.fr{w:World}{g n cap:Nat}{T:TypeId}{V:Nat→Value}(h:NV w g n cap T V)(o:Nat):w.frozen? ⟨g,o,none⟩=false:=by
 obtain⟨cur,h1,h2⟩:=h.ex
 exact zD h1 o
theorem NV.lt{w:World}{g n cap:Nat}{T:TypeId}{V:Nat→Value}(h:NV w g n cap T V):g < w.heap.size:=by
 obtain⟨cur,h1,h2⟩:=h.ex
 exact zE h1
theorem zBV{w w':World}(h:w.grownBy w' none):Below w.heap.size w w':=Below.grown aB h aL (fun k hk=>by cases hk)
theorem zD2{n:Nat}{V:Nat→Value}(h:∀ i,(V i).oneCell'=true):∀ u∈(List.range n).map V,u.oneCell'=true:=fun u hu=>by
 obtain⟨i,-,rfl⟩:=List.mem_map.1 hu
 exact h i
theorem zJH(k:RB)(s:MS)(w:World)(h:RM w k s) :
  Calls Try.prog 7 #[.pointer (some ⟨k.y,0,none⟩)] w fun e w'=>∃ k':RB,e=.returned (.pointer (some ⟨k'.y,0,none⟩))∧RM w' k' s∧Below w.heap.size w w'∧∀ x∈k'.y :: k'.all,w.heap.size≤x:=by
 obtain⟨i5,i5a,i5b,i5c,i5d⟩:=info_parts zOM
 obtain⟨i3,i3a,i3b,i3c,i3d⟩:=info_parts zOK
 obtain⟨i4,i4a,i4b,i4c,i4d⟩:=info_parts zOL
 have ly:=h.lty
 have c0:=h.c0
 have c1:=h.c1
 have c2:=h.c2
 have c3:=h.c3
 have HR0:Hid (RM w.drew k s):=h.drew
 have HB0:Hid (Below w.heap.size w w.drew):=aB.drew
 have HML:Hid (0+65536≤maxLen):=show 0+65536≤maxLen by unfold maxLen;omega
 have HMS:Hid (0+256≤maxLen):=show 0+256≤maxLen by unfold maxLen;omega
 clear h
 go_enter Try.func7,Try.ntmps7
 go_wp2
 go_region_held3 (fun W'=>W'.cell? ⟨k.y,0,none⟩=some (.slice (some ⟨k.b,0,none⟩) 65536 k.cb)∧W'.cell? ⟨k.y,1,none⟩=some (.slice (some ⟨k.r,0,none⟩) 256 k.cr)∧W'.cell? ⟨k.y,2,none⟩=some (.slice (some ⟨k.m,0,none⟩) 256 k.cm)∧W'.cell? ⟨k.y,3,none⟩=some (.slice (some ⟨k.t,0,none⟩) 256 k.ct)) (first|(simp[go_sem,c0,c1,c2,c3,ly];done))
  (first
  | (refine step_append_lies _ rfl (.const (.slice none 0 0)) (.tmp 6) 56 rfl w.heap.size 5 i5 _ 1 1 Try.underlying56 i5a i5b i5c i5d rfl aD (.slice none 0 0) 0 [] rfl (World.ownsRow_nil _ _ _ _) ⟨k.b,0,none⟩ 65536 k.cb ((List.range 65536).map (fun i=>.int .u8 (s.B i))) rfl aS (zIH HR0.out.by_) (zD2 fun _=>rfl) aD HML.out aD HB0.out.size _ rfl ?_;intro g1 cap1 w1 ho1 hg1 hgg1 hlt1;have hb1:=zBV hg1;have HR1:Hid (RM w1 k s):=HR0.out.below hb1 aL;have c0:=HR1.out.c0;have c1:=HR1.out.c1;have c2:=HR1.out.c2;have c3:=HR1.out.c3;have ly:=HR1.out.lty;have HB1:Hid (Below w.heap.size w w1):=HB0.out.trans (hb1.mono HB0.out.size);have HG1:Hid (g1=w.drew.heap.size):=(show g1=w.drew.heap.size from hgg1.resolve_left (by intro e;cases e));have HNB1:Hid (NV w1 g1 65536 cap1 5 (fun i=>.int .u8 (s.B i))):=NV.of_owns ho1 aD;clear ho1 hg1 hgg1 hlt1 hb1)
  | (refine step_append_lies _ rfl (.const (.slice none 0 0)) (.tmp 11) 29 rfl w.heap.size 3 i3 _ 1 8 Try.underlying29 i3a i3b i3c i3d rfl aD (.slice none 0 0) 0 [] rfl (World.ownsRow_nil _ _ _ _) ⟨k.r,0,none⟩ 256 k.cr ((List.range 256).map (fun i=>.int .i64 (s.R i))) rfl aS (zIH HR1.out.ri) (zD2 fun _=>rfl) aD HMS.out aD HB1.out.size _ rfl ?_;intro g2 cap2 w2 ho2 hg2 hgg2 hlt2;have hb2:=zBV hg2;have HR2:Hid (RM w2 k s):=HR1.out.below hb2 aL;have c0:=HR2.out.c0;have c1:=HR2.out.c1;have c2:=HR2.out.c2;have c3:=HR2.out.c3;have ly:=HR2.out.lty;have HB2:Hid (Below w.heap.size w w2):=HB1.out.trans (hb2.mono HB1.out.size);have HG2:Hid (g2=w1.heap.size):=(show g2=w1.heap.size from hgg2.resolve_left (by intro e;cases e));have HNR2:Hid (NV w2 g2 256 cap2 3 (fun i=>.int .i64 (s.R i))):=NV.of_owns ho2 aD;have HNB2:Hid (NV w2 g1 65536 cap1 5 (fun i=>.int .u8 (s.B i))):=HNB1.out.keep hb2;clear ho2 hg2 hgg2 hlt2 hb2)
  | (refine step_append_lies _ rfl (.const (.slice none 0 0)) (.tmp 16) 82 rfl w.heap.size 4 i4 _ 1 1 Try.underlying82 i4a i4b i4c i4d rfl aD (.slice none 0 0) 0 [] rfl (World.ownsRow_nil _ _ _ _) ⟨k.m,0,none⟩ 256 k.cm ((List.range 256).map (fun i=>.bool (s.M i))) rfl aS (zIH HR2.out.wa) (zD2 fun _=>rfl) aD HMS.out aD HB2.out.size _ rfl ?_;intro g3 cap3 w3 ho3 hg3 hgg3 hlt3;have hb3:=zBV hg3;have HR3:Hid (RM w3 k s):=HR2.out.below hb3 aL;have c0:=HR3.out.c0;have c1:=HR3.out.c1;have c2:=HR3.out.c2;have c3:=HR3.out.c3;have ly:=HR3.out.lty;have HB3:Hid (Below w.heap.size w w3):=HB2.out.trans (hb3.mono HB2.out.size);have HG3:Hid (g3=w2.heap.size):=(show g3=w2.heap.size from hgg3.resolve_left (by intro e;cases e));have HNM3:Hid (NV w3 g3 256 cap3 4 (fun i=>.bool (s.M i))):=NV.of_owns ho3 aD;have HNB3:Hid (NV w3 g1 65536 cap1 5 (fun i=>.int .u8 (s.B i))):=HNB2.out.keep hb3;have HNR3:Hid (NV w3 g2 256 cap2 3 (fun i=>.int .i64 (s.R i))):=HNR2.out.keep hb3;clear ho3 hg3 hgg3 hlt3 hb3)
  | (refine step_append_lies _ rfl (.const (.slice none 0 0)) (.tmp 21) 82 rfl w.heap.size 4 i4 _ 1 1 Try.underlying82 i4a i4b i4c i4d rfl aD (.slice none 0 0) 0 [] rfl (World.ownsRow_nil _ _ _ _) ⟨k.t,0,none⟩ 256 k.ct ((List.range 256).map (fun i=>.bool (s.T i))) rfl aS (zIH HR3.out.to) (zD2 fun _=>rfl) aD HMS.out aD HB3.out.size _ rfl ?_;intro g4 cap4 w4 ho4 hg4 hgg4 hlt4;have hb4:=zBV hg4;have HR4:Hid (RM w4 k s):=HR3.out.below hb4 aL;have c0:=HR4.out.c0;have c1:=HR4.out.c1;have c2:=HR4.out.c2;have c3:=HR4.out.c3;have ly:=HR4.out.lty;have HB4:Hid (Below w.heap.size w w4):=HB3.out.trans (hb4.mono HB3.out.size);have HG4:Hid (g4=w3.heap.size):=(show g4=w3.heap.size from hgg4.resolve_left (by intro e;cases e));have HNT4:Hid (NV w4 g4 256 cap4 4 (fun i=>.bool (s.T i))):=NV.of_owns ho4 aD;have HNB4:Hid (NV w4 g1 65536 cap1 5 (fun i=>.int .u8 (s.B i))):=HNB3.out.keep hb4;have HNR4:Hid (NV w4 g2 256 cap2 3 (fun i=>.int .i64 (s.R i))):=HNR3.out.keep hb4;have HNM4:Hid (NV w4 g3 256 cap3 4 (fun i=>.bool (s.M i))):=HNM3.out.keep hb4;clear ho4 hg4 hgg4 hlt4 hb4))
 all_goals
  go_wp2
  go_ret
  have lB:=HNB4.out.lt
  have lR:=HNR4.out.lt
  have lM:=HNM4.out.lt
  have lT:=HNT4.out.lt
  have q1:=HG1.out
  have q2:=HG2.out
  have q3:=HG3.out
  have q4:=HG4.out
  have r1:=HNB1.out.lt
  have r2:=HNR2.out.lt
  have r3:=HNM3.out.lt
  have z0:w.heap.size≤w.drew.heap.size:=Nat.le_refl _
  have hA:∀ o,Below w4.heap.size w4 (w4.alloc o):=fun o=>aB.alloc aL _
  refine⟨⟨w4.heap.size,g1,g2,g3,g4,cap1,cap2,cap3,cap4,HNB4.out.cp⟩,rfl,⟨(zA (heap_alloc_last w4 _) 0),(zA (heap_alloc_last w4 _) 1),(zA (heap_alloc_last w4 _) 2),(zA (heap_alloc_last w4 _) 3),(HNB4.out.keep (hA _)).cell,(HNR4.out.keep (hA _)).cell,(HNM4.out.keep (hA _)).cell,(HNT4.out.keep (hA _)).cell,(HNB4.out.keep (hA _)).fr,(HNR4.out.keep (hA _)).fr,(HNM4.out.keep (hA _)).fr,(HNT4.out.keep (hA _)).fr,?_⟩,HB4.out.trans ((hA _).mono HB4.out.size),?_⟩
  ·show w4.heap.size≠g1∧w4.heap.size≠g2∧w4.heap.size≠g3∧w4.heap.size≠g4∧g1≠g2∧g1≠g3∧g1≠g4∧g2≠g3∧g2≠g4∧g3≠g4
   omega
  ·simp only[RB.all,List.mem_cons,List.not_mem_nil,or_false]
   rintro x (e|e|e|e|e)<;>rw[e]
   ·exact HB4.out.size
   ·show w.heap.size≤g1;omega
   ·show w.heap.size≤g2;omega
   ·show w.heap.size≤g3;omega
   ·show w.heap.size≤g4;omega
end Go.Proofs.Ytkmjenjahbicpaa.Va
namespace Go.Proofs.Ytkmjenjahbicpaa.Ho
open Go.RowKit
set_option maxRecDepth 100000
theorem zJV(k k':Va.RB)(s s':Va.MS)(w:World)(h:Va.RM w k s)(h':Va.RM w k' s')(hs:s.B=s'.B) :
  Calls Try.prog 10 #[.pointer (some ⟨k.y,0,none⟩),.pointer (some ⟨k'.y,0,none⟩)] w fun e w'=>e=.returned (.bool true)∧Below w.heap.size w w':=by
 have HH:Hid (Va.RM w k s):=h
 have HH':Hid (Va.RM w k' s'):=h'
 have HS:Hid (s.B=s'.B):=hs
 have c0:=h.c0
 have ly:=h.lty
 clear h h' hs
 go_enter Try.func10,Try.ntmps10
 go_wp2
 clear c0 ly
 go_loopw [11] (fun i wr=>∃ j:Nat,i=.int .i64 j∧j≤65536∧Below w.heap.size w wr) (fun i _=>65536 - (intOf i).toNat)
 case atStart=>exact⟨0,rfl,by omega,Below.refl _ _⟩
 case round=>
  obtain⟨j,rfl,hj,hW⟩:=hrel
  have HWr:Hid _:=hW
  clear hW
  by_cases hlt:j < 65536
  ·have hji:(j:Int) < 65536:=aO
   have dj:decide ((j:Int) < 65536)=true:=decide_eq_true hji
   have j0:(0:Int)≤(j:Int):=aO
   have HLT:Hid _:=hlt
   have H1:Hid (Va.RM wr k s):=HH.out.below HWr.out aL
   have H2:Hid (Va.RM wr k' s'):=HH'.out.below HWr.out aL
   obtain⟨x,hx⟩:∃ x,s'.B j=x:=⟨_,rfl⟩
   have b1:wr.cell? ⟨k.b,j,none⟩=some (.int .u8 x):=by have:=H1.out.by_ j hlt;rw[HS.out,hx] at this;exact this
   have b2:wr.cell? ⟨k'.b,j,none⟩=some (.int .u8 x):=by have:=H2.out.by_ j hlt;rw[hx] at this;exact this
   have c1:=H1.out.c0
   have c2:=H2.out.c0
   have l1:=H1.out.lty
   have l2:=H2.out.lty
   have l3:=H1.out.ltb
   have l4:=H2.out.ltb
   clear hlt hx
   go_wp2
   go_region
   all_goals go_wp2
   all_goals go_round
   case rel=>exact⟨j+1,by go_num,HLT.out,HWr.out.drew⟩
   case measure=>have:=HLT.out;simp[intOf];omega
  ·obtain rfl:j=65536:=aO
   clear hlt hj
   go_wp2
   go_ret
   exact⟨rfl,HWr.out⟩
structure Kp(wx:World)(L:List (Nat × Obj)):Prop where
 k:∀ p∈L,wx.heap[p.1]?=some p.2
theorem Kp.lt{wx:World}{L:List (Nat × Obj)}(h:Kp wx L){p:Nat × Obj}(hp:p∈L):p.1 < wx.heap.size:=by
 rcases Nat.lt_or_ge p.1 wx.heap.size with g|g
 ·exact g
 ·have:=h.k p hp
  rw[Array.getElem?_eq_none g] at this
  cases this
theorem Kp.below{wx w':World}{L:List (Nat × Obj)}(h:Kp wx L)(k:Below wx.heap.size wx w'):Kp w' L:=⟨fun p hp=>(k.block _ (h.lt hp)).trans (h.k p hp)⟩
theorem Kp.chg{wx w':World}{L:List (Nat × Obj)}{S:List Nat}(h:Kp wx L)(k:Va.zJ S wx w')(hn:∀ p∈L,p.1∉S):Kp w' L:=⟨fun p hp=>(k.block _ (h.lt hp) (hn p hp)).trans (h.k p hp)⟩
theorem Kp.new{wx:World}{L:List (Nat × Obj)}(h:Kp wx L)(o:Obj):Kp (wx.alloc o) ((wx.heap.size,o) :: L):=⟨fun p hp=>by
 rcases List.mem_cons.1 hp with rfl|hp
 ·exact heap_alloc_last wx o
 ·exact(((Below.refl wx.heap.size wx).alloc aL o).block _ (h.lt hp)).trans (h.k p hp)⟩
theorem w2b(W:World)(o1 o2:Obj):Below W.heap.size W ((W.alloc o1).alloc o2):=(aB.alloc aL _).alloc aS _
theorem kp0(W:World)(o1 o2:Obj):Kp ((W.alloc o1).alloc o2) [(W.heap.size+1,o2),(W.heap.size,o1)]:=⟨fun p hp=>by
 simp at hp
 rcases hp with rfl|rfl
 ·exact(al2 W o1 o2).2
 ·exact(al2 W o1 o2).1⟩
theorem zF4{W w:World}{b o:Nat}{A:Int}{bp:Option Addr}{n c:Nat}{R:Int}{z:Nat→Int}(h:Va.zCu W b o A bp n c R z)(k:Below W.heap.size W w):Va.zCu w b o A bp n c R z:=
 ⟨(k.cell (p:=⟨b,o,none⟩) (Va.lt_of_cell h.c0)).trans h.c0,(k.cell (p:=⟨b,o+1,none⟩) (Va.lt_of_cell h.c1)).trans h.c1,(k.cell (p:=⟨b,o+2,none⟩) (Va.lt_of_cell h.c2)).trans h.c2,h.hA,fun h0=>by
  obtain⟨b',off',e,hc⟩:=h.row h0
  exact⟨b',off',e,fun i hi=>(k.cell (p:=⟨b',off'+i,none⟩) (Va.lt_of_cell (hc i hi))).trans (hc i hi)⟩,h.le,h.bd⟩
theorem zDP{W w:World}{sp:Option Addr}{len:Nat}(h:Va.zDG W sp len)(k:Below W.heap.size W w):Va.zDG w sp len:=
 ⟨fun h0=>by
  obtain⟨b,off,e,hc⟩:=h.row h0
  exact⟨b,off,e,fun i hi=>by obtain⟨A,bp,n,c,R,z,hp⟩:=hc i hi;exact⟨A,bp,n,c,R,z,zF4 hp k⟩⟩,h.le⟩
theorem zDO{W w:World}{sp:Option Addr}{len:Nat}(h:Va.Marks W sp len)(k:Below W.heap.size W w):Va.Marks w sp len:=
 ⟨fun h0=>by
  obtain⟨b,off,e,hc⟩:=h.row h0
  exact⟨b,off,e,fun i hi=>by obtain⟨v,hv⟩:=hc i hi;exact⟨v,(k.cell (p:=⟨b,off+i,none⟩) (Va.lt_of_cell hv)).trans hv⟩⟩,h.le⟩
theorem zQE{w:World}{base:Nat}{sx:Value}{l:List Nat}(h2:2≤l.length)(hl:∀ y∈l,y < 4294967296)(hm:l.length≤140737488355328)(h:w.ownsRow base 22 1 sx l.length (wdL l)):∃ g c,sx=.slice (some ⟨g,0,none⟩) l.length c∧base≤g∧g < w.heap.size∧Wds w (some ⟨g,0,none⟩) l.length c (uP l):=by
 obtain⟨a,c,e,hw⟩:=zOa h2 hl hm h
 rcases h.2 with ⟨hv,h0⟩|⟨g',c',cur,hv,hb,hh,-⟩
 ·omega
 ·rw[e] at hv;cases hv
  exact⟨_,_,e,hb,zE hh,hw⟩
theorem zTe{w:World}{g len cap:Nat}{ws:Nat→Nat}(h:Wds w (some ⟨g,0,none⟩) len cap ws)(h2:2≤len):g < w.heap.size:=by
 rcases h.lt with e|⟨b,o,e,hb⟩
 ·omega
 ·cases e;exact hb
theorem zQ8{l:List Nat}(hl:∀ y∈l,y < 4294967296)(i:Nat):uP l i < 4294967296:=by
 unfold uP
 rw[List.getD_eq_getElem?_getD]
 rcases Nat.lt_or_ge i l.length with k|k
 ·rw[List.getElem?_eq_getElem k];exact hl _ (List.getElem_mem k)
 ·rw[List.getElem?_eq_none k];decide
theorem zCy{T:Nat→Bool}(h:∀ p,T p=false):∀ n,Va.cnt T n=0
 | 0=>rfl
 | n+1=>by show Va.cnt T n+_=0;rw[zCy h n,h n];rfl
theorem untold{m:Va.MS}(h:∀ p,m.T p=false):Va.zAi m=false:=by unfold Va.zAi;rw[zCy h];rfl
structure GA1(W wx:World)(k:Va.RB)(m:Va.MS)(L:List (Nat × Obj))(bp:Option Addr)(n:Nat)(f:Nat→zL):Prop where
 rm:Va.RM wx k m
 kp:Kp wx L
 o:vN wx bp n f
 bel:Below W.heap.size W wx
 f1:∀ x∈k.y :: k.all,W.heap.size+1 < x
theorem GA1.below{W wx w':World}{k:Va.RB}{m:Va.MS}{L:List (Nat × Obj)}{bp:Option Addr}{n:Nat}{f:Nat→zL}(h:GA1 W wx k m L bp n f)(b:Below wx.heap.size wx w'):GA1 W w' k m L bp n f:=
 ⟨h.rm.below b aL,h.kp.below b,h.o.below b aL,h.bel.trans (b.mono h.bel.size),h.f1⟩
structure GA2(W wx:World)(k k':Va.RB)(m m':Va.MS)(L:List (Nat × Obj))(bp:Option Addr)(n:Nat)(f:Nat→zL)(g cp:Nat)(l:List Nat):Prop where
 rm:Va.RM wx k m
 rm':Va.RM wx k' m'
 kp:Kp wx L
 o:vN wx bp n f
 wd:Wds wx (some ⟨g,0,none⟩) l.length cp (uP l)
 bel:Below W.heap.size W wx
 nk:∀ p∈L,p.1∉k.all∧p.1∉k'.all
 f1:∀ x∈k.y :: k.all,W.heap.size+1 < x
 f2:∀ x∈k'.y :: k'.all,W.heap.size+1 < x
 d1:∀ x∈k.y :: k.all,x∉k'.all
 d2:∀ x∈k'.y :: k'.all,x∉k.all
 g1:g∉k.all
 g2:g∉k'.all
 nb:∀ b off,bp=some ⟨b,off,none⟩→b < W.heap.size
theorem GA1.copy{W wx w':World}{k k':Va.RB}{m:Va.MS}{bp:Option Addr}{n:Nat}{f:Nat→zL}{o1 o2:Obj}{g cp:Nat}{l:List Nat}(h:GA1 W wx k m [(W.heap.size+1,o2),(W.heap.size,o1)] bp n f)(nb:∀ b off,bp=some ⟨b,off,none⟩→b < W.heap.size)(hw:Wds wx (some ⟨g,0,none⟩) l.length cp (uP l))(hg:g < wx.heap.size)(hg1:g∉k.all)(hR:Va.RM w' k' m)(hB:Below wx.heap.size wx w')(hF:∀ x∈k'.y :: k'.all,wx.heap.size≤x):GA2 W w' k k' m m [(W.heap.size+1,o2),(W.heap.size,o1)] bp n f g cp l:=by
 have l1:=h.kp.lt aC
 simp only at l1
 refine⟨h.rm.below hB aL,hR,h.kp.below hB,h.o.below hB aL,zED hw hB,h.bel.trans (hB.mono h.bel.size),fun p hp=>?_,h.f1,fun x hx=>by have:=hF x hx;omega,fun x hx e=>by have h1:=h.rm.lt x hx;have h2:=hF x (aM _ e);omega,fun x hx e=>by have h1:=h.rm.lt x (aM _ e);have h2:=hF x hx;omega,hg1,fun e=>by have:=hF g (aM _ e);omega,nb⟩
 have hp1:p.1≤W.heap.size+1:=by
  simp at hp
  rcases hp with rfl|rfl
  ·exact Nat.le_refl _
  ·exact Nat.le_succ _
 exact⟨fun e=>by have:=h.f1 _ (aM _ e);omega,fun e=>by have:=hF _ (aM _ e);omega⟩
theorem zKL{S:List Nat}{w w':World}{g len cap:Nat}{ws:Nat→Nat}(h:Wds w (some ⟨g,0,none⟩) len cap ws)(c:Va.zJ S w w')(hS:g∉S):Wds w' (some ⟨g,0,none⟩) len cap ws:=zF0 h (zOW c) (.inr ⟨g,0,rfl,hS⟩)
theorem GA2.ev1{W wx w':World}{k k':Va.RB}{m m' m2:Va.MS}{L:List (Nat × Obj)}{bp:Option Addr}{n:Nat}{f:Nat→zL}{g cp:Nat}{l:List Nat}(h:GA2 W wx k k' m m' L bp n f g cp l)(hR:Va.RM w' k m2)(hC:Va.zJ k.all wx w'):GA2 W w' k k' m2 m' L bp n f g cp l:=
 ⟨hR,h.rm'.keep hC h.d2,h.kp.chg hC (fun p hp=>(h.nk p hp).1),Va.vN.chg h.o (fun b off e hm=>by have h1:=h.nb b off e;have h2:=h.f1 _ (aM _ hm);omega) hC,zKL h.wd hC h.g1,h.bel.trans (hC.below h.bel.size (fun x hx=>by have:=h.f1 x (aM _ hx);omega)),h.nk,h.f1,h.f2,h.d1,h.d2,h.g1,h.g2,h.nb⟩
theorem GA2.ev2{W wx w':World}{k k':Va.RB}{m m' m2:Va.MS}{L:List (Nat × Obj)}{bp:Option Addr}{n:Nat}{f:Nat→zL}{g cp:Nat}{l:List Nat}(h:GA2 W wx k k' m m' L bp n f g cp l)(hR:Va.RM w' k' m2)(hC:Va.zJ k'.all wx w'):GA2 W w' k k' m m2 L bp n f g cp l:=
 ⟨h.rm.keep hC h.d1,hR,h.kp.chg hC (fun p hp=>(h.nk p hp).2),Va.vN.chg h.o (fun b off e hm=>by have h1:=h.nb b off e;have h2:=h.f2 _ (aM _ hm);omega) hC,zKL h.wd hC h.g2,h.bel.trans (hC.below h.bel.size (fun x hx=>by have:=h.f2 x (aM _ hx);omega)),h.nk,h.f1,h.f2,h.d1,h.d2,h.g1,h.g2,h.nb⟩
theorem GA2.new{W wx:World}{k k':Va.RB}{m m':Va.MS}{L:List (Nat × Obj)}{bp:Option Addr}{n:Nat}{f:Nat→zL}{g cp:Nat}{l:List Nat}(h:GA2 W wx k k' m m' L bp n f g cp l)(o:Obj):GA2 W (wx.alloc o) k k' m m' ((wx.heap.size,o) :: L) bp n f g cp l:=
 have hb:Below wx.heap.size wx (wx.alloc o):=aB.alloc aL o
 ⟨h.rm.alloc o,h.rm'.alloc o,h.kp.new o,h.o.below hb aL,zED h.wd hb,h.bel.alloc h.bel.size o,fun p hp=>by
  rcases List.mem_cons.1 hp with rfl|hp
  ·exact⟨fun e=>Nat.lt_irrefl _ (h.rm.lt _ (aM _ e)),fun e=>Nat.lt_irrefl _ (h.rm'.lt _ (aM _ e))⟩
  ·exact h.nk p hp,h.f1,h.f2,h.d1,h.d2,h.g1,h.g2,h.nb⟩
theorem GA2.two{W wx:World}{k k':Va.RB}{m m':Va.MS}{L:List (Nat × Obj)}{bp:Option Addr}{n:Nat}{f:Nat→zL}{g cp:Nat}{l:List Nat}(h:GA2 W wx k k' m m' L bp n f g cp l)(o o':Obj):GA2 W ((wx.alloc o).alloc o') k k' m m' ((wx.heap.size+1,o') :: (wx.heap.size,o) :: L) bp n f g cp l:=by
 have:=(h.new o).new o'
 rw[show(wx.alloc o).heap.size=wx.heap.size+1 by simp] at this
 exact this
theorem zTn(d:Nat)(x:Int)(w:World):(Op.equalIn (d+1) 22 (.int .u32 x) (.int .u32 x)).run Try.prog w=.ok true w:=by
 rw[run_equalIn_int w d 22 .u32 .u32 x x Try.underlying22]
 simp
theorem zQG(xs:Array Value)(i:Nat)(x:Int)(h:xs[i]?=some (.int .u32 x))(w:World):(part 22 xs i).run Try.prog w=.ok (.int .u32 x) w:=by
 simp[part,h,go_sem]
theorem zRn(a0 a1 a2 a3 a4 a5 a6 a7 a8 a9 a10 a11:Int)(w:World):(Op.equalIn 10000 27 (.agg #[.int .u32 a0,.int .u32 a1,.int .u32 a2,.int .u32 a3,.int .u32 a4,.int .u32 a5,.int .u32 a6,.int .u32 a7,.int .u32 a8,.int .u32 a9,.int .u32 a10,.int .u32 a11]) (.agg #[.int .u32 a0,.int .u32 a1,.int .u32 a2,.int .u32 a3,.int .u32 a4,.int .u32 a5,.int .u32 a6,.int .u32 a7,.int .u32 a8,.int .u32 a9,.int .u32 a10,.int .u32 a11])).run Try.prog w=.ok true w:=by
 obtain⟨i,hi⟩:∃ i,Try.prog.info? 22=some i:=⟨_,rfl⟩
 have hc:Try.prog.cellsOf 22=1:=by kernel_rfl
 rw[show(10000:Nat)=9999+1 from rfl,run_equalIn_array w 9999 _ _ Try.underlying27 hi,hc]
 have e:=fun x=>zTn 9998 x w
 have p:=fun xs i x h=>zQG xs i x h w
 simp[List.range,List.range.loop,Op.eqItems,e,p]
end Go.Proofs.Ytkmjenjahbicpaa.Ho
