import Derived.Test.YtfokgedjocnnmaaGreatED
import Derived.Test.YtfokgedjocnnmaaGreatJ03
import Derived.BigRegion
import Derived.Test.YtfokgedjocnnmaaGreatEE
import Derived.Laws.Rows
import Derived.Test.YtfokgedjocnnmaaGreatJ29
import Derived.Deep.CutRange
import Derived.Test.YtfokgedjocnnmaaGreatJ25
set_option linter.unusedVariables false
set_option linter.unusedSimpArgs false
set_option maxHeartbeats 4000000
namespace Go.Proofs.YtfokgedjocnnmaaGreat
open Go.RowKit
set_option maxRecDepth 100000
theorem PM.setWatch{w:World}{X:Nat}{s:MS}(h:PM w X s)(p:Nat)(hp:p < 256)(v:Bool):PM (w.setCell ⟨X,65792+p,none⟩ (.bool v)) X { s with M:=upd s.M p v }:=by
 have hc:=cell_setCell (.bool v) (h.wa p hp)
 refine⟨fun j hj=>?_,fun j hj=>?_,fun j hj=>?_,fun j hj=>?_,?_,fun o=>?_⟩
 ·rw[hc,if_neg zo];exact h.by_ j hj
 ·rw[hc,if_neg zo];exact h.ri j hj
 ·rw[hc];by_cases e:j=p
  ·subst e;rw[if_pos rfl];simp[upd]
  ·rw[if_neg zo,h.wa j hj];simp[upd,e]
 ·rw[hc,if_neg zo];exact h.to j hj
 ·rw[hc,if_neg zo];exact h.te
 ·rw[World.frozen?_setCell];exact h.fr o
theorem RM.setWatch{w:World}{k:RB}{s:MS}(h:RM w k s)(p:Nat)(hp:p < 256)(v:Bool):RM (w.setCell ⟨k.m,p,none⟩ (.bool v)) k { s with M:=upd s.M p v }:=by
 obtain⟨n1,n2,n3,n4,n5,n6,n7,n8,n9,n10⟩:=h.ne
 have hc:=cell_setCell (.bool v) (h.wa p hp)
 have ho:∀ Y,Y≠k.m→∀ o',(w.setCell ⟨k.m,p,none⟩ (.bool v)).cell? ⟨Y,o',none⟩=w.cell? ⟨Y,o',none⟩:=fun Y hY o'=>cell_setOther _ hY o'
 refine⟨?_,?_,?_,?_,fun j hj=>?_,fun j hj=>?_,fun j hj=>?_,fun j hj=>?_,fun o=>?_,fun o=>?_,fun o=>?_,fun o=>?_,h.ne⟩
 ·rw[ho _ zo];exact h.c0
 ·rw[ho _ zo];exact h.c1
 ·rw[ho _ zo];exact h.c2
 ·rw[ho _ zo];exact h.c3
 ·rw[ho _ zo];exact h.by_ j hj
 ·rw[ho _ zo];exact h.ri j hj
 ·rw[hc];by_cases e:j=p
  ·subst e;rw[if_pos rfl];simp[upd]
  ·rw[if_neg e,h.wa j hj];simp[upd,e]
 ·rw[ho _ zo];exact h.to j hj
 ·rw[World.frozen?_setCell];exact h.fb o
 ·rw[World.frozen?_setCell];exact h.fr o
 ·rw[World.frozen?_setCell];exact h.fm o
 ·rw[World.frozen?_setCell];exact h.ft o
def markS(s:MS)(p:Nat)(on:Bool):MS:=if on then { s with M:=upd s.M p true } else { s with M:=upd s.M p false,T:=upd s.T p false }
theorem mark_no(X:Nat)(p:Int)(on:Bool)(w:World)(hp:p < 0∨256≤p) :
  Calls Tryz.prog 16 #[.pointer (some ⟨X,0,none⟩),.int .i64 p,.bool on] w fun e w'=>e=.returned (.int .i64 4)∧w=w':=by
 go_enter Tryz.func16,Tryz.ntmps16
 go_wp2_with (go_at_call 39;refine(isPage_no _ _ hp).mono ?_;rintro e w' ⟨rfl,rfl⟩)
 go_ret
 exact⟨rfl,rfl⟩
theorem rmark_no(k:RB)(p:Int)(on:Bool)(w:World)(hp:p < 0∨256≤p) :
  Calls Tryz.prog 17 #[.pointer (some ⟨k.y,0,none⟩),.int .i64 p,.bool on] w fun e w'=>e=.returned (.int .i64 4)∧w=w':=by
 go_enter Tryz.func17,Tryz.ntmps17
 go_wp2_with (go_at_call 41;refine(page_no _ _ hp).mono ?_;rintro e w' ⟨rfl,rfl⟩)
 go_ret
 exact⟨rfl,rfl⟩
theorem mark_yes(X p:Nat)(on:Bool)(s:MS)(w:World)(hp:p < 256)(h:PM w X s) :
  Calls Tryz.prog 16 #[.pointer (some ⟨X,0,none⟩),.int .i64 p,.bool on] w fun e w'=>e=.returned (.int .i64 0)∧PM w' X (markS s p on)∧Chg [X] w w':=by
 have h0:(0:Int)≤p:=zo
 have h1:(p:Int) < 256:=zo
 have c1:=h.wa p hp
 have c2:=h.to p hp
 have c3:=h.te
 have f0:=h.fr (65792+p)
 have f1:=h.fr (66048+p)
 have f2:=h.fr 66304
 have hn:=cnt_le s.T 256
 cases on
 ·cases hT:s.T p
  ·rw[hT] at c2
   have e:markS s p false={ s with M:=upd s.M p false }:=by simp only[markS];rw[upd_self _ _ _ hT];rfl
   rw[e]
   clear hT e
   go_enter Tryz.func16,Tryz.ntmps16
   go_wp2_with (go_at_call 39;refine(isPage_yes _ _ hp).mono ?_;rintro e w' ⟨rfl,rfl⟩)
   go_ret
   exact⟨rfl,h.setWatch p hp false,(Chg.refl _ _).set⟩
  ·rw[hT] at c2
   have HU:Hid (cnt (upd s.T p false) 256+1=cnt s.T 256):=cnt_down s.T 256 p hp hT
   have hpos:0 < cnt s.T 256:=cnt_pos s.T 256 p hp hT
   clear hT
   go_enter Tryz.func16,Tryz.ntmps16
   go_wp2_with (go_at_call 39;refine(isPage_yes _ _ hp).mono ?_;rintro e w' ⟨rfl,rfl⟩)
   go_ret
   refine⟨rfl,(h.setWatch p hp false).setTold p hp false _ ?_,(((Chg.refl _ _).set).set).set⟩
   have:=HU.out
   show(cnt s.T 256:Int) - 1=(cnt (upd s.T p false) 256:Int)
   omega
 ·go_enter Tryz.func16,Tryz.ntmps16
  go_wp2_with (go_at_call 39;refine(isPage_yes _ _ hp).mono ?_;rintro e w' ⟨rfl,rfl⟩)
  go_ret
  exact⟨rfl,h.setWatch p hp true,(Chg.refl _ _).set⟩
theorem rmark_yes(k:RB)(p:Nat)(on:Bool)(s:MS)(w:World)(hp:p < 256)(h:RM w k s) :
  Calls Tryz.prog 17 #[.pointer (some ⟨k.y,0,none⟩),.int .i64 p,.bool on] w fun e w'=>e=.returned (.int .i64 0)∧RM w' k (markS s p on)∧Chg k.all w w':=by
 have h0:(0:Int)≤p:=zo
 have h1:(p:Int) < 256:=zo
 have c1:=h.wa p hp
 have d2:=h.c2
 have f0:=h.fm p
 have hw:=h.setWatch p hp on
 have d3':=hw.c3
 have c2':=hw.to p hp
 have f1':=hw.ft p
 cases on
 ·go_enter Tryz.func17,Tryz.ntmps17
  go_wp2_with (go_at_call 41;refine(page_yes _ _ hp).mono ?_;rintro e w' ⟨rfl,rfl⟩)
  go_ret
  exact⟨rfl,hw.setTold p hp false,((Chg.refl _ _).setIn (by simp[RB.all])).setIn (by simp[RB.all])⟩
 ·go_enter Tryz.func17,Tryz.ntmps17
  go_wp2_with (go_at_call 41;refine(page_yes _ _ hp).mono ?_;rintro e w' ⟨rfl,rfl⟩)
  go_ret
  exact⟨rfl,hw,(Chg.refl _ _).setIn (by simp[RB.all])⟩
def pageOk(p:Int):Prop:=0≤p∧p < 256
instance (p:Int):Decidable (pageOk p):=by unfold pageOk;infer_instance
def markE(p:Int):Int:=if pageOk p then 0 else 4
def markT(s:MS)(p:Int)(on:Bool):MS:=if pageOk p then markS s p.toNat on else s
theorem mark_tot(X:Nat)(p:Int)(on:Bool)(s:MS)(w:World)(h:PM w X s) :
  Calls Tryz.prog 16 #[.pointer (some ⟨X,0,none⟩),.int .i64 p,.bool on] w fun e w'=>e=.returned (.int .i64 (markE p))∧PM w' X (markT s p on)∧Chg [X] w w':=by
 by_cases hv:pageOk p
 ·obtain⟨n,rfl⟩:∃ n:Nat,p=n:=⟨p.toNat,by unfold pageOk at hv;omega⟩
  have e1:markE n=0:=if_pos hv
  have e2:markT s n on=markS s n on:=if_pos hv
  rw[e1,e2]
  exact mark_yes X n on s w (by unfold pageOk at hv;omega) h
 ·have e1:markE p=4:=if_neg hv
  have e2:markT s p on=s:=if_neg hv
  rw[e1,e2]
  refine(mark_no X p on w (by unfold pageOk at hv;omega)).mono fun e w' ⟨he,hw⟩=>⟨he,?_,Chg.same _ hw⟩
  subst hw;exact h
theorem rmark_tot(k:RB)(p:Int)(on:Bool)(s:MS)(w:World)(h:RM w k s) :
  Calls Tryz.prog 17 #[.pointer (some ⟨k.y,0,none⟩),.int .i64 p,.bool on] w fun e w'=>e=.returned (.int .i64 (markE p))∧RM w' k (markT s p on)∧Chg k.all w w':=by
 by_cases hv:pageOk p
 ·obtain⟨n,rfl⟩:∃ n:Nat,p=n:=⟨p.toNat,by unfold pageOk at hv;omega⟩
  have e1:markE n=0:=if_pos hv
  have e2:markT s n on=markS s n on:=if_pos hv
  rw[e1,e2]
  exact rmark_yes k n on s w (by unfold pageOk at hv;omega) h
 ·have e1:markE p=4:=if_neg hv
  have e2:markT s p on=s:=if_neg hv
  rw[e1,e2]
  refine(rmark_no k p on w (by unfold pageOk at hv;omega)).mono fun e w' ⟨he,hw⟩=>⟨he,?_,Chg.same _ hw⟩
  subst hw;exact h
theorem ok_markT{s:MS}(h:s.Ok)(p:Int)(on:Bool):(markT s p on).Ok:=by
 unfold markT;split
 ·unfold markS;split<;>exact⟨h.by_,h.ri⟩
 ·exact h
structure PartAt(w:World)(b o:Nat)(A:Int)(bp:Option Addr)(n c:Nat)(R:Int)(z:Nat→Int):Prop where
 c0:w.cell? ⟨b,o,none⟩=some (.int .i64 A)
 c1:w.cell? ⟨b,o+1,none⟩=some (.slice bp n c)
 c2:w.cell? ⟨b,o+2,none⟩=some (.int .i64 R)
 hA:I64 A
 row:0 < n→∃ b' off',bp=some ⟨b',off',none⟩∧∀ i,i < n→w.cell? ⟨b',off'+i,none⟩=some (.int .u8 (z i))
 le:n≤140737488355328
 bd:∀ i,i < n→0≤z i∧z i≤255
structure Parts(w:World)(sp:Option Addr)(len:Nat):Prop where
 row:0 < len→∃ b off,sp=some ⟨b,off,none⟩∧∀ i,i < len→∃ A bp n c R z,PartAt w b (off+i*3) A bp n c R z
 le:len≤140737488355328
structure BS(W wr:World)(X:Nat)(k:RB)(m1 m2:MS):Prop where
 pm:PM wr X m1
 rm:RM wr k m2
 ok1:m1.Ok
 ok2:m2.Ok
 bel:Below W.heap.size W wr
 far:∀ x∈X :: k.y :: k.all,W.heap.size≤x
 ne:X∉k.y :: k.all
theorem BS.x{W wr w':World}{X:Nat}{k:RB}{m1 m2 m':MS}(h:BS W wr X k m1 m2)(hP:PM w' X m')(hm:m'.Ok)(hc:Chg [X] wr w'):BS W w' X k m' m2:=
 ⟨hP,h.rm.keep hc (fun x hx hm=>h.ne (by simp at hm;subst hm;exact hx)),hm,h.ok2,h.bel.trans (hc.below h.bel.size (fun x hx=>by simp at hx;subst hx;exact h.far _ (List.mem_cons_self ..))),h.far,h.ne⟩
theorem BS.k{W wr w':World}{X:Nat}{k:RB}{m1 m2 m':MS}(h:BS W wr X k m1 m2)(hR:RM w' k m')(hm:m'.Ok)(hc:Chg k.all wr w'):BS W w' X k m1 m':=
 ⟨h.pm.keep hc (fun hm=>h.ne (List.mem_cons_of_mem _ hm)),hR,h.ok1,hm,h.bel.trans (hc.below h.bel.size (fun x hx=>h.far _ (List.mem_cons_of_mem _ (List.mem_cons_of_mem _ hx)))),h.far,h.ne⟩
theorem BS.alloc{W wr:World}{X:Nat}{k:RB}{m1 m2:MS}(h:BS W wr X k m1 m2)(o:Obj):BS W (wr.alloc o) X k m1 m2:=
 ⟨h.pm.alloc o,h.rm.alloc o,h.ok1,h.ok2,h.bel.alloc h.bel.size o,h.far,h.ne⟩
theorem BS.nX{W wr:World}{X:Nat}{k:RB}{m1 m2:MS}(h:BS W wr X k m1 m2){P:Nat}(hP:wr.heap.size≤P):P∉[X]:=fun hm=>by
 simp at hm;subst hm;have:=h.pm.lt;omega
theorem BS.nK{W wr:World}{X:Nat}{k:RB}{m1 m2:MS}(h:BS W wr X k m1 m2){P:Nat}(hP:wr.heap.size≤P):P∉k.all:=fun hm=>by
 have:=h.rm.lt P (List.mem_cons_of_mem _ hm);omega
theorem both_new(W:World){k:RB}{w3:World}(h1:NewR (W.alloc (.cells zeroC 87)) k w3):BS W w3 W.heap.size k newS newS:=by
 have hb1:=h1.bel
 simp only[World.size_alloc] at hb1
 have hl1:∀ x∈k.y :: k.all,W.heap.size+1≤x:=fun x hx=>by have:=h1.le x hx;simp only[World.size_alloc] at this;omega
 refine⟨(new_pm W).below hb1 zo,h1.rm,newS_ok,newS_ok,?_,fun x hx=>?_,fun hm=>by have:=hl1 _ hm;omega⟩
 ·exact((Below.refl _ _).alloc (Nat.le_refl _) _).trans (hb1.mono zo)
 ·rcases List.mem_cons.1 hx with rfl|hx
  ·exact Nat.le_refl _
  ·have:=hl1 x hx;omega
theorem PartAt.sr{W w:World}{b o:Nat}{A:Int}{bp:Option Addr}{n c:Nat}{R:Int}{z:Nat→Int}(h:PartAt W b o A bp n c R z)(bel:Below W.heap.size W w):SR w bp n z:=fun h0=>by
 obtain⟨b',off',hp,hr⟩:=h.row h0
 exact⟨b',off',hp,fun i hi=>(bel.cell (p:=⟨b',off'+i,none⟩) (lt_of_cell (hr i hi))).trans (hr i hi)⟩
theorem PartAt.off{W w:World}{b o:Nat}{A:Int}{bp:Option Addr}{n c:Nat}{R:Int}{z:Nat→Int}{X:Nat}{k:RB}{m1 m2:MS}(h:PartAt W b o A bp n c R z)(hB:BS W w X k m1 m2):0 < n→∀ b1 o1,bp=some ⟨b1,o1,none⟩→b1∉k.all:=fun h0 b1 o1 e hm=>by
 obtain⟨b',off',hp,hr⟩:=h.row h0
 rw[hp] at e
 cases e
 have h1:=lt_of_cell (hr 0 h0)
 have h2:=hB.far b1 (List.mem_cons_of_mem _ (List.mem_cons_of_mem _ hm))
 simp only at h1
 omega
abbrev partB(A:Int)(bp:Option Addr)(n c:Nat)(R:Int):Obj:=.cells #[.int .i64 A,.slice bp n c,.int .i64 R] 49
theorem part_cells{w:World}{P:Nat}{A:Int}{bp:Option Addr}{n c:Nat}{R:Int}(h:w.heap[P]?=some (partB A bp n c R)):w.cell? ⟨P,0,none⟩=some (.int .i64 A)∧w.cell? ⟨P,1,none⟩=some (.slice bp n c)∧w.cell? ⟨P,2,none⟩=some (.int .i64 R):=
 ⟨cell_of_row _ _ 0 _ 49 (0,0) h,cell_of_row _ _ 1 _ 49 (0,0) h,cell_of_row _ _ 2 _ 49 (0,0) h⟩
structure Marks(w:World)(sp:Option Addr)(len:Nat):Prop where
 row:0 < len→∃ b off,sp=some ⟨b,off,none⟩∧∀ i,i < len→∃ v:Int,w.cell? ⟨b,off+i,none⟩=some (.int .i64 v)
 le:len≤140737488355328
theorem both_any(sp mp:Option Addr)(len cap mlen mcap:Nat)(W:World)(hs:Parts W sp len)(hm:Marks W mp mlen) :
  Calls Tryz.prog 4 #[.slice sp len cap,.slice mp mlen mcap] W fun e w'=>∃ X k m,e=.returned (.tuple #[.pointer (some ⟨X,0,none⟩),.pointer (some ⟨k.y,0,none⟩),.bool true])∧BS W w' X k m m:=by
 have HS:Hid (Parts W sp len):=hs
 have HMK:Hid (Marks W mp mlen):=hm
 have ml1:(mlen:Int)≤140737488355328:=by have:=hm.le;omega
 have hl1:(len:Int)≤140737488355328:=by have:=hs.le;omega
 clear hs hm
 go_enter Tryz.func4,Tryz.ntmps4
 go_wp2_with first
  | (go_at_call 10;refine(new_any _).mono ?_;rintro e w' ⟨rfl,rfl⟩)
  | (go_at_call 11;refine(rnew_any _).mono ?_;rintro e w3 ⟨k,rfl,hn1⟩;have HN1:Hid (NewR (W.alloc (.cells zeroC 87)) k w3):=hn1;clear hn1)
 have HP0:Hid (BS W w3 W.heap.size k newS newS):=both_new W HN1.out
 clear HN1
 go_loopw [24] (fun i wr=>∃ (j:Nat) (m:MS),i=.int .i64 j∧j≤len∧BS W wr W.heap.size k m m) (fun i _=>len - (intOf i).toNat)
 case atStart=>exact⟨0,newS,rfl,Nat.zero_le _,HP0.out⟩
 case round=>
  obtain⟨j,m,rfl,hj,hB⟩:=hrel
  have HB:Hid _:=hB
  clear hB
  by_cases hlt:j < len
  ·obtain⟨b,off,rfl,hr⟩:=HS.out.row zo
   obtain⟨A,bp,n,c,R,z,hp⟩:=hr j hlt
   have HPt:Hid _:=hp
   have hji:(j:Int) < len:=zo
   have hj0:(0:Int)≤j:=zo
   have hbW:b < W.heap.size:=lt_of_cell hp.c0
   have e0:=(HB.out.bel.cell (p:=⟨b,off+j*3,none⟩) hbW).trans hp.c0
   have e1:=(HB.out.bel.cell (p:=⟨b,off+j*3+1,none⟩) hbW).trans hp.c1
   have e2:=(HB.out.bel.cell (p:=⟨b,off+j*3+2,none⟩) hbW).trans hp.c2
   clear hr hp
   have HAI:Hid (I64 A):=HPt.out.hA
   have hlw:=HB.out.bel.size
   have hbr:b < wr.heap.size:=zo
   obtain⟨t,ht⟩:∃ t,A.tmod 65536=t:=⟨_,rfl⟩
   have t1:t < 65536:=ht▸Int.tmod_lt_of_pos A (show(0:Int) < 65536 by omega)
   have t2 : -65536 < t:=ht▸Int.lt_tmod_of_pos A (show(0:Int) < 65536 by omega)
   by_cases hneg:t < 0
   ·have dn:decide (t < 0)=true:=decide_eq_true hneg
    obtain⟨x,hx⟩:∃ x,t+65536=x:=⟨_,rfl⟩
    have x0:0≤x:=zo
    have x1:x < 65536:=zo
    have HX:Hid (True∧I64 x):=⟨trivial,by omega,by omega⟩
    clear hneg
    go_wp2_with first
     | (go_at_call 12;refine(poke_tot W.heap.size x bp n c z m _ HX.out.2 (HPt.out.sr (HB.out.alloc _).bel) (HB.out.alloc _).pm).mono ?_;rintro e w1 ⟨rfl,hP1,hC1⟩;have HB1:Hid (BS W w1 W.heap.size k (pokeT m x n z) m):=(HB.out.alloc _).x hP1 (ok_pokeT HB.out.ok1 _ _ _ HPt.out.bd) hC1;have HQ1:Hid (w1.heap[wr.heap.size]?=some (partB A bp n c R)):=(hC1.block _ (by simp) (HB.out.nX (Nat.le_refl _))).trans (heap_alloc_last wr _);obtain⟨f0,f1,f2⟩:=part_cells HQ1.out;clear hP1 hC1)
     | (go_at_call 13;refine(rpoke_tot k x bp n c z m _ HX.out.2 (Nat.le_trans HPt.out.le (by decide)) (HPt.out.sr HB1.out.bel) (HPt.out.off HB1.out) HB1.out.rm).mono ?_;rintro e w2 ⟨rfl,hR2,hC2⟩;have HB2:Hid (BS W w2 W.heap.size k (pokeT m x n z) (pokeT m x n z)):=HB1.out.k hR2 (ok_pokeT HB.out.ok1 _ _ _ HPt.out.bd) hC2;have HQ2:Hid (w2.heap[wr.heap.size]?=some (partB A bp n c R)):=(hC2.block _ (lt_of_block HQ1.out) (HB.out.nK (Nat.le_refl _))).trans HQ1.out;obtain⟨g0,g1,g2⟩:=part_cells HQ2.out;clear hR2 hC2)
     | (go_at_call 14;refine(prot_tot W.heap.size (x / 256) R _ _ HB2.out.pm).mono ?_;rintro e w3' ⟨rfl,hP3,hC3⟩;have HB3:Hid (BS W w3' W.heap.size k (protT (pokeT m x n z) (x / 256) R) (pokeT m x n z)):=HB2.out.x hP3 (ok_protT (ok_pokeT HB.out.ok1 _ _ _ HPt.out.bd) _ _) hC3;have HQ3:Hid (w3'.heap[wr.heap.size]?=some (partB A bp n c R)):=(hC3.block _ (lt_of_block HQ2.out) (HB.out.nX (Nat.le_refl _))).trans HQ2.out;obtain⟨y0,y1,y2⟩:=part_cells HQ3.out;clear hP3 hC3)
     | (go_at_call 15;refine(rprot_tot k (x / 256) R _ _ HB3.out.rm).mono ?_;rintro e w4 ⟨rfl,hR4,hC4⟩;have HB4:Hid (BS W w4 W.heap.size k (protT (pokeT m x n z) (x / 256) R) (protT (pokeT m x n z) (x / 256) R)):=HB3.out.k hR4 (ok_protT (ok_pokeT HB.out.ok1 _ _ _ HPt.out.bd) _ _) hC4;clear hR4 hC4)
    go_roundw
    case rel=>exact⟨j+1,_,by go_num,by omega,HB4.out⟩
    case measure=>simp[intOf];omega
   ·have dn:decide (t < 0)=false:=decide_eq_false hneg
    obtain⟨x,hx⟩:∃ x,t=x:=⟨_,rfl⟩
    subst hx
    obtain⟨x,hx⟩:∃ x,x=t:=⟨_,rfl⟩
    subst hx
    have x0:0≤x:=zo
    have HX:Hid (True∧I64 x):=⟨trivial,by omega,by omega⟩
    clear hneg
    go_wp2_with first
     | (go_at_call 12;refine(poke_tot W.heap.size x bp n c z m _ HX.out.2 (HPt.out.sr (HB.out.alloc _).bel) (HB.out.alloc _).pm).mono ?_;rintro e w1 ⟨rfl,hP1,hC1⟩;have HB1:Hid (BS W w1 W.heap.size k (pokeT m x n z) m):=(HB.out.alloc _).x hP1 (ok_pokeT HB.out.ok1 _ _ _ HPt.out.bd) hC1;have HQ1:Hid (w1.heap[wr.heap.size]?=some (partB A bp n c R)):=(hC1.block _ (by simp) (HB.out.nX (Nat.le_refl _))).trans (heap_alloc_last wr _);obtain⟨f0,f1,f2⟩:=part_cells HQ1.out;clear hP1 hC1)
     | (go_at_call 13;refine(rpoke_tot k x bp n c z m _ HX.out.2 (Nat.le_trans HPt.out.le (by decide)) (HPt.out.sr HB1.out.bel) (HPt.out.off HB1.out) HB1.out.rm).mono ?_;rintro e w2 ⟨rfl,hR2,hC2⟩;have HB2:Hid (BS W w2 W.heap.size k (pokeT m x n z) (pokeT m x n z)):=HB1.out.k hR2 (ok_pokeT HB.out.ok1 _ _ _ HPt.out.bd) hC2;have HQ2:Hid (w2.heap[wr.heap.size]?=some (partB A bp n c R)):=(hC2.block _ (lt_of_block HQ1.out) (HB.out.nK (Nat.le_refl _))).trans HQ1.out;obtain⟨g0,g1,g2⟩:=part_cells HQ2.out;clear hR2 hC2)
     | (go_at_call 14;refine(prot_tot W.heap.size (x / 256) R _ _ HB2.out.pm).mono ?_;rintro e w3' ⟨rfl,hP3,hC3⟩;have HB3:Hid (BS W w3' W.heap.size k (protT (pokeT m x n z) (x / 256) R) (pokeT m x n z)):=HB2.out.x hP3 (ok_protT (ok_pokeT HB.out.ok1 _ _ _ HPt.out.bd) _ _) hC3;have HQ3:Hid (w3'.heap[wr.heap.size]?=some (partB A bp n c R)):=(hC3.block _ (lt_of_block HQ2.out) (HB.out.nX (Nat.le_refl _))).trans HQ2.out;obtain⟨y0,y1,y2⟩:=part_cells HQ3.out;clear hP3 hC3)
     | (go_at_call 15;refine(rprot_tot k (x / 256) R _ _ HB3.out.rm).mono ?_;rintro e w4 ⟨rfl,hR4,hC4⟩;have HB4:Hid (BS W w4 W.heap.size k (protT (pokeT m x n z) (x / 256) R) (protT (pokeT m x n z) (x / 256) R)):=HB3.out.k hR4 (ok_protT (ok_pokeT HB.out.ok1 _ _ _ HPt.out.bd) _ _) hC4;clear hR4 hC4)
    go_roundw
    case rel=>exact⟨j+1,_,by go_num,by omega,HB4.out⟩
    case measure=>simp[intOf];omega
  ·have hjl:j=len:=zo
   subst hjl
   have d0:decide ((j:Int) < (j:Int))=false:=decide_eq_false zo
   go_wp2
   go_loopw [68] (fun i wr=>∃ (j2:Nat) (m:MS),i=.int .i64 j2∧j2≤mlen∧BS W wr W.heap.size k m m) (fun i _=>mlen - (intOf i).toNat)
   case atStart=>exact⟨0,m,rfl,Nat.zero_le _,HB.out⟩
   case round=>
    obtain⟨j2,m2,rfl,hj2,hB2⟩:=hrel
    have HBB:Hid _:=hB2
    clear hB2
    by_cases hlt2:j2 < mlen
    ·obtain⟨b,off,rfl,hr⟩:=HMK.out.row zo
     obtain⟨v,hv⟩:=hr j2 hlt2
     have hji:(j2:Int) < mlen:=zo
     have hj0:(0:Int)≤j2:=zo
     have e0:=(HBB.out.bel.cell (p:=⟨b,off+j2,none⟩) (lt_of_cell hv)).trans hv
     clear hr hv
     go_wp2_with first
      | (go_at_call 16;refine(mark_tot W.heap.size v true m2 _ HBB.out.pm).mono ?_;rintro e w1 ⟨rfl,hP1,hC1⟩;have HB1:Hid (BS W w1 W.heap.size k (markT m2 v true) m2):=HBB.out.x hP1 (ok_markT HBB.out.ok1 _ _) hC1;clear hP1 hC1)
      | (go_at_call 17;refine(rmark_tot k v true m2 _ HB1.out.rm).mono ?_;rintro e w2 ⟨rfl,hR2,hC2⟩;have HB2:Hid (BS W w2 W.heap.size k (markT m2 v true) (markT m2 v true)):=HB1.out.k hR2 (ok_markT HBB.out.ok1 _ _) hC2;clear hR2 hC2)
     go_roundw
     case rel=>exact⟨j2+1,_,by go_num,by omega,HB2.out⟩
     case measure=>simp[intOf];omega
    ·have hjl:j2=mlen:=zo
     subst hjl
     have d2:decide ((j2:Int) < (j2:Int))=false:=decide_eq_false zo
     go_wp2
     refine bodyPost_ret (v:=.tuple #[.pointer (some ⟨W.heap.size,0,none⟩),.pointer (some ⟨k.y,0,none⟩),.bool true]) (by simp[results,Tryz.results4,go_sem]) rfl ⟨_,k,_,rfl,HBB.out⟩
theorem upto4{k:Int}(h:0≤k∧k≤4):k=0∨k=1∨k=2∨k=3∨k=4:=zo
theorem upto2{k:Int}(h:0≤k∧k≤2):k=0∨k=1∨k=2:=zo
theorem rld_any(k:RB)(a:Nat)(g:Int)(s:MS)(w:World)(ha:a < 4294967296)(hs:s.Ok)(h:RM w k s)(hg:0≤g∧g≤4) :
  Calls Tryz.prog 86 #[.pointer (some ⟨k.y,0,none⟩),.int .i64 g,.int .u32 a] w fun e w'=>e=.returned (.tuple #[.int .u32 (ldWo s g a:Nat),.agg #[.int .i64 (stK 5 (badN s 1 a (ldNo g).toNat)),.int .u32 (stA (badN s 1 a (ldNo g).toNat))]])∧Below w.heap.size w w':=by
 rcases upto4 hg with rfl|rfl|rfl|rfl|rfl
 ·obtain⟨v,e,hv⟩:=ldX_nat s a 1 hs zo
  have c:=rld0 k a v s w _ ha hs h e hv rfl
  rw[show ldWo s 0 a=v by simp[ldWo,ldNo,e]]
  exact c
 ·obtain⟨v,e,hv⟩:=ldX_nat s a 1 hs zo
  have c:=rld1 k a v s w _ ha hs h e hv rfl
  rw[show ldWo s 1 a=unF 2 v by simp[ldWo,ldNo,e]]
  exact c
 ·obtain⟨v,e,hv⟩:=ldX_nat s a 2 hs zo
  have c:=rld2 k a v s w _ ha hs h e hv rfl
  rw[show ldWo s 2 a=v by simp[ldWo,ldNo,e]]
  exact c
 ·obtain⟨v,e,hv⟩:=ldX_nat s a 2 hs zo
  have c:=rld3 k a v s w _ ha hs h e hv rfl
  rw[show ldWo s 3 a=unF 3 v by simp[ldWo,ldNo,e]]
  exact c
 ·obtain⟨v,e,hv⟩:=ldX_nat s a 4 hs zo
  have c:=rld4 k a v s w _ ha hs h e hv rfl
  rw[show ldWo s 4 a=v by simp[ldWo,ldNo,e]]
  exact c
theorem rst_any(k:RB)(a v:Nat)(g:Int)(s:MS)(w:World)(ha:a < 4294967296)(hv:v < 4294967296)(hs:s.Ok)(h:RM w k s)(hg:0≤g∧g≤2) :
  Calls Tryz.prog 87 #[.pointer (some ⟨k.y,0,none⟩),.int .i64 g,.int .u32 a,.int .u32 v] w fun e w'=>e=.returned (.agg #[.int .i64 (stK 6 (sto s a (stN g))),.int .u32 (stA (sto s a (stN g)))])∧RM w' k (storeT s a (stN g) v)∧Chg k.all w w':=by
 rcases upto2 hg with rfl|rfl|rfl
 ·exact rst0 k a v s w _ ha hv hs h rfl
 ·exact rst1 k a v s w _ ha hv hs h rfl
 ·exact rst2 k a v s w _ ha hv hs h rfl
theorem opWf_of{n:Nat}{o:OpR}(h:OpGood n o):OpWf o:=
 ⟨fun e=>by have h1:=h.lo;have h2:=h.hi;rw[e] at h1 h2;exact⟨h1,h2⟩,fun e=>by have h1:=h.lo;have h2:=h.hi;rw[e] at h1 h2;exact⟨h1,h2⟩⟩
theorem rval_any(n:Nat)(o:OpR)(a b c:Nat)(w:World)(ha:a < 4294967296)(hb:b < 4294967296)(hc:c < 4294967296)(hk:o.kind=1∨o.kind=4∨o.kind=5∨o.kind=6∨o.kind=7∨o.kind=8)(hw:OpGood n o) :
  Calls Tryz.prog 88 #[.agg #[.int .i64 o.kind,.int .i64 o.w,.int .i64 o.a,.int .i64 o.b,.int .i64 o.c,.int .u32 o.k,.int .i64 o.n],.int .u32 a,.int .u32 b,.int .u32 c] w fun e w'=>e=.returned (.int .u32 (valF o a b c))∧Below w.heap.size w w':=by
 rcases hk with h|h|h|h|h|h
 ·exact rval1 o a b c w ha hb hc h (opWf_of hw)
 ·exact rval4 o a b c w ha hb hc h (opWf_of hw)
 ·exact rval5 o a b c w ha hb hc h (opWf_of hw)
 ·exact rval6 o a b c w ha hb hc h (opWf_of hw)
 ·exact rval7 o a b c w ha hb hc h (opWf_of hw)
 ·exact rval8 o a b c w ha hb hc h (opWf_of hw)
structure Fz(w:World)(X:Nat):Prop where
 fr:∀ j,w.frozen? ⟨X,j,none⟩=false
theorem Fz.set{w:World}{X:Nat}(h:Fz w X)(a:Addr)(v:Value):Fz (w.setCell a v) X:=⟨fun j=>by rw[World.frozen?_setCell];exact h.fr j⟩
theorem Fz.below{w w':World}{X n:Nat}(h:Fz w X)(k:Below n w w')(hX:X < n):Fz w' X:=⟨fun j=>(k.frozen (p:=⟨X,j,none⟩) hX).trans (h.fr j)⟩
theorem Fz.chg{w w':World}{S:List Nat}{X:Nat}(h:Fz w X)(k:Chg S w w')(hX:X < w.heap.size)(hs:X∉S):Fz w' X:=⟨fun j=>(World.frozen?_of_block (w:=w) (k.block X hX hs)).trans (h.fr j)⟩
abbrev exA(x:ExR):Array Value:=#[.int .i64 x.k,.int .u32 x.a,.int .u32 x.pc,.int .i64 x.n]
theorem blk_set{w:World}{X o:Nat}{A:Array Value}{T:TypeId}(h:w.heap[X]?=some (.cells A T))(v:Value):(w.setCell ⟨X,o,none⟩ v).heap[X]?=some (.cells (A.setIfInBounds o v) T):=heap_setCell_same w X o A T v h
theorem blk_other{w:World}{X Y o:Nat}(hne:Y≠X)(v:Value):(w.setCell ⟨X,o,none⟩ v).heap[Y]?=w.heap[Y]?:=Below.heap_setCell w ⟨X,o,none⟩ v Y hne
theorem cxA_set(c:Nat→Nat)(i x:Nat)(hi:i < 12):(cxA c).setIfInBounds i (.int .u32 x)=cxA (updC c i x):=by
 have:i=0∨i=1∨i=2∨i=3∨i=4∨i=5∨i=6∨i=7∨i=8∨i=9∨i=10∨i=11:=zo
 rcases this with rfl|rfl|rfl|rfl|rfl|rfl|rfl|rfl|rfl|rfl|rfl|rfl<;>rfl
theorem cxA_get(c:Nat→Nat)(i:Nat)(hi:i < 12):(cxA c)[i]?=some (.int .u32 (c i)):=by
 have:i=0∨i=1∨i=2∨i=3∨i=4∨i=5∨i=6∨i=7∨i=8∨i=9∨i=10∨i=11:=zo
 rcases this with rfl|rfl|rfl|rfl|rfl|rfl|rfl|rfl|rfl|rfl|rfl|rfl<;>rfl
structure RvC(w:World)(C V n:Nat)(k:RB)(q:Sq):Prop where
 cb:w.heap[C]?=some (.cells (cxA q.c) 25)
 cv:∀ i,i < n→w.cell? ⟨V,i,none⟩=some (.int .u32 (q.v i))
 fv:Fz w V
 m:RM w k q.s
 n0:0 < n
 ne:C≠V
 kc:∀ x∈k.y :: k.all,x≠C∧x≠V
theorem RvC.lV{w:World}{C V n:Nat}{k:RB}{q:Sq}(h:RvC w C V n k q):V < w.heap.size:=lt_of_cell (h.cv 0 h.n0)
theorem RvC.below{w w':World}{C V n:Nat}{k:RB}{q:Sq}(h:RvC w C V n k q)(b:Below w.heap.size w w'):RvC w' C V n k q:=
 ⟨(b.block _ (row_lt h.cb)).trans h.cb,fun i hi=>(b.cell (p:=⟨V,i,none⟩) h.lV).trans (h.cv i hi),h.fv.below b h.lV,h.m.below b (Nat.le_refl _),h.n0,h.ne,h.kc⟩
theorem RvC.stored{w w':World}{C V n:Nat}{k:RB}{q:Sq}{s:MS}(h:RvC w C V n k q)(b:Chg k.all w w')(m:RM w' k s):RvC w' C V n k ⟨q.c,s,q.v⟩:=by
 have hC:C∉k.all:=fun hm=>(h.kc C (List.mem_cons_of_mem _ hm)).1 rfl
 have hV:V∉k.all:=fun hm=>(h.kc V (List.mem_cons_of_mem _ hm)).2 rfl
 exact⟨(b.block _ (row_lt h.cb) hC).trans h.cb,fun i hi=>(b.cell h.lV hV).trans (h.cv i hi),h.fv.chg b h.lV hV,m,h.n0,h.ne,h.kc⟩
theorem RvC.set{w:World}{C V n B o:Nat}{k:RB}{q:Sq}(h:RvC w C V n k q)(hC:C≠B)(hV:V≠B)(hk:∀ x∈k.y :: k.all,x≠B)(u:Value):RvC (w.setCell ⟨B,o,none⟩ u) C V n k q:=
 ⟨(blk_other hC u).trans h.cb,fun i hi=>(cell_setOther u hV _).trans (h.cv i hi),h.fv.set _ _,h.m.of_blocks (fun x hx=>blk_other (hk x hx) u),h.n0,h.ne,h.kc⟩
theorem RvC.putV{w:World}{C V n i:Nat}{k:RB}{q:Sq}(h:RvC w C V n k q)(hi:i < n)(x:Nat):RvC (w.setCell ⟨V,i,none⟩ (.int .u32 x)) C V n k ⟨q.c,q.s,updC q.v i x⟩:=by
 refine⟨(blk_other h.ne _).trans h.cb,fun j hj=>?_,h.fv.set _ _,h.m.of_blocks (fun x hx=>blk_other (h.kc x hx).2 _),h.n0,h.ne,h.kc⟩
 rw[cell_setCell _ (h.cv i hi)]
 show _=some (Value.int .u32 (updC q.v i x j))
 unfold updC
 by_cases e:j=i
 ·simp[e]
 ·simp[e,h.cv j hj]
theorem RvC.putC{w:World}{C V n i:Nat}{k:RB}{q:Sq}(h:RvC w C V n k q)(hi:i < 12)(x:Nat):RvC (w.setCell ⟨C,i,none⟩ (.int .u32 x)) C V n k ⟨updC q.c i x,q.s,q.v⟩:=
 ⟨by rw[blk_set h.cb,cxA_set _ _ _ hi],fun j hj=>(cell_setOther _ h.ne.symm _).trans (h.cv j hj),h.fv.set _ _,h.m.of_blocks (fun x hx=>blk_other (h.kc x hx).1 _),h.n0,h.ne,h.kc⟩
structure LvA(w wx:World)(C V n:Nat)(k:RB)(q:Sq):Prop where
 r:RvC wx C V n k q
 b6:wx.heap[C+1]?=some (.cells #[.int .u32 0,.int .u32 0,.int .u32 0,.int .u32 0,.int .u32 0,.int .u32 0,.int .u32 0,.int .u32 0,.int .u32 0,.int .u32 0,.int .u32 0,.int .u32 0] 25)
 b7:wx.heap[C+1+1]?=some (.cells #[.int .i64 0,.int .u32 0,.int .u32 0,.int .i64 0] 72)
 chg:Chg k.all w wx
 lk:∀ x∈k.y :: k.all,x < w.heap.size
 lC:w.heap.size≤C
 lV:C+1+1 < V
structure LvB(w wx:World)(C V D n:Nat)(k:RB)(q:Sq)(o:OpR)(x:ExR):Prop where
 a:LvA w wx C V n k q
 b11:wx.heap[D]?=some (.cells (opA o) 54)
 b12:wx.heap[D+1]?=some (.cells (exA x) 72)
 lD:V < D
theorem LvA.k_ne{w wx:World}{C V n:Nat}{k:RB}{q:Sq}(h:LvA w wx C V n k q){B:Nat}(hB:w.heap.size≤B):∀ x∈k.y :: k.all,x≠B:=fun x hx e=>by have:=h.lk x hx;omega
theorem LvA.not{w wx:World}{C V n:Nat}{k:RB}{q:Sq}(h:LvA w wx C V n k q){B:Nat}(hB:w.heap.size≤B):B∉k.all:=fun hm=>h.k_ne hB B (List.mem_cons_of_mem _ hm) rfl
theorem LvA.below{w wx w':World}{C V n:Nat}{k:RB}{q:Sq}(h:LvA w wx C V n k q)(b:Below wx.heap.size wx w'):LvA w w' C V n k q:=
 ⟨h.r.below b,(b.block _ (row_lt h.b6)).trans h.b6,(b.block _ (row_lt h.b7)).trans h.b7,h.chg.trans (Chg.of_below _ b),h.lk,h.lC,h.lV⟩
theorem LvA.stored{w wx w':World}{C V n:Nat}{k:RB}{q:Sq}{s:MS}(h:LvA w wx C V n k q)(b:Chg k.all wx w')(m:RM w' k s):LvA w w' C V n k ⟨q.c,s,q.v⟩:=by
 have:=h.lC
 exact⟨h.r.stored b m,(b.block _ (row_lt h.b6) (h.not zo)).trans h.b6,(b.block _ (row_lt h.b7) (h.not zo)).trans h.b7,h.chg.trans b,h.lk,h.lC,h.lV⟩
theorem LvA.set{w wx:World}{C V n B o:Nat}{k:RB}{q:Sq}(h:LvA w wx C V n k q)(hB:V < B)(u:Value):LvA w (wx.setCell ⟨B,o,none⟩ u) C V n k q:=by
 have h1:=h.lC
 have h2:=h.lV
 exact⟨h.r.set zo zo (h.k_ne zo) u,(blk_other zo u).trans h.b6,(blk_other zo u).trans h.b7,h.chg.new zo ((Only.refl B wx).setCell o u),h.lk,h.lC,h.lV⟩
theorem LvA.putV{w wx:World}{C V n i:Nat}{k:RB}{q:Sq}(h:LvA w wx C V n k q)(hi:i < n)(x:Nat):LvA w (wx.setCell ⟨V,i,none⟩ (.int .u32 x)) C V n k ⟨q.c,q.s,updC q.v i x⟩:=by
 have h1:=h.lC
 have h2:=h.lV
 exact⟨h.r.putV hi x,(blk_other zo _).trans h.b6,(blk_other zo _).trans h.b7,h.chg.new zo ((Only.refl V wx).setCell i _),h.lk,h.lC,h.lV⟩
theorem LvA.putC{w wx:World}{C V n i:Nat}{k:RB}{q:Sq}(h:LvA w wx C V n k q)(hi:i < 12)(x:Nat):LvA w (wx.setCell ⟨C,i,none⟩ (.int .u32 x)) C V n k ⟨updC q.c i x,q.s,q.v⟩:=by
 have h1:=h.lC
 have h2:=h.lV
 exact⟨h.r.putC hi x,(blk_other zo _).trans h.b6,(blk_other zo _).trans h.b7,h.chg.new zo ((Only.refl C wx).setCell i _),h.lk,h.lC,h.lV⟩
theorem LvB.below{w wx w':World}{C V D n:Nat}{k:RB}{q:Sq}{o:OpR}{x:ExR}(h:LvB w wx C V D n k q o x)(b:Below wx.heap.size wx w'):LvB w w' C V D n k q o x:=
 ⟨h.a.below b,(b.block _ (row_lt h.b11)).trans h.b11,(b.block _ (row_lt h.b12)).trans h.b12,h.lD⟩
theorem LvB.drew{w wx:World}{C V D n:Nat}{k:RB}{q:Sq}{o:OpR}{x:ExR}(h:LvB w wx C V D n k q o x):LvB w wx.drew C V D n k q o x:=h.below (Below.refl _ _).drew
theorem LvB.stored{w wx w':World}{C V D n:Nat}{k:RB}{q:Sq}{o:OpR}{x:ExR}{s:MS}(h:LvB w wx C V D n k q o x)(b:Chg k.all wx w')(m:RM w' k s):LvB w w' C V D n k ⟨q.c,s,q.v⟩ o x:=by
 have h1:=h.a.lC
 have h2:=h.a.lV
 have h3:=h.lD
 exact⟨h.a.stored b m,(b.block _ (row_lt h.b11) (h.a.not zo)).trans h.b11,(b.block _ (row_lt h.b12) (h.a.not zo)).trans h.b12,h.lD⟩
theorem LvB.putV{w wx:World}{C V D n i:Nat}{k:RB}{q:Sq}{o:OpR}{x:ExR}(h:LvB w wx C V D n k q o x)(hi:i < n)(y:Nat):LvB w (wx.setCell ⟨V,i,none⟩ (.int .u32 y)) C V D n k ⟨q.c,q.s,updC q.v i y⟩ o x:=by
 have h3:=h.lD
 exact⟨h.a.putV hi y,(blk_other zo _).trans h.b11,(blk_other zo _).trans h.b12,h.lD⟩
theorem LvB.putC{w wx:World}{C V D n i:Nat}{k:RB}{q:Sq}{o:OpR}{x:ExR}(h:LvB w wx C V D n k q o x)(hi:i < 12)(y:Nat):LvB w (wx.setCell ⟨C,i,none⟩ (.int .u32 y)) C V D n k ⟨updC q.c i y,q.s,q.v⟩ o x:=by
 have h2:=h.a.lV
 have h3:=h.lD
 exact⟨h.a.putC hi y,(blk_other zo _).trans h.b11,(blk_other zo _).trans h.b12,h.lD⟩
theorem LvB.ex0{w wx:World}{C V D n:Nat}{k:RB}{q:Sq}{o:OpR}{x:ExR}(h:LvB w wx C V D n k q o x)(z:Int):LvB w (wx.setCell ⟨D+1,0,none⟩ (.int .i64 z)) C V D n k q o ⟨z,x.a,x.pc,x.n⟩:=by
 have h3:=h.lD
 exact⟨h.a.set zo _,(blk_other zo _).trans h.b11,(blk_set h.b12 _).trans rfl,h.lD⟩
theorem LvB.ex1{w wx:World}{C V D n:Nat}{k:RB}{q:Sq}{o:OpR}{x:ExR}(h:LvB w wx C V D n k q o x)(z:Int):LvB w (wx.setCell ⟨D+1,1,none⟩ (.int .u32 z)) C V D n k q o ⟨x.k,z,x.pc,x.n⟩:=by
 have h3:=h.lD
 exact⟨h.a.set zo _,(blk_other zo _).trans h.b11,(blk_set h.b12 _).trans rfl,h.lD⟩
theorem LvB.ex2{w wx:World}{C V D n:Nat}{k:RB}{q:Sq}{o:OpR}{x:ExR}(h:LvB w wx C V D n k q o x)(z:Int):LvB w (wx.setCell ⟨D+1,2,none⟩ (.int .u32 z)) C V D n k q o ⟨x.k,x.a,z,x.n⟩:=by
 have h3:=h.lD
 exact⟨h.a.set zo _,(blk_other zo _).trans h.b11,(blk_set h.b12 _).trans rfl,h.lD⟩
theorem OpsR.chg{w w':World}{S:List Nat}{bp:Option Addr}{n:Nat}{f:Nat→OpR}(h:OpsR w bp n f)(hb:∀ b off,bp=some ⟨b,off,none⟩→b∉S)(c:Chg S w w'):OpsR w' bp n f:=fun h0=>by
 obtain⟨b,off,e,hl,hc⟩:=h h0
 have hn:=hb b off e
 exact⟨b,off,e,Nat.lt_of_lt_of_le hl c.size,fun i hi=>opAt_of fun r hr=>(c.cell hl hn).trans ((hc i hi).cells r hr)⟩
theorem info24:(Tryz.prog.info? 23).map (fun i=>(i.zero,i.size,i.bytes))=some (some (.int .u32 0),1,4):=by kernel_rfl
theorem made24_cell(w:World)(n i:Nat)(h:i < n):(w.alloc (.cells (madeCells #[.int .u32 0] n) 23)).cell? ⟨w.heap.size,i,none⟩=some (.int .u32 0):=by
 rw[row_cell (heap_alloc_last w _)];exact made_at _ _ _ h
theorem al5(w:World)(o1 o2 o3 o4 o5:Obj):(((((w.alloc o1).alloc o2).alloc o3).alloc o4).alloc o5).heap[w.heap.size+1]?=some o2∧(((((w.alloc o1).alloc o2).alloc o3).alloc o4).alloc o5).heap[w.heap.size+1+1]?=some o3∧(((((w.alloc o1).alloc o2).alloc o3).alloc o4).alloc o5).heap[w.heap.size+1+1+1]?=some o4∧(((((w.alloc o1).alloc o2).alloc o3).alloc o4).alloc o5).heap[w.heap.size+1+1+1+1]?=some o5:=by
 have l1:=heap_alloc_last (w.alloc o1) o2
 have l2:=heap_alloc_last ((w.alloc o1).alloc o2) o3
 have l3:=heap_alloc_last (((w.alloc o1).alloc o2).alloc o3) o4
 have l4:=heap_alloc_last ((((w.alloc o1).alloc o2).alloc o3).alloc o4) o5
 rw[show(w.alloc o1).heap.size=w.heap.size+1 by simp] at l1
 rw[show((w.alloc o1).alloc o2).heap.size=w.heap.size+1+1 by simp] at l2
 rw[show(((w.alloc o1).alloc o2).alloc o3).heap.size=w.heap.size+1+1+1 by simp] at l3
 rw[show((((w.alloc o1).alloc o2).alloc o3).alloc o4).heap.size=w.heap.size+1+1+1+1 by simp] at l4
 exact⟨(al_old _ _ _ (by simp<;>omega)).trans ((al_old _ _ _ (by simp<;>omega)).trans ((al_old _ _ _ (by simp)).trans l1)),(al_old _ _ _ (by simp<;>omega)).trans ((al_old _ _ _ (by simp)).trans l2),(al_old _ _ _ (by simp)).trans l3,l4⟩
theorem sx_f(c:Nat→Nat)(pc:Nat)(F:Int)(w:World):(Instr.field 77 (sxV c pc F) 2).run Tryz.prog w=.ok (.int .u32 F) w:=by
 simp[Instr.field,Tryz.underlying77,go_sem,part,asAgg]
theorem lvStart(w:World)(B:Array Value)(c:Nat→Nat)(s:MS)(k:RB)(n:Nat)(n0:0 < n)(h:RM w k s) :
  LvA w (((((w.alloc (.cells B 33)).alloc (.cells (cxA c) 25)).alloc (.cells #[.int .u32 0,.int .u32 0,.int .u32 0,.int .u32 0,.int .u32 0,.int .u32 0,.int .u32 0,.int .u32 0,.int .u32 0,.int .u32 0,.int .u32 0,.int .u32 0] 25)).alloc (.cells #[.int .i64 0,.int .u32 0,.int .u32 0,.int .i64 0] 72)).alloc (.cells (madeCells #[.int .u32 0] n) 23)) (w.heap.size+1) (w.heap.size+1+1+1+1) n k ⟨c,s,fun _=>0⟩:=by
 have e:=al5 w (.cells B 33) (.cells (cxA c) 25) (.cells #[.int .u32 0,.int .u32 0,.int .u32 0,.int .u32 0,.int .u32 0,.int .u32 0,.int .u32 0,.int .u32 0,.int .u32 0,.int .u32 0,.int .u32 0,.int .u32 0] 25) (.cells #[.int .i64 0,.int .u32 0,.int .u32 0,.int .i64 0] 72) (.cells (madeCells #[.int .u32 0] n) 23)
 have b:Below w.heap.size w (((((w.alloc (.cells B 33)).alloc (.cells (cxA c) 25)).alloc (.cells #[.int .u32 0,.int .u32 0,.int .u32 0,.int .u32 0,.int .u32 0,.int .u32 0,.int .u32 0,.int .u32 0,.int .u32 0,.int .u32 0,.int .u32 0,.int .u32 0] 25)).alloc (.cells #[.int .i64 0,.int .u32 0,.int .u32 0,.int .i64 0] 72)).alloc (.cells (madeCells #[.int .u32 0] n) 23)):=(((((Below.refl w.heap.size w).alloc (Nat.le_refl _) _).alloc (by simp) _).alloc zq17 _).alloc zq17 _).alloc zq17 _
 have hs:((((w.alloc (.cells B 33)).alloc (.cells (cxA c) 25)).alloc (.cells #[.int .u32 0,.int .u32 0,.int .u32 0,.int .u32 0,.int .u32 0,.int .u32 0,.int .u32 0,.int .u32 0,.int .u32 0,.int .u32 0,.int .u32 0,.int .u32 0] 25)).alloc (.cells #[.int .i64 0,.int .u32 0,.int .u32 0,.int .i64 0] 72)).heap.size=w.heap.size+1+1+1+1:=by simp
 refine⟨⟨e.1,fun i hi=>?_,⟨fun j=>row_fr e.2.2.2 j⟩,h.below b (Nat.le_refl _),n0,by omega,fun x hx=>by have:=h.lt x hx;omega⟩,e.2.1,e.2.2.1,Chg.of_below _ b,h.lt,by omega,by omega⟩
 have:=made24_cell ((((w.alloc (.cells B 33)).alloc (.cells (cxA c) 25)).alloc (.cells #[.int .u32 0,.int .u32 0,.int .u32 0,.int .u32 0,.int .u32 0,.int .u32 0,.int .u32 0,.int .u32 0,.int .u32 0,.int .u32 0,.int .u32 0,.int .u32 0] 25)).alloc (.cells #[.int .i64 0,.int .u32 0,.int .u32 0,.int .i64 0] 72)) n i hi
 rw[hs] at this
 exact this
theorem RM.setN{w:World}{k:RB}{s:MS}{B o:Nat}(h:RM w k s)(hk:∀ x∈k.y :: k.all,x≠B)(u:Value):RM (w.setCell ⟨B,o,none⟩ u) k s:=h.of_blocks (fun x hx=>blk_other (hk x hx) u)
theorem lvB(w wr:World)(C V n:Nat)(k:RB)(q:Sq)(o:OpR)(h:LvA w wr C V n k q):LvB w ((wr.alloc (.cells #[.int .i64 o.kind,.int .i64 o.w,.int .i64 o.a,.int .i64 o.b,.int .i64 o.c,.int .u32 o.k,.int .i64 o.n] 54)).alloc (.cells #[.int .i64 0,.int .u32 0,.int .u32 o.k,.int .i64 o.n] 72)) C V wr.heap.size n k q o ⟨0,0,o.k,o.n⟩:=
 ⟨h.below (((Below.refl _ _).alloc (Nat.le_refl _) _).alloc (by simp) _),(al_old _ _ _ (by simp)).trans (heap_alloc_last wr _),by
  have:=heap_alloc_last (wr.alloc (.cells #[.int .i64 o.kind,.int .i64 o.w,.int .i64 o.a,.int .i64 o.b,.int .i64 o.c,.int .u32 o.k,.int .i64 o.n] 54)) (.cells #[.int .i64 0,.int .u32 0,.int .u32 o.k,.int .i64 o.n] 72)
  rwa [show(wr.alloc (.cells #[.int .i64 o.kind,.int .i64 o.w,.int .i64 o.a,.int .i64 o.b,.int .i64 o.c,.int .u32 o.k,.int .i64 o.n] 54)).heap.size=wr.heap.size+1 by simp] at this,h.r.lV⟩
theorem opLess_of(count:Int)(n:Nat)(f:Nat→OpR)(i:Nat)(h:opErr count n f i=0)(h9:(f i).kind=9):(f i).a < i:=by
 unfold opErr at h
 by_cases e1:eOp (f i)=true
 ·rw[if_pos e1] at h;omega
 rw[if_neg e1] at h
 by_cases e2:fieldBad (flT (f i).kind.toNat) (f i) count=true
 ·rw[if_pos e2] at h;omega
 rw[if_neg e2] at h
 by_cases e3:takenBad (flT (f i).kind.toNat) (f i) f i=true
 ·rw[if_pos e3] at h;omega
 have hx:(flT (f i).kind.toNat).ha=true:=by rw[h9];rfl
 generalize flT (f i).kind.toNat=x at e3 hx
 simp only[takenBad,tk,gvn,hx,Bool.true_and,Bool.or_eq_true,Bool.not_eq_true',Bool.and_eq_false_iff,decide_eq_false_iff_not,not_or,Classical.not_not,Bool.not_eq_false] at e3
 have:=e3.1.1.1
 omega
theorem check_less(count bytes:Int)(n:Nat)(f:Nat→OpR)(h:(checkF count bytes n f).1=0):∀ j,j < n→(f j).kind=9→(f j).a < j:=by
 unfold checkF at h
 by_cases e:2048 < n
 ·rw[if_pos e] at h;simp at h
 rw[if_neg e] at h
 by_cases e2:(0≤count∧count≤64)∧(0≤bytes∧bytes≤384)
 ·rw[if_pos e2] at h
  have:=scan_ok count n f n 0 zo h
  exact fun j hj=>opLess_of count n f j (this.1 j zo hj)
 ·rw[if_neg e2] at h;simp at h
structure EvO where
 c:Nat→Nat
 x:ExR
 e:Int
 s:MS
def evF(count bytes:Int)(n:Nat)(f:Nat→OpR)(c:Nat→Nat)(s:MS):EvO:=
 if(checkF count bytes n f).1=0 then⟨(runO f n 0 ⟨c,s,fun _=>0⟩).1.c,(runO f n 0 ⟨c,s,fun _=>0⟩).2.1,0,(runO f n 0 ⟨c,s,fun _=>0⟩).1.s⟩ else⟨c,⟨0,0,0,0⟩,(checkF count bytes n f).1,s⟩
structure E4(w wx:World)(S:List Nat)(pc:Nat)(count bytes:Int)(bp:Option Addr)(n cap:Nat)(c:Nat→Nat):Prop where
 b3:wx.heap[w.heap.size]?=some (.cells #[.int .u32 pc,.int .i64 count,.int .i64 bytes,.slice bp n cap] 33)
 b4:wx.heap[w.heap.size+1]?=some (.cells (cxA c) 25)
 b6:wx.heap[w.heap.size+1+1]?=some (.cells #[.int .u32 0,.int .u32 0,.int .u32 0,.int .u32 0,.int .u32 0,.int .u32 0,.int .u32 0,.int .u32 0,.int .u32 0,.int .u32 0,.int .u32 0,.int .u32 0] 25)
 b7:wx.heap[w.heap.size+1+1+1]?=some (.cells #[.int .i64 0,.int .u32 0,.int .u32 0,.int .i64 0] 72)
 chg:Chg S w wx
theorem E4.below{w wx w':World}{S:List Nat}{pc:Nat}{count bytes:Int}{bp:Option Addr}{n cap:Nat}{c:Nat→Nat}(h:E4 w wx S pc count bytes bp n cap c)(b:Below wx.heap.size wx w'):E4 w w' S pc count bytes bp n cap c:=
 ⟨(b.block _ (row_lt h.b3)).trans h.b3,(b.block _ (row_lt h.b4)).trans h.b4,(b.block _ (row_lt h.b6)).trans h.b6,(b.block _ (row_lt h.b7)).trans h.b7,h.chg.trans (Chg.of_below S b)⟩
theorem E4.next{w wx w':World}{S T:List Nat}{pc:Nat}{count bytes:Int}{bp:Option Addr}{n cap:Nat}{c:Nat→Nat}(h:E4 w wx S pc count bytes bp n cap c)(b:Chg T wx w')(hT:∀ x∈T,x∈S∧x < w.heap.size∨w.heap.size+1+1+1 < x):E4 w w' S pc count bytes bp n cap c:=by
 have k:∀ j,w.heap.size≤j→j≤w.heap.size+1+1+1→j∉T:=fun j h1 h2 hm=>by have:=hT j hm;omega
 refine⟨(b.block _ (row_lt h.b3) (k _ zo zo)).trans h.b3,(b.block _ (row_lt h.b4) (k _ zo zo)).trans h.b4,(b.block _ (row_lt h.b6) (k _ zo zo)).trans h.b6,(b.block _ (row_lt h.b7) (k _ zo zo)).trans h.b7,⟨b.os.trans h.chg.os,b.tape.trans h.chg.tape,b.output.trans h.chg.output,Nat.le_trans h.chg.size b.size,fun j hj hs=>?_⟩⟩
 have hj2:j∉T:=fun hm=>by
  rcases hT j hm with ⟨h1,_⟩|h1
  ·exact hs h1
  ·omega
 exact(b.block j (Nat.lt_of_lt_of_le hj h.chg.size) hj2).trans (h.chg.block j hj hs)
theorem e4Start(w:World)(S:List Nat)(pc:Nat)(count bytes:Int)(bp:Option Addr)(n cap:Nat)(c:Nat→Nat):E4 w ((((w.alloc (.cells #[.int .u32 pc,.int .i64 count,.int .i64 bytes,.slice bp n cap] 33)).alloc (.cells (cxA c) 25)).alloc (.cells #[.int .u32 0,.int .u32 0,.int .u32 0,.int .u32 0,.int .u32 0,.int .u32 0,.int .u32 0,.int .u32 0,.int .u32 0,.int .u32 0,.int .u32 0,.int .u32 0] 25)).alloc (.cells #[.int .i64 0,.int .u32 0,.int .u32 0,.int .i64 0] 72)) S pc count bytes bp n cap c:=by
 have l0:=heap_alloc_last w (.cells #[.int .u32 pc,.int .i64 count,.int .i64 bytes,.slice bp n cap] 33)
 have l1:=heap_alloc_last (w.alloc (.cells #[.int .u32 pc,.int .i64 count,.int .i64 bytes,.slice bp n cap] 33)) (.cells (cxA c) 25)
 have l2:=heap_alloc_last ((w.alloc (.cells #[.int .u32 pc,.int .i64 count,.int .i64 bytes,.slice bp n cap] 33)).alloc (.cells (cxA c) 25)) (.cells #[.int .u32 0,.int .u32 0,.int .u32 0,.int .u32 0,.int .u32 0,.int .u32 0,.int .u32 0,.int .u32 0,.int .u32 0,.int .u32 0,.int .u32 0,.int .u32 0] 25)
 have l3:=heap_alloc_last (((w.alloc (.cells #[.int .u32 pc,.int .i64 count,.int .i64 bytes,.slice bp n cap] 33)).alloc (.cells (cxA c) 25)).alloc (.cells #[.int .u32 0,.int .u32 0,.int .u32 0,.int .u32 0,.int .u32 0,.int .u32 0,.int .u32 0,.int .u32 0,.int .u32 0,.int .u32 0,.int .u32 0,.int .u32 0] 25)) (.cells #[.int .i64 0,.int .u32 0,.int .u32 0,.int .i64 0] 72)
 rw[show(w.alloc (.cells #[.int .u32 pc,.int .i64 count,.int .i64 bytes,.slice bp n cap] 33)).heap.size=w.heap.size+1 by simp] at l1
 rw[show((w.alloc (.cells #[.int .u32 pc,.int .i64 count,.int .i64 bytes,.slice bp n cap] 33)).alloc (.cells (cxA c) 25)).heap.size=w.heap.size+1+1 by simp] at l2
 rw[show(((w.alloc (.cells #[.int .u32 pc,.int .i64 count,.int .i64 bytes,.slice bp n cap] 33)).alloc (.cells (cxA c) 25)).alloc (.cells #[.int .u32 0,.int .u32 0,.int .u32 0,.int .u32 0,.int .u32 0,.int .u32 0,.int .u32 0,.int .u32 0,.int .u32 0,.int .u32 0,.int .u32 0,.int .u32 0] 25)).heap.size=w.heap.size+1+1+1 by simp] at l3
 exact⟨(al_old _ _ _ (by simp<;>omega)).trans ((al_old _ _ _ (by simp<;>omega)).trans ((al_old _ _ _ (by simp)).trans l0)),(al_old _ _ _ (by simp<;>omega)).trans ((al_old _ _ _ (by simp)).trans l1),(al_old _ _ _ (by simp)).trans l2,l3,Chg.of_below S ((((Below.refl w.heap.size w).alloc (Nat.le_refl _) _).alloc (by simp) _).alloc zq17 _ |>.alloc zq17 _)⟩
def mkF(s:MS)(pc:Nat):Nat→MS
 | 0=>s
 | n+1=>markT (mkF s pc n) (((pc+n)%4294967296 / 256:Nat):Int) true
theorem markT_kept(s:MS)(p:Int):(markT s p true).R=s.R∧(markT s p true).B=s.B∧(∀ q,s.M q=true→(markT s p true).M q=true):=by
 unfold markT
 split
 ·refine⟨rfl,rfl,fun q h=>?_⟩
  show upd s.M p.toNat true q=true
  unfold upd
  split
  ·rfl
  ·exact h
 ·exact⟨rfl,rfl,fun q h=>h⟩
theorem mkF_kept(s:MS)(pc:Nat):∀ n,(mkF s pc n).R=s.R∧(mkF s pc n).B=s.B
 | 0=>⟨rfl,rfl⟩
 | n+1=>⟨(markT_kept _ _).1.trans (mkF_kept s pc n).1,(markT_kept _ _).2.1.trans (mkF_kept s pc n).2⟩
theorem mkF_ok{s:MS}(hs:s.Ok)(pc:Nat):∀ n,(mkF s pc n).Ok
 | 0=>hs
 | n+1=>ok_markT (mkF_ok hs pc n) _ _
theorem mkF_M(s:MS)(pc:Nat):∀ n j,j < n→(pc+j)%4294967296 / 256 < 256→(mkF s pc n).M ((pc+j)%4294967296 / 256)=true
 | n+1,j,hj,h=>by
  by_cases e:j=n
  ·subst e
   show(markT (mkF s pc j) (((pc+j)%4294967296 / 256:Nat):Int) true).M _=true
   unfold markT
   rw[if_pos (by unfold pageOk;omega)]
   show upd (mkF s pc j).M _ true _=true
   unfold upd
   rw[if_pos (by rw[Int.toNat_natCast])]
  ·exact(markT_kept _ _).2.2 _ (mkF_M s pc n j zo h)
theorem mk_ins(s:MS)(pc n q:Nat):insOf (mkF s pc n) q=insOf s q:=
 insOf_congr (mkF_kept s pc n).1 (by rw[(mkF_kept s pc n).2]) (fun j _=>by rw[(mkF_kept s pc n).2])
theorem blkF_congr{m s:MS}(h:∀ q,insOf m q=insOf s q)(pc:Nat):∀ (f next count bytes:Nat) (l:List OpR),blkF m pc f next count bytes l=blkF s pc f next count bytes l
 | 0,_,_,_,_=>rfl
 | f+1,next,count,bytes,l=>by
  rw[blkF,blkF,h]
  split
  ·rfl
  ·split
   ·rfl
   ·exact blkF_congr h pc f _ _ _ _
theorem lenF_congr{m s:MS}(h:∀ q,insOf m q=insOf s q)(pc:Nat):∀ (f n size:Nat),lenF m pc f n size=lenF s pc f n size
 | 0,_,_=>rfl
 | f+1,n,size=>by
  rw[lenF,lenF,h]
  split
  ·rfl
  ·split
   ·rfl
   ·exact lenF_congr h pc f _ _
theorem len_in{s:MS}(hs:s.Ok){pc:Nat}(hpc:pc < 4294967296):∀ (f n size:Nat),(0 < n→pc+size≤65536)→(n=0→size=0)→0 < (lenF s pc f n size).size→pc+(lenF s pc f n size).size≤65536
 | 0,n,size,h1,h2,h=>by
  rcases Nat.eq_zero_or_pos n with e|e
  ·have:=h2 e
   have h:0 < size:=h
   omega
  ·exact h1 e
 | f+1,n,size,h1,h2,h=>by
  have hq:n=0∧size=0∨pc+size≤65536:=by
   rcases Nat.eq_zero_or_pos n with e|e
   ·exact Or.inl ⟨e,h2 e⟩
   ·exact Or.inr (h1 e)
  have e:(pc+size)%4294967296=pc+size:=Nat.mod_eq_of_lt zo
  rw[lenF,e] at h ⊢
  by_cases hk:(insOf s (pc+size)).k≠0
  ·rw[if_pos hk] at h ⊢
   by_cases h0:n=0
   ·rw[if_pos h0] at h;exact absurd h (Nat.lt_irrefl 0)
   ·rw[if_neg h0];exact h1 zo
  ·rw[if_neg hk] at h ⊢
   have hl:=(ins_len hs (show(insOf s (pc+size)).k=0 by omega)).2.2
   by_cases he:endsF (insOf s (pc+size)).op=true
   ·rw[if_pos he];show pc+(size+_)≤65536;omega
   ·rw[if_neg he] at h ⊢
    exact len_in hs hpc f (n+1) _ (fun _=>by omega) (fun hh=>by omega) h
theorem tail_k{s:MS}(hs:s.Ok){pc:Nat}(hpc:pc < 4294967296):∀ (f next count M:Nat),next < 4294967296→∀ o∈tailF s pc f next count M,o.k < 4294967296
 | 0,next,count,M,hn,o,ho=>by
  rw[tailF,List.mem_singleton] at ho
  subst ho;exact hn
 | f+1,next,count,M,hn,o,ho=>by
  rw[tailF] at ho
  by_cases hk:(insOf s next).k≠0
  ·rw[if_pos hk] at ho
   by_cases h0:count=0
   ·rw[if_pos h0,List.mem_singleton] at ho;subst ho;exact hpc
   ·rw[if_neg h0,List.mem_singleton] at ho;subst ho;exact hn
  ·rw[if_neg hk] at ho
   have hl:∀ o∈liftF (xiOf (insOf s next) next count) M,o.k < 4294967296:=lift_k _ _ hn (Nat.mod_lt _ (by decide)) (insOf_ok s next hs zo).im
   by_cases he:endsF (insOf s next).op=true
   ·rw[if_pos he] at ho;exact hl o ho
   ·rw[if_neg he,List.mem_append] at ho
    rcases ho with h|h
    ·exact hl o h
    ·exact tail_k hs hpc f _ _ _ (Nat.mod_lt _ (by decide)) o h
theorem exO_pc{o:OpR}{q:Sq}(hq:SqOk q)(hk:o.k < 4294967296):0≤(exO o q).pc∧(exO o q).pc < 4294967296:=by
 have hv:=hq.v o.a.toNat
 unfold exO
 (repeat' split)<;>simp only<;>omega
theorem runL_x:∀ (l:List OpR) (i:Nat) (q:Sq) (x:ExR),SqOk q→(∀ o∈l,o.k < 4294967296)→(runL l i q).2=some x→0≤x.pc∧x.pc < 4294967296
 | [],i,q,x,hq,hk,h=>by cases h
 | o :: l,i,q,x,hq,hk,h=>by
  have ho:=hk o List.mem_cons_self
  rw[runL] at h
  split at h
  ·cases h;exact exO_pc hq ho
  ·exact runL_x l (i+1) _ x (nextO_ok o i q hq ho) (fun o' h'=>hk o' (List.mem_cons_of_mem _ h')) h
structure LmR(R:BR)(s1:MS)(c:Nat→Nat)(pc:Nat)(d:Nat→Nat)(s2:MS)(xk xa:Int)(xp j:Nat):Prop where
 ev:evF R.count R.bytes R.l.length (fun i=>R.l.getD i opD) c s1=⟨d,⟨xk,xa,xp,j⟩,0,s2⟩
 go:goF xk xa j s1 (csG c pc)=some (s2,csG d xp)
 le:j≤R.count
 sys:xk=1→j=R.count
 on:xk=0→(j=R.count∧0 < j)∨(0 < j∧touchB s2=true)
 st:xk≠0→xk≠1→(stepF s2 (csG d xp)).k=xk∧(stepF s2 (csG d xp)).a=xa
 dok:cxOk d
 sok:s2.Ok
 pl:xp < 4294967296
theorem lift_means{s:MS}(hs:s.Ok)(hA:∀ p,p < 4294967296→0≤(insOf s p).a∧(insOf s p).a≤4294967295){pc:Nat}(hpc:pc < 4294967296)(most:Int)(c:Nat→Nat)(hc:cxOk c) :
  ∃ d s2 xk xa xp j,LmR (blkF s pc (moF most) pc 0 0 []) (mkF s pc (lenF s pc (moF most) 0 0).size) c pc d s2 xk xa xp j∧∀ i,i < (blkF s pc (moF most) pc 0 0 []).l.length→((blkF s pc (moF most) pc 0 0 []).l.getD i opD).k < 4294967296:=by
 obtain⟨m1,m2⟩:=moF_bd most
 have hG:BGood (blkF s pc (moF most) pc 0 0 []):=blk_good s hs pc hA (moF most) pc 0 0 [] hpc zo zo (by simp) (fun i o h=>by simp at h)
 have hck:=check_blk hG
 obtain⟨hn,hsz⟩:=blk_len s pc (moF most) pc 0 0 [] (by rw[Nat.add_zero,Nat.mod_eq_of_lt hpc]) zo
 have hin:=len_in hs hpc (moF most) 0 0 (fun h=>absurd h zo) (fun _=>rfl)
 have hl:=blk_tail s pc (moF most) pc 0 0 []
 generalize hR:blkF s pc (moF most) pc 0 0 []=R at *
 generalize hT:(lenF s pc (moF most) 0 0).size=tot at *
 have hcg:=fun q=>mk_ins s pc tot q
 have hs1:(mkF s pc tot).Ok:=mkF_ok hs pc tot
 have hmk:∀ a,pc≤a→a < pc+tot→(mkF s pc tot).M (a / 256)=true:=fun a h1 h2=>by
  have h3:=hin zo
  have:=mkF_M s pc tot (a - pc) zo (by rw[show pc+(a - pc)=a by omega,Nat.mod_eq_of_lt zo];omega)
  rwa [show pc+(a - pc)=a by omega,Nat.mod_eq_of_lt (show a < 4294967296 by omega)] at this
 have hq0:SqOk ⟨c,mkF s pc tot,fun _=>0⟩:=⟨hc,hs1,fun _=>by show(0:Nat) < _;omega⟩
 obtain⟨q,x,j,h1,h2,h3,h4⟩:=blk_sim (mkF s pc tot) hs1 pc tot R.count hpc hmk (moF most) pc 0 0 0 c (mkF s pc tot) (fun _=>0) (by rw[Nat.add_zero,Nat.mod_eq_of_lt hpc]) (fun h=>absurd h zo) (fun _=>⟨rfl,rfl⟩) zo (by rw[lenF_congr hcg,← hn]) (by rw[lenF_congr hcg,hT]) (fun _ _=>trivial) ⟨rfl,rfl,fun _ _ _=>rfl⟩ hq0
 have hl1:R.l=tailF (mkF s pc tot) pc (moF most) pc 0 0:=by
  have:=blk_tail (mkF s pc tot) pc (moF most) pc 0 0 []
  rw[blkF_congr hcg,hR] at this
  simpa using this
 have hkk:∀ o∈R.l,o.k < 4294967296:=by rw[hl1];exact tail_k hs1 hpc (moF most) pc 0 0 hpc
 rw[← hl1] at h1
 obtain⟨r1,r2⟩:=runO_runL R.l R.l [] ⟨c,mkF s pc tot,fun _=>0⟩ rfl
 have hqo:=runL_ok R.l 0 _ hq0 hkk
 rw[h1] at hqo
 have hxp:=runL_x R.l 0 _ x hq0 hkk (by rw[h1])
 simp only[List.length_nil] at r1 r2
 rw[h1] at r1 r2
 have r2':=r2 x rfl
 obtain⟨p,hp⟩:∃ p:Nat,x.pc=p:=⟨x.pc.toNat,by omega⟩
 refine⟨q.c,q.s,x.k,x.a,p,j,⟨?_,?_,?_,?_,?_,?_,hqo.c,hqo.s,by omega⟩,fun i hi=>?_⟩
 ·unfold evF
  rw[if_pos (by rw[hck]),r1,r2']
  have e:x=⟨x.k,x.a,(p:Int),(j:Int)⟩:=by rw[← hp,show(j:Int)=x.n by rw[h2];simp]
  rw[← e]
 ·rw[h3,hp];rfl
 ·have:=h4.le;omega
 ·intro h;have:=h4.sys h;omega
 ·intro h;rcases h4.go h with g|g
  ·exact Or.inl zo
  ·exact Or.inr g
 ·intro h h'
  have:=h4.st h h'
  rwa [hp] at this
 ·rw[List.getD_eq_getElem?_getD,List.getElem?_eq_getElem hi]
  exact hkk _ (List.getElem_mem hi)
theorem marked_any(k:RB)(pc sz:Nat)(s:MS)(w:World)(hpc:pc < 4294967296)(hsz:sz≤65536)(h:RM w k s) :
    Calls Tryz.prog 7 #[.pointer (some ⟨k.y,0,none⟩),.int .u32 pc,.int .i64 sz] w fun e w'=>e=.returned (.tuple #[])∧RM w' k (mkF s pc sz)∧Chg k.all w w':=by
  have HH:Hid (RM w k s):=h
  have z0:(sz:Int)≤65536:=zo
  have p0:(0:Int)≤(pc:Int):=zo
  have p1:(pc:Int) < 4294967296:=zo
  clear h
  go_enter Tryz.func7,Tryz.ntmps7
  go_wp2
  go_loopw [6] (fun i wr=>∃ j:Nat,i=.int .i64 j∧j≤sz∧RM wr k (mkF s pc j)∧Chg k.all w wr) (fun i _=>sz - (intOf i).toNat)
  case atStart=>exact⟨0,rfl,by omega,HH.out,Chg.refl _ _⟩
  case round=>
    obtain⟨j,rfl,hj,hR,hC⟩:=hrel
    have HR:Hid _:=hR
    have HC:Hid _:=hC
    have HJ:Hid _:=hj
    clear hR hC
    have j0:(0:Int)≤(j:Int):=zo
    have j1:(j:Int)≤65536:=zo
    by_cases hlt:j < sz
    · have dj:decide ((j:Int) < (sz:Int))=true:=decide_eq_true zo
      have dj2:(j:Int) < (sz:Int):=zo
      have HLT:Hid _:=hlt
      have HE:Hid (((pc:Int)+(j:Int))%4294967296 / 256=(((pc+j)%4294967296 / 256:Nat):Int)):=by show _=_;omega
      clear hlt hj
      go_wp2_with (go_at_call 17;(try rw[HE.out]);refine(rmark_tot k _ true _ _ HR.out).mono ?_;rintro e w1 ⟨rfl,hR1,hC1⟩;have HR1:Hid _:=hR1;have HC1:Hid _:=hC1;clear hR1 hC1)
      all_goals go_round
      case rel=>exact⟨j+1,by go_num,HLT.out,HR1.out,HC.out.trans HC1.out⟩
      case measure=>have:=HLT.out;simp[intOf];omega
    · obtain rfl:j=sz:=zo
      have dj:decide ((j:Int) < (j:Int))=false:=decide_eq_false zo
      clear hlt hj
      go_wp2
      exact bodyPost_end (v:=.tuple #[]) (by simp[results,Tryz.results7,go_sem]) rfl ⟨rfl,HR.out,HC.out⟩
theorem stores_any(op:Int)(w:World):Calls Tryz.prog 33 #[.int .i64 op] w fun e w'=>e=.returned (.bool (stOp op))∧w=w':=by
  by_cases h:op=31∨op=24∨op=25∨op=26∨op=14∨op=3
  · have e:stOp op=true:=decide_eq_true zo
    rw[e]
    rcases h with rfl|rfl|rfl|rfl|rfl|rfl
    all_goals
      go_enter Tryz.func33,Tryz.ntmps33
      go_wp2
      go_ret
      exact⟨rfl,rfl⟩
  · have e:stOp op=false:=decide_eq_false zo
    rw[e]
    have h1:(op==31)=false:=by simp;omega
    have h2:(op==24)=false:=by simp;omega
    have h3:(op==25)=false:=by simp;omega
    have h4:(op==26)=false:=by simp;omega
    have h5:(op==14)=false:=by simp;omega
    have h6:(op==3)=false:=by simp;omega
    clear h
    go_enter Tryz.func33,Tryz.ntmps33
    go_wp2
    go_ret
    exact⟨rfl,rfl⟩
theorem rsame_any(k k':RB)(s s':MS)(w:World)(h:RM w k s)(h':RM w k' s')(hs:s.B=s'.B) :
  Calls Tryz.prog 35 #[.pointer (some ⟨k.y,0,none⟩),.pointer (some ⟨k'.y,0,none⟩)] w fun e w'=>e=.returned (.bool true)∧Below w.heap.size w w':=by
 have HH:Hid (RM w k s):=h
 have HH':Hid (RM w k' s'):=h'
 have HS:Hid (s.B=s'.B):=hs
 have c0:=h.c0
 have ly:=h.lty
 clear h h' hs
 go_enter Tryz.func35,Tryz.ntmps35
 go_wp2
 clear c0 ly
 go_loopw [11] (fun i wr=>∃ j:Nat,i=.int .i64 j∧j≤65536∧Below w.heap.size w wr) (fun i _=>65536 - (intOf i).toNat)
 case atStart=>exact⟨0,rfl,by omega,Below.refl _ _⟩
 case round=>
  obtain⟨j,rfl,hj,hW⟩:=hrel
  have HWr:Hid _:=hW
  clear hW
  by_cases hlt:j < 65536
  ·have hji:(j:Int) < 65536:=zo
   have dj:decide ((j:Int) < 65536)=true:=decide_eq_true hji
   have j0:(0:Int)≤(j:Int):=zo
   have HLT:Hid _:=hlt
   have H1:Hid (RM wr k s):=HH.out.below HWr.out (Nat.le_refl _)
   have H2:Hid (RM wr k' s'):=HH'.out.below HWr.out (Nat.le_refl _)
   obtain⟨x,hx⟩:∃ x,s'.B j=x:=⟨_,rfl⟩
   have b1:wr.cell? ⟨k.b,j,none⟩=some (.int .u8 x):=by have:=H1.out.by_ j hlt;rw[HS.out,hx] at this;exact this
   have b2:wr.cell? ⟨k'.b,j,none⟩=some (.int .u8 x):=by have:=H2.out.by_ j hlt;rw[hx] at this;exact this
   have c1:=H1.out.c0
   have c2:=H2.out.c0
   have l1:=H1.out.lty
   have l2:=H2.out.lty
   have l3:=H1.out.ltb
   have l4:=H2.out.ltb
   clear hlt hx
   go_wp2
   go_region
   all_goals go_wp2
   all_goals go_round
   case rel=>exact⟨j+1,by go_num,HLT.out,HWr.out.drew⟩
   case measure=>have:=HLT.out;simp[intOf];omega
  ·obtain rfl:j=65536:=zo
   clear hlt hj
   go_wp2
   go_ret
   exact⟨rfl,HWr.out⟩
end Go.Proofs.YtfokgedjocnnmaaGreat
