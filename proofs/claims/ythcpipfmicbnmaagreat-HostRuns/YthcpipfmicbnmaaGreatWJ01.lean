import Derived.Test.YthcpipfmicbnmaaGreatZQ
import Derived.WalkKit
import Derived.WalkSpells
import Derived.WalkLawsBesides
import Derived.Deep.QuietTactic
import Derived.BigQuiet
import Derived.BigRegion
import Derived.KernelRfl
import Derived.Laws.IdiomCopy
import Derived.Laws.BitsAllLaws
import Derived.LoopN
import Derived.Laws.CopyOwn
import Derived.Laws.MakeOwn
import Derived.Deep.MidRow
import Derived.Deep.AppendLies
import Derived.Deep.WholeRow
set_option linter.unusedVariables false
set_option linter.unusedSimpArgs false
set_option maxHeartbeats 1000000
namespace Go.Proofs.YthcpipfmicbnmaaGreat.Va
open Go.RowKit
structure zAA(X:Nat)(w w':World):Prop where
 os:w'.os=w.os
 tape:w'.tape=w.tape
 output:w'.output=w.output
 size:w'.heap.size=w.heap.size
 block:∀ k,k≠X→w'.heap[k]?=w.heap[k]?
theorem zAA.refl(X:Nat)(w:World):zAA X w w:=⟨rfl,rfl,rfl,rfl,fun _ _=>rfl⟩
theorem zAA.setCell{X:Nat}{w w':World}(h:zAA X w w')(o:Nat)(v:Value):zAA X w (w'.setCell ⟨X,o,none⟩ v):=
 ⟨h.os,h.tape,h.output,by simp[World.setCell];exact h.size,fun k hk=>(Below.heap_setCell _ _ _ _ hk).trans (h.block k hk)⟩
theorem zAA.setCells{X:Nat}{w:World}(vs:List Value):∀ (o:Nat) (w':World),zAA X w w'→zAA X w (w'.setCells X o vs):=by
 induction vs with
 | nil=>exact fun _ _ h=>h
 | cons v r ih=>exact fun o w' h=>ih (o+1) _ (h.setCell o v)
structure zI(S:List Nat)(w w':World):Prop where
 os:w'.os=w.os
 tape:w'.tape=w.tape
 output:w'.output=w.output
 size:w.heap.size≤w'.heap.size
 block:∀ k,k < w.heap.size→k∉S→w'.heap[k]?=w.heap[k]?
theorem zI.refl(S:List Nat)(w:World):zI S w w:=⟨rfl,rfl,rfl,Nat.le_refl _,fun _ _ _=>rfl⟩
theorem zI.trans{S:List Nat}{a b c:World}(h:zI S a b)(k:zI S b c):zI S a c:=
 ⟨k.os.trans h.os,k.tape.trans h.tape,k.output.trans h.output,Nat.le_trans h.size k.size,fun i hi hs=>(k.block i (Nat.lt_of_lt_of_le hi h.size) hs).trans (h.block i hi hs)⟩
theorem zI.mono{S S':List Nat}{w w':World}(h:zI S w w')(hs:∀ k∈S,k∈S'):zI S' w w':=
 ⟨h.os,h.tape,h.output,h.size,fun k hk hn=>h.block k hk (fun hm=>hn (hs k hm))⟩
theorem zI.of_only{X:Nat}{w w':World}(h:zAA X w w'):zI [X] w w':=
 ⟨h.os,h.tape,h.output,by rw[h.size];exact Nat.le_refl _,fun k _ hs=>h.block k (by simpa using hs)⟩
theorem zI.of_below{w w':World}(S:List Nat)(h:Below w.heap.size w w'):zI S w w':=
 ⟨h.os,h.tape,h.output,h.size,fun k hk _=>h.block k hk⟩
theorem zI.new{S:List Nat}{w w' w2:World}{X:Nat}(h:zI S w w')(hX:w.heap.size≤X)(k:zAA X w' w2):zI S w w2:=
 ⟨k.os.trans h.os,k.tape.trans h.tape,k.output.trans h.output,by rw[k.size];exact h.size,fun i hi hs=>(k.block i aO).trans (h.block i hi hs)⟩
theorem zI.below{S:List Nat}{w w':World}{n:Nat}(h:zI S w w')(hn:n≤w.heap.size)(hS:∀ k∈S,n≤k):Below n w w':=
 ⟨h.os,h.tape,h.output,h.size,fun k hk=>h.block k aO (fun hm=>by have:=hS k hm;omega)⟩
theorem zI.cell{S:List Nat}{w w':World}(h:zI S w w'){b o:Nat}(hb:b < w.heap.size)(hs:b∉S):w'.cell? ⟨b,o,none⟩=w.cell? ⟨b,o,none⟩:=World.cell?_of_block (w:=w) (h.block b hb hs)
structure MS where
 B:Nat→Int
 R:Nat→Int
 M:Nat→Bool
 T:Nat→Bool
def upd{α:Type}(f:Nat→α)(i:Nat)(v:α):Nat→α:=fun j=>if j=i then v else f j
theorem upd_same{α:Type}(f:Nat→α)(i:Nat)(v:α):upd f i v i=v:=by simp[upd]
theorem zBF{α:Type}(f:Nat→α)(i:Nat)(v:α)(j:Nat)(h:j≠i):upd f i v j=f j:=by simp[upd,h]
theorem zB9{α:Type}(f:Nat→α)(i:Nat)(v:α)(h:f i=v):upd f i v=f:=by
 funext j;by_cases e:j=i
 ·subst e;rw[upd_same,h]
 ·rw[zBF _ _ _ _ e]
def cnt(T:Nat→Bool):Nat→Nat
 | 0=>0
 | n+1=>cnt T n+if T n then 1 else 0
theorem zFU(T:Nat→Bool)(n:Nat):cnt T n≤n:=by
 induction n with
 | zero=>simp[cnt]
 | succ n ih=>simp only[cnt];split<;>omega
theorem zCJ(T:Nat→Bool)(n p:Nat)(v:Bool)(h:n≤p):cnt (upd T p v) n=cnt T n:=by
 induction n with
 | zero=>rfl
 | succ n ih=>simp only[cnt];rw[ih aO,zBF _ _ _ _ aO]
theorem zL4(T:Nat→Bool)(n p:Nat)(h:p < n)(hT:T p=false):cnt (upd T p true) n=cnt T n+1:=by
 induction n with
 | zero=>omega
 | succ n ih=>
  simp only[cnt]
  by_cases e:n=p
  ·subst e;rw[zCJ _ _ _ _ aL,upd_same,hT];simp
  ·rw[ih aO,zBF _ _ _ _ e];omega
theorem zE0(T:Nat→Bool)(n:Nat)(h:∀ p,p < n→T p=false):cnt T n=0:=by
 induction n with
 | zero=>rfl
 | succ n ih=>simp only[cnt];rw[ih (fun p hp=>h p aO),h n aO];simp
structure MS.Ok(s:MS):Prop where
 by_:∀ i,0≤s.B i∧s.B i≤255
 ri:∀ p,0≤s.R p∧s.R p≤7
structure PM(w:World)(X:Nat)(s:MS):Prop where
 by_:∀ i,i < 65536→w.cell? ⟨X,i,none⟩=some (.int .u8 (s.B i))
 ri:∀ p,p < 256→w.cell? ⟨X,65536+p,none⟩=some (.int .i64 (s.R p))
 wa:∀ p,p < 256→w.cell? ⟨X,65792+p,none⟩=some (.bool (s.M p))
 to:∀ p,p < 256→w.cell? ⟨X,66048+p,none⟩=some (.bool (s.T p))
 te:w.cell? ⟨X,66304,none⟩=some (.int .i64 (cnt s.T 256))
 fr:∀ o,w.frozen? ⟨X,o,none⟩=false
theorem lt_of_cell{w:World}{a:Addr}{v:Value}(h:w.cell? a=some v):a.block < w.heap.size:=by
 rcases Nat.lt_or_ge a.block w.heap.size with h'|h'
 ·exact h'
 ·simp[World.cell?,Array.getElem?_eq_none h'] at h
theorem PM.lt{w:World}{X:Nat}{s:MS}(h:PM w X s):X < w.heap.size:=lt_of_cell h.te
theorem PM.of_block{w w':World}{X:Nat}{s:MS}(h:PM w X s)(hb:w'.heap[X]?=w.heap[X]?):PM w' X s:=by
 have hc:∀ o,w'.cell? ⟨X,o,none⟩=w.cell? ⟨X,o,none⟩:=fun o=>World.cell?_of_block (w:=w) hb
 have hf:∀ o,w'.frozen? ⟨X,o,none⟩=w.frozen? ⟨X,o,none⟩:=fun o=>World.frozen?_of_block (w:=w) hb
 exact⟨fun i hi=>(hc _).trans (h.by_ i hi),fun i hi=>(hc _).trans (h.ri i hi),fun i hi=>(hc _).trans (h.wa i hi),fun i hi=>(hc _).trans (h.to i hi),(hc _).trans h.te,fun o=>(hf o).trans (h.fr o)⟩
theorem PM.keep{S:List Nat}{w w':World}{X:Nat}{s:MS}(h:PM w X s)(hc:zI S w w')(hs:X∉S):PM w' X s:=h.of_block (hc.block X h.lt hs)
theorem PM.below{w w':World}{X n:Nat}{s:MS}(h:PM w X s)(hc:Below n w w')(hs:X < n):PM w' X s:=h.of_block (hc.block X hs)
theorem PM.drew{w:World}{X:Nat}{s:MS}(h:PM w X s):PM w.drew X s:=h.of_block rfl
theorem vN{w:World}{X o:Nat}{u:Value}(v:Value)(hu:w.cell? ⟨X,o,none⟩=some u)(o':Nat) :
  (w.setCell ⟨X,o,none⟩ v).cell? ⟨X,o',none⟩=if o'=o then some v else w.cell? ⟨X,o',none⟩:=by
 by_cases e:o'=o
 ·subst e;rw[if_pos rfl];exact World.cell?_setCell_same _ _ _ hu
 ·rw[if_neg e];exact World.cell?_setCell_other _ _ _ _ (by intro h;cases h;exact e rfl)
theorem PM.setByte{w:World}{X:Nat}{s:MS}(h:PM w X s)(i:Nat)(hi:i < 65536)(v:Int):PM (w.setCell ⟨X,i,none⟩ (.int .u8 v)) X { s with B:=upd s.B i v }:=by
 have hc:=vN (.int .u8 v) (h.by_ i hi)
 refine⟨fun j hj=>?_,fun j hj=>?_,fun j hj=>?_,fun j hj=>?_,?_,fun o=>?_⟩
 ·rw[hc];by_cases e:j=i
  ·subst e;rw[if_pos rfl];simp[upd]
  ·rw[if_neg e,h.by_ j hj];simp[upd,e]
 ·rw[hc,if_neg aO];exact h.ri j hj
 ·rw[hc,if_neg aO];exact h.wa j hj
 ·rw[hc,if_neg aO];exact h.to j hj
 ·rw[hc,if_neg aO];exact h.te
 ·rw[World.frozen?_setCell];exact h.fr o
theorem PM.setRight{w:World}{X:Nat}{s:MS}(h:PM w X s)(p:Nat)(hp:p < 256)(v:Int):PM (w.setCell ⟨X,65536+p,none⟩ (.int .i64 v)) X { s with R:=upd s.R p v }:=by
 have hc:=vN (.int .i64 v) (h.ri p hp)
 refine⟨fun j hj=>?_,fun j hj=>?_,fun j hj=>?_,fun j hj=>?_,?_,fun o=>?_⟩
 ·rw[hc,if_neg aO];exact h.by_ j hj
 ·rw[hc];by_cases e:j=p
  ·subst e;rw[if_pos rfl];simp[upd]
  ·rw[if_neg aO,h.ri j hj];simp[upd,e]
 ·rw[hc,if_neg aO];exact h.wa j hj
 ·rw[hc,if_neg aO];exact h.to j hj
 ·rw[hc,if_neg aO];exact h.te
 ·rw[World.frozen?_setCell];exact h.fr o
theorem PM.setTold{w:World}{X:Nat}{s:MS}(h:PM w X s)(p:Nat)(hp:p < 256)(v:Bool)(n:Int)(hn:n=cnt (upd s.T p v) 256) :
  PM ((w.setCell ⟨X,66048+p,none⟩ (.bool v)).setCell ⟨X,66304,none⟩ (.int .i64 n)) X { s with T:=upd s.T p v }:=by
 subst hn
 have hc:=vN (.bool v) (h.to p hp)
 have hd:=vN (w:=w.setCell ⟨X,66048+p,none⟩ (.bool v)) (.int .i64 (cnt (upd s.T p v) 256)) (((hc 66304).trans (if_neg aO)).trans h.te)
 refine⟨fun j hj=>?_,fun j hj=>?_,fun j hj=>?_,fun j hj=>?_,?_,fun o=>?_⟩
 ·rw[hd,if_neg aO,hc,if_neg aO];exact h.by_ j hj
 ·rw[hd,if_neg aO,hc,if_neg aO];exact h.ri j hj
 ·rw[hd,if_neg aO,hc,if_neg aO];exact h.wa j hj
 ·rw[hd,if_neg aO,hc];by_cases e:j=p
  ·subst e;rw[if_pos rfl];simp[upd]
  ·rw[if_neg aO,h.to j hj];simp[upd,e]
 ·rw[hd,if_pos rfl]
 ·rw[World.frozen?_setCell,World.frozen?_setCell];exact h.fr o
structure RB where
 y:Nat
 b:Nat
 r:Nat
 m:Nat
 t:Nat
def RB.all(k:RB):List Nat:=[k.b,k.r,k.m,k.t]
structure RM(w:World)(k:RB)(s:MS):Prop where
 c0:w.cell? ⟨k.y,0,none⟩=some (.slice (some ⟨k.b,0,none⟩) 65536 65536)
 c1:w.cell? ⟨k.y,1,none⟩=some (.slice (some ⟨k.r,0,none⟩) 256 256)
 c2:w.cell? ⟨k.y,2,none⟩=some (.slice (some ⟨k.m,0,none⟩) 256 256)
 c3:w.cell? ⟨k.y,3,none⟩=some (.slice (some ⟨k.t,0,none⟩) 256 256)
 by_:∀ i,i < 65536→w.cell? ⟨k.b,i,none⟩=some (.int .u8 (s.B i))
 ri:∀ p,p < 256→w.cell? ⟨k.r,p,none⟩=some (.int .i64 (s.R p))
 wa:∀ p,p < 256→w.cell? ⟨k.m,p,none⟩=some (.bool (s.M p))
 to:∀ p,p < 256→w.cell? ⟨k.t,p,none⟩=some (.bool (s.T p))
 fb:∀ o,w.frozen? ⟨k.b,o,none⟩=false
 fr:∀ o,w.frozen? ⟨k.r,o,none⟩=false
 fm:∀ o,w.frozen? ⟨k.m,o,none⟩=false
 ft:∀ o,w.frozen? ⟨k.t,o,none⟩=false
 ne:k.y≠k.b∧k.y≠k.r∧k.y≠k.m∧k.y≠k.t∧k.b≠k.r∧k.b≠k.m∧k.b≠k.t∧k.r≠k.m∧k.r≠k.t∧k.m≠k.t
theorem RM.lty{w:World}{k:RB}{s:MS}(h:RM w k s):k.y < w.heap.size:=lt_of_cell h.c0
theorem RM.ltb{w:World}{k:RB}{s:MS}(h:RM w k s):k.b < w.heap.size:=lt_of_cell (h.by_ 0 aO)
theorem RM.ltr{w:World}{k:RB}{s:MS}(h:RM w k s):k.r < w.heap.size:=lt_of_cell (h.ri 0 aO)
theorem RM.ltm{w:World}{k:RB}{s:MS}(h:RM w k s):k.m < w.heap.size:=lt_of_cell (h.wa 0 aO)
theorem RM.ltt{w:World}{k:RB}{s:MS}(h:RM w k s):k.t < w.heap.size:=lt_of_cell (h.to 0 aO)
theorem RM.of_blocks{w w':World}{k:RB}{s:MS}(h:RM w k s)(hb:∀ x∈k.y :: k.all,w'.heap[x]?=w.heap[x]?):RM w' k s:=by
 have hc:∀ x∈k.y :: k.all,∀ o,w'.cell? ⟨x,o,none⟩=w.cell? ⟨x,o,none⟩:=fun x hx o=>World.cell?_of_block (w:=w) (hb x hx)
 have hf:∀ x∈k.y :: k.all,∀ o,w'.frozen? ⟨x,o,none⟩=w.frozen? ⟨x,o,none⟩:=fun x hx o=>World.frozen?_of_block (w:=w) (hb x hx)
 have ey:k.y∈k.y :: k.all:=by simp
 have eb:k.b∈k.y :: k.all:=by simp[RB.all]
 have er:k.r∈k.y :: k.all:=by simp[RB.all]
 have em:k.m∈k.y :: k.all:=by simp[RB.all]
 have et:k.t∈k.y :: k.all:=by simp[RB.all]
 exact⟨(hc _ ey _).trans h.c0,(hc _ ey _).trans h.c1,(hc _ ey _).trans h.c2,(hc _ ey _).trans h.c3,fun i hi=>(hc _ eb _).trans (h.by_ i hi),fun i hi=>(hc _ er _).trans (h.ri i hi),fun i hi=>(hc _ em _).trans (h.wa i hi),fun i hi=>(hc _ et _).trans (h.to i hi),
  fun o=>(hf _ eb o).trans (h.fb o),fun o=>(hf _ er o).trans (h.fr o),fun o=>(hf _ em o).trans (h.fm o),fun o=>(hf _ et o).trans (h.ft o),h.ne⟩
theorem RM.lt{w:World}{k:RB}{s:MS}(h:RM w k s):∀ x∈k.y :: k.all,x < w.heap.size:=by
 intro x hx
 simp[RB.all] at hx
 rcases hx with rfl|rfl|rfl|rfl|rfl
 ·exact h.lty
 ·exact h.ltb
 ·exact h.ltr
 ·exact h.ltm
 ·exact h.ltt
theorem RM.keep{S:List Nat}{w w':World}{k:RB}{s:MS}(h:RM w k s)(hc:zI S w w')(hs:∀ x∈k.y :: k.all,x∉S):RM w' k s:=
 h.of_blocks fun x hx=>hc.block x (h.lt x hx) (hs x hx)
theorem RM.below{n:Nat}{w w':World}{k:RB}{s:MS}(h:RM w k s)(hc:Below n w w')(hn:w.heap.size≤n):RM w' k s:=
 h.of_blocks fun x hx=>hc.block x (by have:=h.lt x hx;omega)
theorem RM.drew{w:World}{k:RB}{s:MS}(h:RM w k s):RM w.drew k s:=h.of_blocks fun _ _=>rfl
theorem zAw{w:World}{X Y o:Nat}(v:Value)(h:Y≠X)(o':Nat):(w.setCell ⟨X,o,none⟩ v).cell? ⟨Y,o',none⟩=w.cell? ⟨Y,o',none⟩:=
 World.cell?_setCell_other _ _ _ _ (by intro e;cases e;exact h rfl)
theorem RM.setByte{w:World}{k:RB}{s:MS}(h:RM w k s)(i:Nat)(hi:i < 65536)(v:Int):RM (w.setCell ⟨k.b,i,none⟩ (.int .u8 v)) k { s with B:=upd s.B i v }:=by
 obtain⟨n1,n2,n3,n4,n5,n6,n7,n8,n9,n10⟩:=h.ne
 have hc:=vN (.int .u8 v) (h.by_ i hi)
 have ho:∀ Y,Y≠k.b→∀ o',(w.setCell ⟨k.b,i,none⟩ (.int .u8 v)).cell? ⟨Y,o',none⟩=w.cell? ⟨Y,o',none⟩:=fun Y hY o'=>zAw _ hY o'
 refine⟨?_,?_,?_,?_,fun j hj=>?_,fun j hj=>?_,fun j hj=>?_,fun j hj=>?_,fun o=>?_,fun o=>?_,fun o=>?_,fun o=>?_,h.ne⟩
 ·rw[ho _ aO];exact h.c0
 ·rw[ho _ aO];exact h.c1
 ·rw[ho _ aO];exact h.c2
 ·rw[ho _ aO];exact h.c3
 ·rw[hc];by_cases e:j=i
  ·subst e;rw[if_pos rfl];simp[upd]
  ·rw[if_neg e,h.by_ j hj];simp[upd,e]
 ·rw[ho _ aO];exact h.ri j hj
 ·rw[ho _ aO];exact h.wa j hj
 ·rw[ho _ aO];exact h.to j hj
 ·rw[World.frozen?_setCell];exact h.fb o
 ·rw[World.frozen?_setCell];exact h.fr o
 ·rw[World.frozen?_setCell];exact h.fm o
 ·rw[World.frozen?_setCell];exact h.ft o
theorem RM.setRight{w:World}{k:RB}{s:MS}(h:RM w k s)(p:Nat)(hp:p < 256)(v:Int):RM (w.setCell ⟨k.r,p,none⟩ (.int .i64 v)) k { s with R:=upd s.R p v }:=by
 obtain⟨n1,n2,n3,n4,n5,n6,n7,n8,n9,n10⟩:=h.ne
 have hc:=vN (.int .i64 v) (h.ri p hp)
 have ho:∀ Y,Y≠k.r→∀ o',(w.setCell ⟨k.r,p,none⟩ (.int .i64 v)).cell? ⟨Y,o',none⟩=w.cell? ⟨Y,o',none⟩:=fun Y hY o'=>zAw _ hY o'
 refine⟨?_,?_,?_,?_,fun j hj=>?_,fun j hj=>?_,fun j hj=>?_,fun j hj=>?_,fun o=>?_,fun o=>?_,fun o=>?_,fun o=>?_,h.ne⟩
 ·rw[ho _ aO];exact h.c0
 ·rw[ho _ aO];exact h.c1
 ·rw[ho _ aO];exact h.c2
 ·rw[ho _ aO];exact h.c3
 ·rw[ho _ aO];exact h.by_ j hj
 ·rw[hc];by_cases e:j=p
  ·subst e;rw[if_pos rfl];simp[upd]
  ·rw[if_neg e,h.ri j hj];simp[upd,e]
 ·rw[ho _ aO];exact h.wa j hj
 ·rw[ho _ aO];exact h.to j hj
 ·rw[World.frozen?_setCell];exact h.fb o
 ·rw[World.frozen?_setCell];exact h.fr o
 ·rw[World.frozen?_setCell];exact h.fm o
 ·rw[World.frozen?_setCell];exact h.ft o
theorem RM.setTold{w:World}{k:RB}{s:MS}(h:RM w k s)(p:Nat)(hp:p < 256)(v:Bool):RM (w.setCell ⟨k.t,p,none⟩ (.bool v)) k { s with T:=upd s.T p v }:=by
 obtain⟨n1,n2,n3,n4,n5,n6,n7,n8,n9,n10⟩:=h.ne
 have hc:=vN (.bool v) (h.to p hp)
 have ho:∀ Y,Y≠k.t→∀ o',(w.setCell ⟨k.t,p,none⟩ (.bool v)).cell? ⟨Y,o',none⟩=w.cell? ⟨Y,o',none⟩:=fun Y hY o'=>zAw _ hY o'
 refine⟨?_,?_,?_,?_,fun j hj=>?_,fun j hj=>?_,fun j hj=>?_,fun j hj=>?_,fun o=>?_,fun o=>?_,fun o=>?_,fun o=>?_,h.ne⟩
 ·rw[ho _ aO];exact h.c0
 ·rw[ho _ aO];exact h.c1
 ·rw[ho _ aO];exact h.c2
 ·rw[ho _ aO];exact h.c3
 ·rw[ho _ aO];exact h.by_ j hj
 ·rw[ho _ aO];exact h.ri j hj
 ·rw[ho _ aO];exact h.wa j hj
 ·rw[hc];by_cases e:j=p
  ·subst e;rw[if_pos rfl];simp[upd]
  ·rw[if_neg e,h.to j hj];simp[upd,e]
 ·rw[World.frozen?_setCell];exact h.fb o
 ·rw[World.frozen?_setCell];exact h.fr o
 ·rw[World.frozen?_setCell];exact h.fm o
 ·rw[World.frozen?_setCell];exact h.ft o
def vL(s:MS)(p:Nat):MS:=if s.M p then { s with T:=upd s.T p true } else s
theorem zAc(p:Nat)(w:World)(hp:p < 256):Calls Tryz.prog 29 #[.int .i64 p] w (fun e w'=>e=.returned (.bool true)∧w=w'):=by
 have h0:(0:Int)≤p:=aO
 have h1:(p:Int) < 256:=aO
 go_enter Tryz.func29,Tryz.ntmps29;go_wp2;go_ret;exact⟨rfl,rfl⟩
theorem zDZ(p:Int)(w:World)(hp:p < 0∨256≤p):Calls Tryz.prog 29 #[.int .i64 p] w (fun e w'=>e=.returned (.bool false)∧w=w'):=by
 rcases hp with h|h
 ·go_enter Tryz.func29,Tryz.ntmps29;go_wp2;go_ret;exact⟨rfl,rfl⟩
 ·have h':¬p < 256:=aO
  have h0:¬p < 0:=aO
  go_enter Tryz.func29,Tryz.ntmps29;go_wp2;go_ret;exact⟨rfl,rfl⟩
theorem zA6(p:Nat)(w:World)(hp:p < 256):Calls Tryz.prog 31 #[.int .i64 p] w (fun e w'=>e=.returned (.bool true)∧w=w'):=by
 have h0:(0:Int)≤p:=aO
 have h1:(p:Int) < 256:=aO
 go_enter Tryz.func31,Tryz.ntmps31;go_wp2;go_ret;exact⟨rfl,rfl⟩
theorem zG8(p:Int)(w:World)(hp:p < 0∨256≤p):Calls Tryz.prog 31 #[.int .i64 p] w (fun e w'=>e=.returned (.bool false)∧w=w'):=by
 rcases hp with h|h
 ·go_enter Tryz.func31,Tryz.ntmps31;go_wp2;go_ret;exact⟨rfl,rfl⟩
 ·have h':¬p < 256:=aO
  have h0:¬p < 0:=aO
  go_enter Tryz.func31,Tryz.ntmps31;go_wp2;go_ret;exact⟨rfl,rfl⟩
theorem zI.set{X o:Nat}{v:Value}{w w':World}(h:zI [X] w w'):zI [X] w (w'.setCell ⟨X,o,none⟩ v):=h.trans (zI.of_only ((zAA.refl X w').setCell o v))
theorem zI.setIn{S:List Nat}{X o:Nat}{v:Value}{w w':World}(h:zI S w w')(hX:X∈S):zI S w (w'.setCell ⟨X,o,none⟩ v):=
 h.trans ((zI.of_only ((zAA.refl X w').setCell o v)).mono (by simpa using hX))
theorem zFl(X p:Nat)(s:MS)(w:World)(hp:p < 256)(h:PM w X s) :
  Calls Tryz.prog 30 #[.pointer (some ⟨X,0,none⟩),.int .i64 p] w fun e w'=>e=.returned (.tuple #[])∧PM w' X (vL s p)∧zI [X] w w':=by
 have h0:(0:Int)≤p:=aO
 have h1:(p:Int) < 256:=aO
 have c1:=h.wa p hp
 have c2:=h.to p hp
 have c3:=h.te
 have f1:=h.fr (66048+p)
 have f2:=h.fr 66304
 have hn:=zFU s.T 256
 cases hM:s.M p
 ·rw[hM] at c1
  have e:vL s p=s:=by simp[vL,hM]
  rw[e]
  clear hM e
  go_enter Tryz.func30,Tryz.ntmps30
  go_wp2
  go_end0
  exact⟨rfl,h,zI.refl _ _⟩
 ·rw[hM] at c1
  cases hT:s.T p
  ·rw[hT] at c2
   have e:vL s p={ s with T:=upd s.T p true }:=by simp[vL,hM]
   rw[e]
   have HU:Hid (cnt (upd s.T p true) 256=cnt s.T 256+1):=zL4 s.T 256 p hp hT
   clear hM hT e
   go_enter Tryz.func30,Tryz.ntmps30
   go_wp2
   go_end0
   exact⟨rfl,h.setTold p hp true _ (by rw[HU.out];rfl),((zI.refl _ _).set).set⟩
  ·rw[hT] at c2
   have e:vL s p=s:=by simp only[vL,hM,if_true];rw[zB9 _ _ _ hT]
   rw[e]
   clear hM hT e
   go_enter Tryz.func30,Tryz.ntmps30
   go_wp2
   go_end0
   exact⟨rfl,h,zI.refl _ _⟩
theorem zBu(k:RB)(p:Nat)(s:MS)(w:World)(hp:p < 256)(h:RM w k s) :
  Calls Tryz.prog 28 #[.pointer (some ⟨k.y,0,none⟩),.int .i64 p] w fun e w'=>e=.returned (.tuple #[])∧RM w' k (vL s p)∧zI k.all w w':=by
 have h0:(0:Int)≤p:=aO
 have h1:(p:Int) < 256:=aO
 have c1:=h.wa p hp
 have c2:=h.to p hp
 have d2:=h.c2
 have d3:=h.c3
 have f1:=h.ft p
 cases hM:s.M p
 ·rw[hM] at c1
  have e:vL s p=s:=by simp[vL,hM]
  rw[e]
  clear hM e
  go_enter Tryz.func28,Tryz.ntmps28
  go_wp2
  go_end0
  exact⟨rfl,h,zI.refl _ _⟩
 ·rw[hM] at c1
  have e:vL s p={ s with T:=upd s.T p true }:=by simp[vL,hM]
  rw[e]
  clear hM e
  go_enter Tryz.func28,Tryz.ntmps28
  go_wp2
  go_end0
  exact⟨rfl,h.setTold p hp true,(zI.refl _ _).setIn (by simp[RB.all])⟩
def zAU(s:MS)(p:Nat)(r:Int):MS:=if s.R p=r then s else vL { s with R:=upd s.R p r } p
theorem zLm(X:Nat)(p r:Int)(w:World)(hp:(p < 0∨256≤p)∨r < 0∨7 < r) :
  Calls Tryz.prog 16 #[.pointer (some ⟨X,0,none⟩),.int .i64 p,.int .i64 r] w fun e w'=>e=.returned (.int .i64 4)∧w=w':=by
 by_cases hq:p < 0∨256≤p
 ·go_enter Tryz.func16,Tryz.ntmps16
  go_wp2_with (go_at_call 29;refine(zDZ _ _ hq).mono ?_;rintro e w' ⟨rfl,rfl⟩)
  go_ret
  exact⟨rfl,rfl⟩
 ·obtain⟨n,rfl⟩:∃ n:Nat,p=n:=⟨p.toNat,by omega⟩
  have hn:n < 256:=aO
  have hr:r < 0∨7 < r:=aO
  clear hq hp
  rcases hr with hr|hr
  ·go_enter Tryz.func16,Tryz.ntmps16
   go_wp2_with (go_at_call 29;refine(zAc _ _ hn).mono ?_;rintro e w' ⟨rfl,rfl⟩)
   go_ret
   exact⟨rfl,rfl⟩
  ·have hr0:¬r < 0:=aO
   go_enter Tryz.func16,Tryz.ntmps16
   go_wp2_with (go_at_call 29;refine(zAc _ _ hn).mono ?_;rintro e w' ⟨rfl,rfl⟩)
   go_ret
   exact⟨rfl,rfl⟩
theorem zJU(k:RB)(p r:Int)(w:World)(hp:(p < 0∨256≤p)∨r < 0∨7 < r) :
  Calls Tryz.prog 17 #[.pointer (some ⟨k.y,0,none⟩),.int .i64 p,.int .i64 r] w fun e w'=>e=.returned (.int .i64 4)∧w=w':=by
 by_cases hq:p < 0∨256≤p
 ·go_enter Tryz.func17,Tryz.ntmps17
  go_wp2_with (go_at_call 31;refine(zG8 _ _ hq).mono ?_;rintro e w' ⟨rfl,rfl⟩)
  go_ret
  exact⟨rfl,rfl⟩
 ·obtain⟨n,rfl⟩:∃ n:Nat,p=n:=⟨p.toNat,by omega⟩
  have hn:n < 256:=aO
  have hr:r < 0∨7 < r:=aO
  clear hq hp
  rcases hr with hr|hr
  ·go_enter Tryz.func17,Tryz.ntmps17
   go_wp2_with (go_at_call 31;refine(zA6 _ _ hn).mono ?_;rintro e w' ⟨rfl,rfl⟩)
   go_ret
   exact⟨rfl,rfl⟩
  ·have hr0:¬r < 0:=aO
   go_enter Tryz.func17,Tryz.ntmps17
   go_wp2_with (go_at_call 31;refine(zA6 _ _ hn).mono ?_;rintro e w' ⟨rfl,rfl⟩)
   go_ret
   exact⟨rfl,rfl⟩
set_option maxRecDepth 100000 in
theorem zJI(X p:Nat)(r:Int)(s:MS)(w:World)(hp:p < 256)(r0:0≤r)(r7:r≤7)(h:PM w X s) :
  Calls Tryz.prog 16 #[.pointer (some ⟨X,0,none⟩),.int .i64 p,.int .i64 r] w fun e w'=>e=.returned (.int .i64 0)∧PM w' X (zAU s p r)∧zI [X] w w':=by
 have h0:(0:Int)≤p:=aO
 have h1:(p:Int) < 256:=aO
 have c1:=h.ri p hp
 have f1:=h.fr (65536+p)
 by_cases hR:s.R p=r
 ·have e:zAU s p r=s:=by simp[zAU,hR]
  rw[hR] at c1
  rw[e]
  clear hR e
  go_enter Tryz.func16,Tryz.ntmps16
  go_wp2_with (go_at_call 29;refine(zAc _ _ hp).mono ?_;rintro e w' ⟨rfl,rfl⟩)
  go_ret
  exact⟨rfl,h,zI.refl _ _⟩
 ·have e:zAU s p r=vL { s with R:=upd s.R p r } p:=by simp[zAU,hR]
  have hR':(s.R p==r)=false:=by simpa using hR
  rw[e]
  clear e
  go_enter Tryz.func16,Tryz.ntmps16
  go_wp2_with first
   | (go_at_call 29;refine(zAc _ _ hp).mono ?_;rintro e w' ⟨rfl,rfl⟩)
   | (go_at_call 30;refine(zFl X p _ _ hp (h.setRight p hp r)).mono ?_;rintro e w' ⟨rfl,hP,hC⟩)
  go_ret
  exact⟨rfl,hP,((zI.refl _ _).set).trans hC⟩
set_option maxRecDepth 100000 in
theorem zH3(k:RB)(p:Nat)(r:Int)(s:MS)(w:World)(hp:p < 256)(r0:0≤r)(r7:r≤7)(h:RM w k s) :
  Calls Tryz.prog 17 #[.pointer (some ⟨k.y,0,none⟩),.int .i64 p,.int .i64 r] w fun e w'=>e=.returned (.int .i64 0)∧RM w' k (zAU s p r)∧zI k.all w w':=by
 have h0:(0:Int)≤p:=aO
 have h1:(p:Int) < 256:=aO
 have c1:=h.ri p hp
 have d1:=h.c1
 have f1:=h.fr p
 by_cases hR:s.R p=r
 ·have e:zAU s p r={ s with R:=upd s.R p r }:=by simp[zAU,hR];rw[zB9 _ _ _ hR]
  rw[hR] at c1
  rw[e]
  clear hR e
  go_enter Tryz.func17,Tryz.ntmps17
  go_wp2_with (go_at_call 31;refine(zA6 _ _ hp).mono ?_;rintro e w' ⟨rfl,rfl⟩)
  go_ret
  exact⟨rfl,h.setRight p hp r,(zI.refl _ _).setIn (by simp[RB.all])⟩
 ·have e:zAU s p r={ vL s p with R:=upd (vL s p).R p r }:=by
   simp only[zAU,hR,if_false,vL]
   cases s.M p<;>rfl
  have hR':(s.R p==r)=false:=by simpa using hR
  rw[e]
  clear e
  go_enter Tryz.func17,Tryz.ntmps17
  go_wp2_with first
   | (go_at_call 31;refine(zA6 _ _ hp).mono ?_;rintro e w' ⟨rfl,rfl⟩)
   | (go_at_call 28;refine(zBu k p _ _ hp h).mono ?_;rintro e w' ⟨rfl,hP,hC⟩;have d1':=hP.c1;have f1':=hP.fr p;have c1':=hP.ri p hp)
  go_ret
  exact⟨rfl,hP.setRight p hp r,hC.setIn (by simp[RB.all])⟩
def yA(s:MS)(r:Int)(x:Nat):Nat→Option Nat
 | 0=>none
 | n+1=>if x < 65536∧s.R (x / 256) / r%2=1 then yA s r (x+1) n else some x
theorem zDU{s:MS}{r:Int}:∀ {n x:Nat},yA s r x n=none→∀ i,i < n→x+i < 65536
 | 0,_,_,i,hi=>by omega
 | n+1,x,h,i,hi=>by
  unfold yA at h
  split at h
  ·rename_i hc
   by_cases e:i=0
   ·subst e;omega
   ·have:=zDU h (i - 1) aO;omega
  ·simp at h
theorem zCV{s:MS}{r:Int}{n x:Nat}(h:yA s r x n=none)(hn:0 < n):x+n≤65536:=by
 have:=zDU h (n - 1) aO;omega
theorem zHl(R r:Int)(h0:0≤R)(h7:R≤7)(hr:r=1∨r=2∨r=4):(bits .and .i64 R r==0)=(R / r%2==0):=by
 have hR:R=0∨R=1∨R=2∨R=3∨R=4∨R=5∨R=6∨R=7:=aO
 rcases hR with rfl|rfl|rfl|rfl|rfl|rfl|rfl|rfl<;>rcases hr with rfl|rfl|rfl<;>decide +kernel
def zNW:Option Nat→Value
 | none=>.tuple #[.int .u32 0,.bool true]
 | some x=>.tuple #[.int .u32 x,.bool false]
theorem zGS{s:MS}{r:Int}{x n:Nat}(h:x < 65536)(hr:s.R (x / 256) / r%2=1):yA s r x (n+1)=yA s r (x+1) n:=by
 rw[yA,if_pos ⟨h,hr⟩]
theorem zCW{s:MS}{r:Int}{x n:Nat}(h:¬(x < 65536∧s.R (x / 256) / r%2=1)):yA s r x (n+1)=some x:=by
 rw[yA,if_neg h]
structure zLK(s:MS)(r:Int)(a N:Nat)(o:Option Nat)(k:Nat):Prop where
 le:k≤N
 lt:k=0∨a+k≤65536
 eq:yA s r (a+k) (N - k)=o
theorem zHk(X a N:Nat)(n r:Int)(s:MS)(w:World)(o:Option Nat)(hN:N=n.toNat)(ho:yA s r a N=o)(ha:a < 4294967296)(hr:r=1∨r=2∨r=4)(hs:s.Ok)(h:PM w X s) :
  Calls Tryz.prog 105 #[.pointer (some ⟨X,0,none⟩),.int .u32 a,.int .i64 n,.int .i64 r] w fun e w'=>e=.returned (zNW o)∧w=w':=by
 have HR:Hid (r=1∨r=2∨r=4):=hr
 have HN:Hid (N=n.toNat):=hN
 have HO:Hid (yA s r a N=o):=ho
 clear hr hN ho
 go_enter Tryz.func105,Tryz.ntmps105
 go_wp2
 go_loop [13] (fun i=>∃ k:Nat,i=.int .i64 k∧zLK s r a N o k) (fun i=>N - (intOf i).toNat)
 case atStart=>exact⟨0,rfl,by omega,.inl rfl,HO.out⟩
 case round=>
  obtain⟨k,rfl,⟨hk,hak,hb⟩⟩:=hrel
  have hN:=HN.out
  clear HO
  by_cases hlt:(k:Int) < n
  ·obtain⟨x,hx⟩:∃ x,x=a+k:=⟨_,rfl⟩
   obtain⟨q,hq⟩:∃ q,q=x / 256:=⟨_,rfl⟩
   have hsum:(a:Int)+(k:Int)=(x:Int):=aO
   have hdiv:(x:Int) / 256=(q:Int):=aO
   have hk0:(0:Int)≤k:=aO
   have hk1:(k:Int) < 4294967296:=aO
   have hx0:(0:Int)≤x:=aO
   have hx1:(x:Int) < 4294967296:=aO
   have hm:N - k=(N - (k+1))+1:=aO
   have hkN:k+1≤N:=aO
   rw[← hx,hm] at hb
   have HX:Hid (x=a+k):=hx
   by_cases hx2:x < 65536
   ·have hx3:(x:Int) < 65536:=aO
    have hge:decide (65536≤(x:Int))=false:=aF
    have hq1:q < 256:=aO
    have hq2:(q:Int) < 256:=aO
    have hq0:(0:Int)≤q:=aO
    have c1:=h.ri q hq1
    have hR:=hs.ri q
    have hand:=zHl (s.R q) r hR.1 hR.2 HR.out
    by_cases hok:s.R q / r%2=1
    ·have hand':(bits .and .i64 (s.R q) r==0)=false:=by rw[hand];simp[hok]
     rw[zGS hx2 (by rw[← hq];exact hok)] at hb
     have HB:Hid (yA s r (x+1) (N - (k+1))=o):=hb
     have HKN:Hid (k+1≤N):=hkN
     have HS:Hid ((a:Int)+(k:Int)=(x:Int)):=hsum
     clear hand hok hb hq hak hm hx hN hR hk hx2 hq1 hkN
     go_wp2
     go_round
     case rel=>exact⟨k+1,by go_num,HKN.out,.inr (by have:=HX.out;omega),by rw[← HB.out,HX.out,Nat.add_assoc]⟩
     case measure=>have:=HKN.out;simp[intOf];omega
    ·have hz:s.R q / r%2=0:=aO
     have hand':(bits .and .i64 (s.R q) r==0)=true:=by rw[hand];simp[hz]
     rw[zCW (by rw[← hq];exact fun h=>hok h.2)] at hb
     have HB:Hid (some x=o):=hb
     clear hand hok hb hq hak hm hx hN hR hk hx2 hq1 hz
     go_wp2
     go_ret2
     exact⟨by rw[← HB.out];rfl,rfl⟩
   ·have hx3:¬(x:Int) < 65536:=aO
    have hge:decide (65536≤(x:Int))=true:=aT
    rw[zCW (fun h=>hx2 h.1)] at hb
    have HB:Hid (some x=o):=hb
    clear hb hq hak hm hx hN hk hx2
    go_wp2
    go_ret2
    exact⟨by rw[← HB.out];rfl,rfl⟩
  ·have:N - k=0:=aO
   rw[this] at hb
   have HB:Hid (none=o):=hb
   clear hb this hN hk hak
   go_wp2
   go_ret2
   exact⟨by rw[← HB.out];rfl,rfl⟩
theorem zCG(X a:Nat)(n r:Int)(s:MS)(w:World)(ha:a < 4294967296)(hr:r=1∨r=2∨r=4)(hs:s.Ok)(h:PM w X s) :
  Calls Tryz.prog 105 #[.pointer (some ⟨X,0,none⟩),.int .u32 a,.int .i64 n,.int .i64 r] w fun e w'=>e=.returned (zNW (yA s r a n.toNat))∧w=w':=
 zHk X a n.toNat n r s w _ rfl rfl ha hr hs h
def zCF(kind:Int):Option Nat→Value
 | none=>.agg #[.int .i64 0,.int .u32 0]
 | some x=>.agg #[.int .i64 kind,.int .u32 x]
theorem zPx(k':RB)(a N:Nat)(n r kind:Int)(s:MS)(w:World)(o:Option Nat)(hN:N=n.toNat)(ho:yA s r a N=o)(ha:a < 4294967296)(hr:r=1∨r=2∨r=4)(hs:s.Ok)(h:RM w k' s) :
  Calls Tryz.prog 85 #[.pointer (some ⟨k'.y,0,none⟩),.int .u32 a,.int .i64 n,.int .i64 r,.int .i64 kind] w fun e w'=>e=.returned (zCF kind o)∧Below w.heap.size w w':=by
 have hr0:0 < r:=aO
 have hr1:(r==0)=false:=by simp;omega
 have hr4:r≤4:=aO
 have hrn:¬r = -1:=aO
 have HN:Hid (N=n.toNat):=hN
 have HO:Hid (yA s r a N=o):=ho
 have d1:=h.c1
 have ltr:=h.ltr
 have lty:=h.lty
 clear hr hN ho
 go_enter Tryz.func85,Tryz.ntmps85
 go_wp2
 go_loop [11] (fun i=>∃ k:Nat,i=.int .i64 k∧zLK s r a N o k) (fun i=>N - (intOf i).toNat)
 case atStart=>exact⟨0,rfl,by omega,.inl rfl,HO.out⟩
 case round=>
  obtain⟨k,rfl,⟨hk,hak,hb⟩⟩:=hrel
  have hN:=HN.out
  clear HO
  by_cases hlt:(k:Int) < n
  ·obtain⟨x,hx⟩:∃ x,x=a+k:=⟨_,rfl⟩
   obtain⟨q,hq⟩:∃ q,q=x / 256:=⟨_,rfl⟩
   have hsum:(a:Int)+(k:Int)=(x:Int):=aO
   have hdiv:(x:Int) / 256=(q:Int):=aO
   have hk0:(0:Int)≤k:=aO
   have hk1:(k:Int) < 4294967296:=aO
   have hx0:(0:Int)≤x:=aO
   have hx1:(x:Int) < 4294967296:=aO
   have hm:N - k=(N - (k+1))+1:=aO
   have HKN:Hid (k+1≤N):=show k+1≤N by omega
   rw[← hx,hm] at hb
   have HX:Hid (x=a+k):=hx
   by_cases hx2:x < 65536
   ·have hx3:(x:Int) < 65536:=aO
    have hge:decide (65535 < (x:Int))=false:=aF
    have hq1:q < 256:=aO
    have hq2:(q:Int) < 256:=aO
    have hq0:(0:Int)≤q:=aO
    have c1:=h.ri q hq1
    have hR:=hs.ri q
    obtain⟨R,hRe⟩:∃ R,R=s.R q:=⟨_,rfl⟩
    obtain⟨Q,hQ⟩:∃ Q,R / r=Q:=⟨_,rfl⟩
    have hQ0:0≤Q:=by rw[← hQ];exact Int.ediv_nonneg aO aO
    have hQ7:Q≤7:=by rw[← hQ];exact Int.le_trans (Int.ediv_le_self _ aO) aO
    rw[← hRe] at c1 hR
    obtain⟨hR0,hR7⟩:=hR
    by_cases hok:Q%2=1
    ·have hand':(Q%2==0)=false:=by simp[hok]
     rw[zGS hx2 (by rw[← hq,← hRe,hQ];exact hok)] at hb
     have HB:Hid (yA s r (x+1) (N - (k+1))=o):=hb
     clear hok hb hq hak hm hx hN hk hx2 hq1 hRe
     go_wp2
     go_round
     case rel=>exact⟨k+1,by go_num,HKN.out,.inr (by have:=HX.out;omega),by rw[← HB.out,HX.out,Nat.add_assoc]⟩
     case measure=>have:=HKN.out;simp[intOf];omega
    ·have hz:Q%2=0:=aO
     have hand':(Q%2==0)=true:=by simp[hz]
     rw[zCW (by rw[← hq,← hRe,hQ];exact fun h=>hok h.2)] at hb
     have HB:Hid (some x=o):=hb
     clear hok hb hq hak hm hx hN hk hx2 hq1 hRe hz
     go_wp2
     exact bodyPost_ret (v:=zCF kind (some x)) (by simp[results,Tryz.results85,go_sem,zCF]) rfl ⟨by rw[← HB.out],by first|exact(aB.alloc aL _).setCell aL _|exact aB.alloc aL _⟩
   ·have hx3:¬(x:Int) < 65536:=aO
    have hge:decide (65535 < (x:Int))=true:=aT
    rw[zCW (fun h=>hx2 h.1)] at hb
    have HB:Hid (some x=o):=hb
    clear hb hq hak hm hx hN hk hx2
    go_wp2
    exact bodyPost_ret (v:=zCF kind (some x)) (by simp[results,Tryz.results85,go_sem,zCF]) rfl ⟨by rw[← HB.out],by first|exact(aB.alloc aL _).setCell aL _|exact aB.alloc aL _⟩
  ·have:N - k=0:=aO
   rw[this] at hb
   have HB:Hid (none=o):=hb
   clear hb this hN hk hak
   go_wp2
   exact bodyPost_ret (v:=zCF kind none) (by simp[results,Tryz.results85,go_sem,zCF]) rfl ⟨by rw[← HB.out],by first|exact(aB.alloc aL _).setCell aL _|exact aB.alloc aL _⟩
theorem zHh(k':RB)(a:Nat)(n r kind:Int)(s:MS)(w:World)(ha:a < 4294967296)(hr:r=1∨r=2∨r=4)(hs:s.Ok)(h:RM w k' s) :
  Calls Tryz.prog 85 #[.pointer (some ⟨k'.y,0,none⟩),.int .u32 a,.int .i64 n,.int .i64 r,.int .i64 kind] w fun e w'=>e=.returned (zCF kind (yA s r a n.toNat))∧Below w.heap.size w w':=
 zPx k' a n.toNat n r kind s w _ rfl rfl ha hr hs h
def zAm(s:MS)(lo hi:Nat):MS:={ s with T:=fun p=>s.T p || (s.M p && decide (lo≤p∧p < hi)) }
theorem zDx(s:MS)(lo:Nat):zAm s lo lo=s:=by
 have:(fun p=>s.T p || (s.M p && decide (lo≤p∧p < lo)))=s.T:=by
  funext p
  rw[aF];simp
 simp only[zAm,this]
theorem zBQ(s:MS)(lo hi:Nat)(h:lo≤hi):vL (zAm s lo hi) hi=zAm s lo (hi+1):=by
 have hM:(zAm s lo hi).M hi=s.M hi:=rfl
 have key:∀ T',(∀ p,T' p=(zAm s lo (hi+1)).T p)→({ zAm s lo hi with T:=T' }:MS)=zAm s lo (hi+1):=by
  intro T' h;have:T'=(zAm s lo (hi+1)).T:=funext h;subst this;rfl
 unfold vL
 rw[hM]
 cases hm:s.M hi
 ·rw[if_neg aS]
  refine key (zAm s lo hi).T (fun p=>?_)
  simp only[zAm]
  by_cases e:p=hi
  ·subst e;rw[hm];simp
  ·congr 2;exact decide_eq_decide.2 aO
 ·rw[if_pos rfl]
  refine key _ (fun p=>?_)
  simp only[zAm,upd]
  by_cases e:p=hi
  ·subst e;rw[if_pos rfl,hm,aT];simp
  ·rw[if_neg e];congr 2;exact decide_eq_decide.2 aO
def zAq(s:MS)(at' n:Nat):MS:=if n=0 then s else zAm s (at' / 256) ((at'+n - 1) / 256+1)
theorem zGC(s:MS)(at' k:Nat):vL (zAq s at' k) ((at'+k) / 256)=zAq s at' (k+1):=by
 by_cases hk:k=0
 ·subst hk
  have:=zBQ s (at' / 256) (at' / 256) aL
  rw[zDx] at this
  simpa[zAq] using this
 ·rw[zAq,if_neg hk,zAq,if_neg aO,show at'+(k+1) - 1=at'+k by omega]
  by_cases e:(at'+k) / 256=(at'+k - 1) / 256
  ·rw[e]
   -- told already
   generalize hq:(at'+k - 1) / 256=q
   have hlo:at' / 256≤q:=aO
   unfold vL
   by_cases hm:(zAm s (at' / 256) (q+1)).M q=true
   ·rw[if_pos hm,zB9]
    have hm':s.M q=true:=hm
    simp[zAm,hm',hlo]
   ·rw[if_neg hm]
  ·have e2:(at'+k) / 256=(at'+k - 1) / 256+1:=aO
   rw[e2]
   exact zBQ s _ _ aO
theorem zLC(s:MS)(a n:Nat):(zAq s a n).B=s.B:=by unfold zAq;split<;>rfl
theorem zLD(s:MS)(a n:Nat):(zAq s a n).R=s.R:=by unfold zAq;split<;>rfl
theorem zLE(s:MS)(p:Nat):(vL s p).B=s.B:=by unfold vL;split<;>rfl
theorem zLF(s:MS)(p:Nat):(vL s p).R=s.R:=by unfold vL;split<;>rfl
theorem zCL(s:MS)(p:Nat)(B:Nat→Int):vL { s with B:=B } p={ vL s p with B:=B }:=by unfold vL;split<;>rfl
theorem zCK(s:MS)(a n:Nat)(B:Nat→Int):zAq { s with B:=B } a n={ zAq s a n with B:=B }:=by unfold zAq;split<;>rfl
theorem zBK(X at' n:Nat)(s:MS)(w:World)(hl:at'+n≤65536)(h:PM w X s) :
  Calls Tryz.prog 27 #[.pointer (some ⟨X,0,none⟩),.int .i64 at',.int .i64 n] w fun e w'=>e=.returned (.tuple #[])∧PM w' X (zAq s at' n)∧zI [X] w w':=by
 by_cases hn:n=0
 ·subst hn
  go_enter Tryz.func27,Tryz.ntmps27
  go_wp2
  refine bodyPost_ret (results_none rfl _ _ _) rfl ?_
  exact⟨rfl,h,zI.refl _ _⟩
 ·have hn0:(n:Int)≠0:=aO
  have hn1:((n:Int)==0)=false:=by simpa using hn0
  obtain⟨lo,hlo⟩:∃ lo,at' / 256=lo:=⟨_,rfl⟩
  obtain⟨hi,hhi⟩:∃ hi,(at'+n - 1) / 256=hi:=⟨_,rfl⟩
  have e:zAq s at' n=zAm s lo (hi+1):=by rw[zAq,if_neg hn,hlo,hhi]
  rw[e]
  have hlo':(at':Int) / 256=lo:=aO
  have hhi':((at':Int)+n - 1) / 256=hi:=aO
  have ha0:(0:Int)≤at':=aO
  have hn2:(0:Int)≤n:=aO
  have hle:(at':Int)+n≤65536:=aO
  have hge:(0:Int)≤(at':Int)+n - 1:=aO
  have hlh:lo≤hi:=aO
  have hh:hi < 256:=aO
  have HLO:Hid (lo≤hi∧hi < 256):=⟨hlh,hh⟩
  have HP:Hid (PM w X s):=h
  clear hlo hhi e hn hn0 hlh hh h hl
  go_enter Tryz.func27,Tryz.ntmps27
  go_wp2
  go_loopw [6] (fun i wr=>∃ pg:Nat,i=.int .i64 pg∧(lo≤pg∧pg≤hi+1)∧PM wr X (zAm s lo pg)∧zI [X] w wr) (fun i _=>hi+1 - (intOf i).toNat)
  case atStart=>exact⟨lo,rfl,⟨by omega,by have:=HLO.out;omega⟩,by rw[zDx];exact HP.out,zI.refl _ _⟩
  case round=>
   obtain⟨pg,rfl,hpg,hPM,hC⟩:=hrel
   have HPG:Hid (lo≤pg∧pg≤hi+1):=hpg
   have HQ:Hid (PM wr X (zAm s lo pg)):=hPM
   have HC:Hid (zI [X] w wr):=hC
   clear hpg hPM hC
   by_cases hlt:(pg:Int)≤hi
   ·have hp256:pg < 256:=by have:=HLO.out;omega
    have hpi:(pg:Int) < 256:=aO
    have hp0:(0:Int)≤pg:=aO
    go_wp2_with (go_at_call 30;refine(zFl X pg _ _ hp256 HQ.out).mono ?_;rintro e w' ⟨rfl,hP',hC'⟩)
    have HQ':Hid (PM w' X (vL (zAm s lo pg) pg)):=hP'
    have HC':Hid (zI [X] wr w'):=hC'
    clear hP' hC'
    go_roundw
    case rel=>exact⟨pg+1,by go_num,⟨by have:=HPG.out;omega,by omega⟩,by rw[← zBQ s lo pg HPG.out.1];exact HQ'.out,HC.out.trans HC'.out⟩
    case measure=>simp[intOf];omega
   ·go_wp2
    go_end0
    refine⟨rfl,?_,HC.out⟩
    have:pg=hi+1:=by have:=HPG.out;omega
    rw[← this];exact HQ.out
theorem zDh(a n:Nat)(w:World)(h:a+n≤65536):Calls Tryz.prog 26 #[.int .i64 a,.int .i64 n] w (fun e w'=>e=.returned (.bool true)∧w=w'):=by
 have h0:(0:Int)≤a:=aO
 have h1:(a:Int)≤65536:=aO
 have h2:(0:Int)≤n:=aO
 have h3:(n:Int)≤65536 - a:=aO
 go_enter Tryz.func26,Tryz.ntmps26;go_wp2;go_ret;exact⟨rfl,rfl⟩
theorem zG6(a n:Int)(w:World)(hn : -9223372036854775808≤a∧a≤9223372036854775807)(h:¬(0≤a∧a≤65536∧0≤n∧n≤65536 - a)):Calls Tryz.prog 26 #[.int .i64 a,.int .i64 n] w (fun e w'=>e=.returned (.bool false)∧w=w'):=by
 by_cases h0:0≤a
 ·by_cases h1:a≤65536
  ·by_cases h2:0≤n
   ·have h3:¬n≤65536 - a:=aO
    have d3:decide (n≤65536 - a)=false:=decide_eq_false h3
    clear h hn
    go_enter Tryz.func26,Tryz.ntmps26;go_wp2;go_ret;exact⟨rfl,rfl⟩
   ·have d2:decide (0≤n)=false:=decide_eq_false h2
    clear h hn
    go_enter Tryz.func26,Tryz.ntmps26;go_wp2;go_ret;exact⟨rfl,rfl⟩
  ·have d1:decide (a≤65536)=false:=decide_eq_false h1
   clear h hn
   go_enter Tryz.func26,Tryz.ntmps26;go_wp2;go_ret;exact⟨rfl,rfl⟩
 ·have d0:decide (0≤a)=false:=decide_eq_false h0
  clear h hn
  go_enter Tryz.func26,Tryz.ntmps26;go_wp2;go_ret;exact⟨rfl,rfl⟩
theorem zEs(n:Int)(w:World)(h:n=1∨n=2∨n=4):Calls Tryz.prog 106 #[.int .i64 n] w (fun e w'=>e=.returned (.bool true)∧w=w'):=by
 rcases h with rfl|rfl|rfl<;>(go_enter Tryz.func106,Tryz.ntmps106;go_wp2;go_ret;exact⟨rfl,rfl⟩)
theorem zIB(n:Int)(w:World)(h:¬(n=1∨n=2∨n=4)):Calls Tryz.prog 106 #[.int .i64 n] w (fun e w'=>e=.returned (.bool false)∧w=w'):=by
 have h1:(n==1)=false:=by simp;omega
 have h2:(n==2)=false:=by simp;omega
 have h4:(n==4)=false:=by simp;omega
 clear h
 go_enter Tryz.func106,Tryz.ntmps106;go_wp2;go_ret;exact⟨rfl,rfl⟩
theorem zCT{P:Program}{w:World}{ops:Array Oper}{rest:List Oper}{o:Oper}{a:Act}{Q:Exit→Act→World→Prop}(hgd:o.guard=none)(d s:Operand)(dT sT:TypeId)
  (ho:o.op=.call { callee:=.builtin .copy,args:=#[d,s],argTypes:=#[dT,sT] }) (elem:TypeId) (hu:P.underlying dT=some (.slice elem)) (hsz:(P.info? elem).map (·.size)=some 1)
  (dp sp:Option Addr) (dLen dCap sLen sCap:Nat) (hd:a.eval d=.slice dp dLen dCap) (hs:a.eval s=.slice sp sLen sCap)
  (b off:Nat) (cs:List Value) (hn:cs.length=Nat.min sLen dLen)
  (hpos:0 < cs.length→dp=some ⟨b,off,none⟩∧∃ ad,sp=some ad∧∀ j v,cs[j]?=some v→w.cell? (ad.add j)=some v)
  (hc:∀ j,j < cs.length→(w.cell? ⟨b,off+j,none⟩).isSome=true) (hf:∀ j,j < cs.length→w.frozen? ⟨b,off+j,none⟩=false) (h1:∀ v∈cs,v.oneCell'=true)
  (h:wpList P ops Q rest (a.put o.dst (goInt cs.length)) (w.setCells b off cs)):wpList P ops Q (o :: rest) a w:=by
 by_cases h0:cs.length=0
 ·obtain rfl:cs=[]:=List.eq_nil_of_length_eq_zero h0
  exact wpList_copy_nothing hgd d s dT sT ho elem hu hsz dp sp dLen dCap sLen sCap hd hs (by simpa using hn.symm) h
 ·obtain⟨rfl,ad,rfl,hsrc⟩:=hpos aO
  refine wpList_plain hgd fun K hK=>?_
  have hrun:=run_copy_cells (P:=P) w dT sT o.type elem b off dLen dCap ad sLen sCap cs hu hsz hn hsrc hc hf h1
  unfold Oper.wp
  simp only[execOp,ho,resolve,invoke,builtin,hd,hs,Sem.run_bind,Sem.run_pure,Result.andThen_ok,List.map_toArray,List.map_cons,List.map_nil,hrun]
  exact hK _ _ h
structure zCU(w:World)(dp sp:Option Addr)(sLen dLen b off:Nat)(cs:List Value):Prop where
 hn:cs.length=Nat.min sLen dLen
 hpos:0 < cs.length→dp=some ⟨b,off,none⟩∧∃ ad,sp=some ad∧∀ j v,cs[j]?=some v→w.cell? (ad.add j)=some v
 hc:∀ j,j < cs.length→(w.cell? ⟨b,off+j,none⟩).isSome=true
 hf:∀ j,j < cs.length→w.frozen? ⟨b,off+j,none⟩=false
 h1:∀ v∈cs,v.oneCell'=true
theorem zBg{P:Program}{w:World}{ops:Array Oper}{rest:List Oper}{o:Oper}{a:Act}{Q:Exit→Act→World→Prop}(hgd:o.guard=none)(d s:Operand)(dT sT:TypeId)
  (ho:o.op=.call { callee:=.builtin .copy,args:=#[d,s],argTypes:=#[dT,sT] }) (elem:TypeId) (hu:P.underlying dT=some (.slice elem)) (hsz:(P.info? elem).map (·.size)=some 1)
  (dp sp:Option Addr) (dLen dCap sLen sCap:Nat) (hd:a.eval d=.slice dp dLen dCap) (hs:a.eval s=.slice sp sLen sCap)
  (b off:Nat) (cs:List Value) (hp:zCU w dp sp sLen dLen b off cs)
  (h:wpList P ops Q rest (a.put o.dst (goInt cs.length)) (w.setCells b off cs)):wpList P ops Q (o :: rest) a w:=
 zCT hgd d s dT sT ho elem hu hsz dp sp dLen dCap sLen sCap hd hs b off cs hp.hn hp.hpos hp.hc hp.hf hp.h1 h
def vU(z:Nat→Int)(n:Nat):List Value:=(List.range n).map fun i=>Value.int .u8 (z i)
theorem vF(z:Nat→Int)(n:Nat):(vU z n).length=n:=by simp[vU]
theorem zDV(z:Nat→Int)(n j:Nat)(v:Value)(h:(vU z n)[j]?=some v):j < n∧v=.int .u8 (z j):=by
 simp only[vU,List.getElem?_map,Option.map_eq_some_iff] at h
 obtain⟨i,hij,rfl⟩:=h
 obtain⟨hlt,rfl⟩:=List.getElem?_eq_some_iff.1 hij
 simp only[List.getElem_range]
 exact⟨by simpa using hlt,trivial⟩
theorem zDo(z:Nat→Int)(n j:Nat)(h:j < (vU z n).length):(vU z n)[j]=.int .u8 (z j):=by simp[vU]
theorem zDp(z:Nat→Int)(n:Nat):∀ v∈vU z n,v.oneCell'=true:=by
 intro v hv
 simp only[vU,List.mem_map] at hv
 obtain⟨i,-,rfl⟩:=hv
 rfl
def ovr(B:Nat→Int)(at' n:Nat)(z:Nat→Int):Nat→Int:=fun i=>if at'≤i∧i < at'+n then z (i - at') else B i
theorem PM.setBytes{w:World}{X:Nat}{s:MS}(h:PM w X s)(at' n:Nat)(z:Nat→Int)(hl:at'+n≤65536):PM (w.setCells X at' (vU z n)) X { s with B:=ovr s.B at' n z }:=by
 have hout:∀ o,(o < at'∨at'+n≤o)→(w.setCells X at' (vU z n)).cell? ⟨X,o,none⟩=w.cell? ⟨X,o,none⟩:=fun o ho=>
  World.cell?_setCells_out X (vU z n) at' w ⟨X,o,none⟩ (fun _ _=>by rw[vF];exact ho)
 refine⟨fun j hj=>?_,fun j hj=>?_,fun j hj=>?_,fun j hj=>?_,?_,fun o=>?_⟩
 ·by_cases hin:at'≤j∧j < at'+n
  ·obtain⟨i,rfl⟩:∃ i,j=at'+i:=⟨j - at',by omega⟩
   have hi:i < n:=aO
   rw[World.cell?_setCells_in X (vU z n) at' w (fun q hq=>by rw[vF] at hq;rw[h.by_ _ aO];rfl) i (by rw[vF];exact hi),zDo]
   simp only[ovr,if_pos hin,Nat.add_sub_cancel_left]
  ·rw[hout j aO,h.by_ j hj];simp only[ovr,if_neg hin]
 ·rw[hout _ aO];exact h.ri j hj
 ·rw[hout _ aO];exact h.wa j hj
 ·rw[hout _ aO];exact h.to j hj
 ·rw[hout _ aO];exact h.te
 ·rw[World.frozen?_setCells];exact h.fr o
def SR(w:World)(bp:Option Addr)(n:Nat)(z:Nat→Int):Prop:=0 < n→∃ b off,bp=some ⟨b,off,none⟩∧∀ i,i < n→w.cell? ⟨b,off+i,none⟩=some (.int .u8 (z i))
theorem zLM:(Tryz.prog.info? 5).map (fun i=>(i.zero,i.size,i.bytes))=some (some (.int .u8 0),1,1):=by kernel_rfl
theorem zGP:(Tryz.prog.info? 5).map (·.size)=some 1:=by kernel_rfl
def uD(s:MS)(at' n:Nat)(z:Nat→Int):MS:=zAq { s with B:=ovr s.B at' n z } at' n
theorem zE8(B:Nat→Int)(a:Nat)(z:Nat→Int):ovr B a 0 z=B:=by
 funext i;simp only[ovr];rw[if_neg aO]
theorem zBO(s:MS)(a:Nat)(z:Nat→Int):uD s a 0 z=s:=by
 simp only[uD,zAq,if_true,zE8]
theorem zLl(X:Nat)(a:Int)(bp:Option Addr)(n c:Nat)(w:World)(ha : -9223372036854775808≤a∧a≤9223372036854775807)(h:¬(0≤a∧a≤65536∧(n:Int)≤65536 - a)) :
  Calls Tryz.prog 14 #[.pointer (some ⟨X,0,none⟩),.int .i64 a,.slice bp n c] w fun e w'=>e=.returned (.int .i64 4)∧w=w':=by
 have h':¬(0≤a∧a≤65536∧0≤(n:Int)∧(n:Int)≤65536 - a):=aO
 have HA:Hid (-9223372036854775808≤a∧a≤9223372036854775807):=ha
 have HB:Hid (¬(0≤a∧a≤65536∧0≤(n:Int)∧(n:Int)≤65536 - a)):=h'
 clear ha h h'
 go_enter Tryz.func14,Tryz.ntmps14
 go_wp2_with (go_at_call 26;refine(zG6 _ _ _ HA.out HB.out).mono ?_;rintro e w' ⟨rfl,rfl⟩)
 go_ret
 exact⟨rfl,rfl⟩
theorem zJH(X at':Nat)(bp:Option Addr)(n c:Nat)(z:Nat→Int)(s:MS)(w:World)(hl:at'+n≤65536)(hz:SR w bp n z)(h:PM w X s) :
  Calls Tryz.prog 14 #[.pointer (some ⟨X,0,none⟩),.int .i64 at',.slice bp n c] w fun e w'=>e=.returned (.int .i64 0)∧PM w' X (uD s at' n z)∧zI [X] w w':=by
 have hn0:(0:Int)≤n:=aO
 have hn1:(n:Int)≤65536:=aO
 have ha0:(0:Int)≤at':=aO
 have ha1:(at':Int)≤65536:=aO
 have HP:Hid (PM w X s):=h
 have HL:Hid (at'+n≤65536):=hl
 by_cases hn:n=0
 ·subst hn
  rw[zBO]
  clear h hz hl
  go_enter Tryz.func14,Tryz.ntmps14
  go_wp2_with first
   | (go_at_call 26;refine(zDh _ _ _ HL.out).mono ?_;rintro e w' ⟨rfl,rfl⟩)
   | (refine wpList_copy_nothing rfl (.tmp 16) (.tmp 17) 49 49 rfl 5 Tryz.underlying49 zGP _ _ _ _ _ _ rfl rfl aS ?_)
   | (go_at_call 27;refine(zBK X at' 0 s _ HL.out HP.out).mono ?_;rintro e w' ⟨rfl,hP',hC'⟩)
  all_goals
   go_ret
   exact⟨rfl,hP',hC'⟩
 ·obtain⟨b,off,rfl,hz'⟩:=hz aO
  have hne:¬65536=at':=aO
  have HZ:Hid (∀ i,i < n→w.cell? ⟨b,off+i,none⟩=some (.int .u8 (z i))):=hz'
  have HN:Hid (at' < 65536):=show at' < 65536 by omega
  have HC:zCU w (some ⟨X,at',none⟩) (some ⟨b,off,none⟩) n (65536 - at') X at' (vU z n):=
   ⟨by rw[vF];exact(Nat.min_eq_left aO).symm,
   fun _=>⟨rfl,_,rfl,fun j v hv=>by obtain⟨hj,rfl⟩:=zDV _ _ _ _ hv;rw[Addr.add_mid];exact hz' j hj⟩,
   fun j hj=>by rw[vF] at hj;rw[h.by_ _ aO];rfl,fun j _=>h.fr _,zDp _ _⟩
  clear h hz hl hz' hn
  go_enter Tryz.func14,Tryz.ntmps14
  go_wp2_with first
   | (go_at_call 26;refine(zDh _ _ _ HL.out).mono ?_;rintro e w' ⟨rfl,rfl⟩)
   | (refine zBg rfl (.tmp 16) (.tmp 17) 49 49 rfl 5 Tryz.underlying49 zGP _ _ _ _ _ _ rfl rfl X at' (vU z n) HC ?_)
   | (go_at_call 27;refine(zBK X at' n _ _ HL.out (HP.out.setBytes at' n z HL.out)).mono ?_;rintro e w' ⟨rfl,hP',hC'⟩)
  go_ret
  exact⟨rfl,hP',(zI.of_only (zAA.setCells _ _ _ (zAA.refl _ _))).trans hC'⟩
theorem zE7(B:Nat→Int)(a k:Nat)(z:Nat→Int):upd (ovr B a k z) (a+k) (z k)=ovr B a (k+1) z:=by
 funext i
 simp only[upd,ovr]
 by_cases e:i=a+k
 ·subst e;rw[if_pos rfl,if_pos aO,Nat.add_sub_cancel_left]
 ·rw[if_neg e]
  by_cases h:a≤i∧i < a+k
  ·rw[if_pos h,if_pos aO]
  ·rw[if_neg h,if_neg aO]
theorem zDs(s:MS)(a k:Nat)(z:Nat→Int):vL { uD s a k z with B:=upd (uD s a k z).B (a+k) (z k) } ((a+k) / 256)=uD s a (k+1) z:=by
 have hB:(uD s a k z).B=ovr s.B a k z:=by simp only[uD,zCK]
 rw[hB,zE7,zCL]
 simp only[uD,zCK]
 rw[zCL,zGC]
theorem zJT(k:RB)(a:Int)(bp:Option Addr)(n c:Nat)(w:World)(ha : -9223372036854775808≤a∧a≤9223372036854775807)(hn:n≤maxLen)(h:¬(0≤a∧a≤65536∧(n:Int)≤65536 - a)) :
  Calls Tryz.prog 15 #[.pointer (some ⟨k.y,0,none⟩),.int .i64 a,.slice bp n c] w fun e w'=>e=.returned (.int .i64 4)∧w=w':=by
 unfold maxLen at hn
 by_cases h0:a < 0
 ·have d0:decide (a < 0)=true:=decide_eq_true h0
  clear h ha hn
  go_enter Tryz.func15,Tryz.ntmps15;go_wp2;go_ret;exact⟨rfl,rfl⟩
 ·have d0:decide (a < 0)=false:=decide_eq_false h0
  by_cases h1:65536 < a
  ·have d1:decide (65536 < a)=true:=decide_eq_true h1
   clear h ha hn
   go_enter Tryz.func15,Tryz.ntmps15;go_wp2;go_ret;exact⟨rfl,rfl⟩
  ·have d1:decide (65536 < a)=false:=decide_eq_false h1
   have d2:decide (65536 - a < (n:Int))=true:=aT
   have h2:65536 - a < (n:Int):=aO
   have h3:0≤a:=aO
   have h4:a≤65536:=aO
   clear h ha hn h0 h1
   go_enter Tryz.func15,Tryz.ntmps15;go_wp2;go_ret;exact⟨rfl,rfl⟩
theorem zH2(k:RB)(at':Nat)(bp:Option Addr)(n c:Nat)(z:Nat→Int)(s:MS)(w:World)(hl:at'+n≤65536)(hz:SR w bp n z)(hb:0 < n→∀ b off,bp=some ⟨b,off,none⟩→b∉k.all)(h:RM w k s) :
  Calls Tryz.prog 15 #[.pointer (some ⟨k.y,0,none⟩),.int .i64 at',.slice bp n c] w fun e w'=>e=.returned (.int .i64 0)∧RM w' k (uD s at' n z)∧zI k.all w w':=by
 have hn0:(0:Int)≤n:=aO
 have hn1:(n:Int)≤65536:=aO
 have ha0:(0:Int)≤at':=aO
 have ha1:(at':Int)≤65536:=aO
 have d0:decide ((at':Int) < 0)=false:=aF
 have d1:decide (65536 < (at':Int))=false:=aF
 have d2:decide (65536 - (at':Int) < (n:Int))=false:=aF
 have HP:Hid (RM w k s):=h
 have HZ:Hid (SR w bp n z):=hz
 have HL:Hid (at'+n≤65536):=hl
 have HB:Hid (0 < n→∀ b off,bp=some ⟨b,off,none⟩→b∉k.all):=hb
 clear h hz hl hb
 go_enter Tryz.func15,Tryz.ntmps15
 go_wp2
 go_loopw [24] (fun i wr=>∃ j:Nat,i=.int .i64 j∧j≤n∧RM wr k (uD s at' j z)∧zI k.all w wr) (fun i _=>n - (intOf i).toNat)
 case atStart=>exact⟨0,rfl,by omega,by rw[zBO];exact HP.out,zI.refl _ _⟩
 case round=>
  obtain⟨j,rfl,hj,hR,hC⟩:=hrel
  have HR:Hid (RM wr k (uD s at' j z)):=hR
  have HC:Hid (zI k.all w wr):=hC
  clear hC
  by_cases hlt:j < n
  ·obtain⟨b,off,rfl,hz'⟩:=HZ.out aO
   have hzj:=hz' j hlt
   have hc1:wr.cell? ⟨b,off+j,none⟩=some (.int .u8 (z j)):=by
    rw[HC.out.cell (lt_of_cell hzj) (HB.out aO b off rfl)];exact hzj
   have hd0:=hR.c0
   have hai:at'+j < 65536:=by have:=HL.out;omega
   have hcb:=hR.by_ (at'+j) hai
   have hfb:=hR.fb (at'+j)
   have hji:(j:Int) < n:=aO
   have hj0:(0:Int)≤j:=aO
   obtain⟨x,hx⟩:∃ x,at'+j=x:=⟨_,rfl⟩
   obtain⟨q,hq⟩:∃ q,x / 256=q:=⟨_,rfl⟩
   have hsum:(at':Int)+j=x:=aO
   have hdiv:(x:Int) / 256=q:=aO
   have hx0:(0:Int)≤x:=aO
   have hx1:(x:Int) < 65536:=aO
   have hq1:q < 256:=aO
   rw[hx] at hcb hfb
   have HX:Hid (at'+j=x∧x / 256=q):=⟨hx,hq⟩
   clear hR hzj hz' hai hx hq hj
   go_wp2_with (go_at_call 28;refine(zBu k q _ _ hq1 (HR.out.setByte x aO (z j))).mono ?_;rintro e w' ⟨rfl,hP',hC'⟩)
   have HQ':Hid (RM w' k (vL { uD s at' j z with B:=upd (uD s at' j z).B x (z j) } q)):=hP'
   have HC':Hid (zI k.all (wr.setCell ⟨k.b,x,none⟩ (.int .u8 (z j))) w'):=hC'
   clear hP' hC'
   go_roundw
   case rel=>exact⟨j+1,by go_num,by omega,by
    have:=HQ'.out
    rw[← HX.out.2,← HX.out.1,zDs] at this
    exact this,(HC.out.setIn (by simp[RB.all])).trans HC'.out⟩
   case measure=>simp[intOf];omega
  ·go_wp2
   go_ret
   have:j=n:=aO
   subst this
   exact⟨rfl,HR.out,HC.out⟩
theorem info_parts{P:Program}{t:TypeId}{z:Value}{n b:Nat}(h:(P.info? t).map (fun i=>(i.zero,i.size,i.bytes))=some (some z,n,b)):∃ i,P.info? t=some i∧i.zero=some z∧i.size=n∧i.bytes=b:=by
 cases hq:P.info? t with
 | none=>simp[hq] at h
 | some i=>simp[hq] at h;exact⟨i,rfl,h.1,h.2.1,h.2.2⟩
theorem zBv{P:Program}{w:World}{ops:Array Oper}{rest:List Oper}{o:Oper}{a:Act}{Q:Exit→Act→World→Prop}(hg:o.guard=none)(l c:Operand)(t:TypeId)(hop:o.op=Op.makeSlice t l c)
  (e:TypeId) (i:TypeInfo) (z:Value) (h1:P.underlying t=some (.slice e)) (h2:P.info? e=some i) (h3:i.zero=some z) (h4:i.size=1) (h5:i.bytes≤8)
  (n:Nat) (hl:a.eval l=.int .i64 n) (hc:a.eval c=.int .i64 n) (b2:n≤65536) (H:Nat) (hH:w.heap.size=H)
  (hK:wpList P ops Q rest (a.put o.dst (.slice (some ⟨H,0,none⟩) n n)) (w.alloc (.cells (madeCells z.cells n) e))) :
  wpList P ops Q (o :: rest) a w:=by
 subst hH
 refine wpList_plain hg fun K hK'=>?_
 have hb:(i.bytes:Int)*(n:Int)≤281474976710656:=by
  have:(i.bytes:Int)*(n:Int)≤8*65536:=Int.mul_le_mul aO aO aO aO
  omega
 have hrun:=run_make (P:=P) w t e i z h1 h2 h3 .i64 .i64 n n aO (Int.le_refl _) hb aO
 simp only[Int.toNat_natCast,h4,Nat.mul_one] at hrun
 unfold Oper.wp
 simp only[execOp,hop,hl,hc,Sem.run_bind,hrun,Result.andThen_ok,Sem.run_pure]
 exact hK' _ _ hK
theorem zBY(z:Value)(n i:Nat)(h:i < n):(madeCells #[z] n)[i]?=some z:=by
 simp[madeCells,h,Nat.mod_one]
structure NR(w:World)(H n:Nat)(z:Nat→Int):Prop where
 cell:∀ i,i < n→w.cell? ⟨H,i,none⟩=some (.int .u8 (z i))
 fr:∀ i,w.frozen? ⟨H,i,none⟩=false
theorem NR.sr{w:World}{H n:Nat}{z:Nat→Int}(h:NR w H n z):SR w (some ⟨H,0,none⟩) n z:=fun _=>⟨H,0,rfl,fun i hi=>by rw[Nat.zero_add];exact h.cell i hi⟩
theorem zE4(w:World)(n:Nat)(i:Nat)(h:i < n):(w.alloc (.cells (madeCells #[.int .u8 0] n) 5)).cell? ⟨w.heap.size,i,none⟩=some (.int .u8 0):=by
 rw[cell_of_row _ _ i _ 5 (0,0) (heap_alloc_last w _)];exact zBY _ _ _ h
theorem zEp(w:World)(n:Nat)(i:Nat):(w.alloc (.cells (madeCells #[.int .u8 0] n) 5)).frozen? ⟨w.heap.size,i,none⟩=false:=by
 have:=heap_alloc_last w (.cells (madeCells #[.int .u8 0] n) 5)
 simp only[World.frozen?,this];simp
theorem zKy(X at' n:Nat)(s:MS)(w:World)(hl:at'+n≤65536)(h:PM w X s) :
  Calls Tryz.prog 41 #[.pointer (some ⟨X,0,none⟩),.int .i64 at',.int .i64 n] w fun e w'=>e=.returned (.slice (some ⟨w.heap.size,0,none⟩) n n)∧NR w' w.heap.size n (fun i=>s.B (at'+i))∧Below w.heap.size w w'∧w.heap.size < w'.heap.size:=by
 obtain⟨i0,hi,hz0,hz1,hz2⟩:=info_parts zLM
 have hb8:i0.bytes≤8:=aO
 have HI:Hid (Tryz.prog.info? 5=some i0∧i0.zero=some (.int .u8 0)∧i0.size=1∧i0.bytes≤8):=⟨hi,hz0,hz1,hb8⟩
 have hn0:(0:Int)≤n:=aO
 have hn1:(n:Int)≤65536:=aO
 have ha0:(0:Int)≤at':=aO
 have ha1:(at':Int)≤65536:=aO
 have HP:Hid (PM w X s):=h
 have HL:Hid (at'+n≤65536):=hl
 have HF:Hid (Below w.heap.size w (w.alloc (.cells (madeCells #[.int .u8 0] n) 5))∧w.heap.size < (w.alloc (.cells (madeCells #[.int .u8 0] n) 5)).heap.size):=⟨aB.alloc aL _,by simp⟩
 clear hi hz0 hz1 hz2 hb8
 by_cases hn:n=0
 ·have HN:Hid (NR (w.alloc (.cells (madeCells #[.int .u8 0] n) 5)) w.heap.size n (fun i=>s.B (at'+i))):=⟨fun i hi=>by omega,fun i=>zEp w n i⟩
  subst hn
  clear h hl
  go_enter Tryz.func41,Tryz.ntmps41
  go_wp2_with first
   | (refine zBv rfl (.tmp 8) (.tmp 8) 49 rfl 5 i0 (.int .u8 0) Tryz.underlying49 HI.out.1 HI.out.2.1 HI.out.2.2.1 HI.out.2.2.2 0 rfl rfl aD w.heap.size rfl ?_)
   | (refine wpList_copy_nothing rfl (.tmp 10) (.tmp 15) 49 49 rfl 5 Tryz.underlying49 zGP _ _ _ _ _ _ rfl rfl (Nat.min_zero _) ?_)
  all_goals
   go_ret
   exact⟨rfl,HN.out,HF.out⟩
 ·have hne:¬65536=at':=aO
  have HC:zCU (w.alloc (.cells (madeCells #[.int .u8 0] n) 5)) (some ⟨w.heap.size,0,none⟩) (some ⟨X,at',none⟩) (65536 - at') n w.heap.size 0 (vU (fun i=>s.B (at'+i)) n):=
   ⟨by rw[vF];exact(Nat.min_eq_right aO).symm,
   fun _=>⟨rfl,_,rfl,fun j v hv=>by
    obtain⟨hj,rfl⟩:=zDV _ _ _ _ hv;rw[Addr.add_mid]
    rw[HF.out.1.cell (p:=⟨X,at'+j,none⟩) h.lt];exact h.by_ _ aO⟩,
   fun j hj=>by rw[vF] at hj;rw[Nat.zero_add,zE4 w n j hj];rfl,fun j _=>by rw[Nat.zero_add];exact zEp w n j,zDp _ _⟩
  have HN:Hid (NR ((w.alloc (.cells (madeCells #[.int .u8 0] n) 5)).setCells w.heap.size 0 (vU (fun i=>s.B (at'+i)) n)) w.heap.size n (fun i=>s.B (at'+i))):=
   ⟨fun i hi=>by
    have:=World.cell?_setCells_in w.heap.size (vU (fun i=>s.B (at'+i)) n) 0 (w.alloc (.cells (madeCells #[.int .u8 0] n) 5)) (fun q hq=>by rw[vF] at hq;rw[Nat.zero_add,zE4 w n q hq];rfl) i (by rw[vF];exact hi)
    rw[Nat.zero_add,zDo] at this
    exact this,
   fun i=>by rw[World.frozen?_setCells];exact zEp w n i⟩
  have HG:Hid (Below w.heap.size w ((w.alloc (.cells (madeCells #[.int .u8 0] n) 5)).setCells w.heap.size 0 (vU (fun i=>s.B (at'+i)) n))∧w.heap.size < ((w.alloc (.cells (madeCells #[.int .u8 0] n) 5)).setCells w.heap.size 0 (vU (fun i=>s.B (at'+i)) n)).heap.size):=by
   have ho:zAA w.heap.size (w.alloc (.cells (madeCells #[.int .u8 0] n) 5)) _:=zAA.setCells (X:=w.heap.size) (vU (fun i=>s.B (at'+i)) n) 0 (w.alloc (.cells (madeCells #[.int .u8 0] n) 5)) (zAA.refl _ _)
   refine⟨?_,by rw[ho.size];exact HF.out.2⟩
   exact HF.out.1.trans ⟨ho.os,ho.tape,ho.output,by rw[ho.size];exact Nat.le_refl _,fun k hk=>ho.block k aO⟩
  have HNM:Hid (n≤65536):=show n≤65536 by omega
  clear h hl
  go_enter Tryz.func41,Tryz.ntmps41
  go_wp2_with first
   | (refine zBv rfl (.tmp 8) (.tmp 8) 49 rfl 5 i0 (.int .u8 0) Tryz.underlying49 HI.out.1 HI.out.2.1 HI.out.2.2.1 HI.out.2.2.2 n rfl rfl HNM.out w.heap.size rfl ?_)
   | (refine zBg rfl (.tmp 10) (.tmp 15) 49 49 rfl 5 Tryz.underlying49 zGP _ _ _ _ _ _ rfl rfl w.heap.size 0 (vU (fun i=>s.B (at'+i)) n) HC ?_)
  go_ret
  exact⟨rfl,HN.out,HG.out⟩
theorem zLk(X:Nat)(a n:Int)(w:World)(ha : -9223372036854775808≤a∧a≤9223372036854775807)(h:¬(0≤a∧a≤65536∧0≤n∧n≤65536 - a)) :
  Calls Tryz.prog 25 #[.pointer (some ⟨X,0,none⟩),.int .i64 a,.int .i64 n] w fun e w'=>e=.returned (.tuple #[.slice none 0 0,.int .i64 4])∧w=w':=by
 have HA:Hid (-9223372036854775808≤a∧a≤9223372036854775807):=ha
 have HB:Hid (¬(0≤a∧a≤65536∧0≤n∧n≤65536 - a)):=h
 clear ha h
 go_enter Tryz.func25,Tryz.ntmps25
 go_wp2_with (go_at_call 26;refine(zG6 _ _ _ HA.out HB.out).mono ?_;rintro e w' ⟨rfl,rfl⟩)
 go_ret2
 exact⟨rfl,rfl⟩
theorem zJG(X at' n:Nat)(s:MS)(w:World)(hl:at'+n≤65536)(h:PM w X s) :
  Calls Tryz.prog 25 #[.pointer (some ⟨X,0,none⟩),.int .i64 at',.int .i64 n] w fun e w'=>e=.returned (.tuple #[.slice (some ⟨w.heap.size,0,none⟩) n n,.int .i64 0])∧NR w' w.heap.size n (fun i=>s.B (at'+i))∧Below w.heap.size w w'∧w.heap.size < w'.heap.size:=by
 have HP:Hid (PM w X s):=h
 have HL:Hid (at'+n≤65536):=hl
 clear h hl
 go_enter Tryz.func25,Tryz.ntmps25
 go_wp2_with first
  | (go_at_call 26;refine(zDh _ _ _ HL.out).mono ?_;rintro e w' ⟨rfl,rfl⟩)
  | (go_at_call 41;refine(zKy X at' n s _ HL.out HP.out).mono ?_;rintro e w' ⟨rfl,hN,hB,hS⟩)
 go_ret2
 exact⟨rfl,hN,hB,hS⟩
end Go.Proofs.YthcpipfmicbnmaaGreat.Va
