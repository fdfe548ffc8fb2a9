import Derived.Test.YtfokgedjocnnmaaGreatZQ
import Derived.WalkKit
import Derived.WalkSpells
import Derived.WalkLawsBesides
import Derived.Deep.QuietTactic
import Derived.BigQuiet
import Derived.BigRegion
import Derived.KernelRfl
import Derived.Laws.IdiomCopy
import Derived.Laws.BitsAllLaws
import Derived.LoopN
import Derived.Laws.CopyOwn
import Derived.Laws.MakeOwn
import Derived.Deep.MidRow
import Derived.Deep.AppendLies
import Derived.Deep.WholeRow
set_option linter.unusedVariables false
set_option linter.unusedSimpArgs false
set_option maxHeartbeats 1000000
namespace Go.Proofs.YtfokgedjocnnmaaGreat
open Go.RowKit
structure Only(X:Nat)(w w':World):Prop where
 os:w'.os=w.os
 tape:w'.tape=w.tape
 output:w'.output=w.output
 size:w'.heap.size=w.heap.size
 block:∀ k,k≠X→w'.heap[k]?=w.heap[k]?
theorem Only.refl(X:Nat)(w:World):Only X w w:=⟨rfl,rfl,rfl,rfl,fun _ _=>rfl⟩
theorem Only.drew{X:Nat}{w w':World}(h:Only X w w'):Only X w w'.drew:=⟨h.os,h.tape,h.output,h.size,h.block⟩
theorem Only.setCell{X:Nat}{w w':World}(h:Only X w w')(o:Nat)(v:Value):Only X w (w'.setCell ⟨X,o,none⟩ v):=
 ⟨h.os,h.tape,h.output,by simp[World.setCell];exact h.size,fun k hk=>(Below.heap_setCell _ _ _ _ hk).trans (h.block k hk)⟩
theorem Only.setCells{X:Nat}{w:World}(vs:List Value):∀ (o:Nat) (w':World),Only X w w'→Only X w (w'.setCells X o vs):=by
 induction vs with
 | nil=>exact fun _ _ h=>h
 | cons v r ih=>exact fun o w' h=>ih (o+1) _ (h.setCell o v)
structure Chg(S:List Nat)(w w':World):Prop where
 os:w'.os=w.os
 tape:w'.tape=w.tape
 output:w'.output=w.output
 size:w.heap.size≤w'.heap.size
 block:∀ k,k < w.heap.size→k∉S→w'.heap[k]?=w.heap[k]?
theorem Chg.refl(S:List Nat)(w:World):Chg S w w:=⟨rfl,rfl,rfl,Nat.le_refl _,fun _ _ _=>rfl⟩
theorem Chg.trans{S:List Nat}{a b c:World}(h:Chg S a b)(k:Chg S b c):Chg S a c:=
 ⟨k.os.trans h.os,k.tape.trans h.tape,k.output.trans h.output,Nat.le_trans h.size k.size,fun i hi hs=>(k.block i (Nat.lt_of_lt_of_le hi h.size) hs).trans (h.block i hi hs)⟩
theorem Chg.mono{S S':List Nat}{w w':World}(h:Chg S w w')(hs:∀ k∈S,k∈S'):Chg S' w w':=
 ⟨h.os,h.tape,h.output,h.size,fun k hk hn=>h.block k hk (fun hm=>hn (hs k hm))⟩
theorem Chg.of_only{X:Nat}{w w':World}(h:Only X w w'):Chg [X] w w':=
 ⟨h.os,h.tape,h.output,by rw[h.size];exact Nat.le_refl _,fun k _ hs=>h.block k (by simpa using hs)⟩
theorem Chg.of_below{w w':World}(S:List Nat)(h:Below w.heap.size w w'):Chg S w w':=
 ⟨h.os,h.tape,h.output,h.size,fun k hk _=>h.block k hk⟩
theorem Chg.new{S:List Nat}{w w' w2:World}{X:Nat}(h:Chg S w w')(hX:w.heap.size≤X)(k:Only X w' w2):Chg S w w2:=
 ⟨k.os.trans h.os,k.tape.trans h.tape,k.output.trans h.output,by rw[k.size];exact h.size,fun i hi hs=>(k.block i zo).trans (h.block i hi hs)⟩
theorem Chg.below{S:List Nat}{w w':World}{n:Nat}(h:Chg S w w')(hn:n≤w.heap.size)(hS:∀ k∈S,n≤k):Below n w w':=
 ⟨h.os,h.tape,h.output,h.size,fun k hk=>h.block k zo (fun hm=>by have:=hS k hm;omega)⟩
theorem Chg.cell{S:List Nat}{w w':World}(h:Chg S w w'){b o:Nat}(hb:b < w.heap.size)(hs:b∉S):w'.cell? ⟨b,o,none⟩=w.cell? ⟨b,o,none⟩:=World.cell?_of_block (w:=w) (h.block b hb hs)
structure MS where
 B:Nat→Int
 R:Nat→Int
 M:Nat→Bool
 T:Nat→Bool
def upd{α:Type}(f:Nat→α)(i:Nat)(v:α):Nat→α:=fun j=>if j=i then v else f j
theorem upd_same{α:Type}(f:Nat→α)(i:Nat)(v:α):upd f i v i=v:=by simp[upd]
theorem upd_other{α:Type}(f:Nat→α)(i:Nat)(v:α)(j:Nat)(h:j≠i):upd f i v j=f j:=by simp[upd,h]
theorem upd_self{α:Type}(f:Nat→α)(i:Nat)(v:α)(h:f i=v):upd f i v=f:=by
 funext j;by_cases e:j=i
 ·subst e;rw[upd_same,h]
 ·rw[upd_other _ _ _ _ e]
def cnt(T:Nat→Bool):Nat→Nat
 | 0=>0
 | n+1=>cnt T n+if T n then 1 else 0
theorem cnt_le(T:Nat→Bool)(n:Nat):cnt T n≤n:=by
 induction n with
 | zero=>simp[cnt]
 | succ n ih=>simp only[cnt];split<;>omega
theorem cnt_upd_out(T:Nat→Bool)(n p:Nat)(v:Bool)(h:n≤p):cnt (upd T p v) n=cnt T n:=by
 induction n with
 | zero=>rfl
 | succ n ih=>simp only[cnt];rw[ih zo,upd_other _ _ _ _ zo]
theorem cnt_up(T:Nat→Bool)(n p:Nat)(h:p < n)(hT:T p=false):cnt (upd T p true) n=cnt T n+1:=by
 induction n with
 | zero=>omega
 | succ n ih=>
  simp only[cnt]
  by_cases e:n=p
  ·subst e;rw[cnt_upd_out _ _ _ _ (Nat.le_refl _),upd_same,hT];simp
  ·rw[ih zo,upd_other _ _ _ _ e];omega
theorem cnt_none(T:Nat→Bool)(n:Nat)(h:∀ p,p < n→T p=false):cnt T n=0:=by
 induction n with
 | zero=>rfl
 | succ n ih=>simp only[cnt];rw[ih (fun p hp=>h p zo),h n zo];simp
structure MS.Ok(s:MS):Prop where
 by_:∀ i,0≤s.B i∧s.B i≤255
 ri:∀ p,0≤s.R p∧s.R p≤7
structure PM(w:World)(X:Nat)(s:MS):Prop where
 by_:∀ i,i < 65536→w.cell? ⟨X,i,none⟩=some (.int .u8 (s.B i))
 ri:∀ p,p < 256→w.cell? ⟨X,65536+p,none⟩=some (.int .i64 (s.R p))
 wa:∀ p,p < 256→w.cell? ⟨X,65792+p,none⟩=some (.bool (s.M p))
 to:∀ p,p < 256→w.cell? ⟨X,66048+p,none⟩=some (.bool (s.T p))
 te:w.cell? ⟨X,66304,none⟩=some (.int .i64 (cnt s.T 256))
 fr:∀ o,w.frozen? ⟨X,o,none⟩=false
theorem lt_of_cell{w:World}{a:Addr}{v:Value}(h:w.cell? a=some v):a.block < w.heap.size:=by
 rcases Nat.lt_or_ge a.block w.heap.size with h'|h'
 ·exact h'
 ·simp[World.cell?,Array.getElem?_eq_none h'] at h
theorem PM.lt{w:World}{X:Nat}{s:MS}(h:PM w X s):X < w.heap.size:=lt_of_cell h.te
theorem PM.of_block{w w':World}{X:Nat}{s:MS}(h:PM w X s)(hb:w'.heap[X]?=w.heap[X]?):PM w' X s:=by
 have hc:∀ o,w'.cell? ⟨X,o,none⟩=w.cell? ⟨X,o,none⟩:=fun o=>World.cell?_of_block (w:=w) hb
 have hf:∀ o,w'.frozen? ⟨X,o,none⟩=w.frozen? ⟨X,o,none⟩:=fun o=>World.frozen?_of_block (w:=w) hb
 exact⟨fun i hi=>(hc _).trans (h.by_ i hi),fun i hi=>(hc _).trans (h.ri i hi),fun i hi=>(hc _).trans (h.wa i hi),fun i hi=>(hc _).trans (h.to i hi),(hc _).trans h.te,fun o=>(hf o).trans (h.fr o)⟩
theorem PM.keep{S:List Nat}{w w':World}{X:Nat}{s:MS}(h:PM w X s)(hc:Chg S w w')(hs:X∉S):PM w' X s:=h.of_block (hc.block X h.lt hs)
theorem PM.below{w w':World}{X n:Nat}{s:MS}(h:PM w X s)(hc:Below n w w')(hs:X < n):PM w' X s:=h.of_block (hc.block X hs)
theorem cell_setCell{w:World}{X o:Nat}{u:Value}(v:Value)(hu:w.cell? ⟨X,o,none⟩=some u)(o':Nat) :
  (w.setCell ⟨X,o,none⟩ v).cell? ⟨X,o',none⟩=if o'=o then some v else w.cell? ⟨X,o',none⟩:=by
 by_cases e:o'=o
 ·subst e;rw[if_pos rfl];exact World.cell?_setCell_same _ _ _ hu
 ·rw[if_neg e];exact World.cell?_setCell_other _ _ _ _ (by intro h;cases h;exact e rfl)
theorem PM.setRight{w:World}{X:Nat}{s:MS}(h:PM w X s)(p:Nat)(hp:p < 256)(v:Int):PM (w.setCell ⟨X,65536+p,none⟩ (.int .i64 v)) X { s with R:=upd s.R p v }:=by
 have hc:=cell_setCell (.int .i64 v) (h.ri p hp)
 refine⟨fun j hj=>?_,fun j hj=>?_,fun j hj=>?_,fun j hj=>?_,?_,fun o=>?_⟩
 ·rw[hc,if_neg zo];exact h.by_ j hj
 ·rw[hc];by_cases e:j=p
  ·subst e;rw[if_pos rfl];simp[upd]
  ·rw[if_neg zo,h.ri j hj];simp[upd,e]
 ·rw[hc,if_neg zo];exact h.wa j hj
 ·rw[hc,if_neg zo];exact h.to j hj
 ·rw[hc,if_neg zo];exact h.te
 ·rw[World.frozen?_setCell];exact h.fr o
theorem PM.setTold{w:World}{X:Nat}{s:MS}(h:PM w X s)(p:Nat)(hp:p < 256)(v:Bool)(n:Int)(hn:n=cnt (upd s.T p v) 256) :
  PM ((w.setCell ⟨X,66048+p,none⟩ (.bool v)).setCell ⟨X,66304,none⟩ (.int .i64 n)) X { s with T:=upd s.T p v }:=by
 subst hn
 have hc:=cell_setCell (.bool v) (h.to p hp)
 have hd:=cell_setCell (w:=w.setCell ⟨X,66048+p,none⟩ (.bool v)) (.int .i64 (cnt (upd s.T p v) 256)) (((hc 66304).trans (if_neg zo)).trans h.te)
 refine⟨fun j hj=>?_,fun j hj=>?_,fun j hj=>?_,fun j hj=>?_,?_,fun o=>?_⟩
 ·rw[hd,if_neg zo,hc,if_neg zo];exact h.by_ j hj
 ·rw[hd,if_neg zo,hc,if_neg zo];exact h.ri j hj
 ·rw[hd,if_neg zo,hc,if_neg zo];exact h.wa j hj
 ·rw[hd,if_neg zo,hc];by_cases e:j=p
  ·subst e;rw[if_pos rfl];simp[upd]
  ·rw[if_neg zo,h.to j hj];simp[upd,e]
 ·rw[hd,if_pos rfl]
 ·rw[World.frozen?_setCell,World.frozen?_setCell];exact h.fr o
structure RB where
 y:Nat
 b:Nat
 r:Nat
 m:Nat
 t:Nat
 cb:Nat
 cr:Nat
 cm:Nat
 ct:Nat
 hcb:65536≤cb
def RB.all(k:RB):List Nat:=[k.b,k.r,k.m,k.t]
structure RM(w:World)(k:RB)(s:MS):Prop where
 c0:w.cell? ⟨k.y,0,none⟩=some (.slice (some ⟨k.b,0,none⟩) 65536 k.cb)
 c1:w.cell? ⟨k.y,1,none⟩=some (.slice (some ⟨k.r,0,none⟩) 256 k.cr)
 c2:w.cell? ⟨k.y,2,none⟩=some (.slice (some ⟨k.m,0,none⟩) 256 k.cm)
 c3:w.cell? ⟨k.y,3,none⟩=some (.slice (some ⟨k.t,0,none⟩) 256 k.ct)
 by_:∀ i,i < 65536→w.cell? ⟨k.b,i,none⟩=some (.int .u8 (s.B i))
 ri:∀ p,p < 256→w.cell? ⟨k.r,p,none⟩=some (.int .i64 (s.R p))
 wa:∀ p,p < 256→w.cell? ⟨k.m,p,none⟩=some (.bool (s.M p))
 to:∀ p,p < 256→w.cell? ⟨k.t,p,none⟩=some (.bool (s.T p))
 fb:∀ o,w.frozen? ⟨k.b,o,none⟩=false
 fr:∀ o,w.frozen? ⟨k.r,o,none⟩=false
 fm:∀ o,w.frozen? ⟨k.m,o,none⟩=false
 ft:∀ o,w.frozen? ⟨k.t,o,none⟩=false
 ne:k.y≠k.b∧k.y≠k.r∧k.y≠k.m∧k.y≠k.t∧k.b≠k.r∧k.b≠k.m∧k.b≠k.t∧k.r≠k.m∧k.r≠k.t∧k.m≠k.t
theorem RM.lty{w:World}{k:RB}{s:MS}(h:RM w k s):k.y < w.heap.size:=lt_of_cell h.c0
theorem RM.ltb{w:World}{k:RB}{s:MS}(h:RM w k s):k.b < w.heap.size:=lt_of_cell (h.by_ 0 zo)
theorem RM.ltr{w:World}{k:RB}{s:MS}(h:RM w k s):k.r < w.heap.size:=lt_of_cell (h.ri 0 zo)
theorem RM.ltm{w:World}{k:RB}{s:MS}(h:RM w k s):k.m < w.heap.size:=lt_of_cell (h.wa 0 zo)
theorem RM.ltt{w:World}{k:RB}{s:MS}(h:RM w k s):k.t < w.heap.size:=lt_of_cell (h.to 0 zo)
theorem RM.of_blocks{w w':World}{k:RB}{s:MS}(h:RM w k s)(hb:∀ x∈k.y :: k.all,w'.heap[x]?=w.heap[x]?):RM w' k s:=by
 have hc:∀ x∈k.y :: k.all,∀ o,w'.cell? ⟨x,o,none⟩=w.cell? ⟨x,o,none⟩:=fun x hx o=>World.cell?_of_block (w:=w) (hb x hx)
 have hf:∀ x∈k.y :: k.all,∀ o,w'.frozen? ⟨x,o,none⟩=w.frozen? ⟨x,o,none⟩:=fun x hx o=>World.frozen?_of_block (w:=w) (hb x hx)
 have ey:k.y∈k.y :: k.all:=by simp
 have eb:k.b∈k.y :: k.all:=by simp[RB.all]
 have er:k.r∈k.y :: k.all:=by simp[RB.all]
 have em:k.m∈k.y :: k.all:=by simp[RB.all]
 have et:k.t∈k.y :: k.all:=by simp[RB.all]
 exact⟨(hc _ ey _).trans h.c0,(hc _ ey _).trans h.c1,(hc _ ey _).trans h.c2,(hc _ ey _).trans h.c3,fun i hi=>(hc _ eb _).trans (h.by_ i hi),fun i hi=>(hc _ er _).trans (h.ri i hi),fun i hi=>(hc _ em _).trans (h.wa i hi),fun i hi=>(hc _ et _).trans (h.to i hi),
  fun o=>(hf _ eb o).trans (h.fb o),fun o=>(hf _ er o).trans (h.fr o),fun o=>(hf _ em o).trans (h.fm o),fun o=>(hf _ et o).trans (h.ft o),h.ne⟩
theorem RM.lt{w:World}{k:RB}{s:MS}(h:RM w k s):∀ x∈k.y :: k.all,x < w.heap.size:=by
 intro x hx
 simp[RB.all] at hx
 rcases hx with rfl|rfl|rfl|rfl|rfl
 ·exact h.lty
 ·exact h.ltb
 ·exact h.ltr
 ·exact h.ltm
 ·exact h.ltt
theorem RM.keep{S:List Nat}{w w':World}{k:RB}{s:MS}(h:RM w k s)(hc:Chg S w w')(hs:∀ x∈k.y :: k.all,x∉S):RM w' k s:=
 h.of_blocks fun x hx=>hc.block x (h.lt x hx) (hs x hx)
theorem RM.below{n:Nat}{w w':World}{k:RB}{s:MS}(h:RM w k s)(hc:Below n w w')(hn:w.heap.size≤n):RM w' k s:=
 h.of_blocks fun x hx=>hc.block x (by have:=h.lt x hx;omega)
theorem RM.drew{w:World}{k:RB}{s:MS}(h:RM w k s):RM w.drew k s:=h.of_blocks fun _ _=>rfl
theorem cell_setOther{w:World}{X Y o:Nat}(v:Value)(h:Y≠X)(o':Nat):(w.setCell ⟨X,o,none⟩ v).cell? ⟨Y,o',none⟩=w.cell? ⟨Y,o',none⟩:=
 World.cell?_setCell_other _ _ _ _ (by intro e;cases e;exact h rfl)
theorem RM.setByte{w:World}{k:RB}{s:MS}(h:RM w k s)(i:Nat)(hi:i < 65536)(v:Int):RM (w.setCell ⟨k.b,i,none⟩ (.int .u8 v)) k { s with B:=upd s.B i v }:=by
 obtain⟨n1,n2,n3,n4,n5,n6,n7,n8,n9,n10⟩:=h.ne
 have hc:=cell_setCell (.int .u8 v) (h.by_ i hi)
 have ho:∀ Y,Y≠k.b→∀ o',(w.setCell ⟨k.b,i,none⟩ (.int .u8 v)).cell? ⟨Y,o',none⟩=w.cell? ⟨Y,o',none⟩:=fun Y hY o'=>cell_setOther _ hY o'
 refine⟨?_,?_,?_,?_,fun j hj=>?_,fun j hj=>?_,fun j hj=>?_,fun j hj=>?_,fun o=>?_,fun o=>?_,fun o=>?_,fun o=>?_,h.ne⟩
 ·rw[ho _ zo];exact h.c0
 ·rw[ho _ zo];exact h.c1
 ·rw[ho _ zo];exact h.c2
 ·rw[ho _ zo];exact h.c3
 ·rw[hc];by_cases e:j=i
  ·subst e;rw[if_pos rfl];simp[upd]
  ·rw[if_neg e,h.by_ j hj];simp[upd,e]
 ·rw[ho _ zo];exact h.ri j hj
 ·rw[ho _ zo];exact h.wa j hj
 ·rw[ho _ zo];exact h.to j hj
 ·rw[World.frozen?_setCell];exact h.fb o
 ·rw[World.frozen?_setCell];exact h.fr o
 ·rw[World.frozen?_setCell];exact h.fm o
 ·rw[World.frozen?_setCell];exact h.ft o
theorem RM.setRight{w:World}{k:RB}{s:MS}(h:RM w k s)(p:Nat)(hp:p < 256)(v:Int):RM (w.setCell ⟨k.r,p,none⟩ (.int .i64 v)) k { s with R:=upd s.R p v }:=by
 obtain⟨n1,n2,n3,n4,n5,n6,n7,n8,n9,n10⟩:=h.ne
 have hc:=cell_setCell (.int .i64 v) (h.ri p hp)
 have ho:∀ Y,Y≠k.r→∀ o',(w.setCell ⟨k.r,p,none⟩ (.int .i64 v)).cell? ⟨Y,o',none⟩=w.cell? ⟨Y,o',none⟩:=fun Y hY o'=>cell_setOther _ hY o'
 refine⟨?_,?_,?_,?_,fun j hj=>?_,fun j hj=>?_,fun j hj=>?_,fun j hj=>?_,fun o=>?_,fun o=>?_,fun o=>?_,fun o=>?_,h.ne⟩
 ·rw[ho _ zo];exact h.c0
 ·rw[ho _ zo];exact h.c1
 ·rw[ho _ zo];exact h.c2
 ·rw[ho _ zo];exact h.c3
 ·rw[ho _ zo];exact h.by_ j hj
 ·rw[hc];by_cases e:j=p
  ·subst e;rw[if_pos rfl];simp[upd]
  ·rw[if_neg e,h.ri j hj];simp[upd,e]
 ·rw[ho _ zo];exact h.wa j hj
 ·rw[ho _ zo];exact h.to j hj
 ·rw[World.frozen?_setCell];exact h.fb o
 ·rw[World.frozen?_setCell];exact h.fr o
 ·rw[World.frozen?_setCell];exact h.fm o
 ·rw[World.frozen?_setCell];exact h.ft o
theorem RM.setTold{w:World}{k:RB}{s:MS}(h:RM w k s)(p:Nat)(hp:p < 256)(v:Bool):RM (w.setCell ⟨k.t,p,none⟩ (.bool v)) k { s with T:=upd s.T p v }:=by
 obtain⟨n1,n2,n3,n4,n5,n6,n7,n8,n9,n10⟩:=h.ne
 have hc:=cell_setCell (.bool v) (h.to p hp)
 have ho:∀ Y,Y≠k.t→∀ o',(w.setCell ⟨k.t,p,none⟩ (.bool v)).cell? ⟨Y,o',none⟩=w.cell? ⟨Y,o',none⟩:=fun Y hY o'=>cell_setOther _ hY o'
 refine⟨?_,?_,?_,?_,fun j hj=>?_,fun j hj=>?_,fun j hj=>?_,fun j hj=>?_,fun o=>?_,fun o=>?_,fun o=>?_,fun o=>?_,h.ne⟩
 ·rw[ho _ zo];exact h.c0
 ·rw[ho _ zo];exact h.c1
 ·rw[ho _ zo];exact h.c2
 ·rw[ho _ zo];exact h.c3
 ·rw[ho _ zo];exact h.by_ j hj
 ·rw[ho _ zo];exact h.ri j hj
 ·rw[ho _ zo];exact h.wa j hj
 ·rw[hc];by_cases e:j=p
  ·subst e;rw[if_pos rfl];simp[upd]
  ·rw[if_neg e,h.to j hj];simp[upd,e]
 ·rw[World.frozen?_setCell];exact h.fb o
 ·rw[World.frozen?_setCell];exact h.fr o
 ·rw[World.frozen?_setCell];exact h.fm o
 ·rw[World.frozen?_setCell];exact h.ft o
def tellS(s:MS)(p:Nat):MS:=if s.M p then { s with T:=upd s.T p true } else s
theorem isPage_yes(p:Nat)(w:World)(hp:p < 256):Calls Tryz.prog 39 #[.int .i64 p] w (fun e w'=>e=.returned (.bool true)∧w=w'):=by
 have h0:(0:Int)≤p:=zo
 have h1:(p:Int) < 256:=zo
 go_enter Tryz.func39,Tryz.ntmps39;go_wp2;go_ret;exact⟨rfl,rfl⟩
theorem isPage_no(p:Int)(w:World)(hp:p < 0∨256≤p):Calls Tryz.prog 39 #[.int .i64 p] w (fun e w'=>e=.returned (.bool false)∧w=w'):=by
 rcases hp with h|h
 ·go_enter Tryz.func39,Tryz.ntmps39;go_wp2;go_ret;exact⟨rfl,rfl⟩
 ·have h':¬p < 256:=zo
  have h0:¬p < 0:=zo
  go_enter Tryz.func39,Tryz.ntmps39;go_wp2;go_ret;exact⟨rfl,rfl⟩
theorem page_yes(p:Nat)(w:World)(hp:p < 256):Calls Tryz.prog 41 #[.int .i64 p] w (fun e w'=>e=.returned (.bool true)∧w=w'):=by
 have h0:(0:Int)≤p:=zo
 have h1:(p:Int) < 256:=zo
 go_enter Tryz.func41,Tryz.ntmps41;go_wp2;go_ret;exact⟨rfl,rfl⟩
theorem page_no(p:Int)(w:World)(hp:p < 0∨256≤p):Calls Tryz.prog 41 #[.int .i64 p] w (fun e w'=>e=.returned (.bool false)∧w=w'):=by
 rcases hp with h|h
 ·go_enter Tryz.func41,Tryz.ntmps41;go_wp2;go_ret;exact⟨rfl,rfl⟩
 ·have h':¬p < 256:=zo
  have h0:¬p < 0:=zo
  go_enter Tryz.func41,Tryz.ntmps41;go_wp2;go_ret;exact⟨rfl,rfl⟩
theorem Chg.set{X o:Nat}{v:Value}{w w':World}(h:Chg [X] w w'):Chg [X] w (w'.setCell ⟨X,o,none⟩ v):=h.trans (Chg.of_only ((Only.refl X w').setCell o v))
theorem Chg.setIn{S:List Nat}{X o:Nat}{v:Value}{w w':World}(h:Chg S w w')(hX:X∈S):Chg S w (w'.setCell ⟨X,o,none⟩ v):=
 h.trans ((Chg.of_only ((Only.refl X w').setCell o v)).mono (by simpa using hX))
theorem tell_any(X p:Nat)(s:MS)(w:World)(hp:p < 256)(h:PM w X s) :
  Calls Tryz.prog 40 #[.pointer (some ⟨X,0,none⟩),.int .i64 p] w fun e w'=>e=.returned (.tuple #[])∧PM w' X (tellS s p)∧Chg [X] w w':=by
 have h0:(0:Int)≤p:=zo
 have h1:(p:Int) < 256:=zo
 have c1:=h.wa p hp
 have c2:=h.to p hp
 have c3:=h.te
 have f1:=h.fr (66048+p)
 have f2:=h.fr 66304
 have hn:=cnt_le s.T 256
 cases hM:s.M p
 ·rw[hM] at c1
  have e:tellS s p=s:=by simp[tellS,hM]
  rw[e]
  clear hM e
  go_enter Tryz.func40,Tryz.ntmps40
  go_wp2
  go_end0
  exact⟨rfl,h,Chg.refl _ _⟩
 ·rw[hM] at c1
  cases hT:s.T p
  ·rw[hT] at c2
   have e:tellS s p={ s with T:=upd s.T p true }:=by simp[tellS,hM]
   rw[e]
   have HU:Hid (cnt (upd s.T p true) 256=cnt s.T 256+1):=cnt_up s.T 256 p hp hT
   clear hM hT e
   go_enter Tryz.func40,Tryz.ntmps40
   go_wp2
   go_end0
   exact⟨rfl,h.setTold p hp true _ (by rw[HU.out];rfl),((Chg.refl _ _).set).set⟩
  ·rw[hT] at c2
   have e:tellS s p=s:=by simp only[tellS,hM,if_true];rw[upd_self _ _ _ hT]
   rw[e]
   clear hM hT e
   go_enter Tryz.func40,Tryz.ntmps40
   go_wp2
   go_end0
   exact⟨rfl,h,Chg.refl _ _⟩
theorem rchange_any(k:RB)(p:Nat)(s:MS)(w:World)(hp:p < 256)(h:RM w k s) :
  Calls Tryz.prog 38 #[.pointer (some ⟨k.y,0,none⟩),.int .i64 p] w fun e w'=>e=.returned (.tuple #[])∧RM w' k (tellS s p)∧Chg k.all w w':=by
 have h0:(0:Int)≤p:=zo
 have h1:(p:Int) < 256:=zo
 have c1:=h.wa p hp
 have c2:=h.to p hp
 have d2:=h.c2
 have d3:=h.c3
 have f1:=h.ft p
 cases hM:s.M p
 ·rw[hM] at c1
  have e:tellS s p=s:=by simp[tellS,hM]
  rw[e]
  clear hM e
  go_enter Tryz.func38,Tryz.ntmps38
  go_wp2
  go_end0
  exact⟨rfl,h,Chg.refl _ _⟩
 ·rw[hM] at c1
  have e:tellS s p={ s with T:=upd s.T p true }:=by simp[tellS,hM]
  rw[e]
  clear hM e
  go_enter Tryz.func38,Tryz.ntmps38
  go_wp2
  go_end0
  exact⟨rfl,h.setTold p hp true,(Chg.refl _ _).setIn (by simp[RB.all])⟩
def protS(s:MS)(p:Nat)(r:Int):MS:=if s.R p=r then s else tellS { s with R:=upd s.R p r } p
theorem prot_no(X:Nat)(p r:Int)(w:World)(hp:(p < 0∨256≤p)∨r < 0∨7 < r) :
  Calls Tryz.prog 14 #[.pointer (some ⟨X,0,none⟩),.int .i64 p,.int .i64 r] w fun e w'=>e=.returned (.int .i64 4)∧w=w':=by
 by_cases hq:p < 0∨256≤p
 ·go_enter Tryz.func14,Tryz.ntmps14
  go_wp2_with (go_at_call 39;refine(isPage_no _ _ hq).mono ?_;rintro e w' ⟨rfl,rfl⟩)
  go_ret
  exact⟨rfl,rfl⟩
 ·obtain⟨n,rfl⟩:∃ n:Nat,p=n:=⟨p.toNat,by omega⟩
  have hn:n < 256:=zo
  have hr:r < 0∨7 < r:=zo
  clear hq hp
  rcases hr with hr|hr
  ·go_enter Tryz.func14,Tryz.ntmps14
   go_wp2_with (go_at_call 39;refine(isPage_yes _ _ hn).mono ?_;rintro e w' ⟨rfl,rfl⟩)
   go_ret
   exact⟨rfl,rfl⟩
  ·have hr0:¬r < 0:=zo
   go_enter Tryz.func14,Tryz.ntmps14
   go_wp2_with (go_at_call 39;refine(isPage_yes _ _ hn).mono ?_;rintro e w' ⟨rfl,rfl⟩)
   go_ret
   exact⟨rfl,rfl⟩
theorem rprot_no(k:RB)(p r:Int)(w:World)(hp:(p < 0∨256≤p)∨r < 0∨7 < r) :
  Calls Tryz.prog 15 #[.pointer (some ⟨k.y,0,none⟩),.int .i64 p,.int .i64 r] w fun e w'=>e=.returned (.int .i64 4)∧w=w':=by
 by_cases hq:p < 0∨256≤p
 ·go_enter Tryz.func15,Tryz.ntmps15
  go_wp2_with (go_at_call 41;refine(page_no _ _ hq).mono ?_;rintro e w' ⟨rfl,rfl⟩)
  go_ret
  exact⟨rfl,rfl⟩
 ·obtain⟨n,rfl⟩:∃ n:Nat,p=n:=⟨p.toNat,by omega⟩
  have hn:n < 256:=zo
  have hr:r < 0∨7 < r:=zo
  clear hq hp
  rcases hr with hr|hr
  ·go_enter Tryz.func15,Tryz.ntmps15
   go_wp2_with (go_at_call 41;refine(page_yes _ _ hn).mono ?_;rintro e w' ⟨rfl,rfl⟩)
   go_ret
   exact⟨rfl,rfl⟩
  ·have hr0:¬r < 0:=zo
   go_enter Tryz.func15,Tryz.ntmps15
   go_wp2_with (go_at_call 41;refine(page_yes _ _ hn).mono ?_;rintro e w' ⟨rfl,rfl⟩)
   go_ret
   exact⟨rfl,rfl⟩
set_option maxRecDepth 100000 in
theorem prot_yes(X p:Nat)(r:Int)(s:MS)(w:World)(hp:p < 256)(r0:0≤r)(r7:r≤7)(h:PM w X s) :
  Calls Tryz.prog 14 #[.pointer (some ⟨X,0,none⟩),.int .i64 p,.int .i64 r] w fun e w'=>e=.returned (.int .i64 0)∧PM w' X (protS s p r)∧Chg [X] w w':=by
 have h0:(0:Int)≤p:=zo
 have h1:(p:Int) < 256:=zo
 have c1:=h.ri p hp
 have f1:=h.fr (65536+p)
 by_cases hR:s.R p=r
 ·have e:protS s p r=s:=by simp[protS,hR]
  rw[hR] at c1
  rw[e]
  clear hR e
  go_enter Tryz.func14,Tryz.ntmps14
  go_wp2_with (go_at_call 39;refine(isPage_yes _ _ hp).mono ?_;rintro e w' ⟨rfl,rfl⟩)
  go_ret
  exact⟨rfl,h,Chg.refl _ _⟩
 ·have e:protS s p r=tellS { s with R:=upd s.R p r } p:=by simp[protS,hR]
  have hR':(s.R p==r)=false:=by simpa using hR
  rw[e]
  clear e
  go_enter Tryz.func14,Tryz.ntmps14
  go_wp2_with first
   | (go_at_call 39;refine(isPage_yes _ _ hp).mono ?_;rintro e w' ⟨rfl,rfl⟩)
   | (go_at_call 40;refine(tell_any X p _ _ hp (h.setRight p hp r)).mono ?_;rintro e w' ⟨rfl,hP,hC⟩)
  go_ret
  exact⟨rfl,hP,((Chg.refl _ _).set).trans hC⟩
set_option maxRecDepth 100000 in
theorem rprot_yes(k:RB)(p:Nat)(r:Int)(s:MS)(w:World)(hp:p < 256)(r0:0≤r)(r7:r≤7)(h:RM w k s) :
  Calls Tryz.prog 15 #[.pointer (some ⟨k.y,0,none⟩),.int .i64 p,.int .i64 r] w fun e w'=>e=.returned (.int .i64 0)∧RM w' k (protS s p r)∧Chg k.all w w':=by
 have h0:(0:Int)≤p:=zo
 have h1:(p:Int) < 256:=zo
 have c1:=h.ri p hp
 have d1:=h.c1
 have f1:=h.fr p
 by_cases hR:s.R p=r
 ·have e:protS s p r={ s with R:=upd s.R p r }:=by simp[protS,hR];rw[upd_self _ _ _ hR]
  rw[hR] at c1
  rw[e]
  clear hR e
  go_enter Tryz.func15,Tryz.ntmps15
  go_wp2_with (go_at_call 41;refine(page_yes _ _ hp).mono ?_;rintro e w' ⟨rfl,rfl⟩)
  go_ret
  exact⟨rfl,h.setRight p hp r,(Chg.refl _ _).setIn (by simp[RB.all])⟩
 ·have e:protS s p r={ tellS s p with R:=upd (tellS s p).R p r }:=by
   simp only[protS,hR,if_false,tellS]
   cases s.M p<;>rfl
  have hR':(s.R p==r)=false:=by simpa using hR
  rw[e]
  clear e
  go_enter Tryz.func15,Tryz.ntmps15
  go_wp2_with first
   | (go_at_call 41;refine(page_yes _ _ hp).mono ?_;rintro e w' ⟨rfl,rfl⟩)
   | (go_at_call 38;refine(rchange_any k p _ _ hp h).mono ?_;rintro e w' ⟨rfl,hP,hC⟩;have d1':=hP.c1;have f1':=hP.fr p;have c1':=hP.ri p hp)
  go_ret
  exact⟨rfl,hP.setRight p hp r,hC.setIn (by simp[RB.all])⟩
def badN(s:MS)(r:Int)(x:Nat):Nat→Option Nat
 | 0=>none
 | n+1=>if x < 65536∧s.R (x / 256) / r%2=1 then badN s r (x+1) n else some x
theorem badN_none{s:MS}{r:Int}:∀ {n x:Nat},badN s r x n=none→∀ i,i < n→x+i < 65536
 | 0,_,_,i,hi=>by omega
 | n+1,x,h,i,hi=>by
  unfold badN at h
  split at h
  ·rename_i hc
   by_cases e:i=0
   ·subst e;omega
   ·have:=badN_none h (i - 1) zo;omega
  ·simp at h
theorem badN_lt{s:MS}{r:Int}{n x:Nat}(h:badN s r x n=none)(hn:0 < n):x+n≤65536:=by
 have:=badN_none h (n - 1) zo;omega
theorem and_right(R r:Int)(h0:0≤R)(h7:R≤7)(hr:r=1∨r=2∨r=4):(bits .and .i64 R r==0)=(R / r%2==0):=by
 have hR:R=0∨R=1∨R=2∨R=3∨R=4∨R=5∨R=6∨R=7:=zo
 rcases hR with rfl|rfl|rfl|rfl|rfl|rfl|rfl|rfl<;>rcases hr with rfl|rfl|rfl<;>decide +kernel
def allV:Option Nat→Value
 | none=>.tuple #[.int .u32 0,.bool true]
 | some x=>.tuple #[.int .u32 x,.bool false]
theorem badN_go{s:MS}{r:Int}{x n:Nat}(h:x < 65536)(hr:s.R (x / 256) / r%2=1):badN s r x (n+1)=badN s r (x+1) n:=by
 rw[badN,if_pos ⟨h,hr⟩]
theorem badN_no{s:MS}{r:Int}{x n:Nat}(h:¬(x < 65536∧s.R (x / 256) / r%2=1)):badN s r x (n+1)=some x:=by
 rw[badN,if_neg h]
structure AlRel(s:MS)(r:Int)(a N:Nat)(o:Option Nat)(k:Nat):Prop where
 le:k≤N
 lt:k=0∨a+k≤65536
 eq:badN s r (a+k) (N - k)=o
theorem allowed_o(X a N:Nat)(n r:Int)(s:MS)(w:World)(o:Option Nat)(hN:N=n.toNat)(ho:badN s r a N=o)(ha:a < 4294967296)(hr:r=1∨r=2∨r=4)(hs:s.Ok)(h:PM w X s) :
  Calls Tryz.prog 67 #[.pointer (some ⟨X,0,none⟩),.int .u32 a,.int .i64 n,.int .i64 r] w fun e w'=>e=.returned (allV o)∧w=w':=by
 have HR:Hid (r=1∨r=2∨r=4):=hr
 have HN:Hid (N=n.toNat):=hN
 have HO:Hid (badN s r a N=o):=ho
 clear hr hN ho
 go_enter Tryz.func67,Tryz.ntmps67
 go_wp2
 go_loop [13] (fun i=>∃ k:Nat,i=.int .i64 k∧AlRel s r a N o k) (fun i=>N - (intOf i).toNat)
 case atStart=>exact⟨0,rfl,by omega,.inl rfl,HO.out⟩
 case round=>
  obtain⟨k,rfl,⟨hk,hak,hb⟩⟩:=hrel
  have hN:=HN.out
  clear HO
  by_cases hlt:(k:Int) < n
  ·obtain⟨x,hx⟩:∃ x,x=a+k:=⟨_,rfl⟩
   obtain⟨q,hq⟩:∃ q,q=x / 256:=⟨_,rfl⟩
   have hsum:(a:Int)+(k:Int)=(x:Int):=zo
   have hdiv:(x:Int) / 256=(q:Int):=zo
   have hk0:(0:Int)≤k:=zo
   have hk1:(k:Int) < 4294967296:=zo
   have hx0:(0:Int)≤x:=zo
   have hx1:(x:Int) < 4294967296:=zo
   have hm:N - k=(N - (k+1))+1:=zo
   have hkN:k+1≤N:=zo
   rw[← hx,hm] at hb
   have HX:Hid (x=a+k):=hx
   by_cases hx2:x < 65536
   ·have hx3:(x:Int) < 65536:=zo
    have hge:decide (65536≤(x:Int))=false:=decide_eq_false zo
    have hq1:q < 256:=zo
    have hq2:(q:Int) < 256:=zo
    have hq0:(0:Int)≤q:=zo
    have c1:=h.ri q hq1
    have hR:=hs.ri q
    have hand:=and_right (s.R q) r hR.1 hR.2 HR.out
    by_cases hok:s.R q / r%2=1
    ·have hand':(bits .and .i64 (s.R q) r==0)=false:=by rw[hand];simp[hok]
     rw[badN_go hx2 (by rw[← hq];exact hok)] at hb
     have HB:Hid (badN s r (x+1) (N - (k+1))=o):=hb
     have HKN:Hid (k+1≤N):=hkN
     have HS:Hid ((a:Int)+(k:Int)=(x:Int)):=hsum
     clear hand hok hb hq hak hm hx hN hR hk hx2 hq1 hkN
     go_wp2
     go_round
     case rel=>exact⟨k+1,by go_num,HKN.out,.inr (by have:=HX.out;omega),by rw[← HB.out,HX.out,Nat.add_assoc]⟩
     case measure=>have:=HKN.out;simp[intOf];omega
    ·have hz:s.R q / r%2=0:=zo
     have hand':(bits .and .i64 (s.R q) r==0)=true:=by rw[hand];simp[hz]
     rw[badN_no (by rw[← hq];exact fun h=>hok h.2)] at hb
     have HB:Hid (some x=o):=hb
     clear hand hok hb hq hak hm hx hN hR hk hx2 hq1 hz
     go_wp2
     go_ret2
     exact⟨by rw[← HB.out];rfl,rfl⟩
   ·have hx3:¬(x:Int) < 65536:=zo
    have hge:decide (65536≤(x:Int))=true:=decide_eq_true zo
    rw[badN_no (fun h=>hx2 h.1)] at hb
    have HB:Hid (some x=o):=hb
    clear hb hq hak hm hx hN hk hx2
    go_wp2
    go_ret2
    exact⟨by rw[← HB.out];rfl,rfl⟩
  ·have:N - k=0:=zo
   rw[this] at hb
   have HB:Hid (none=o):=hb
   clear hb this hN hk hak
   go_wp2
   go_ret2
   exact⟨by rw[← HB.out];rfl,rfl⟩
theorem allowed_any(X a:Nat)(n r:Int)(s:MS)(w:World)(ha:a < 4294967296)(hr:r=1∨r=2∨r=4)(hs:s.Ok)(h:PM w X s) :
  Calls Tryz.prog 67 #[.pointer (some ⟨X,0,none⟩),.int .u32 a,.int .i64 n,.int .i64 r] w fun e w'=>e=.returned (allV (badN s r a n.toNat))∧w=w':=
 allowed_o X a n.toNat n r s w _ rfl rfl ha hr hs h
def stopV(kind:Int):Option Nat→Value
 | none=>.agg #[.int .i64 0,.int .u32 0]
 | some x=>.agg #[.int .i64 kind,.int .u32 x]
theorem use_o(k':RB)(a N:Nat)(n r kind:Int)(s:MS)(w:World)(o:Option Nat)(hN:N=n.toNat)(ho:badN s r a N=o)(ha:a < 4294967296)(hr:r=1∨r=2∨r=4)(hs:s.Ok)(h:RM w k' s) :
  Calls Tryz.prog 82 #[.pointer (some ⟨k'.y,0,none⟩),.int .u32 a,.int .i64 n,.int .i64 r,.int .i64 kind] w fun e w'=>e=.returned (stopV kind o)∧Below w.heap.size w w':=by
 have hr0:0 < r:=zo
 have hr1:(r==0)=false:=by simp;omega
 have hr4:r≤4:=zo
 have hrn:¬r = -1:=zo
 have HN:Hid (N=n.toNat):=hN
 have HO:Hid (badN s r a N=o):=ho
 have d1:=h.c1
 have ltr:=h.ltr
 have lty:=h.lty
 clear hr hN ho
 go_enter Tryz.func82,Tryz.ntmps82
 go_wp2
 go_loop [11] (fun i=>∃ k:Nat,i=.int .i64 k∧AlRel s r a N o k) (fun i=>N - (intOf i).toNat)
 case atStart=>exact⟨0,rfl,by omega,.inl rfl,HO.out⟩
 case round=>
  obtain⟨k,rfl,⟨hk,hak,hb⟩⟩:=hrel
  have hN:=HN.out
  clear HO
  by_cases hlt:(k:Int) < n
  ·obtain⟨x,hx⟩:∃ x,x=a+k:=⟨_,rfl⟩
   obtain⟨q,hq⟩:∃ q,q=x / 256:=⟨_,rfl⟩
   have hsum:(a:Int)+(k:Int)=(x:Int):=zo
   have hdiv:(x:Int) / 256=(q:Int):=zo
   have hk0:(0:Int)≤k:=zo
   have hk1:(k:Int) < 4294967296:=zo
   have hx0:(0:Int)≤x:=zo
   have hx1:(x:Int) < 4294967296:=zo
   have hm:N - k=(N - (k+1))+1:=zo
   have HKN:Hid (k+1≤N):=show k+1≤N by omega
   rw[← hx,hm] at hb
   have HX:Hid (x=a+k):=hx
   by_cases hx2:x < 65536
   ·have hx3:(x:Int) < 65536:=zo
    have hge:decide (65535 < (x:Int))=false:=decide_eq_false zo
    have hq1:q < 256:=zo
    have hq2:(q:Int) < 256:=zo
    have hq0:(0:Int)≤q:=zo
    have c1:=h.ri q hq1
    have hR:=hs.ri q
    obtain⟨R,hRe⟩:∃ R,R=s.R q:=⟨_,rfl⟩
    obtain⟨Q,hQ⟩:∃ Q,R / r=Q:=⟨_,rfl⟩
    have hQ0:0≤Q:=by rw[← hQ];exact Int.ediv_nonneg zo zo
    have hQ7:Q≤7:=by rw[← hQ];exact Int.le_trans (Int.ediv_le_self _ zo) zo
    rw[← hRe] at c1 hR
    obtain⟨hR0,hR7⟩:=hR
    by_cases hok:Q%2=1
    ·have hand':(Q%2==0)=false:=by simp[hok]
     rw[badN_go hx2 (by rw[← hq,← hRe,hQ];exact hok)] at hb
     have HB:Hid (badN s r (x+1) (N - (k+1))=o):=hb
     clear hok hb hq hak hm hx hN hk hx2 hq1 hRe
     go_wp2
     go_round
     case rel=>exact⟨k+1,by go_num,HKN.out,.inr (by have:=HX.out;omega),by rw[← HB.out,HX.out,Nat.add_assoc]⟩
     case measure=>have:=HKN.out;simp[intOf];omega
    ·have hz:Q%2=0:=zo
     have hand':(Q%2==0)=true:=by simp[hz]
     rw[badN_no (by rw[← hq,← hRe,hQ];exact fun h=>hok h.2)] at hb
     have HB:Hid (some x=o):=hb
     clear hok hb hq hak hm hx hN hk hx2 hq1 hRe hz
     go_wp2
     exact bodyPost_ret (v:=stopV kind (some x)) (by simp[results,Tryz.results82,go_sem,stopV]) rfl ⟨by rw[← HB.out],by first|exact((Below.refl _ _).alloc (Nat.le_refl _) _).setCell (Nat.le_refl _) _|exact(Below.refl _ _).alloc (Nat.le_refl _) _⟩
   ·have hx3:¬(x:Int) < 65536:=zo
    have hge:decide (65535 < (x:Int))=true:=decide_eq_true zo
    rw[badN_no (fun h=>hx2 h.1)] at hb
    have HB:Hid (some x=o):=hb
    clear hb hq hak hm hx hN hk hx2
    go_wp2
    exact bodyPost_ret (v:=stopV kind (some x)) (by simp[results,Tryz.results82,go_sem,stopV]) rfl ⟨by rw[← HB.out],by first|exact((Below.refl _ _).alloc (Nat.le_refl _) _).setCell (Nat.le_refl _) _|exact(Below.refl _ _).alloc (Nat.le_refl _) _⟩
  ·have:N - k=0:=zo
   rw[this] at hb
   have HB:Hid (none=o):=hb
   clear hb this hN hk hak
   go_wp2
   exact bodyPost_ret (v:=stopV kind none) (by simp[results,Tryz.results82,go_sem,stopV]) rfl ⟨by rw[← HB.out],by first|exact((Below.refl _ _).alloc (Nat.le_refl _) _).setCell (Nat.le_refl _) _|exact(Below.refl _ _).alloc (Nat.le_refl _) _⟩
theorem use_any(k':RB)(a:Nat)(n r kind:Int)(s:MS)(w:World)(ha:a < 4294967296)(hr:r=1∨r=2∨r=4)(hs:s.Ok)(h:RM w k' s) :
  Calls Tryz.prog 82 #[.pointer (some ⟨k'.y,0,none⟩),.int .u32 a,.int .i64 n,.int .i64 r,.int .i64 kind] w fun e w'=>e=.returned (stopV kind (badN s r a n.toNat))∧Below w.heap.size w w':=
 use_o k' a n.toNat n r kind s w _ rfl rfl ha hr hs h
def tellR(s:MS)(lo hi:Nat):MS:={ s with T:=fun p=>s.T p || (s.M p && decide (lo≤p∧p < hi)) }
theorem tellR_none(s:MS)(lo:Nat):tellR s lo lo=s:=by
 have:(fun p=>s.T p || (s.M p && decide (lo≤p∧p < lo)))=s.T:=by
  funext p
  rw[decide_eq_false zo];simp
 simp only[tellR,this]
theorem tellR_next(s:MS)(lo hi:Nat)(h:lo≤hi):tellS (tellR s lo hi) hi=tellR s lo (hi+1):=by
 have hM:(tellR s lo hi).M hi=s.M hi:=rfl
 have key:∀ T',(∀ p,T' p=(tellR s lo (hi+1)).T p)→({ tellR s lo hi with T:=T' }:MS)=tellR s lo (hi+1):=by
  intro T' h;have:T'=(tellR s lo (hi+1)).T:=funext h;subst this;rfl
 unfold tellS
 rw[hM]
 cases hm:s.M hi
 ·rw[if_neg (by simp)]
  refine key (tellR s lo hi).T (fun p=>?_)
  simp only[tellR]
  by_cases e:p=hi
  ·subst e;rw[hm];simp
  ·congr 2;exact decide_eq_decide.2 zo
 ·rw[if_pos rfl]
  refine key _ (fun p=>?_)
  simp only[tellR,upd]
  by_cases e:p=hi
  ·subst e;rw[if_pos rfl,hm,decide_eq_true zo];simp
  ·rw[if_neg e];congr 2;exact decide_eq_decide.2 zo
def tellB(s:MS)(at' n:Nat):MS:=if n=0 then s else tellR s (at' / 256) ((at'+n - 1) / 256+1)
theorem tellB_next(s:MS)(at' k:Nat):tellS (tellB s at' k) ((at'+k) / 256)=tellB s at' (k+1):=by
 by_cases hk:k=0
 ·subst hk
  have:=tellR_next s (at' / 256) (at' / 256) (Nat.le_refl _)
  rw[tellR_none] at this
  simpa[tellB] using this
 ·rw[tellB,if_neg hk,tellB,if_neg zo,show at'+(k+1) - 1=at'+k by omega]
  by_cases e:(at'+k) / 256=(at'+k - 1) / 256
  ·rw[e]
   -- told already
   generalize hq:(at'+k - 1) / 256=q
   have hlo:at' / 256≤q:=zo
   unfold tellS
   by_cases hm:(tellR s (at' / 256) (q+1)).M q=true
   ·rw[if_pos hm,upd_self]
    have hm':s.M q=true:=hm
    simp[tellR,hm',hlo]
   ·rw[if_neg hm]
  ·have e2:(at'+k) / 256=(at'+k - 1) / 256+1:=zo
   rw[e2]
   exact tellR_next s _ _ zo
theorem tellB_B(s:MS)(a n:Nat):(tellB s a n).B=s.B:=by unfold tellB;split<;>rfl
theorem tellB_R(s:MS)(a n:Nat):(tellB s a n).R=s.R:=by unfold tellB;split<;>rfl
theorem tellS_B(s:MS)(p:Nat):(tellS s p).B=s.B:=by unfold tellS;split<;>rfl
theorem tellS_R(s:MS)(p:Nat):(tellS s p).R=s.R:=by unfold tellS;split<;>rfl
theorem tellS_withB(s:MS)(p:Nat)(B:Nat→Int):tellS { s with B:=B } p={ tellS s p with B:=B }:=by unfold tellS;split<;>rfl
theorem tellB_withB(s:MS)(a n:Nat)(B:Nat→Int):tellB { s with B:=B } a n={ tellB s a n with B:=B }:=by unfold tellB;split<;>rfl
theorem change_any(X at' n:Nat)(s:MS)(w:World)(hl:at'+n≤65536)(h:PM w X s) :
  Calls Tryz.prog 37 #[.pointer (some ⟨X,0,none⟩),.int .i64 at',.int .i64 n] w fun e w'=>e=.returned (.tuple #[])∧PM w' X (tellB s at' n)∧Chg [X] w w':=by
 by_cases hn:n=0
 ·subst hn
  go_enter Tryz.func37,Tryz.ntmps37
  go_wp2
  refine bodyPost_ret (results_none rfl _ _ _) rfl ?_
  exact⟨rfl,h,Chg.refl _ _⟩
 ·have hn0:(n:Int)≠0:=zo
  have hn1:((n:Int)==0)=false:=by simpa using hn0
  obtain⟨lo,hlo⟩:∃ lo,at' / 256=lo:=⟨_,rfl⟩
  obtain⟨hi,hhi⟩:∃ hi,(at'+n - 1) / 256=hi:=⟨_,rfl⟩
  have e:tellB s at' n=tellR s lo (hi+1):=by rw[tellB,if_neg hn,hlo,hhi]
  rw[e]
  have hlo':(at':Int) / 256=lo:=zo
  have hhi':((at':Int)+n - 1) / 256=hi:=zo
  have ha0:(0:Int)≤at':=zo
  have hn2:(0:Int)≤n:=zo
  have hle:(at':Int)+n≤65536:=zo
  have hge:(0:Int)≤(at':Int)+n - 1:=zo
  have hlh:lo≤hi:=zo
  have hh:hi < 256:=zo
  have HLO:Hid (lo≤hi∧hi < 256):=⟨hlh,hh⟩
  have HP:Hid (PM w X s):=h
  clear hlo hhi e hn hn0 hlh hh h hl
  go_enter Tryz.func37,Tryz.ntmps37
  go_wp2
  go_loopw [6] (fun i wr=>∃ pg:Nat,i=.int .i64 pg∧(lo≤pg∧pg≤hi+1)∧PM wr X (tellR s lo pg)∧Chg [X] w wr) (fun i _=>hi+1 - (intOf i).toNat)
  case atStart=>exact⟨lo,rfl,⟨by omega,by have:=HLO.out;omega⟩,by rw[tellR_none];exact HP.out,Chg.refl _ _⟩
  case round=>
   obtain⟨pg,rfl,hpg,hPM,hC⟩:=hrel
   have HPG:Hid (lo≤pg∧pg≤hi+1):=hpg
   have HQ:Hid (PM wr X (tellR s lo pg)):=hPM
   have HC:Hid (Chg [X] w wr):=hC
   clear hpg hPM hC
   by_cases hlt:(pg:Int)≤hi
   ·have hp256:pg < 256:=by have:=HLO.out;omega
    have hpi:(pg:Int) < 256:=zo
    have hp0:(0:Int)≤pg:=zo
    go_wp2_with (go_at_call 40;refine(tell_any X pg _ _ hp256 HQ.out).mono ?_;rintro e w' ⟨rfl,hP',hC'⟩)
    have HQ':Hid (PM w' X (tellS (tellR s lo pg) pg)):=hP'
    have HC':Hid (Chg [X] wr w'):=hC'
    clear hP' hC'
    go_roundw
    case rel=>exact⟨pg+1,by go_num,⟨by have:=HPG.out;omega,by omega⟩,by rw[← tellR_next s lo pg HPG.out.1];exact HQ'.out,HC.out.trans HC'.out⟩
    case measure=>simp[intOf];omega
   ·go_wp2
    go_end0
    refine⟨rfl,?_,HC.out⟩
    have:pg=hi+1:=by have:=HPG.out;omega
    rw[← this];exact HQ.out
theorem lies_yes(a n:Nat)(w:World)(h:a+n≤65536):Calls Tryz.prog 36 #[.int .i64 a,.int .i64 n] w (fun e w'=>e=.returned (.bool true)∧w=w'):=by
 have h0:(0:Int)≤a:=zo
 have h1:(a:Int)≤65536:=zo
 have h2:(0:Int)≤n:=zo
 have h3:(n:Int)≤65536 - a:=zo
 go_enter Tryz.func36,Tryz.ntmps36;go_wp2;go_ret;exact⟨rfl,rfl⟩
theorem lies_no(a n:Int)(w:World)(hn : -9223372036854775808≤a∧a≤9223372036854775807)(h:¬(0≤a∧a≤65536∧0≤n∧n≤65536 - a)):Calls Tryz.prog 36 #[.int .i64 a,.int .i64 n] w (fun e w'=>e=.returned (.bool false)∧w=w'):=by
 by_cases h0:0≤a
 ·by_cases h1:a≤65536
  ·by_cases h2:0≤n
   ·have h3:¬n≤65536 - a:=zo
    have d3:decide (n≤65536 - a)=false:=decide_eq_false h3
    clear h hn
    go_enter Tryz.func36,Tryz.ntmps36;go_wp2;go_ret;exact⟨rfl,rfl⟩
   ·have d2:decide (0≤n)=false:=decide_eq_false h2
    clear h hn
    go_enter Tryz.func36,Tryz.ntmps36;go_wp2;go_ret;exact⟨rfl,rfl⟩
  ·have d1:decide (a≤65536)=false:=decide_eq_false h1
   clear h hn
   go_enter Tryz.func36,Tryz.ntmps36;go_wp2;go_ret;exact⟨rfl,rfl⟩
 ·have d0:decide (0≤a)=false:=decide_eq_false h0
  clear h hn
  go_enter Tryz.func36,Tryz.ntmps36;go_wp2;go_ret;exact⟨rfl,rfl⟩
theorem wpList_copy_set{P:Program}{w:World}{ops:Array Oper}{rest:List Oper}{o:Oper}{a:Act}{Q:Exit→Act→World→Prop}(hgd:o.guard=none)(d s:Operand)(dT sT:TypeId)
  (ho:o.op=.call { callee:=.builtin .copy,args:=#[d,s],argTypes:=#[dT,sT] }) (elem:TypeId) (hu:P.underlying dT=some (.slice elem)) (hsz:(P.info? elem).map (·.size)=some 1)
  (dp sp:Option Addr) (dLen dCap sLen sCap:Nat) (hd:a.eval d=.slice dp dLen dCap) (hs:a.eval s=.slice sp sLen sCap)
  (b off:Nat) (cs:List Value) (hn:cs.length=Nat.min sLen dLen)
  (hpos:0 < cs.length→dp=some ⟨b,off,none⟩∧∃ ad,sp=some ad∧∀ j v,cs[j]?=some v→w.cell? (ad.add j)=some v)
  (hc:∀ j,j < cs.length→(w.cell? ⟨b,off+j,none⟩).isSome=true) (hf:∀ j,j < cs.length→w.frozen? ⟨b,off+j,none⟩=false) (h1:∀ v∈cs,v.oneCell'=true)
  (h:wpList P ops Q rest (a.put o.dst (goInt cs.length)) (w.setCells b off cs)):wpList P ops Q (o :: rest) a w:=by
 by_cases h0:cs.length=0
 ·obtain rfl:cs=[]:=List.eq_nil_of_length_eq_zero h0
  exact wpList_copy_nothing hgd d s dT sT ho elem hu hsz dp sp dLen dCap sLen sCap hd hs (by simpa using hn.symm) h
 ·obtain⟨rfl,ad,rfl,hsrc⟩:=hpos zo
  refine wpList_plain hgd fun K hK=>?_
  have hrun:=run_copy_cells (P:=P) w dT sT o.type elem b off dLen dCap ad sLen sCap cs hu hsz hn hsrc hc hf h1
  unfold Oper.wp
  simp only[execOp,ho,resolve,invoke,builtin,hd,hs,Sem.run_bind,Sem.run_pure,Result.andThen_ok,List.map_toArray,List.map_cons,List.map_nil,hrun]
  exact hK _ _ h
structure CopyPre(w:World)(dp sp:Option Addr)(sLen dLen b off:Nat)(cs:List Value):Prop where
 hn:cs.length=Nat.min sLen dLen
 hpos:0 < cs.length→dp=some ⟨b,off,none⟩∧∃ ad,sp=some ad∧∀ j v,cs[j]?=some v→w.cell? (ad.add j)=some v
 hc:∀ j,j < cs.length→(w.cell? ⟨b,off+j,none⟩).isSome=true
 hf:∀ j,j < cs.length→w.frozen? ⟨b,off+j,none⟩=false
 h1:∀ v∈cs,v.oneCell'=true
theorem wpList_copy_pre{P:Program}{w:World}{ops:Array Oper}{rest:List Oper}{o:Oper}{a:Act}{Q:Exit→Act→World→Prop}(hgd:o.guard=none)(d s:Operand)(dT sT:TypeId)
  (ho:o.op=.call { callee:=.builtin .copy,args:=#[d,s],argTypes:=#[dT,sT] }) (elem:TypeId) (hu:P.underlying dT=some (.slice elem)) (hsz:(P.info? elem).map (·.size)=some 1)
  (dp sp:Option Addr) (dLen dCap sLen sCap:Nat) (hd:a.eval d=.slice dp dLen dCap) (hs:a.eval s=.slice sp sLen sCap)
  (b off:Nat) (cs:List Value) (hp:CopyPre w dp sp sLen dLen b off cs)
  (h:wpList P ops Q rest (a.put o.dst (goInt cs.length)) (w.setCells b off cs)):wpList P ops Q (o :: rest) a w:=
 wpList_copy_set hgd d s dT sT ho elem hu hsz dp sp dLen dCap sLen sCap hd hs b off cs hp.hn hp.hpos hp.hc hp.hf hp.h1 h
def byteCs(z:Nat→Int)(n:Nat):List Value:=(List.range n).map fun i=>Value.int .u8 (z i)
theorem byteCs_length(z:Nat→Int)(n:Nat):(byteCs z n).length=n:=by simp[byteCs]
theorem byteCs_at(z:Nat→Int)(n j:Nat)(v:Value)(h:(byteCs z n)[j]?=some v):j < n∧v=.int .u8 (z j):=by
 simp only[byteCs,List.getElem?_map,Option.map_eq_some_iff] at h
 obtain⟨i,hij,rfl⟩:=h
 obtain⟨hlt,rfl⟩:=List.getElem?_eq_some_iff.1 hij
 simp only[List.getElem_range]
 exact⟨by simpa using hlt,trivial⟩
theorem byteCs_get(z:Nat→Int)(n j:Nat)(h:j < (byteCs z n).length):(byteCs z n)[j]=.int .u8 (z j):=by simp[byteCs]
theorem byteCs_one(z:Nat→Int)(n:Nat):∀ v∈byteCs z n,v.oneCell'=true:=by
 intro v hv
 simp only[byteCs,List.mem_map] at hv
 obtain⟨i,-,rfl⟩:=hv
 rfl
def ovr(B:Nat→Int)(at' n:Nat)(z:Nat→Int):Nat→Int:=fun i=>if at'≤i∧i < at'+n then z (i - at') else B i
theorem PM.setBytes{w:World}{X:Nat}{s:MS}(h:PM w X s)(at' n:Nat)(z:Nat→Int)(hl:at'+n≤65536):PM (w.setCells X at' (byteCs z n)) X { s with B:=ovr s.B at' n z }:=by
 have hout:∀ o,(o < at'∨at'+n≤o)→(w.setCells X at' (byteCs z n)).cell? ⟨X,o,none⟩=w.cell? ⟨X,o,none⟩:=fun o ho=>
  World.cell?_setCells_out X (byteCs z n) at' w ⟨X,o,none⟩ (fun _ _=>by rw[byteCs_length];exact ho)
 refine⟨fun j hj=>?_,fun j hj=>?_,fun j hj=>?_,fun j hj=>?_,?_,fun o=>?_⟩
 ·by_cases hin:at'≤j∧j < at'+n
  ·obtain⟨i,rfl⟩:∃ i,j=at'+i:=⟨j - at',by omega⟩
   have hi:i < n:=zo
   rw[World.cell?_setCells_in X (byteCs z n) at' w (fun q hq=>by rw[byteCs_length] at hq;rw[h.by_ _ zo];rfl) i (by rw[byteCs_length];exact hi),byteCs_get]
   simp only[ovr,if_pos hin,Nat.add_sub_cancel_left]
  ·rw[hout j zo,h.by_ j hj];simp only[ovr,if_neg hin]
 ·rw[hout _ zo];exact h.ri j hj
 ·rw[hout _ zo];exact h.wa j hj
 ·rw[hout _ zo];exact h.to j hj
 ·rw[hout _ zo];exact h.te
 ·rw[World.frozen?_setCells];exact h.fr o
def SR(w:World)(bp:Option Addr)(n:Nat)(z:Nat→Int):Prop:=0 < n→∃ b off,bp=some ⟨b,off,none⟩∧∀ i,i < n→w.cell? ⟨b,off+i,none⟩=some (.int .u8 (z i))
theorem info5:(Tryz.prog.info? 5).map (fun i=>(i.zero,i.size,i.bytes))=some (some (.int .u8 0),1,1):=by kernel_rfl
theorem size5:(Tryz.prog.info? 5).map (·.size)=some 1:=by kernel_rfl
def pokeS(s:MS)(at' n:Nat)(z:Nat→Int):MS:=tellB { s with B:=ovr s.B at' n z } at' n
theorem ovr_zero(B:Nat→Int)(a:Nat)(z:Nat→Int):ovr B a 0 z=B:=by
 funext i;simp only[ovr];rw[if_neg zo]
theorem pokeS_zero(s:MS)(a:Nat)(z:Nat→Int):pokeS s a 0 z=s:=by
 simp only[pokeS,tellB,if_true,ovr_zero]
theorem poke_no(X:Nat)(a:Int)(bp:Option Addr)(n c:Nat)(w:World)(ha : -9223372036854775808≤a∧a≤9223372036854775807)(h:¬(0≤a∧a≤65536∧(n:Int)≤65536 - a)) :
  Calls Tryz.prog 12 #[.pointer (some ⟨X,0,none⟩),.int .i64 a,.slice bp n c] w fun e w'=>e=.returned (.int .i64 4)∧w=w':=by
 have h':¬(0≤a∧a≤65536∧0≤(n:Int)∧(n:Int)≤65536 - a):=zo
 have HA:Hid (-9223372036854775808≤a∧a≤9223372036854775807):=ha
 have HB:Hid (¬(0≤a∧a≤65536∧0≤(n:Int)∧(n:Int)≤65536 - a)):=h'
 clear ha h h'
 go_enter Tryz.func12,Tryz.ntmps12
 go_wp2_with (go_at_call 36;refine(lies_no _ _ _ HA.out HB.out).mono ?_;rintro e w' ⟨rfl,rfl⟩)
 go_ret
 exact⟨rfl,rfl⟩
theorem poke_yes(X at':Nat)(bp:Option Addr)(n c:Nat)(z:Nat→Int)(s:MS)(w:World)(hl:at'+n≤65536)(hz:SR w bp n z)(h:PM w X s) :
  Calls Tryz.prog 12 #[.pointer (some ⟨X,0,none⟩),.int .i64 at',.slice bp n c] w fun e w'=>e=.returned (.int .i64 0)∧PM w' X (pokeS s at' n z)∧Chg [X] w w':=by
 have hn0:(0:Int)≤n:=zo
 have hn1:(n:Int)≤65536:=zo
 have ha0:(0:Int)≤at':=zo
 have ha1:(at':Int)≤65536:=zo
 have HP:Hid (PM w X s):=h
 have HL:Hid (at'+n≤65536):=hl
 by_cases hn:n=0
 ·subst hn
  rw[pokeS_zero]
  clear h hz hl
  go_enter Tryz.func12,Tryz.ntmps12
  go_wp2_with first
   | (go_at_call 36;refine(lies_yes _ _ _ HL.out).mono ?_;rintro e w' ⟨rfl,rfl⟩)
   | (refine wpList_copy_nothing rfl (.tmp 16) (.tmp 17) 47 47 rfl 5 Tryz.underlying47 size5 _ _ _ _ _ _ rfl rfl (by simp) ?_)
   | (go_at_call 37;refine(change_any X at' 0 s _ HL.out HP.out).mono ?_;rintro e w' ⟨rfl,hP',hC'⟩)
  all_goals
   go_ret
   exact⟨rfl,hP',hC'⟩
 ·obtain⟨b,off,rfl,hz'⟩:=hz zo
  have hne:¬65536=at':=zo
  have HZ:Hid (∀ i,i < n→w.cell? ⟨b,off+i,none⟩=some (.int .u8 (z i))):=hz'
  have HN:Hid (at' < 65536):=show at' < 65536 by omega
  have HC:CopyPre w (some ⟨X,at',none⟩) (some ⟨b,off,none⟩) n (65536 - at') X at' (byteCs z n):=
   ⟨by rw[byteCs_length];exact(Nat.min_eq_left zo).symm,
   fun _=>⟨rfl,_,rfl,fun j v hv=>by obtain⟨hj,rfl⟩:=byteCs_at _ _ _ _ hv;rw[Addr.add_mid];exact hz' j hj⟩,
   fun j hj=>by rw[byteCs_length] at hj;rw[h.by_ _ zo];rfl,fun j _=>h.fr _,byteCs_one _ _⟩
  clear h hz hl hz' hn
  go_enter Tryz.func12,Tryz.ntmps12
  go_wp2_with first
   | (go_at_call 36;refine(lies_yes _ _ _ HL.out).mono ?_;rintro e w' ⟨rfl,rfl⟩)
   | (refine wpList_copy_pre rfl (.tmp 16) (.tmp 17) 47 47 rfl 5 Tryz.underlying47 size5 _ _ _ _ _ _ rfl rfl X at' (byteCs z n) HC ?_)
   | (go_at_call 37;refine(change_any X at' n _ _ HL.out (HP.out.setBytes at' n z HL.out)).mono ?_;rintro e w' ⟨rfl,hP',hC'⟩)
  go_ret
  exact⟨rfl,hP',(Chg.of_only (Only.setCells _ _ _ (Only.refl _ _))).trans hC'⟩
theorem ovr_next(B:Nat→Int)(a k:Nat)(z:Nat→Int):upd (ovr B a k z) (a+k) (z k)=ovr B a (k+1) z:=by
 funext i
 simp only[upd,ovr]
 by_cases e:i=a+k
 ·subst e;rw[if_pos rfl,if_pos zo,Nat.add_sub_cancel_left]
 ·rw[if_neg e]
  by_cases h:a≤i∧i < a+k
  ·rw[if_pos h,if_pos zo]
  ·rw[if_neg h,if_neg zo]
theorem pokeS_next(s:MS)(a k:Nat)(z:Nat→Int):tellS { pokeS s a k z with B:=upd (pokeS s a k z).B (a+k) (z k) } ((a+k) / 256)=pokeS s a (k+1) z:=by
 have hB:(pokeS s a k z).B=ovr s.B a k z:=by simp only[pokeS,tellB_withB]
 rw[hB,ovr_next,tellS_withB]
 simp only[pokeS,tellB_withB]
 rw[tellS_withB,tellB_next]
theorem rpoke_no(k:RB)(a:Int)(bp:Option Addr)(n c:Nat)(w:World)(ha : -9223372036854775808≤a∧a≤9223372036854775807)(hn:n≤maxLen)(h:¬(0≤a∧a≤65536∧(n:Int)≤65536 - a)) :
  Calls Tryz.prog 13 #[.pointer (some ⟨k.y,0,none⟩),.int .i64 a,.slice bp n c] w fun e w'=>e=.returned (.int .i64 4)∧w=w':=by
 unfold maxLen at hn
 by_cases h0:a < 0
 ·have d0:decide (a < 0)=true:=decide_eq_true h0
  clear h ha hn
  go_enter Tryz.func13,Tryz.ntmps13;go_wp2;go_ret;exact⟨rfl,rfl⟩
 ·have d0:decide (a < 0)=false:=decide_eq_false h0
  by_cases h1:65536 < a
  ·have d1:decide (65536 < a)=true:=decide_eq_true h1
   clear h ha hn
   go_enter Tryz.func13,Tryz.ntmps13;go_wp2;go_ret;exact⟨rfl,rfl⟩
  ·have d1:decide (65536 < a)=false:=decide_eq_false h1
   have d2:decide (65536 - a < (n:Int))=true:=decide_eq_true zo
   have h2:65536 - a < (n:Int):=zo
   have h3:0≤a:=zo
   have h4:a≤65536:=zo
   clear h ha hn h0 h1
   go_enter Tryz.func13,Tryz.ntmps13;go_wp2;go_ret;exact⟨rfl,rfl⟩
theorem rpoke_yes(k:RB)(at':Nat)(bp:Option Addr)(n c:Nat)(z:Nat→Int)(s:MS)(w:World)(hl:at'+n≤65536)(hz:SR w bp n z)(hb:0 < n→∀ b off,bp=some ⟨b,off,none⟩→b∉k.all)(h:RM w k s) :
  Calls Tryz.prog 13 #[.pointer (some ⟨k.y,0,none⟩),.int .i64 at',.slice bp n c] w fun e w'=>e=.returned (.int .i64 0)∧RM w' k (pokeS s at' n z)∧Chg k.all w w':=by
 have hn0:(0:Int)≤n:=zo
 have hn1:(n:Int)≤65536:=zo
 have ha0:(0:Int)≤at':=zo
 have ha1:(at':Int)≤65536:=zo
 have d0:decide ((at':Int) < 0)=false:=decide_eq_false zo
 have d1:decide (65536 < (at':Int))=false:=decide_eq_false zo
 have d2:decide (65536 - (at':Int) < (n:Int))=false:=decide_eq_false zo
 have HP:Hid (RM w k s):=h
 have HZ:Hid (SR w bp n z):=hz
 have HL:Hid (at'+n≤65536):=hl
 have HB:Hid (0 < n→∀ b off,bp=some ⟨b,off,none⟩→b∉k.all):=hb
 clear h hz hl hb
 go_enter Tryz.func13,Tryz.ntmps13
 go_wp2
 go_loopw [24] (fun i wr=>∃ j:Nat,i=.int .i64 j∧j≤n∧RM wr k (pokeS s at' j z)∧Chg k.all w wr) (fun i _=>n - (intOf i).toNat)
 case atStart=>exact⟨0,rfl,by omega,by rw[pokeS_zero];exact HP.out,Chg.refl _ _⟩
 case round=>
  obtain⟨j,rfl,hj,hR,hC⟩:=hrel
  have HR:Hid (RM wr k (pokeS s at' j z)):=hR
  have HC:Hid (Chg k.all w wr):=hC
  clear hC
  by_cases hlt:j < n
  ·obtain⟨b,off,rfl,hz'⟩:=HZ.out zo
   have hzj:=hz' j hlt
   have hc1:wr.cell? ⟨b,off+j,none⟩=some (.int .u8 (z j)):=by
    rw[HC.out.cell (lt_of_cell hzj) (HB.out zo b off rfl)];exact hzj
   have hd0:=hR.c0
   have hai:at'+j < 65536:=by have:=HL.out;omega
   have hcb:=hR.by_ (at'+j) hai
   have hfb:=hR.fb (at'+j)
   have hji:(j:Int) < n:=zo
   have hj0:(0:Int)≤j:=zo
   obtain⟨x,hx⟩:∃ x,at'+j=x:=⟨_,rfl⟩
   obtain⟨q,hq⟩:∃ q,x / 256=q:=⟨_,rfl⟩
   have hsum:(at':Int)+j=x:=zo
   have hdiv:(x:Int) / 256=q:=zo
   have hx0:(0:Int)≤x:=zo
   have hx1:(x:Int) < 65536:=zo
   have hq1:q < 256:=zo
   rw[hx] at hcb hfb
   have HX:Hid (at'+j=x∧x / 256=q):=⟨hx,hq⟩
   clear hR hzj hz' hai hx hq hj
   go_wp2_with (go_at_call 38;refine(rchange_any k q _ _ hq1 (HR.out.setByte x zo (z j))).mono ?_;rintro e w' ⟨rfl,hP',hC'⟩)
   have HQ':Hid (RM w' k (tellS { pokeS s at' j z with B:=upd (pokeS s at' j z).B x (z j) } q)):=hP'
   have HC':Hid (Chg k.all (wr.setCell ⟨k.b,x,none⟩ (.int .u8 (z j))) w'):=hC'
   clear hP' hC'
   go_roundw
   case rel=>exact⟨j+1,by go_num,by omega,by
    have:=HQ'.out
    rw[← HX.out.2,← HX.out.1,pokeS_next] at this
    exact this,(HC.out.setIn (by simp[RB.all])).trans HC'.out⟩
   case measure=>simp[intOf];omega
  ·go_wp2
   go_ret
   have:j=n:=zo
   subst this
   exact⟨rfl,HR.out,HC.out⟩
theorem info_parts{P:Program}{t:TypeId}{z:Value}{n b:Nat}(h:(P.info? t).map (fun i=>(i.zero,i.size,i.bytes))=some (some z,n,b)):∃ i,P.info? t=some i∧i.zero=some z∧i.size=n∧i.bytes=b:=by
 cases hq:P.info? t with
 | none=>simp[hq] at h
 | some i=>simp[hq] at h;exact⟨i,rfl,h.1,h.2.1,h.2.2⟩
theorem wpList_make_as{P:Program}{w:World}{ops:Array Oper}{rest:List Oper}{o:Oper}{a:Act}{Q:Exit→Act→World→Prop}(hg:o.guard=none)(l c:Operand)(t:TypeId)(hop:o.op=Op.makeSlice t l c)
  (e:TypeId) (i:TypeInfo) (z:Value) (h1:P.underlying t=some (.slice e)) (h2:P.info? e=some i) (h3:i.zero=some z) (h4:i.size=1) (h5:i.bytes≤8)
  (n:Nat) (hl:a.eval l=.int .i64 n) (hc:a.eval c=.int .i64 n) (b2:n≤65536) (H:Nat) (hH:w.heap.size=H)
  (hK:wpList P ops Q rest (a.put o.dst (.slice (some ⟨H,0,none⟩) n n)) (w.alloc (.cells (madeCells z.cells n) e))) :
  wpList P ops Q (o :: rest) a w:=by
 subst hH
 refine wpList_plain hg fun K hK'=>?_
 have hb:(i.bytes:Int)*(n:Int)≤281474976710656:=by
  have:(i.bytes:Int)*(n:Int)≤8*65536:=Int.mul_le_mul zo zo zo zo
  omega
 have hrun:=run_make (P:=P) w t e i z h1 h2 h3 .i64 .i64 n n zo (Int.le_refl _) hb zo
 simp only[Int.toNat_natCast,h4,Nat.mul_one] at hrun
 unfold Oper.wp
 simp only[execOp,hop,hl,hc,Sem.run_bind,hrun,Result.andThen_ok,Sem.run_pure]
 exact hK' _ _ hK
theorem made_at(z:Value)(n i:Nat)(h:i < n):(madeCells #[z] n)[i]?=some z:=by
 simp[madeCells,h,Nat.mod_one]
structure NR(w:World)(H n:Nat)(z:Nat→Int):Prop where
 cell:∀ i,i < n→w.cell? ⟨H,i,none⟩=some (.int .u8 (z i))
 fr:∀ i,w.frozen? ⟨H,i,none⟩=false
theorem NR.sr{w:World}{H n:Nat}{z:Nat→Int}(h:NR w H n z):SR w (some ⟨H,0,none⟩) n z:=fun _=>⟨H,0,rfl,fun i hi=>by rw[Nat.zero_add];exact h.cell i hi⟩
theorem NR.of_block{w w':World}{H n:Nat}{z:Nat→Int}(h:NR w H n z)(hb:w'.heap[H]?=w.heap[H]?):NR w' H n z:=
 ⟨fun i hi=>(World.cell?_of_block (w:=w) hb).trans (h.cell i hi),fun i=>(World.frozen?_of_block (w:=w) hb).trans (h.fr i)⟩
theorem made_row(w:World)(n:Nat)(i:Nat)(h:i < n):(w.alloc (.cells (madeCells #[.int .u8 0] n) 5)).cell? ⟨w.heap.size,i,none⟩=some (.int .u8 0):=by
 rw[cell_of_row _ _ i _ 5 (0,0) (heap_alloc_last w _)];exact made_at _ _ _ h
theorem made_fr(w:World)(n:Nat)(i:Nat):(w.alloc (.cells (madeCells #[.int .u8 0] n) 5)).frozen? ⟨w.heap.size,i,none⟩=false:=by
 have:=heap_alloc_last w (.cells (madeCells #[.int .u8 0] n) 5)
 simp only[World.frozen?,this];simp
theorem cut_any(X at' n:Nat)(s:MS)(w:World)(hl:at'+n≤65536)(h:PM w X s) :
  Calls Tryz.prog 68 #[.pointer (some ⟨X,0,none⟩),.int .i64 at',.int .i64 n] w fun e w'=>e=.returned (.slice (some ⟨w.heap.size,0,none⟩) n n)∧NR w' w.heap.size n (fun i=>s.B (at'+i))∧Below w.heap.size w w'∧w.heap.size < w'.heap.size:=by
 obtain⟨i0,hi,hz0,hz1,hz2⟩:=info_parts info5
 have hb8:i0.bytes≤8:=zo
 have HI:Hid (Tryz.prog.info? 5=some i0∧i0.zero=some (.int .u8 0)∧i0.size=1∧i0.bytes≤8):=⟨hi,hz0,hz1,hb8⟩
 have hn0:(0:Int)≤n:=zo
 have hn1:(n:Int)≤65536:=zo
 have ha0:(0:Int)≤at':=zo
 have ha1:(at':Int)≤65536:=zo
 have HP:Hid (PM w X s):=h
 have HL:Hid (at'+n≤65536):=hl
 have HF:Hid (Below w.heap.size w (w.alloc (.cells (madeCells #[.int .u8 0] n) 5))∧w.heap.size < (w.alloc (.cells (madeCells #[.int .u8 0] n) 5)).heap.size):=⟨(Below.refl _ _).alloc (Nat.le_refl _) _,by simp⟩
 clear hi hz0 hz1 hz2 hb8
 by_cases hn:n=0
 ·have HN:Hid (NR (w.alloc (.cells (madeCells #[.int .u8 0] n) 5)) w.heap.size n (fun i=>s.B (at'+i))):=⟨fun i hi=>by omega,fun i=>made_fr w n i⟩
  subst hn
  clear h hl
  go_enter Tryz.func68,Tryz.ntmps68
  go_wp2_with first
   | (refine wpList_make_as rfl (.tmp 8) (.tmp 8) 47 rfl 5 i0 (.int .u8 0) Tryz.underlying47 HI.out.1 HI.out.2.1 HI.out.2.2.1 HI.out.2.2.2 0 rfl rfl (by decide) w.heap.size rfl ?_)
   | (refine wpList_copy_nothing rfl (.tmp 10) (.tmp 15) 47 47 rfl 5 Tryz.underlying47 size5 _ _ _ _ _ _ rfl rfl (Nat.min_zero _) ?_)
  all_goals
   go_ret
   exact⟨rfl,HN.out,HF.out⟩
 ·have hne:¬65536=at':=zo
  have HC:CopyPre (w.alloc (.cells (madeCells #[.int .u8 0] n) 5)) (some ⟨w.heap.size,0,none⟩) (some ⟨X,at',none⟩) (65536 - at') n w.heap.size 0 (byteCs (fun i=>s.B (at'+i)) n):=
   ⟨by rw[byteCs_length];exact(Nat.min_eq_right zo).symm,
   fun _=>⟨rfl,_,rfl,fun j v hv=>by
    obtain⟨hj,rfl⟩:=byteCs_at _ _ _ _ hv;rw[Addr.add_mid]
    rw[HF.out.1.cell (p:=⟨X,at'+j,none⟩) h.lt];exact h.by_ _ zo⟩,
   fun j hj=>by rw[byteCs_length] at hj;rw[Nat.zero_add,made_row w n j hj];rfl,fun j _=>by rw[Nat.zero_add];exact made_fr w n j,byteCs_one _ _⟩
  have HN:Hid (NR ((w.alloc (.cells (madeCells #[.int .u8 0] n) 5)).setCells w.heap.size 0 (byteCs (fun i=>s.B (at'+i)) n)) w.heap.size n (fun i=>s.B (at'+i))):=
   ⟨fun i hi=>by
    have:=World.cell?_setCells_in w.heap.size (byteCs (fun i=>s.B (at'+i)) n) 0 (w.alloc (.cells (madeCells #[.int .u8 0] n) 5)) (fun q hq=>by rw[byteCs_length] at hq;rw[Nat.zero_add,made_row w n q hq];rfl) i (by rw[byteCs_length];exact hi)
    rw[Nat.zero_add,byteCs_get] at this
    exact this,
   fun i=>by rw[World.frozen?_setCells];exact made_fr w n i⟩
  have HG:Hid (Below w.heap.size w ((w.alloc (.cells (madeCells #[.int .u8 0] n) 5)).setCells w.heap.size 0 (byteCs (fun i=>s.B (at'+i)) n))∧w.heap.size < ((w.alloc (.cells (madeCells #[.int .u8 0] n) 5)).setCells w.heap.size 0 (byteCs (fun i=>s.B (at'+i)) n)).heap.size):=by
   have ho:Only w.heap.size (w.alloc (.cells (madeCells #[.int .u8 0] n) 5)) _:=Only.setCells (X:=w.heap.size) (byteCs (fun i=>s.B (at'+i)) n) 0 (w.alloc (.cells (madeCells #[.int .u8 0] n) 5)) (Only.refl _ _)
   refine⟨?_,by rw[ho.size];exact HF.out.2⟩
   exact HF.out.1.trans ⟨ho.os,ho.tape,ho.output,by rw[ho.size];exact Nat.le_refl _,fun k hk=>ho.block k zo⟩
  have HNM:Hid (n≤65536):=show n≤65536 by omega
  clear h hl
  go_enter Tryz.func68,Tryz.ntmps68
  go_wp2_with first
   | (refine wpList_make_as rfl (.tmp 8) (.tmp 8) 47 rfl 5 i0 (.int .u8 0) Tryz.underlying47 HI.out.1 HI.out.2.1 HI.out.2.2.1 HI.out.2.2.2 n rfl rfl HNM.out w.heap.size rfl ?_)
   | (refine wpList_copy_pre rfl (.tmp 10) (.tmp 15) 47 47 rfl 5 Tryz.underlying47 size5 _ _ _ _ _ _ rfl rfl w.heap.size 0 (byteCs (fun i=>s.B (at'+i)) n) HC ?_)
  go_ret
  exact⟨rfl,HN.out,HG.out⟩
structure TwinPre(w:World)(ad:Addr)(m:Nat)(z:Nat→Int):Prop where
 row:∀ j u,(byteCs z m)[j]?=some u→w.cell? (ad.add j)=some u
 pos:0 < m
 le:m≤140737488355328
theorem twin_grown{w w1:World}{g cap' m:Nat}{z:Nat→Int}(hown:w1.ownsRow w.heap.size 5 1 (.slice (some ⟨g,0,none⟩) (0+m) cap') (0+m) ([]++byteCs z m))(hgrow:w.grownBy w1 (Value.slice none 0 0).ownBlock)
  (hat:(Value.slice none 0 0).ownBlock=some g∨g=w.heap.size):g=w.heap.size∧NR w1 w.heap.size m z∧Below w.heap.size w w1∧m≤cap'∧cap'≤maxLen:=by
 have hg:g=w.heap.size:=by
  rcases hat with h|h
  ·simp[Value.ownBlock] at h
  ·exact h
 subst hg
 have hown':=hown
 have hbel:Below w.heap.size w w1:=(Below.refl _ _).grown hgrow (Nat.le_refl _) (fun k hk=>by simp[Value.ownBlock] at hk)
 obtain⟨hcap,hfz⟩:(m≤cap'∧cap'≤maxLen)∧∀ i,w1.frozen? ⟨w.heap.size,i,none⟩=false:=by
  rcases hown'.2 with ⟨h,-⟩|⟨g,c,cur,h,-,hcur,h1,h2,-⟩
  ·cases h
  ·simp only[Value.slice.injEq,Option.some.injEq,Addr.mk.injEq] at h
   obtain⟨⟨rfl,-,-⟩,-,rfl⟩:=h
   exact⟨⟨by omega,h2⟩,fun i=>by simp only[World.frozen?,hcur];simp⟩
 exact⟨rfl,⟨fun i hi=>by
  rw[hown'.cellAt i (by simpa using hi)]
  simp only[List.nil_append]
  rw[List.getElem?_eq_getElem (by rw[byteCs_length];exact hi),byteCs_get],hfz⟩,hbel,hcap⟩
end Go.Proofs.YtfokgedjocnnmaaGreat
