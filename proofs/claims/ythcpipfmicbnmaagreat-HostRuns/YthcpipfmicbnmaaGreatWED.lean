import Derived.Test.YthcpipfmicbnmaaGreatWJ01
import Derived.Test.YthcpipfmicbnmaaGreatRA
import Derived.Test.YthcpipfmicbnmaaGreatHD
import Derived.Test.YthcpipfmicbnmaaGreatWJ03
import Derived.Test.YthcpipfmicbnmaaGreatWAC
import Derived.Test.YthcpipfmicbnmaaGreatWEC
import Derived.Test.YthcpipfmicbnmaaGreatWC1
import Derived.Test.YthcpipfmicbnmaaGreatRL
import Derived.Test.YthcpipfmicbnmaaGreatRP
set_option linter.unusedVariables false
set_option linter.unusedSimpArgs false
set_option maxHeartbeats 1000000
namespace Go.Proofs.YthcpipfmicbnmaaGreat.Va
open Go.RowKit
set_option maxRecDepth 100000
theorem zEZ(T:Nat→Bool)(n p:Nat)(h:p < n)(hT:T p=true):cnt (upd T p false) n+1=cnt T n:=by
 induction n with
 | zero=>omega
 | succ n ih=>
  simp only[cnt]
  by_cases e:n=p
  ·subst e;rw[zCJ _ _ _ _ aL,upd_same,hT];simp
  ·have:=ih aO;rw[zBF _ _ _ _ e];omega
theorem zGX(T:Nat→Bool)(n p:Nat)(h:p < n)(hT:T p=true):0 < cnt T n:=by
 have:=zEZ T n p h hT;omega
def zA2(s:MS):Bool:=decide (0 < cnt s.T 256)
theorem zAZ(X:Nat)(s:MS)(w:World)(h:PM w X s) :
  Calls Tryz.prog 9 #[.pointer (some ⟨X,0,none⟩)] w fun e w'=>e=.returned (.bool (zA2 s))∧w=w':=by
 have c3:=h.te
 have hn:=zFU s.T 256
 unfold zA2
 by_cases hp:0 < cnt s.T 256
 ·rw[decide_eq_true hp]
  have hi:(0:Int) < cnt s.T 256:=aO
  go_enter Tryz.func9,Tryz.ntmps9
  go_wp2
  go_ret
  exact⟨rfl,rfl⟩
 ·rw[decide_eq_false hp]
  have hi:¬(0:Int) < cnt s.T 256:=aO
  go_enter Tryz.func9,Tryz.ntmps9
  go_wp2
  go_ret
  exact⟨rfl,rfl⟩
theorem vO(k:RB)(s:MS)(w:World)(h:RM w k s) :
  Calls Tryz.prog 10 #[.pointer (some ⟨k.y,0,none⟩)] w fun e w'=>e=.returned (.bool (zA2 s))∧w=w':=by
 have d3:=h.c3
 go_enter Tryz.func10,Tryz.ntmps10
 go_wp2
 go_loop [10] (fun i=>∃ j:Nat,j≤256∧i=.int .i64 j∧∀ p,p < j→s.T p=false) (fun i=>256 - (intOf i).toNat)
 case atStart=>exact⟨0,by omega,rfl,fun p hp=>by omega⟩
 case round=>
  obtain⟨j,hj,rfl,hf⟩:=hrel
  have HF:Hid (∀ p,p < j→s.T p=false):=hf
  clear hf
  by_cases hlt:j < 256
  ·have c:=h.to j hlt
   have hji:(j:Int) < 256:=aO
   have hj0:(0:Int)≤j:=aO
   cases hT:s.T j
   ·rw[hT] at c
    have HT:Hid (s.T j=false):=hT
    clear hT
    go_wp2
    go_round
    case rel=>exact⟨j+1,by omega,by go_num,fun p hp=>by
     by_cases e:p=j
     ·subst e;exact HT.out
     ·exact HF.out p aO⟩
    case measure=>simp[intOf];omega
   ·rw[hT] at c
    have HE:Hid (zA2 s=true):=decide_eq_true (zGX s.T 256 j hlt hT)
    clear hT
    go_wp2
    go_ret
    exact⟨(congrArg (fun b=>Ending.returned (Value.bool b)) HE.out).symm,rfl⟩
  ·have HE:Hid (zA2 s=false):=by
    have:j=256:=aO
    subst this
    show zA2 s=false
    unfold zA2
    rw[zE0 s.T 256 HF.out];rfl
   go_wp2
   go_ret
   exact⟨(congrArg (fun b=>Ending.returned (Value.bool b)) HE.out).symm,rfl⟩
end Go.Proofs.YthcpipfmicbnmaaGreat.Va
namespace Go.Proofs.YthcpipfmicbnmaaGreat.Ho
open Go.RowKit
set_option maxRecDepth 100000
structure Sm(Mem:Type) where
 val:Int→Int→Nat→Nat→Nat→Nat
 now:(Nat→Nat)→Nat
 load:Mem→Int→Nat→Nat × Int × Nat
 store:Mem→Int→Nat→Nat→Mem × Int × Nat
 tch:Mem→Bool
structure Ex where
 kind:Int
 sk:Int
 arg:Nat
 pc:Nat
 n:Int
structure HS(Mem:Type) where
 R:Nat→Option Nat
 Sp:Nat→Option Nat
 c:Nat→Nat
 m:Mem
inductive HR(Mem:Type)
 | go (h:HS Mem)
 | out (e:Ex) (h:HS Mem)
 | stuck
def HS.set{Mem:Type}(h:HS Mem)(d:Int)(u:Nat):HS Mem:={ h with R:=upd h.R d.toNat (some u) }
def HS.get{Mem:Type}(h:HS Mem)(a:Int):Option Nat:=h.R a.toNat
def yZ{Mem:Type}(S:Sm Mem)(x:Cd)(h:HS Mem):HR Mem:=
 if x.op=2 then .go (h.set x.d x.k)
 else if x.op=6 then .go (h.set x.d (h.c x.n.toNat))
 else if x.op=7 then(match h.get x.a with|none=>.stuck|some u=>.go { h with c:=upd h.c x.n.toNat u })
 else if x.op=8 then(match h.Sp x.n.toNat with|none=>.stuck|some u=>.go (h.set x.d u))
 else if x.op=9 then(match h.get x.a with|none=>.stuck|some u=>.go { h with Sp:=upd h.Sp x.n.toNat (some u) })
 else if x.op=97 then .go (h.set x.d (S.now h.c))
 else if x.op=10 then(if S.tch h.m=true then .out ⟨1,0,0,x.k,x.n⟩ h else .go h)
 else if x.op=11 then(match h.get x.a with|none=>.stuck|some u=>if u≠0 then .out ⟨1,0,0,x.k,x.n⟩ h else .go h)
 else if x.op=12 then .out ⟨2,x.d,x.x,x.k,x.n⟩ h
 else if x.op=13 then(match h.get x.a with|none=>.stuck|some u=>if u≠0 then .out ⟨2,x.d,x.x,x.k,x.n⟩ h else .go h)
 else if x.op=14 then .out ⟨1,0,0,x.k,x.n⟩ h
 else if x.op=4 then(match h.get x.a with|none=>.stuck|some u=>.out ⟨3,0,0,u,x.n⟩ h)
 else if x.op=5 then(match h.get x.a,h.get x.b,h.get x.c with|some a,some b,some c=>.go (h.set x.d (S.val 6 0 a b c))|_,_,_=>.stuck)
 else if 88≤x.op then(match h.get x.a,h.get x.d with|some a,some b=>if(S.store h.m (x.op - 88) a b).2.1=0 then .go { h with m:=(S.store h.m (x.op - 88) a b).1 } else .out ⟨2,(S.store h.m (x.op - 88) a b).2.1,(S.store h.m (x.op - 88) a b).2.2,x.k,x.n⟩ { h with m:=(S.store h.m (x.op - 88) a b).1 }|_,_=>.stuck)
 else if 80≤x.op then(match h.get x.a with|some a=>if(S.load h.m (x.op - 80) a).2.1=0 then .go (h.set x.d (S.load h.m (x.op - 80) a).1) else .out ⟨2,(S.load h.m (x.op - 80) a).2.1,(S.load h.m (x.op - 80) a).2.2,x.k,x.n⟩ h|none=>.stuck)
 else if 64≤x.op then(match h.get x.a with|some a=>.go (h.set x.d (S.val 8 (x.op - 64) a 0 0))|none=>.stuck)
 else if 48≤x.op then(match h.get x.a,h.get x.b,h.get x.c with|some a,some b,some c=>.go (h.set x.d (S.val 7 (x.op - 48) a b c))|_,_,_=>.stuck)
 else if 32≤x.op then(match h.get x.a with|some a=>.go (h.set x.d (S.val 5 (x.op - 32) a 0 0))|none=>.stuck)
 else if 16≤x.op then(match h.get x.a,h.get x.b with|some a,some b=>.go (h.set x.d (S.val 4 (x.op - 16) a b 0))|_,_=>.stuck)
 else .stuck
end Go.Proofs.YthcpipfmicbnmaaGreat.Ho
namespace Go.Proofs.YthcpipfmicbnmaaGreat.Va
open Go.RowKit
set_option maxRecDepth 100000
def ldN(k:Int):Int:=if k=0 then 1 else if k=1 then 1 else if k=2 then 2 else if k=3 then 2 else 4
def ldW(s:MS)(k:Int)(a:Nat):Nat:=if k=1 then unF 2 (ldX s a (ldN k)).toNat else if k=3 then unF 3 (ldX s a (ldN k)).toNat else(ldX s a (ldN k)).toNat
theorem zAL{w:World}{X:Nat}{A:Array Value}{T:TypeId}(h:w.heap[X]?=some (.cells A T))(o:Nat):w.cell? ⟨X,o,none⟩=A[o]?:=cell_of_row _ _ o _ _ (0,0) h
theorem rfr{w:World}{X:Nat}{A:Array Value}{T:TypeId}(h:w.heap[X]?=some (.cells A T))(o:Nat):w.frozen? ⟨X,o,none⟩=false:=frozen_of_row _ _ o _ _ h
theorem rlt{w:World}{X:Nat}{A:Array Value}{T:TypeId}(h:w.heap[X]?=some (.cells A T)):X < w.heap.size:=by
 rcases Nat.lt_or_ge X w.heap.size with g|g
 ·exact g
 ·rw[Array.getElem?_eq_none g] at h;cases h
theorem zAY(w:World)(o:Obj)(b:Nat)(h:b < w.heap.size):(w.alloc o).heap[b]?=w.heap[b]?:=((Below.refl w.heap.size w).alloc aL o).block b h
theorem zAo(s:MS)(a:Nat)(n:Int)(hs:s.Ok)(hn:n=1∨n=2∨n=4):∃ v:Nat,ldX s a n=v∧v < 4294967296:=by
 have h:=zEa s.B a hs.by_ n.toNat
 unfold ldX
 split
 ·refine⟨(ldv s.B a n.toNat).toNat,by omega,?_⟩
  have:(256:Int) ^ n.toNat≤4294967296:=by rcases hn with rfl|rfl|rfl<;>decide
  omega
 ·exact⟨0,rfl,by omega⟩
theorem zQn(k:RB)(a v:Nat)(s:MS)(w:World)(o:Option Nat)(ha:a < 4294967296)(hs:s.Ok)(h:RM w k s)(hx:ldX s a 1=v)(hv:v < 4294967296)(ho:yA s 1 a 1=o) :
  Calls Tryz.prog 54 #[.pointer (some ⟨k.y,0,none⟩),.int .i64 0,.int .u32 a] w fun e w'=>e=.returned (.tuple #[.int .u32 v,.agg #[.int .i64 (vS 5 o),.int .u32 (stA o)]])∧Below w.heap.size w w':=by
 have HC:Hid (∀ W,Below w.heap.size w W→Calls Tryz.prog 71 #[.pointer (some ⟨k.y,0,none⟩),.int .u32 a,.int .i64 1] W fun e w'=>e=.returned (.tuple #[.int .u32 v,.agg #[.int .i64 (vS 5 o),.int .u32 (stA o)]])∧Below W.heap.size W w'):=show ∀ W,_ from fun W hW=>by
  have:=zA8 k a 1 s W ha hs (h.below hW aL)
  rw[hx,show yA s 1 a (1:Int).toNat=o from ho] at this
  exact this
 clear hx ho h hs
 generalize vS 5 o=kk at *
 generalize stA o=aa at *
 go_enter Tryz.func54,Tryz.ntmps54
 go_wp2_with (first
  | (go_at_call 71;refine(HC.out _ ?_).mono ?_;(exact zq1);rintro e w1 ⟨rfl,h1⟩;have HB7:Hid (w1.heap[w.heap.size]?=some (.cells #[.int .i64 0,.int .u32 0] 35)):=(h1.block _ zq7).trans ((zAY _ _ _ aS).trans (heap_alloc_last w _));have HBB:Hid (Below w.heap.size w w1):=(Below.trans zq1 (h1.mono zq7));have q0:w1.cell? ⟨w.heap.size,0,none⟩=some (.int .i64 0):=zAL HB7.out 0;have q1:w1.cell? ⟨w.heap.size,1,none⟩=some (.int .u32 0):=zAL HB7.out 1;have fr:=rfr HB7.out;have l7:=rlt HB7.out;have l7b:=Nat.lt_succ_of_lt l7;clear h1))
 all_goals go_region
 all_goals go_wp2
 all_goals exact bodyPost_ret (v:=.tuple #[.int .u32 v,.agg #[.int .i64 kk,.int .u32 aa]]) zq64 rfl ⟨rfl,by
  have hB:=HBB.out
  (repeat first|with_reducible exact Below.refl _ _|with_reducible exact hB|with_reducible refine Below.drew ?_|with_reducible refine Below.alloc ?_ zq11 _|with_reducible refine Below.setCell ?_ zq11 _)⟩
theorem zQo(k:RB)(a v:Nat)(s:MS)(w:World)(o:Option Nat)(ha:a < 4294967296)(hs:s.Ok)(h:RM w k s)(hx:ldX s a 1=v)(hv:v < 4294967296)(ho:yA s 1 a 1=o) :
  Calls Tryz.prog 54 #[.pointer (some ⟨k.y,0,none⟩),.int .i64 1,.int .u32 a] w fun e w'=>e=.returned (.tuple #[.int .u32 (unF 2 v:Nat),.agg #[.int .i64 (vS 5 o),.int .u32 (stA o)]])∧Below w.heap.size w w':=by
 have HC:Hid (∀ W,Below w.heap.size w W→Calls Tryz.prog 71 #[.pointer (some ⟨k.y,0,none⟩),.int .u32 a,.int .i64 1] W fun e w'=>e=.returned (.tuple #[.int .u32 v,.agg #[.int .i64 (vS 5 o),.int .u32 (stA o)]])∧Below W.heap.size W w'):=show ∀ W,_ from fun W hW=>by
  have:=zA8 k a 1 s W ha hs (h.below hW aL)
  rw[hx,show yA s 1 a (1:Int).toNat=o from ho] at this
  exact this
 clear hx ho h hs
 generalize vS 5 o=kk at *
 generalize stA o=aa at *
 go_enter Tryz.func54,Tryz.ntmps54
 go_wp2_with (first
  | (go_at_call 71;refine(HC.out _ ?_).mono ?_;(exact zq1);rintro e w1 ⟨rfl,h1⟩;have HB7:Hid (w1.heap[w.heap.size]?=some (.cells #[.int .i64 0,.int .u32 0] 35)):=(h1.block _ zq7).trans ((zAY _ _ _ aS).trans (heap_alloc_last w _));have HBB:Hid (Below w.heap.size w w1):=(Below.trans zq1 (h1.mono zq7));have q0:w1.cell? ⟨w.heap.size,0,none⟩=some (.int .i64 0):=zAL HB7.out 0;have q1:w1.cell? ⟨w.heap.size,1,none⟩=some (.int .u32 0):=zAL HB7.out 1;have fr:=rfr HB7.out;have l7:=rlt HB7.out;have l7b:=Nat.lt_succ_of_lt l7;clear h1)
  | (go_at_call 72;refine(zEq 2 v _ hv aD).mono ?_;rintro e w2 ⟨rfl,rfl⟩))
 all_goals go_region
 all_goals go_wp2
 all_goals exact bodyPost_ret (v:=.tuple #[.int .u32 (unF 2 v:Nat),.agg #[.int .i64 kk,.int .u32 aa]]) zq64 rfl ⟨rfl,by
  have hB:=HBB.out
  (repeat first|with_reducible exact Below.refl _ _|with_reducible exact hB|with_reducible refine Below.drew ?_|with_reducible refine Below.alloc ?_ zq11 _|with_reducible refine Below.setCell ?_ zq11 _)⟩
theorem zQp(k:RB)(a v:Nat)(s:MS)(w:World)(o:Option Nat)(ha:a < 4294967296)(hs:s.Ok)(h:RM w k s)(hx:ldX s a 2=v)(hv:v < 4294967296)(ho:yA s 1 a 2=o) :
  Calls Tryz.prog 54 #[.pointer (some ⟨k.y,0,none⟩),.int .i64 2,.int .u32 a] w fun e w'=>e=.returned (.tuple #[.int .u32 v,.agg #[.int .i64 (vS 5 o),.int .u32 (stA o)]])∧Below w.heap.size w w':=by
 have HC:Hid (∀ W,Below w.heap.size w W→Calls Tryz.prog 71 #[.pointer (some ⟨k.y,0,none⟩),.int .u32 a,.int .i64 2] W fun e w'=>e=.returned (.tuple #[.int .u32 v,.agg #[.int .i64 (vS 5 o),.int .u32 (stA o)]])∧Below W.heap.size W w'):=show ∀ W,_ from fun W hW=>by
  have:=zA8 k a 2 s W ha hs (h.below hW aL)
  rw[hx,show yA s 1 a (2:Int).toNat=o from ho] at this
  exact this
 clear hx ho h hs
 generalize vS 5 o=kk at *
 generalize stA o=aa at *
 go_enter Tryz.func54,Tryz.ntmps54
 go_wp2_with (first
  | (go_at_call 71;refine(HC.out _ ?_).mono ?_;(exact zq1);rintro e w1 ⟨rfl,h1⟩;have HB7:Hid (w1.heap[w.heap.size]?=some (.cells #[.int .i64 0,.int .u32 0] 35)):=(h1.block _ zq7).trans ((zAY _ _ _ aS).trans (heap_alloc_last w _));have HBB:Hid (Below w.heap.size w w1):=(Below.trans zq1 (h1.mono zq7));have q0:w1.cell? ⟨w.heap.size,0,none⟩=some (.int .i64 0):=zAL HB7.out 0;have q1:w1.cell? ⟨w.heap.size,1,none⟩=some (.int .u32 0):=zAL HB7.out 1;have fr:=rfr HB7.out;have l7:=rlt HB7.out;have l7b:=Nat.lt_succ_of_lt l7;clear h1))
 all_goals go_region
 all_goals go_wp2
 all_goals exact bodyPost_ret (v:=.tuple #[.int .u32 v,.agg #[.int .i64 kk,.int .u32 aa]]) zq64 rfl ⟨rfl,by
  have hB:=HBB.out
  (repeat first|with_reducible exact Below.refl _ _|with_reducible exact hB|with_reducible refine Below.drew ?_|with_reducible refine Below.alloc ?_ zq11 _|with_reducible refine Below.setCell ?_ zq11 _)⟩
theorem zQq(k:RB)(a v:Nat)(s:MS)(w:World)(o:Option Nat)(ha:a < 4294967296)(hs:s.Ok)(h:RM w k s)(hx:ldX s a 2=v)(hv:v < 4294967296)(ho:yA s 1 a 2=o) :
  Calls Tryz.prog 54 #[.pointer (some ⟨k.y,0,none⟩),.int .i64 3,.int .u32 a] w fun e w'=>e=.returned (.tuple #[.int .u32 (unF 3 v:Nat),.agg #[.int .i64 (vS 5 o),.int .u32 (stA o)]])∧Below w.heap.size w w':=by
 have HC:Hid (∀ W,Below w.heap.size w W→Calls Tryz.prog 71 #[.pointer (some ⟨k.y,0,none⟩),.int .u32 a,.int .i64 2] W fun e w'=>e=.returned (.tuple #[.int .u32 v,.agg #[.int .i64 (vS 5 o),.int .u32 (stA o)]])∧Below W.heap.size W w'):=show ∀ W,_ from fun W hW=>by
  have:=zA8 k a 2 s W ha hs (h.below hW aL)
  rw[hx,show yA s 1 a (2:Int).toNat=o from ho] at this
  exact this
 clear hx ho h hs
 generalize vS 5 o=kk at *
 generalize stA o=aa at *
 go_enter Tryz.func54,Tryz.ntmps54
 go_wp2_with (first
  | (go_at_call 71;refine(HC.out _ ?_).mono ?_;(exact zq1);rintro e w1 ⟨rfl,h1⟩;have HB7:Hid (w1.heap[w.heap.size]?=some (.cells #[.int .i64 0,.int .u32 0] 35)):=(h1.block _ zq7).trans ((zAY _ _ _ aS).trans (heap_alloc_last w _));have HBB:Hid (Below w.heap.size w w1):=(Below.trans zq1 (h1.mono zq7));have q0:w1.cell? ⟨w.heap.size,0,none⟩=some (.int .i64 0):=zAL HB7.out 0;have q1:w1.cell? ⟨w.heap.size,1,none⟩=some (.int .u32 0):=zAL HB7.out 1;have fr:=rfr HB7.out;have l7:=rlt HB7.out;have l7b:=Nat.lt_succ_of_lt l7;clear h1)
  | (go_at_call 72;refine(zEq 3 v _ hv aD).mono ?_;rintro e w2 ⟨rfl,rfl⟩))
 all_goals go_region
 all_goals go_wp2
 all_goals exact bodyPost_ret (v:=.tuple #[.int .u32 (unF 3 v:Nat),.agg #[.int .i64 kk,.int .u32 aa]]) zq64 rfl ⟨rfl,by
  have hB:=HBB.out
  (repeat first|with_reducible exact Below.refl _ _|with_reducible exact hB|with_reducible refine Below.drew ?_|with_reducible refine Below.alloc ?_ zq11 _|with_reducible refine Below.setCell ?_ zq11 _)⟩
theorem zQr(k:RB)(a v:Nat)(s:MS)(w:World)(o:Option Nat)(ha:a < 4294967296)(hs:s.Ok)(h:RM w k s)(hx:ldX s a 4=v)(hv:v < 4294967296)(ho:yA s 1 a 4=o) :
  Calls Tryz.prog 54 #[.pointer (some ⟨k.y,0,none⟩),.int .i64 4,.int .u32 a] w fun e w'=>e=.returned (.tuple #[.int .u32 v,.agg #[.int .i64 (vS 5 o),.int .u32 (stA o)]])∧Below w.heap.size w w':=by
 have HC:Hid (∀ W,Below w.heap.size w W→Calls Tryz.prog 71 #[.pointer (some ⟨k.y,0,none⟩),.int .u32 a,.int .i64 4] W fun e w'=>e=.returned (.tuple #[.int .u32 v,.agg #[.int .i64 (vS 5 o),.int .u32 (stA o)]])∧Below W.heap.size W w'):=show ∀ W,_ from fun W hW=>by
  have:=zA8 k a 4 s W ha hs (h.below hW aL)
  rw[hx,show yA s 1 a (4:Int).toNat=o from ho] at this
  exact this
 clear hx ho h hs
 generalize vS 5 o=kk at *
 generalize stA o=aa at *
 go_enter Tryz.func54,Tryz.ntmps54
 go_wp2_with (first
  | (go_at_call 71;refine(HC.out _ ?_).mono ?_;(exact zq1);rintro e w1 ⟨rfl,h1⟩;have HB7:Hid (w1.heap[w.heap.size]?=some (.cells #[.int .i64 0,.int .u32 0] 35)):=(h1.block _ zq7).trans ((zAY _ _ _ aS).trans (heap_alloc_last w _));have HBB:Hid (Below w.heap.size w w1):=(Below.trans zq1 (h1.mono zq7));have q0:w1.cell? ⟨w.heap.size,0,none⟩=some (.int .i64 0):=zAL HB7.out 0;have q1:w1.cell? ⟨w.heap.size,1,none⟩=some (.int .u32 0):=zAL HB7.out 1;have fr:=rfr HB7.out;have l7:=rlt HB7.out;have l7b:=Nat.lt_succ_of_lt l7;clear h1))
 all_goals go_region
 all_goals go_wp2
 all_goals exact bodyPost_ret (v:=.tuple #[.int .u32 v,.agg #[.int .i64 kk,.int .u32 aa]]) zq64 rfl ⟨rfl,by
  have hB:=HBB.out
  (repeat first|with_reducible exact Below.refl _ _|with_reducible exact hB|with_reducible refine Below.drew ?_|with_reducible refine Below.alloc ?_ zq11 _|with_reducible refine Below.setCell ?_ zq11 _)⟩
theorem zPr(a:Nat)(ha:a < 4294967296):wrap32 ((a:Int)*16777216%4294967296) / 16777216%4294967296=((unF 2 a:Nat):Int):=by
 have hw:wrap32 ((a*16777216%4294967296:Nat):Int)=Fl.vP (a*16777216%4294967296:Nat):=zAd _ aO
 rw[show((a:Int)*16777216%4294967296)=((a*16777216%4294967296:Nat):Int) by omega,hw]
 unfold Fl.vP unF
 simp only[show(2:Int)=0↔False by decide,show(2:Int)=1↔False by decide,if_false,if_true]
 split<;>split<;>omega
theorem zNv(a:Nat)(ha:a < 4294967296):wrap32 ((a:Int)*65536%4294967296) / 65536%4294967296=((unF 3 a:Nat):Int):=by
 have hw:wrap32 ((a*65536%4294967296:Nat):Int)=Fl.vP (a*65536%4294967296:Nat):=zAd _ aO
 rw[show((a:Int)*65536%4294967296)=((a*65536%4294967296:Nat):Int) by omega,hw]
 unfold Fl.vP unF
 simp only[show(3:Int)=0↔False by decide,show(3:Int)=1↔False by decide,show(3:Int)=2↔False by decide,if_false,if_true]
 split<;>split<;>omega
theorem zQf(X:Nat)(a v:Nat)(s:MS)(w:World)(o:Option Nat)(ha:a < 4294967296)(hs:s.Ok)(h:PM w X s)(hx:ldX s a 1=v)(hv:v < 4294967296)(ho:yA s 1 a 1=o) :
  Calls Tryz.prog 82 #[.pointer (some ⟨X,0,none⟩),.int .i64 0,.int .u32 a] w fun e w'=>e=.returned (.tuple #[.int .u32 v,.agg #[.int .i64 (vS 5 o),.int .u32 (stA o)]])∧Below w.heap.size w w':=
 zPJ X a v s w o ha hs h hx hv ho
theorem zQg(X:Nat)(a v:Nat)(s:MS)(w:World)(o:Option Nat)(ha:a < 4294967296)(hs:s.Ok)(h:PM w X s)(hx:ldX s a 1=v)(hv:v < 4294967296)(ho:yA s 1 a 1=o) :
  Calls Tryz.prog 82 #[.pointer (some ⟨X,0,none⟩),.int .i64 1,.int .u32 a] w fun e w'=>e=.returned (.tuple #[.int .u32 (unF 2 v:Nat),.agg #[.int .i64 (vS 5 o),.int .u32 (stA o)]])∧Below w.heap.size w w':=
 zPK X a v s w o ha hs h hx hv ho _ (zPr v hv)
theorem zQh(X:Nat)(a v:Nat)(s:MS)(w:World)(o:Option Nat)(ha:a < 4294967296)(hs:s.Ok)(h:PM w X s)(hx:ldX s a 2=v)(hv:v < 4294967296)(ho:yA s 1 a 2=o) :
  Calls Tryz.prog 82 #[.pointer (some ⟨X,0,none⟩),.int .i64 2,.int .u32 a] w fun e w'=>e=.returned (.tuple #[.int .u32 v,.agg #[.int .i64 (vS 5 o),.int .u32 (stA o)]])∧Below w.heap.size w w':=
 zPL X a v s w o ha hs h hx hv ho
theorem zQi(X:Nat)(a v:Nat)(s:MS)(w:World)(o:Option Nat)(ha:a < 4294967296)(hs:s.Ok)(h:PM w X s)(hx:ldX s a 2=v)(hv:v < 4294967296)(ho:yA s 1 a 2=o) :
  Calls Tryz.prog 82 #[.pointer (some ⟨X,0,none⟩),.int .i64 3,.int .u32 a] w fun e w'=>e=.returned (.tuple #[.int .u32 (unF 3 v:Nat),.agg #[.int .i64 (vS 5 o),.int .u32 (stA o)]])∧Below w.heap.size w w':=
 zPM X a v s w o ha hs h hx hv ho _ (zNv v hv)
theorem zQj(X:Nat)(a v:Nat)(s:MS)(w:World)(o:Option Nat)(ha:a < 4294967296)(hs:s.Ok)(h:PM w X s)(hx:ldX s a 4=v)(hv:v < 4294967296)(ho:yA s 1 a 4=o) :
  Calls Tryz.prog 82 #[.pointer (some ⟨X,0,none⟩),.int .i64 4,.int .u32 a] w fun e w'=>e=.returned (.tuple #[.int .u32 v,.agg #[.int .i64 (vS 5 o),.int .u32 (stA o)]])∧Below w.heap.size w w':=
 zPN X a v s w o ha hs h hx hv ho
theorem zQt(k:RB)(a v:Nat)(s:MS)(w:World)(o:Option Nat)(ha:a < 4294967296)(hv:v < 4294967296)(hs:s.Ok)(h:RM w k s)(ho:sto s a 1=o) :
  Calls Tryz.prog 56 #[.pointer (some ⟨k.y,0,none⟩),.int .i64 0,.int .u32 a,.int .u32 v] w fun e w'=>e=.returned (.agg #[.int .i64 (vS 6 o),.int .u32 (stA o)])∧RM w' k (storeT s a 1 v)∧zI k.all w w':=by
 have HC:Hid (∀ W,Below w.heap.size w W→Calls Tryz.prog 73 #[.pointer (some ⟨k.y,0,none⟩),.int .u32 a,.int .i64 1,.int .u32 v] W fun e w'=>e=.returned (.agg #[.int .i64 (vS 6 o),.int .u32 (stA o)])∧RM w' k (storeT s a 1 v)∧zI k.all W w'):=show ∀ W,_ from fun W hW=>by
  have:=zBP k a v 1 s W ha hv hs (h.below hW aL)
  rw[ho] at this
  exact this
 have HX:Hid (∀ x∈k.y :: k.all,x < w.heap.size):=h.lt
 clear ho h hs
 generalize vS 6 o=kk at *
 generalize stA o=aa at *
 go_enter Tryz.func56,Tryz.ntmps56
 go_wp2_with (first
  | (go_at_call 73;refine(HC.out _ ?_).mono ?_;(exact zq1);rintro e w1 ⟨rfl,hp,hc⟩;have HPM:Hid _:=hp;have hXl:=HX.out;have HB8:Hid (w1.heap[w.heap.size]?=some (.cells #[.int .i64 0,.int .u32 0] 35)):=(hc.block _ zq7 (fun hm=>Nat.lt_irrefl _ (hXl _ (aM _ hm)))).trans ((zAY _ _ _ aS).trans (heap_alloc_last w _));have HCH:Hid _:=hc;have q0:w1.cell? ⟨w.heap.size,0,none⟩=some (.int .i64 0):=zAL HB8.out 0;have q1:w1.cell? ⟨w.heap.size,1,none⟩=some (.int .u32 0):=zAL HB8.out 1;have fr:=rfr HB8.out;have l8:=rlt HB8.out;clear hp hc))
 exact bodyPost_ret (v:=.agg #[.int .i64 kk,.int .u32 aa]) (by simp[results,Tryz.results56,go_sem,q0,q1,fr,l8]) rfl ⟨rfl,HPM.out.of_blocks fun x hx=>(Below.heap_setCell _ _ _ x (Nat.ne_of_lt (HX.out x hx))).trans (Below.heap_setCell _ _ _ x (Nat.ne_of_lt (HX.out x hx))),zI.new (zI.trans (zI.of_below k.all (((Below.refl w.heap.size w).alloc aL _).alloc aS _)) HCH.out) aL (((zAA.refl _ w1).setCell 0 _).setCell 1 _)⟩
theorem zQu(k:RB)(a v:Nat)(s:MS)(w:World)(o:Option Nat)(ha:a < 4294967296)(hv:v < 4294967296)(hs:s.Ok)(h:RM w k s)(ho:sto s a 2=o) :
  Calls Tryz.prog 56 #[.pointer (some ⟨k.y,0,none⟩),.int .i64 1,.int .u32 a,.int .u32 v] w fun e w'=>e=.returned (.agg #[.int .i64 (vS 6 o),.int .u32 (stA o)])∧RM w' k (storeT s a 2 v)∧zI k.all w w':=by
 have HC:Hid (∀ W,Below w.heap.size w W→Calls Tryz.prog 73 #[.pointer (some ⟨k.y,0,none⟩),.int .u32 a,.int .i64 2,.int .u32 v] W fun e w'=>e=.returned (.agg #[.int .i64 (vS 6 o),.int .u32 (stA o)])∧RM w' k (storeT s a 2 v)∧zI k.all W w'):=show ∀ W,_ from fun W hW=>by
  have:=zBP k a v 2 s W ha hv hs (h.below hW aL)
  rw[ho] at this
  exact this
 have HX:Hid (∀ x∈k.y :: k.all,x < w.heap.size):=h.lt
 clear ho h hs
 generalize vS 6 o=kk at *
 generalize stA o=aa at *
 go_enter Tryz.func56,Tryz.ntmps56
 go_wp2_with (first
  | (go_at_call 73;refine(HC.out _ ?_).mono ?_;(exact zq1);rintro e w1 ⟨rfl,hp,hc⟩;have HPM:Hid _:=hp;have hXl:=HX.out;have HB8:Hid (w1.heap[w.heap.size]?=some (.cells #[.int .i64 0,.int .u32 0] 35)):=(hc.block _ zq7 (fun hm=>Nat.lt_irrefl _ (hXl _ (aM _ hm)))).trans ((zAY _ _ _ aS).trans (heap_alloc_last w _));have HCH:Hid _:=hc;have q0:w1.cell? ⟨w.heap.size,0,none⟩=some (.int .i64 0):=zAL HB8.out 0;have q1:w1.cell? ⟨w.heap.size,1,none⟩=some (.int .u32 0):=zAL HB8.out 1;have fr:=rfr HB8.out;have l8:=rlt HB8.out;clear hp hc))
 exact bodyPost_ret (v:=.agg #[.int .i64 kk,.int .u32 aa]) (by simp[results,Tryz.results56,go_sem,q0,q1,fr,l8]) rfl ⟨rfl,HPM.out.of_blocks fun x hx=>(Below.heap_setCell _ _ _ x (Nat.ne_of_lt (HX.out x hx))).trans (Below.heap_setCell _ _ _ x (Nat.ne_of_lt (HX.out x hx))),zI.new (zI.trans (zI.of_below k.all (((Below.refl w.heap.size w).alloc aL _).alloc aS _)) HCH.out) aL (((zAA.refl _ w1).setCell 0 _).setCell 1 _)⟩
theorem zQv(k:RB)(a v:Nat)(s:MS)(w:World)(o:Option Nat)(ha:a < 4294967296)(hv:v < 4294967296)(hs:s.Ok)(h:RM w k s)(ho:sto s a 4=o) :
  Calls Tryz.prog 56 #[.pointer (some ⟨k.y,0,none⟩),.int .i64 2,.int .u32 a,.int .u32 v] w fun e w'=>e=.returned (.agg #[.int .i64 (vS 6 o),.int .u32 (stA o)])∧RM w' k (storeT s a 4 v)∧zI k.all w w':=by
 have HC:Hid (∀ W,Below w.heap.size w W→Calls Tryz.prog 73 #[.pointer (some ⟨k.y,0,none⟩),.int .u32 a,.int .i64 4,.int .u32 v] W fun e w'=>e=.returned (.agg #[.int .i64 (vS 6 o),.int .u32 (stA o)])∧RM w' k (storeT s a 4 v)∧zI k.all W w'):=show ∀ W,_ from fun W hW=>by
  have:=zBP k a v 4 s W ha hv hs (h.below hW aL)
  rw[ho] at this
  exact this
 have HX:Hid (∀ x∈k.y :: k.all,x < w.heap.size):=h.lt
 clear ho h hs
 generalize vS 6 o=kk at *
 generalize stA o=aa at *
 go_enter Tryz.func56,Tryz.ntmps56
 go_wp2_with (first
  | (go_at_call 73;refine(HC.out _ ?_).mono ?_;(exact zq1);rintro e w1 ⟨rfl,hp,hc⟩;have HPM:Hid _:=hp;have hXl:=HX.out;have HB8:Hid (w1.heap[w.heap.size]?=some (.cells #[.int .i64 0,.int .u32 0] 35)):=(hc.block _ zq7 (fun hm=>Nat.lt_irrefl _ (hXl _ (aM _ hm)))).trans ((zAY _ _ _ aS).trans (heap_alloc_last w _));have HCH:Hid _:=hc;have q0:w1.cell? ⟨w.heap.size,0,none⟩=some (.int .i64 0):=zAL HB8.out 0;have q1:w1.cell? ⟨w.heap.size,1,none⟩=some (.int .u32 0):=zAL HB8.out 1;have fr:=rfr HB8.out;have l8:=rlt HB8.out;clear hp hc))
 exact bodyPost_ret (v:=.agg #[.int .i64 kk,.int .u32 aa]) (by simp[results,Tryz.results56,go_sem,q0,q1,fr,l8]) rfl ⟨rfl,HPM.out.of_blocks fun x hx=>(Below.heap_setCell _ _ _ x (Nat.ne_of_lt (HX.out x hx))).trans (Below.heap_setCell _ _ _ x (Nat.ne_of_lt (HX.out x hx))),zI.new (zI.trans (zI.of_below k.all (((Below.refl w.heap.size w).alloc aL _).alloc aS _)) HCH.out) aL (((zAA.refl _ w1).setCell 0 _).setCell 1 _)⟩
theorem zQk(X:Nat)(a v:Nat)(s:MS)(w:World)(o:Option Nat)(ha:a < 4294967296)(hv:v < 4294967296)(hs:s.Ok)(h:PM w X s)(ho:sto s a 1=o) :
  Calls Tryz.prog 83 #[.pointer (some ⟨X,0,none⟩),.int .i64 0,.int .u32 a,.int .u32 v] w fun e w'=>e=.returned (.agg #[.int .i64 (vS 6 o),.int .u32 (stA o)])∧PM w' X (storeT s a 1 v)∧zI [X] w w':=
 zPO X a v s w o ha hv hs h ho
theorem zQl(X:Nat)(a v:Nat)(s:MS)(w:World)(o:Option Nat)(ha:a < 4294967296)(hv:v < 4294967296)(hs:s.Ok)(h:PM w X s)(ho:sto s a 2=o) :
  Calls Tryz.prog 83 #[.pointer (some ⟨X,0,none⟩),.int .i64 1,.int .u32 a,.int .u32 v] w fun e w'=>e=.returned (.agg #[.int .i64 (vS 6 o),.int .u32 (stA o)])∧PM w' X (storeT s a 2 v)∧zI [X] w w':=
 zPP X a v s w o ha hv hs h ho
theorem zQm(X:Nat)(a v:Nat)(s:MS)(w:World)(o:Option Nat)(ha:a < 4294967296)(hv:v < 4294967296)(hs:s.Ok)(h:PM w X s)(ho:sto s a 4=o) :
  Calls Tryz.prog 83 #[.pointer (some ⟨X,0,none⟩),.int .i64 2,.int .u32 a,.int .u32 v] w fun e w'=>e=.returned (.agg #[.int .i64 (vS 6 o),.int .u32 (stA o)])∧PM w' X (storeT s a 4 v)∧zI [X] w w':=
 zPQ X a v s w o ha hv hs h ho
theorem zGQ(a b:Nat)(c:Int):0≤Fl.zBa a b c∧Fl.zBa a b c≤15:=by
 have h1:=Fl.yV (((a:Int)+b+c)%4294967296)
 have h2:=Fl.yR (decide (4294967296≤(a:Int)+b+c)) 4 aO
 have h3:=Fl.yR (Fl.uC (Fl.vP a+Fl.vP b+c)) 8 aO
 unfold Fl.zBa;omega
theorem zHg(a b:Nat)(c:Int):0≤Fl.zBi a b c∧Fl.zBi a b c≤15:=by
 have h1:=Fl.yV (((a:Int) - b - c)%4294967296)
 have h2:=Fl.yR (decide ((a:Int) - b - c < 0)) 4 aO
 have h3:=Fl.yR (Fl.uC (Fl.vP a - Fl.vP b - c)) 8 aO
 unfold Fl.zBi;omega
theorem zLf(a b:Nat):0≤Fl.zBG a b∧Fl.zBG a b≤15:=by
 have h1:=Fl.yV ((a*b%4294967296:Nat):Int)
 have h2:=Fl.yR (decide (4294967296≤a*b)) 12 aO
 unfold Fl.zBG;omega
theorem zK7(a old:Nat):0≤Fl.zDD a old∧Fl.zDD a old≤15:=by
 have h1:=Fl.yV (((a:Int)+1)%4294967296)
 have h2:=Fl.zAM old
 have h3:=Fl.yR (Fl.uC (Fl.vP a+1)) 8 aO
 unfold Fl.zDD;omega
theorem zKC(a old:Nat):0≤Fl.zDC a old∧Fl.zDC a old≤15:=by
 have h1:=Fl.yV (((a:Int) - 1)%4294967296)
 have h2:=Fl.zAM old
 have h3:=Fl.yR (Fl.uC (Fl.vP a - 1)) 8 aO
 unfold Fl.zDC;omega
theorem zLw(a n:Nat):0≤Fl.zCf a n∧Fl.zCf a n≤15:=by
 have h1:=Fl.yV ((a*2 ^ n%4294967296:Nat):Int)
 have h2:=Fl.yR (a*2 ^ n / 4294967296%2==1) 4 aO
 unfold Fl.zCf;omega
theorem zLx(a n:Nat):0≤Fl.zCg a n∧Fl.zCg a n≤15:=by
 have h1:=Fl.yV ((a:Int) / 2 ^ n)
 have h2:=Fl.yR ((a:Int) / 2 ^ (n - 1)%2==1) 4 aO
 unfold Fl.zCg;omega
theorem zLt(a n:Nat):0≤Fl.zCe a n∧Fl.zCe a n≤15:=by
 have h1:=Fl.yV (Fl.vP a / 2 ^ (n - 1) / 2%4294967296)
 have h2:=Fl.yR (Fl.vP a / 2 ^ (n - 1)%4294967296%2==1) 4 aO
 unfold Fl.zCe;omega
theorem zLs(a n old:Nat):0≤Fl.zBH a n old∧Fl.zBH a n old≤15:=by
 have h2:=Fl.yR (Fl.vT n a%2==1) 4 aO
 unfold Fl.zBH Fl.vM;omega
theorem zBD(k:Int)(a b old:Nat):0≤Fl.zN k a b old∧Fl.zN k a b old≤15:=by
 unfold Fl.zN
 by_cases h1:k=1
 ·rw[if_pos h1];exact zGQ ..
 rw[if_neg h1]
 by_cases h2:k=2
 ·rw[if_pos h2];exact zGQ ..
 rw[if_neg h2]
 by_cases h3:k=3
 ·rw[if_pos h3];exact zHg ..
 rw[if_neg h3]
 by_cases h4:k=4
 ·rw[if_pos h4];exact zHg ..
 rw[if_neg h4]
 by_cases h5:k=5
 ·rw[if_pos h5];have:=Fl.yV a;omega
 rw[if_neg h5]
 by_cases h6:k=10
 ·rw[if_pos h6];exact zLf ..
 rw[if_neg h6]
 by_cases h7:k=11
 ·rw[if_pos h7];exact zK7 ..
 rw[if_neg h7]
 by_cases h8:k=12
 ·rw[if_pos h8];exact zKC ..
 rw[if_neg h8]
 by_cases h9:(k=6∨k=7∨k=8∨k=9)∧0 < b%32
 ·rw[if_pos h9]
  by_cases g1:k=6
  ·rw[if_pos g1];exact zLw ..
  rw[if_neg g1]
  by_cases g2:k=7
  ·rw[if_pos g2];exact zLx ..
  rw[if_neg g2]
  by_cases g3:k=8
  ·rw[if_pos g3];exact zLt ..
  rw[if_neg g3]
  exact zLs ..
 ·rw[if_neg h9];omega
theorem uO:∀ (n:Nat) (x:Int),0≤x→x < 4294967296→0≤Fl.vT n x∧Fl.vT n x < 4294967296
 | 0,x,h0,h1=>⟨h0,h1⟩
 | n+1,x,h0,h1=>uO n _ (Fl.zB0 x h0 h1).1 (Fl.zB0 x h0 h1).2
theorem zLo(o:Int)(a b f:Nat)(ha:a < 4294967296)(hb:b < 4294967296):0≤Fl.vG o a b f∧Fl.vG o a b f < 4294967296:=by
 have hbit:=Fl.zBw o a b ha hb
 unfold Fl.vG
 by_cases h1:o=0
 ·rw[if_pos h1];omega
 rw[if_neg h1]
 by_cases h2:o=1
 ·rw[if_pos h2];omega
 rw[if_neg h2]
 by_cases h3:o=2
 ·rw[if_pos h3];omega
 rw[if_neg h3]
 by_cases h4:o=3
 ·rw[if_pos h4];omega
 rw[if_neg h4]
 by_cases h5:o=4∨o=5∨o=6
 ·rw[if_pos h5];omega
 rw[if_neg h5]
 by_cases h6:o=7∨o=8
 ·rw[if_pos h6];omega
 rw[if_neg h6]
 by_cases h7:o=9
 ·rw[if_pos h7]
  have:=Nat.mod_lt (a*2 ^ (b%32)) (show 0 < 4294967296 by omega)
  omega
 rw[if_neg h7]
 by_cases h8:o=10
 ·rw[if_pos h8]
  have e:(a:Int) / 2 ^ (b%32)=((a / 2 ^ (b%32):Nat):Int):=by push_cast;rfl
  have:=Nat.div_le_self a (2 ^ (b%32))
  rw[e];exact⟨Int.natCast_nonneg _,by have h2:=Int.ofNat_le.2 this;omega⟩
 rw[if_neg h8]
 by_cases h9:o=11
 ·rw[if_pos h9];omega
 rw[if_neg h9]
 by_cases h10:o=12
 ·rw[if_pos h10];exact uO _ _ aO aO
 rw[if_neg h10]
 by_cases h11:o=13
 ·rw[if_pos h11]
  have:=Nat.mod_lt (a*b) (show 0 < 4294967296 by omega)
  omega
 rw[if_neg h11]
 by_cases h12:o=14∧0 < b
 ·rw[if_pos h12]
  have h2:=Int.ofNat_le.2 (Nat.div_le_self a b)
  exact⟨Int.natCast_nonneg _,by omega⟩
 rw[if_neg h12]
 by_cases h13:o=15∧0 < b
 ·rw[if_pos h13]
  have:=Nat.mod_le a b
  omega
 rw[if_neg h13];omega
def stN(w:Int):Int:=if w=0 then 1 else if w=1 then 2 else 4
theorem zKk(b:Bool):0≤Fl.uH b 1∧Fl.uH b 1 < 4294967296:=by have:=Fl.yR b 1 aO;omega
theorem zKo(w:Int)(a b:Nat)(ha:a < 4294967296)(hb:b < 4294967296):0≤yX w a b∧yX w a b < 4294967296:=by
 have hm:=zIx a b ha hb
 unfold yX
 by_cases h1:w < 10
 ·rw[if_pos h1];exact zLo _ a b 0 ha hb
 rw[if_neg h1]
 by_cases h2:w=10
 ·rw[if_pos h2]
  have:a*b / 4294967296 < 4294967296:=Nat.div_lt_of_lt_mul aO
  omega
 rw[if_neg h2]
 by_cases h3:w=11
 ·rw[if_pos h3];split
  ·omega
  ·have h9:=Nat.div_le_self a b
   generalize a / b=d at h9 ⊢
   omega
 rw[if_neg h3]
 by_cases h4:w=12
 ·rw[if_pos h4];split
  ·omega
  ·have h9:=Nat.mod_le a b
   generalize a%b=d at h9 ⊢
   omega
 rw[if_neg h4]
 by_cases h5:w=13
 ·rw[if_pos h5];exact zKk _
 rw[if_neg h5]
 by_cases h6:w=14
 ·rw[if_pos h6];exact zKk _
 rw[if_neg h6];exact zKk _
theorem zFZ(w:Int)(a:Nat)(ha:a < 4294967296):unF w a < 4294967296:=by
 unfold unF
 repeat' split
 all_goals omega
theorem zFe(o:OpR)(c:Nat→Nat)(a b d:Nat)(hc:zA0 c)(ha:a < 4294967296)(hb:b < 4294967296)(hd:d < 4294967296)(hk:o.k < 4294967296):0≤zC5 o c a b d∧zC5 o c a b d < 4294967296:=by
 unfold zC5 yC
 by_cases h1:o.kind=2
 ·rw[if_pos h1];have:=hc o.w.toNat;omega
 rw[if_neg h1]
 by_cases h2:o.kind=17
 ·rw[if_pos h2];have:=zBD (c 8) (c 9) (c 10) (c 11);exact⟨this.1,by unfold cxF;omega⟩
 rw[if_neg h2]
 by_cases h3:o.kind=1
 ·rw[if_pos h3];omega
 rw[if_neg h3]
 by_cases h4:o.kind=4
 ·rw[if_pos h4];exact zKo _ _ _ ha hb
 rw[if_neg h4]
 by_cases h5:o.kind=5
 ·rw[if_pos h5];have:=zFZ o.w a ha;omega
 rw[if_neg h5]
 by_cases h6:o.kind=6
 ·rw[if_pos h6];split<;>omega
 rw[if_neg h6]
 by_cases h7:o.kind=7
 ·rw[if_pos h7];have:=zBD o.w a b d;omega
 rw[if_neg h7];exact zKk _
theorem zIw(s:MS)(k:Int)(a:Nat)(hs:s.Ok):ldW s k a < 4294967296:=by
 have hn:ldN k=1∨ldN k=2∨ldN k=4:=by
   unfold ldN;repeat' split
   all_goals omega
 obtain⟨x,e,hx⟩:=zAo s a (ldN k) hs hn
 unfold ldW
 rw[e]
 split
 ·exact zFZ _ _ aO
 ·split
  ·exact zFZ _ _ aO
  ·omega
structure zFT(n:Nat)(o:OpR):Prop where
 k1:1≤o.kind
 k2:o.kind≤17
 lo:(rr o.kind).lo≤o.w
 hi:o.w≤(rr o.kind).hi
 a:0≤o.a∧o.a < n
 b:o.kind≠14→0≤o.b∧o.b < n
 b14:o.kind=14→0≤o.b∧o.b≤4294967295
 c:0≤o.c∧o.c < n
theorem zLW{k:Int}(h:0≤k∧k≤4):k=0∨k=1∨k=2∨k=3∨k=4:=aO
theorem zLV{k:Int}(h:0≤k∧k≤2):k=0∨k=1∨k=2:=aO
theorem zG9(X:Nat)(a:Nat)(g:Int)(s:MS)(w:World)(ha:a < 4294967296)(hs:s.Ok)(h:PM w X s)(hg:0≤g∧g≤4) :
  Calls Tryz.prog 82 #[.pointer (some ⟨X,0,none⟩),.int .i64 g,.int .u32 a] w fun e w'=>e=.returned (.tuple #[.int .u32 (ldW s g a:Nat),.agg #[.int .i64 (vS 5 (yA s 1 a (ldN g).toNat)),.int .u32 (stA (yA s 1 a (ldN g).toNat))]])∧Below w.heap.size w w':=by
 rcases zLW hg with rfl|rfl|rfl|rfl|rfl
 ·obtain⟨v,e,hv⟩:=zAo s a 1 hs aO
  have c:=zQf X a v s w _ ha hs h e hv rfl
  rw[show ldW s 0 a=v by simp[ldW,ldN,e]]
  exact c
 ·obtain⟨v,e,hv⟩:=zAo s a 1 hs aO
  have c:=zQg X a v s w _ ha hs h e hv rfl
  rw[show ldW s 1 a=unF 2 v by simp[ldW,ldN,e]]
  exact c
 ·obtain⟨v,e,hv⟩:=zAo s a 2 hs aO
  have c:=zQh X a v s w _ ha hs h e hv rfl
  rw[show ldW s 2 a=v by simp[ldW,ldN,e]]
  exact c
 ·obtain⟨v,e,hv⟩:=zAo s a 2 hs aO
  have c:=zQi X a v s w _ ha hs h e hv rfl
  rw[show ldW s 3 a=unF 3 v by simp[ldW,ldN,e]]
  exact c
 ·obtain⟨v,e,hv⟩:=zAo s a 4 hs aO
  have c:=zQj X a v s w _ ha hs h e hv rfl
  rw[show ldW s 4 a=v by simp[ldW,ldN,e]]
  exact c
theorem zLq(k:RB)(a:Nat)(g:Int)(s:MS)(w:World)(ha:a < 4294967296)(hs:s.Ok)(h:RM w k s)(hg:0≤g∧g≤4) :
  Calls Tryz.prog 54 #[.pointer (some ⟨k.y,0,none⟩),.int .i64 g,.int .u32 a] w fun e w'=>e=.returned (.tuple #[.int .u32 (ldW s g a:Nat),.agg #[.int .i64 (vS 5 (yA s 1 a (ldN g).toNat)),.int .u32 (stA (yA s 1 a (ldN g).toNat))]])∧Below w.heap.size w w':=by
 rcases zLW hg with rfl|rfl|rfl|rfl|rfl
 ·obtain⟨v,e,hv⟩:=zAo s a 1 hs aO
  have c:=zQn k a v s w _ ha hs h e hv rfl
  rw[show ldW s 0 a=v by simp[ldW,ldN,e]]
  exact c
 ·obtain⟨v,e,hv⟩:=zAo s a 1 hs aO
  have c:=zQo k a v s w _ ha hs h e hv rfl
  rw[show ldW s 1 a=unF 2 v by simp[ldW,ldN,e]]
  exact c
 ·obtain⟨v,e,hv⟩:=zAo s a 2 hs aO
  have c:=zQp k a v s w _ ha hs h e hv rfl
  rw[show ldW s 2 a=v by simp[ldW,ldN,e]]
  exact c
 ·obtain⟨v,e,hv⟩:=zAo s a 2 hs aO
  have c:=zQq k a v s w _ ha hs h e hv rfl
  rw[show ldW s 3 a=unF 3 v by simp[ldW,ldN,e]]
  exact c
 ·obtain⟨v,e,hv⟩:=zAo s a 4 hs aO
  have c:=zQr k a v s w _ ha hs h e hv rfl
  rw[show ldW s 4 a=v by simp[ldW,ldN,e]]
  exact c
theorem zHc(X:Nat)(a v:Nat)(g:Int)(s:MS)(w:World)(ha:a < 4294967296)(hv:v < 4294967296)(hs:s.Ok)(h:PM w X s)(hg:0≤g∧g≤2) :
  Calls Tryz.prog 83 #[.pointer (some ⟨X,0,none⟩),.int .i64 g,.int .u32 a,.int .u32 v] w fun e w'=>e=.returned (.agg #[.int .i64 (vS 6 (sto s a (stN g))),.int .u32 (stA (sto s a (stN g)))])∧PM w' X (storeT s a (stN g) v)∧zI [X] w w':=by
 rcases zLV hg with rfl|rfl|rfl
 ·exact zQk X a v s w _ ha hv hs h rfl
 ·exact zQl X a v s w _ ha hv hs h rfl
 ·exact zQm X a v s w _ ha hv hs h rfl
theorem zBZ(k:RB)(a v:Nat)(g:Int)(s:MS)(w:World)(ha:a < 4294967296)(hv:v < 4294967296)(hs:s.Ok)(h:RM w k s)(hg:0≤g∧g≤2) :
  Calls Tryz.prog 56 #[.pointer (some ⟨k.y,0,none⟩),.int .i64 g,.int .u32 a,.int .u32 v] w fun e w'=>e=.returned (.agg #[.int .i64 (vS 6 (sto s a (stN g))),.int .u32 (stA (sto s a (stN g)))])∧RM w' k (storeT s a (stN g) v)∧zI k.all w w':=by
 rcases zLV hg with rfl|rfl|rfl
 ·exact zQt k a v s w _ ha hv hs h rfl
 ·exact zQu k a v s w _ ha hv hs h rfl
 ·exact zQv k a v s w _ ha hv hs h rfl
theorem zBz{n:Nat}{o:OpR}(h:zFT n o):zBR o:=
 ⟨fun e=>by have h1:=h.lo;have h2:=h.hi;rw[e] at h1 h2;exact⟨h1,h2⟩,fun e=>by have h1:=h.lo;have h2:=h.hi;rw[e] at h1 h2;exact⟨h1,h2⟩⟩
theorem zJY(n:Nat)(o:OpR)(a b c:Nat)(w:World)(ha:a < 4294967296)(hb:b < 4294967296)(hc:c < 4294967296)(hk:o.kind=1∨o.kind=4∨o.kind=5∨o.kind=6∨o.kind=7∨o.kind=8)(hw:zFT n o) :
  Calls Tryz.prog 58 #[.agg #[.int .i64 o.kind,.int .i64 o.w,.int .i64 o.a,.int .i64 o.b,.int .i64 o.c,.int .u32 o.k,.int .i64 o.n],.int .u32 a,.int .u32 b,.int .u32 c] w fun e w'=>e=.returned (.int .u32 (yC o a b c))∧Below w.heap.size w w':=by
 rcases hk with h|h|h|h|h|h
 ·exact zPj o a b c w ha hb hc h (zBz hw)
 ·exact zPk o a b c w ha hb hc h (zBz hw)
 ·exact zPl o a b c w ha hb hc h (zBz hw)
 ·exact zPm o a b c w ha hb hc h (zBz hw)
 ·exact zPn o a b c w ha hb hc h (zBz hw)
 ·exact zPo o a b c w ha hb hc h (zBz hw)
end Go.Proofs.YthcpipfmicbnmaaGreat.Va
namespace Go.Proofs.YthcpipfmicbnmaaGreat.Ho
open Go.RowKit
set_option maxRecDepth 100000
def uV:Sm Va.MS where
 val k w a b c:=(Va.yC ⟨k,w,0,0,0,0,0⟩ a b c).toNat
 now c:=(Va.cxF c).toNat
 load s w a:=(Va.ldW s w a,Va.vS 5 (Va.yA s 1 a (Va.ldN w).toNat),(Va.stA (Va.yA s 1 a (Va.ldN w).toNat)).toNat)
 store s w a v:=(Va.storeT s a (Va.stN w) v,Va.vS 6 (Va.sto s a (Va.stN w)),(Va.stA (Va.sto s a (Va.stN w))).toNat)
 tch s:=Va.zA2 s
def km(k:Int):Int:=if k=2 then 3 else if k=3 then 2 else 1
structure PT where
 ws:Nat→Nat
 len:Nat
 tl:Nat
 tp:Nat→Nat
 ta:Nat→Int
 left:Int
inductive PR
 | go (s:HS Va.MS) (done:Int) (nx:Option Int)
 | out (L:LF) (s:HS Va.MS)
 | stuck
def zU(T:PT)(ran:Int)(x:Cd)(s:HS Va.MS)(done:Int):PR:=
 if x.op=1 then
  (if uV.tch s.m=true then .out ⟨1,0,0,x.k,done,0⟩ s else if T.left - done < x.n then .out ⟨4,0,0,x.k,done,0⟩ s else if 1048576≤ran then .out ⟨6,0,0,x.k,done,0⟩ s else .go { s with R:=fun _=>none,Sp:=fun _=>none } done none)
 else if x.op=15 then(if isE T.ws T.len x.k=true then .go s (done+x.n) (some x.k) else .stuck)
 else if x.op=96 then(match s.R x.a.toNat with
  | none=>.stuck
  | some u=>if u=0 then .go s done none else if isE T.ws T.len x.k=true then .go s (done+x.n) (some x.k) else .stuck)
 else if x.op=4 then(match s.R x.a.toNat with
  | none=>.stuck
  | some u=>if 0 < T.tl∧T.tp (u%T.tl)=u∧isE T.ws T.len (T.ta (u%T.tl))=true then .go s (done+x.n) (some (T.ta (u%T.tl))) else .out ⟨2,0,0,u,done+x.n,0⟩ s)
 else if x.op=3 then(match s.R x.a.toNat with
  | none=>.stuck
  | some u=>.go (s.set x.d u) done none)
 else(match yZ uV x s with
  | .go s'=>.go s' done none
  | .out e s'=>.out ⟨km e.kind,e.sk,e.arg,e.pc,done+e.n,0⟩ s'
  | .stuck=>.stuck)
structure HPR(p:HP)(s:HS Va.MS):Prop where
 r:∀ i,s.R i=if p.re i=p.ent then some (p.rn i) else none
 sp:∀ i,s.Sp i=if p.se i=p.ent then some (p.sn i) else none
 c:p.c=s.c
 rb:∀ i,p.rn i < 4294967296
 sb:∀ i,p.sn i < 4294967296
 cb:Va.zA0 s.c
 mo:s.m.Ok
 er:∀ i,p.re i≤p.ent
 es:∀ i,p.se i≤p.ent
 e0:0≤p.ent
theorem HPR.reg{p:HP}{s:HS Va.MS}(H:HPR p s)(d u:Nat)(hu:u < 4294967296):HPR (p.reg d u) (s.set d u):=by
 refine⟨fun i=>?_,H.sp,H.c,fun i=>?_,H.sb,H.cb,H.mo,fun i=>?_,H.es,H.e0⟩
 ·show upd s.R d (some u) i=if upd p.re d p.ent i=p.ent then some (upd p.rn d u i) else none
  unfold upd
  by_cases hi:i=d
  ·simp[hi]
  ·simp only[if_neg hi];exact H.r i
 ·show upd p.rn d u i < _
  unfold upd;split
  ·exact hu
  ·exact H.rb i
 ·show upd p.re d p.ent i≤p.ent
  unfold upd;split
  ·exact Int.le_refl _
  ·exact H.er i
theorem HPR.spill{p:HP}{s:HS Va.MS}(H:HPR p s)(d u:Nat)(hu:u < 4294967296):HPR (p.spill d u) { s with Sp:=upd s.Sp d (some u) }:=by
 refine⟨H.r,fun i=>?_,H.c,H.rb,fun i=>?_,H.cb,H.mo,H.er,fun i=>?_,H.e0⟩
 ·show upd s.Sp d (some u) i=if upd p.se d p.ent i=p.ent then some (upd p.sn d u i) else none
  unfold upd
  by_cases hi:i=d
  ·simp[hi]
  ·simp only[if_neg hi];exact H.sp i
 ·show upd p.sn d u i < _
  unfold upd;split
  ·exact hu
  ·exact H.sb i
 ·show upd p.se d p.ent i≤p.ent
  unfold upd;split
  ·exact Int.le_refl _
  ·exact H.es i
theorem HPR.slot{p:HP}{s:HS Va.MS}(H:HPR p s)(d u:Nat)(hu:u < 4294967296):HPR (p.slot d u) { s with c:=upd s.c d u }:=by
 refine⟨H.r,H.sp,?_,H.rb,H.sb,fun i=>?_,H.mo,H.er,H.es,H.e0⟩
 ·show upd p.c d u=upd s.c d u;rw[H.c]
 ·show upd s.c d u i < _
  unfold upd;split
  ·exact hu
  ·exact H.cb i
theorem HPR.go{p:HP}{s:HS Va.MS}(H:HPR p s)(tw n:Int):HPR (p.go tw n) s:=⟨H.r,H.sp,H.c,H.rb,H.sb,H.cb,H.mo,H.er,H.es,H.e0⟩
theorem HPR.mem{p:HP}{s:HS Va.MS}(H:HPR p s){m:Va.MS}(hm:m.Ok):HPR p { s with m:=m }:=⟨H.r,H.sp,H.c,H.rb,H.sb,H.cb,hm,H.er,H.es,H.e0⟩
theorem HPR.enter{p:HP}{s:HS Va.MS}(H:HPR p s):HPR p.enter { s with R:=fun _=>none,Sp:=fun _=>none }:=by
 refine⟨fun i=>?_,fun i=>?_,H.c,H.rb,H.sb,H.cb,H.mo,fun i=>?_,fun i=>?_,?_⟩
 ·have:=H.er i;show none=if p.re i=p.ent+1 then some (p.rn i) else none;rw[if_neg aO]
 ·have:=H.es i;show none=if p.se i=p.ent+1 then some (p.sn i) else none;rw[if_neg aO]
 ·have:=H.er i;show p.re i≤p.ent+1;omega
 ·have:=H.es i;show p.se i≤p.ent+1;omega
 ·have:=H.e0;show 0≤p.ent+1;omega
theorem HPR.some{p:HP}{s:HS Va.MS}(H:HPR p s){i u:Nat}(h:s.R i=some u):uI true p i=u∧tkS true p i=false∧u < 4294967296:=by
 have:=H.r i
 rw[h] at this
 by_cases e:p.re i=p.ent
 ·rw[if_pos e] at this;cases this;exact⟨by simp[uI],by simp[tkS,e],H.rb i⟩
 ·rw[if_neg e] at this;cases this
theorem HPR.none{p:HP}{s:HS Va.MS}(H:HPR p s){i:Nat}(h:s.R i=none):tkS true p i=true:=by
 have:=H.r i
 rw[h] at this
 by_cases e:p.re i=p.ent
 ·rw[if_pos e] at this;cases this
 ·simp[tkS,e]
def Did(w:World)(R X:Nat)(ws tb:Value)(p:HP)(s:HS Va.MS)(e:Ending)(w':World):PR→Prop
 | .stuck=>e=.returned (.agg (yE ⟨5,0,0,0,0,0⟩))∧RB w' R (yB ws tb X p)∧Va.PM w' X s.m∧zI [R,X] w w'
 | .out L s'=>e=.returned (.agg (yE L))∧(∃ p',RB w' R (yB ws tb X p')∧p'.c=s'.c)∧Va.PM w' X s'.m∧zI [R,X] w w'
 | .go s' dn nx=>e=.returned (.agg (yE ⟨0,0,0,0,0,0⟩))∧(∃ p',RB w' R (yB ws tb X p')∧HPR p' s'∧p'.done=dn∧p'.next=nx.getD p.next∧p'.count=p.count∧p'.left=p.left∧(p'.ent=p.ent∨p'.ent=p.ent+1∧p.count < 1048576))∧Va.PM w' X s'.m∧zI [R,X] w w'
structure XF(ws:Nat→Nat)(len:Nat)(at':Int)(m k op d a b c n kk xx:Nat):Prop where
 at_:at'=m
 ex:(yG ws len at').x=⟨op,d,a,b,c,n,kk,xx⟩
 ef:(yG ws len at').f=zG k
 sz:(yG ws len at').n=szN (zG k).has
 le:m+szN (zG k).has≤len
 hk:hit (op:Int)=some k
 fo:op < 256
 fd:d < 16
 fa:a < 16
 fb:b < 16
 fc:c < 16
 fn:n < 65536
 fk:kk < 4294967296
 fx:xx < 4294967296
 x1:szN (zG k).has≤2→xx=0
 al:alB (hb (zG k).has 256) (d:Int) (n:Int) (zG k).most=true
theorem zBy(b:Bool)(p m v:Nat)(hm:0 < m):∃ u:Nat,zP b p m v=u∧u < m:=by
 unfold zP
 cases b
 ·exact⟨0,by simp,hm⟩
 ·exact⟨v / p%m,by simp,Nat.mod_lt _ hm⟩
theorem zAx{ws:Nat→Nat}{len:Nat}{at':Int}(hw:∀ i,ws i < 4294967296)(h:(yG ws len at').e=0):∃ m k op d a b c n kk xx:Nat,XF ws len at' m k op d a b c n kk xx:=by
 by_cases h1:at' < 0∨(len:Int) < at'
 ·unfold yG at h;rw[if_pos h1] at h;exact absurd h aD
 by_cases h2:at'=len
 ·unfold yG at h;rw[if_neg h1,if_pos h2] at h;exact absurd h aD
 obtain⟨m,rfl⟩:∃ m:Nat,at'=m:=⟨at'.toNat,by omega⟩
 cases hk:hit ((ws m%256:Nat):Int) with
 | none=>
  unfold yG at h;rw[if_neg h1,if_neg h2] at h;simp only[Int.toNat_natCast,hk] at h
  exact absurd h aD
 | some k=>
  by_cases h3:(len:Int) < m+szN (zG k).has
  ·unfold yG at h;rw[if_neg h1,if_neg h2] at h;simp only[Int.toNat_natCast,hk] at h
   rw[if_pos h3] at h;exact absurd h aD
  have e:yG ws len m=(if dcE (zG k) (ws m) (rdX (zG k).has (ws m) (if 1 < szN (zG k).has then ws (m+1) else 0) (if 2 < szN (zG k).has then ws (m+2) else 0))=0 then⟨0,rdX (zG k).has (ws m) (if 1 < szN (zG k).has then ws (m+1) else 0) (if 2 < szN (zG k).has then ws (m+2) else 0),zG k,szN (zG k).has⟩ else⟨3,zC,zF,0⟩):=by
   unfold yG;rw[if_neg h1,if_neg h2];simp only[Int.toNat_natCast,hk];rw[if_neg h3]
  by_cases h4:dcE (zG k) (ws m) (rdX (zG k).has (ws m) (if 1 < szN (zG k).has then ws (m+1) else 0) (if 2 < szN (zG k).has then ws (m+2) else 0))=0
  ·rw[if_pos h4] at e
   obtain⟨o,eo,lo⟩:=zBy true 1 256 (ws m) aD
   obtain⟨d,ed,ld⟩:=zBy (hb (zG k).has 448) 256 16 (uT (ws m)) aD
   obtain⟨a,ea,la⟩:=zBy (hb (zG k).has 1) 4096 16 (rd2 (zG k).has (ws m)) aD
   obtain⟨b,eb,lb⟩:=zBy (hb (zG k).has 2) 65536 16 (rd3 (zG k).has (ws m)) aD
   obtain⟨c,ec,lc⟩:=zBy (hb (zG k).has 4) 1048576 16 (rd4 (zG k).has (ws m)) aD
   obtain⟨n,en,ln⟩:=zBy (hb (zG k).has 8) 65536 65536 (rd5 (zG k).has (ws m)) aD
   have eo':o=ws m%256:=by
    have:zP true 1 256 (ws m)=((ws m%256:Nat):Int):=by simp[zP]
    rw[eo] at this;exact Int.ofNat.inj this
   have ex:rdX (zG k).has (ws m) (if 1 < szN (zG k).has then ws (m+1) else 0) (if 2 < szN (zG k).has then ws (m+2) else 0)=⟨o,d,a,b,c,n,(if 1 < szN (zG k).has then ws (m+1) else 0),(if 2 < szN (zG k).has then ws (m+2) else 0)⟩:=by
    unfold rdX;rw[eo,ed,ea,eb,ec,en]
   have ha:alB (hb (zG k).has 256) (d:Int) (n:Int) (zG k).most=true:=by
    rw[ex] at h4;unfold dcE at h4
    by_cases g:rd6 (zG k).has (ws m)=0∧alB (hb (zG k).has 256) (d:Int) (n:Int) (zG k).most=true
    ·exact g.2
    ·rw[if_neg g] at h4;exact absurd h4 aD
   refine⟨m,k,o,d,a,b,c,n,_,_,⟨rfl,by rw[e];exact ex,by rw[e],by rw[e],by omega,by rw[eo'];exact hk,lo,ld,la,lb,lc,ln,?_,?_,fun g=>if_neg aO,ha⟩⟩
   ·split
    ·exact hw _
    ·decide
   ·split
    ·exact hw _
    ·decide
  ·rw[if_neg h4] at e;rw[e] at h;exact absurd h aD
theorem zQ{S:List Nat}{w w':World}(h:zI S w w'):Va.zI S w w':=⟨h.os,h.tape,h.output,h.size,h.block⟩
theorem zC2{S:List Nat}{w w':World}(h:Va.zI S w w'):zI S w w':=⟨h.os,h.tape,h.output,h.size,h.block⟩
theorem RB.bel{n R:Nat}{u v:World}{f:Nat→Value}(h:RB u R f)(b:Below n u v)(hR:R < n):RB v R f:=
 ⟨fun o ho=>(World.cell?_of_block (w:=u) (b.block R hR)).trans (h.c o ho),fun o=>(World.frozen?_of_block (w:=u) (b.block R hR)).trans (h.fz o),Nat.lt_of_lt_of_le h.lt b.size⟩
theorem zI.bel2{S:List Nat}{w u v:World}(h:zI S w u)(b:Below w.heap.size u v):zI S w v:=
 ⟨b.os.trans h.os,b.tape.trans h.tape,b.output.trans h.output,Nat.le_trans h.size b.size,fun k hk hs=>(b.block k hk).trans (h.block k hk hs)⟩
structure QP(w:World)(R X:Nat)(ws tb:Value)(p:HP)(m:Va.MS)(u:World):Prop where
 r:RB u R (yB ws tb X p)
 m:Va.PM u X m
 c:zI [R,X] w u
theorem QP.st{w:World}{R X:Nat}{ws tb:Value}{p:HP}{m:Va.MS}(lR:R < w.heap.size)(lX:X < w.heap.size)(u v:World)(h:QP w R X ws tb p m u)(b:Below w.heap.size u v):QP w R X ws tb p m v:=
 ⟨h.r.bel b lR,h.m.below b lX,h.c.bel2 b⟩
theorem QP.mv{w W u:World}{R X:Nat}{ws tb:Value}{p:HP}{m:Va.MS}(hm:Va.PM w X m)(hW:Below w.heap.size w W)(lX:X < w.heap.size)(hXR:X≠R)(hr:RB u R (yB ws tb X p))(hc:zI [R] W u):QP w R X ws tb p m u:=
 ⟨hr,(hm.below hW lX).keep (zQ hc) (by simpa using hXR),(zI.of_below _ hW).trans (hc.mono aS)⟩
structure PC(w:World)(R X I:Nat)(a:Option Addr)(cap:Nat)(ta:Option Addr)(tcap:Nat)(T:PT)(p:HP)(s:HS Va.MS)(x:Cd)(f:Fo)(n:Int):Prop where
 r:RB w R (yB (.slice a T.len cap) (.slice ta T.tl tcap) X p)
 m:Va.PM w X s.m
 i:w.heap[I]?=some (.cells (yT x f n) 90)
 h:HPR p s
 wd:Wds w a T.len cap T.ws
 tr:T.tl=0∨∃ tq toff,ta=some ⟨tq,toff,none⟩∧TR w tq toff T.tl T.tp T.ta∧T.tl≤140737488355328
 xr:X≠R
 ir:I≠R
 ix:I≠X
 dn:0≤p.done∧p.done≤9223372036854700000
 lf:p.left=T.left
 ld : -9223372036854775808≤T.left - p.done∧T.left - p.done≤9223372036854775807
 en:p.ent < 2147483647
theorem yY(p:HP)(i:Nat):tkS false p i=false:=rfl
theorem zDT(p:HP)(i:Nat):uI false p i=0:=rfl
theorem zBh{W:World}{I:Nat}{x:Cd}{f:Fo}{n:Int}(h:W.heap[I]?=some (.cells (yT x f n) 90)):W.cell? ⟨I,0,none⟩=some (.int .i64 x.op)∧W.cell? ⟨I,1,none⟩=some (.int .i64 x.d)∧W.cell? ⟨I,5,none⟩=some (.int .i64 x.n):=⟨zA h 0,zA h 1,zA h 5⟩
theorem zMa(R X I:Nat)(ca:Option Addr)(cap:Nat)(ta:Option Addr)(tcap:Nat)(T:PT)(p:HP)(s:HS Va.MS)(d a b c n kk xx:Nat)(nw:Int)(w:World)(P:PC w R X I ca cap ta tcap T p s ⟨3,d,a,b,c,n,kk,xx⟩ (zG 2) nw)(ld:d < 16)(la:a < 16)(lb:b < 16)(lc:c < 16)(ln:n < 65536)  :
  Calls Tryz.prog 34 #[.pointer (some ⟨R,0,none⟩),.pointer (some ⟨I,0,none⟩),.pointer (some ⟨I,8,none⟩)] w fun e w'=>Did w R X (.slice ca T.len cap) (.slice ta T.tl tcap) p s e w' (zU T p.count ⟨3,d,a,b,c,n,kk,xx⟩ s p.done):=by
 have lX:=P.m.lt
 have g:=vR R X I a b c d n (.slice ca T.len cap) (.slice ta T.tl tcap) ⟨3,d,a,b,c,n,kk,xx⟩ (zG 2) nw p
 cases hr:s.R a with
 | none=>
  have hs:=P.h.none hr
  rw[show zU T p.count ⟨3,d,a,b,c,n,kk,xx⟩ s p.done=.stuck by simp[zU,yZ,HS.get,hr]]
  refine(g ⟨5,0,0,0,0,0⟩ (QP w R X (.slice ca T.len cap) (.slice ta T.tl tcap) p s.m) w P.r P.i rfl rfl rfl rfl rfl la lb lc ld lX P.ir (fun e=>by simp at e) ⟨.inl ⟨by rw[if_neg aS];rw[show hb (zG 2).has 1=true by decide,show hb (zG 2).has 2=false by decide,show hb (zG 2).has 4=false by decide,show hb (zG 2).has 128=false by decide];simp[hs],rfl,⟨P.r,P.m,zI.refl _ _⟩⟩,QP.st P.r.lt lX⟩).mono ?_
  rintro e w' ⟨rfl,q⟩
  exact⟨rfl,q.r,q.m,q.c⟩
 | some u=>
  obtain⟨h1,h2,h3⟩:=P.h.some hr
  rw[show zU T p.count ⟨3,d,a,b,c,n,kk,xx⟩ s p.done=.go (s.set d u) p.done none by simp[zU,yZ,HS.get,hr]]
  refine(g ⟨0,0,0,0,0,0⟩ (QP w R X (.slice ca T.len cap) (.slice ta T.tl tcap) (p.reg d u) s.m) w P.r P.i rfl rfl rfl rfl rfl la lb lc ld lX P.ir (fun e=>by simp at e) ⟨.inr (.inr (.inr ⟨?_,by decide,by decide,rfl,fun W hW hR hI=>?_⟩)),QP.st P.r.lt lX⟩).mono ?_
  ·rw[if_neg aS];rw[show hb (zG 2).has 1=true by decide,show hb (zG 2).has 2=false by decide,show hb (zG 2).has 4=false by decide,show hb (zG 2).has 128=false by decide];simp[h2,yY]
  ·rw[show hb (zG 2).has 1=true by decide,h1]
   refine(zHJ R X I d n u _ _ _ _ _ p W hR (zBh hI).1 (zBh hI).2.1 (zBh hI).2.2 (zE hI) ld P.ir).mono ?_
   rintro e w' ⟨rfl,hr',hc'⟩
   exact⟨rfl,QP.mv P.m hW lX P.xr hr' hc',hc'⟩
  ·rintro e w' ⟨rfl,q⟩
   exact⟨rfl,⟨_,q.r,P.h.reg d u h3,rfl,rfl,rfl,rfl,.inl rfl⟩,q.m,q.c⟩
theorem zMd(R X I:Nat)(ca:Option Addr)(cap:Nat)(ta:Option Addr)(tcap:Nat)(T:PT)(p:HP)(s:HS Va.MS)(d a b c n kk xx:Nat)(nw:Int)(w:World)(P:PC w R X I ca cap ta tcap T p s ⟨7,d,a,b,c,n,kk,xx⟩ (zG 6) nw)(ld:d < 16)(la:a < 16)(lb:b < 16)(lc:c < 16)(ln:n < 65536)(hn:n < 12) :
  Calls Tryz.prog 34 #[.pointer (some ⟨R,0,none⟩),.pointer (some ⟨I,0,none⟩),.pointer (some ⟨I,8,none⟩)] w fun e w'=>Did w R X (.slice ca T.len cap) (.slice ta T.tl tcap) p s e w' (zU T p.count ⟨7,d,a,b,c,n,kk,xx⟩ s p.done):=by
 have lX:=P.m.lt
 have g:=vR R X I a b c d n (.slice ca T.len cap) (.slice ta T.tl tcap) ⟨7,d,a,b,c,n,kk,xx⟩ (zG 6) nw p
 cases hr:s.R a with
 | none=>
  have hs:=P.h.none hr
  rw[show zU T p.count ⟨7,d,a,b,c,n,kk,xx⟩ s p.done=.stuck by simp[zU,yZ,HS.get,hr]]
  refine(g ⟨5,0,0,0,0,0⟩ (QP w R X (.slice ca T.len cap) (.slice ta T.tl tcap) p s.m) w P.r P.i rfl rfl rfl rfl rfl la lb lc ld lX P.ir (fun e=>by simp at e) ⟨.inl ⟨by rw[if_neg aS];rw[show hb (zG 6).has 1=true by decide,show hb (zG 6).has 2=false by decide,show hb (zG 6).has 4=false by decide,show hb (zG 6).has 128=false by decide];simp[hs],rfl,⟨P.r,P.m,zI.refl _ _⟩⟩,QP.st P.r.lt lX⟩).mono ?_
  rintro e w' ⟨rfl,q⟩
  exact⟨rfl,q.r,q.m,q.c⟩
 | some u=>
  obtain⟨h1,h2,h3⟩:=P.h.some hr
  rw[show zU T p.count ⟨7,d,a,b,c,n,kk,xx⟩ s p.done=.go ({ s with c:=upd s.c n u }) p.done none by simp[zU,yZ,HS.get,hr]]
  refine(g ⟨0,0,0,0,0,0⟩ (QP w R X (.slice ca T.len cap) (.slice ta T.tl tcap) (p.slot n u) s.m) w P.r P.i rfl rfl rfl rfl rfl la lb lc ld lX P.ir (fun e=>by simp at e) ⟨.inr (.inr (.inr ⟨?_,by decide,by decide,rfl,fun W hW hR hI=>?_⟩)),QP.st P.r.lt lX⟩).mono ?_
  ·rw[if_neg aS];rw[show hb (zG 6).has 1=true by decide,show hb (zG 6).has 2=false by decide,show hb (zG 6).has 4=false by decide,show hb (zG 6).has 128=false by decide];simp[h2,yY]
  ·rw[show hb (zG 6).has 1=true by decide,h1]
   refine(zHL R X I d n u _ _ _ _ _ p W hR (zBh hI).1 (zBh hI).2.1 (zBh hI).2.2 (zE hI) ld P.ir hn).mono ?_
   rintro e w' ⟨rfl,hr',hc'⟩
   exact⟨rfl,QP.mv P.m hW lX P.xr hr' hc',hc'⟩
  ·rintro e w' ⟨rfl,q⟩
   exact⟨rfl,⟨_,q.r,P.h.slot n u h3,rfl,rfl,rfl,rfl,.inl rfl⟩,q.m,q.c⟩
theorem zMe(R X I:Nat)(ca:Option Addr)(cap:Nat)(ta:Option Addr)(tcap:Nat)(T:PT)(p:HP)(s:HS Va.MS)(d a b c n kk xx:Nat)(nw:Int)(w:World)(P:PC w R X I ca cap ta tcap T p s ⟨9,d,a,b,c,n,kk,xx⟩ (zG 8) nw)(ld:d < 16)(la:a < 16)(lb:b < 16)(lc:c < 16)(ln:n < 65536)(hn:n < 2048) :
  Calls Tryz.prog 34 #[.pointer (some ⟨R,0,none⟩),.pointer (some ⟨I,0,none⟩),.pointer (some ⟨I,8,none⟩)] w fun e w'=>Did w R X (.slice ca T.len cap) (.slice ta T.tl tcap) p s e w' (zU T p.count ⟨9,d,a,b,c,n,kk,xx⟩ s p.done):=by
 have lX:=P.m.lt
 have g:=vR R X I a b c d n (.slice ca T.len cap) (.slice ta T.tl tcap) ⟨9,d,a,b,c,n,kk,xx⟩ (zG 8) nw p
 cases hr:s.R a with
 | none=>
  have hs:=P.h.none hr
  rw[show zU T p.count ⟨9,d,a,b,c,n,kk,xx⟩ s p.done=.stuck by simp[zU,yZ,HS.get,hr]]
  refine(g ⟨5,0,0,0,0,0⟩ (QP w R X (.slice ca T.len cap) (.slice ta T.tl tcap) p s.m) w P.r P.i rfl rfl rfl rfl rfl la lb lc ld lX P.ir (fun e=>by simp at e) ⟨.inl ⟨by rw[if_neg aS];rw[show hb (zG 8).has 1=true by decide,show hb (zG 8).has 2=false by decide,show hb (zG 8).has 4=false by decide,show hb (zG 8).has 128=false by decide];simp[hs],rfl,⟨P.r,P.m,zI.refl _ _⟩⟩,QP.st P.r.lt lX⟩).mono ?_
  rintro e w' ⟨rfl,q⟩
  exact⟨rfl,q.r,q.m,q.c⟩
 | some u=>
  obtain⟨h1,h2,h3⟩:=P.h.some hr
  rw[show zU T p.count ⟨9,d,a,b,c,n,kk,xx⟩ s p.done=.go ({ s with Sp:=upd s.Sp n (some u) }) p.done none by simp[zU,yZ,HS.get,hr]]
  refine(g ⟨0,0,0,0,0,0⟩ (QP w R X (.slice ca T.len cap) (.slice ta T.tl tcap) (p.spill n u) s.m) w P.r P.i rfl rfl rfl rfl rfl la lb lc ld lX P.ir (fun e=>by simp at e) ⟨.inr (.inr (.inr ⟨?_,by decide,by decide,rfl,fun W hW hR hI=>?_⟩)),QP.st P.r.lt lX⟩).mono ?_
  ·rw[if_neg aS];rw[show hb (zG 8).has 1=true by decide,show hb (zG 8).has 2=false by decide,show hb (zG 8).has 4=false by decide,show hb (zG 8).has 128=false by decide];simp[h2,yY]
  ·rw[show hb (zG 8).has 1=true by decide,h1]
   refine(zHM R X I d n u _ _ _ _ _ p W hR (zBh hI).1 (zBh hI).2.1 (zBh hI).2.2 (zE hI) ld P.ir hn).mono ?_
   rintro e w' ⟨rfl,hr',hc'⟩
   exact⟨rfl,QP.mv P.m hW lX P.xr hr' hc',hc'⟩
  ·rintro e w' ⟨rfl,q⟩
   exact⟨rfl,⟨_,q.r,P.h.spill n u h3,rfl,rfl,rfl,rfl,.inl rfl⟩,q.m,q.c⟩
theorem zL8(R X I:Nat)(ca:Option Addr)(cap:Nat)(ta:Option Addr)(tcap:Nat)(T:PT)(p:HP)(s:HS Va.MS)(d a b c n kk xx:Nat)(nw:Int)(w:World)(P:PC w R X I ca cap ta tcap T p s ⟨6,d,a,b,c,n,kk,xx⟩ (zG 5) nw)(ld:d < 16)(la:a < 16)(lb:b < 16)(lc:c < 16)(ln:n < 65536)(hn:n < 12) :
  Calls Tryz.prog 34 #[.pointer (some ⟨R,0,none⟩),.pointer (some ⟨I,0,none⟩),.pointer (some ⟨I,8,none⟩)] w fun e w'=>Did w R X (.slice ca T.len cap) (.slice ta T.tl tcap) p s e w' (zU T p.count ⟨6,d,a,b,c,n,kk,xx⟩ s p.done):=by
 have lX:=P.m.lt
 have g:=vR R X I a b c d n (.slice ca T.len cap) (.slice ta T.tl tcap) ⟨6,d,a,b,c,n,kk,xx⟩ (zG 5) nw p
 rw[show zU T p.count ⟨6,d,a,b,c,n,kk,xx⟩ s p.done=.go (s.set d (s.c n)) p.done none by simp[zU,yZ]]
 refine(g ⟨0,0,0,0,0,0⟩ (QP w R X (.slice ca T.len cap) (.slice ta T.tl tcap) (p.reg d (s.c n)) s.m) w P.r P.i rfl rfl rfl rfl rfl la lb lc ld lX P.ir (fun e=>by simp at e) ⟨.inr (.inr (.inr ⟨?_,by decide,by decide,rfl,fun W hW hR hI=>?_⟩)),QP.st P.r.lt lX⟩).mono ?_
 ·rw[if_neg aS];rw[show hb (zG 5).has 1=false by decide,show hb (zG 5).has 2=false by decide,show hb (zG 5).has 4=false by decide,show hb (zG 5).has 128=false by decide];simp[yY]
 ·rw[← P.h.c]
  refine(zHH R X I d n _ _ _ _ _ _ p W hR (zBh hI).1 (zBh hI).2.1 (zBh hI).2.2 (zE hI) ld P.ir hn).mono ?_
  rintro e w' ⟨rfl,hr',hc'⟩
  exact⟨rfl,QP.mv P.m hW lX P.xr hr' hc',hc'⟩
 ·rintro e w' ⟨rfl,q⟩
  exact⟨rfl,⟨_,q.r,P.h.reg d (s.c n) (P.h.cb n),rfl,rfl,rfl,rfl,.inl rfl⟩,q.m,q.c⟩
theorem zL9(R X I:Nat)(ca:Option Addr)(cap:Nat)(ta:Option Addr)(tcap:Nat)(T:PT)(p:HP)(s:HS Va.MS)(d a b c n kk xx:Nat)(nw:Int)(w:World)(P:PC w R X I ca cap ta tcap T p s ⟨8,d,a,b,c,n,kk,xx⟩ (zG 7) nw)(ld:d < 16)(la:a < 16)(lb:b < 16)(lc:c < 16)(ln:n < 65536)(hn:n < 2048) :
  Calls Tryz.prog 34 #[.pointer (some ⟨R,0,none⟩),.pointer (some ⟨I,0,none⟩),.pointer (some ⟨I,8,none⟩)] w fun e w'=>Did w R X (.slice ca T.len cap) (.slice ta T.tl tcap) p s e w' (zU T p.count ⟨8,d,a,b,c,n,kk,xx⟩ s p.done):=by
 have lX:=P.m.lt
 have g:=vR R X I a b c d n (.slice ca T.len cap) (.slice ta T.tl tcap) ⟨8,d,a,b,c,n,kk,xx⟩ (zG 7) nw p
 cases hr:s.Sp n with
 | none=>
  have hs:(p.se n !=p.ent)=true:=by
   have:=P.h.sp n
   rw[hr] at this
   by_cases e:p.se n=p.ent
   ·rw[if_pos e] at this;cases this
   ·simp[e]
  rw[show zU T p.count ⟨8,d,a,b,c,n,kk,xx⟩ s p.done=.stuck by simp[zU,yZ,hr]]
  refine(g ⟨5,0,0,0,0,0⟩ (QP w R X (.slice ca T.len cap) (.slice ta T.tl tcap) p s.m) w P.r P.i rfl rfl rfl rfl rfl la lb lc ld lX P.ir (fun _=>hn) ⟨.inl ⟨by rw[if_pos rfl];rw[show hb (zG 7).has 1=false by decide,show hb (zG 7).has 2=false by decide,show hb (zG 7).has 4=false by decide,show hb (zG 7).has 128=false by decide];simp[hs,yY],rfl,⟨P.r,P.m,zI.refl _ _⟩⟩,QP.st P.r.lt lX⟩).mono ?_
  rintro e w' ⟨rfl,q⟩
  exact⟨rfl,q.r,q.m,q.c⟩
 | some u=>
  obtain⟨h1,h2,h3⟩:p.sn n=u∧(p.se n !=p.ent)=false∧u < 4294967296:=by
   have:=P.h.sp n
   rw[hr] at this
   by_cases e:p.se n=p.ent
   ·rw[if_pos e] at this;cases this;exact⟨rfl,by simp[e],P.h.sb n⟩
   ·rw[if_neg e] at this;cases this
  rw[show zU T p.count ⟨8,d,a,b,c,n,kk,xx⟩ s p.done=.go (s.set d u) p.done none by simp[zU,yZ,hr]]
  refine(g ⟨0,0,0,0,0,0⟩ (QP w R X (.slice ca T.len cap) (.slice ta T.tl tcap) (p.reg d u) s.m) w P.r P.i rfl rfl rfl rfl rfl la lb lc ld lX P.ir (fun _=>hn) ⟨.inr (.inr (.inr ⟨?_,by decide,by decide,rfl,fun W hW hR hI=>?_⟩)),QP.st P.r.lt lX⟩).mono ?_
  ·rw[if_pos rfl];rw[show hb (zG 7).has 1=false by decide,show hb (zG 7).has 2=false by decide,show hb (zG 7).has 4=false by decide,show hb (zG 7).has 128=false by decide];simp[h2,yY]
  ·rw[if_pos rfl,h1]
   refine(zHI R X I d n _ _ _ u _ _ p W hR (zBh hI).1 (zBh hI).2.1 (zBh hI).2.2 (zE hI) ld P.ir).mono ?_
   rintro e w' ⟨rfl,hr',hc'⟩
   exact⟨rfl,QP.mv P.m hW lX P.xr hr' hc',hc'⟩
  ·rintro e w' ⟨rfl,q⟩
   exact⟨rfl,⟨_,q.r,P.h.reg d u h3,rfl,rfl,rfl,rfl,.inl rfl⟩,q.m,q.c⟩
theorem zMb(R X I:Nat)(ca:Option Addr)(cap:Nat)(ta:Option Addr)(tcap:Nat)(T:PT)(p:HP)(s:HS Va.MS)(d a b c n kk xx:Nat)(nw:Int)(w:World)(P:PC w R X I ca cap ta tcap T p s ⟨97,d,a,b,c,n,kk,xx⟩ (zG 22) nw)(ld:d < 16)(la:a < 16)(lb:b < 16)(lc:c < 16)(ln:n < 65536)  :
  Calls Tryz.prog 34 #[.pointer (some ⟨R,0,none⟩),.pointer (some ⟨I,0,none⟩),.pointer (some ⟨I,8,none⟩)] w fun e w'=>Did w R X (.slice ca T.len cap) (.slice ta T.tl tcap) p s e w' (zU T p.count ⟨97,d,a,b,c,n,kk,xx⟩ s p.done):=by
 have lX:=P.m.lt
 have g:=vR R X I a b c d n (.slice ca T.len cap) (.slice ta T.tl tcap) ⟨97,d,a,b,c,n,kk,xx⟩ (zG 22) nw p
 have hb0:=Va.zBD (s.c 8) (s.c 9) (s.c 10) (s.c 11)
 have e1:((uV.now s.c:Nat):Int)=Va.cxF s.c:=Int.toNat_of_nonneg hb0.1
 have e2:uV.now s.c < 4294967296:=by have h2:Va.cxF s.c≤15:=hb0.2;omega
 have hcc:=P.h.c
 rw[show zU T p.count ⟨97,d,a,b,c,n,kk,xx⟩ s p.done=.go (s.set d (uV.now s.c)) p.done none by simp[zU,yZ]]
 refine(g ⟨0,0,0,0,0,0⟩ (QP w R X (.slice ca T.len cap) (.slice ta T.tl tcap) (p.reg d (uV.now s.c)) s.m) w P.r P.i rfl rfl rfl rfl rfl la lb lc ld lX P.ir (fun e=>by simp at e) ⟨.inr (.inr (.inr ⟨?_,by decide,by decide,rfl,fun W hW hR hI=>?_⟩)),QP.st P.r.lt lX⟩).mono ?_
 ·rw[if_neg aS];rw[show hb (zG 22).has 1=false by decide,show hb (zG 22).has 2=false by decide,show hb (zG 22).has 4=false by decide,show hb (zG 22).has 128=false by decide];simp[yY]
 ·refine(zHK R X I d n _ _ _ _ (uV.now s.c) _ _ p W hR (zBh hI).1 (zBh hI).2.1 (zBh hI).2.2 (zE hI) ld P.ir (fun W2=>by rw[hcc,e1];exact Va.zGo s.c 0 W2 P.h.cb)).mono ?_
  rintro e w' ⟨rfl,hr',hc'⟩
  exact⟨rfl,QP.mv P.m hW lX P.xr hr' hc',hc'⟩
 ·rintro e w' ⟨rfl,q⟩
  exact⟨rfl,⟨_,q.r,P.h.reg d _ e2,rfl,rfl,rfl,rfl,.inl rfl⟩,q.m,q.c⟩
end Go.Proofs.YthcpipfmicbnmaaGreat.Ho
