import Derived.Test.YtfokgedjocnnmaaGreatJ01
import Derived.Test.YtfokgedjocnnmaaGreatJ29
import Derived.Deep.CutBlock
import Derived.Deep.RegionHeld3
import Derived.Test.YtfokgedjocnnmaaGreatJ07
import Derived.Test.YtfokgedjocnnmaaGreatJ04
import Derived.Test.YtfokgedjocnnmaaGreatJ03
import Derived.Test.YtfokgedjocnnmaaGreatEB
set_option linter.unusedVariables false
set_option linter.unusedSimpArgs false
set_option maxHeartbeats 2000000
namespace Go.Proofs.YtfokgedjocnnmaaGreat
open Go.RowKit
set_option maxRecDepth 100000
theorem cnt_down(T:Nat→Bool)(n p:Nat)(h:p < n)(hT:T p=true):cnt (upd T p false) n+1=cnt T n:=by
 induction n with
 | zero=>omega
 | succ n ih=>
  simp only[cnt]
  by_cases e:n=p
  ·subst e;rw[cnt_upd_out _ _ _ _ (Nat.le_refl _),upd_same,hT];simp
  ·have:=ih zo;rw[upd_other _ _ _ _ e];omega
theorem cnt_pos(T:Nat→Bool)(n p:Nat)(h:p < n)(hT:T p=true):0 < cnt T n:=by
 have:=cnt_down T n p h hT;omega
def touchB(s:MS):Bool:=decide (0 < cnt s.T 256)
theorem rtouched_any(k:RB)(s:MS)(w:World)(h:RM w k s) :
  Calls Tryz.prog 34 #[.pointer (some ⟨k.y,0,none⟩)] w fun e w'=>e=.returned (.bool (touchB s))∧w=w':=by
 have d3:=h.c3
 go_enter Tryz.func34,Tryz.ntmps34
 go_wp2
 go_loop [10] (fun i=>∃ j:Nat,j≤256∧i=.int .i64 j∧∀ p,p < j→s.T p=false) (fun i=>256 - (intOf i).toNat)
 case atStart=>exact⟨0,by omega,rfl,fun p hp=>by omega⟩
 case round=>
  obtain⟨j,hj,rfl,hf⟩:=hrel
  have HF:Hid (∀ p,p < j→s.T p=false):=hf
  clear hf
  by_cases hlt:j < 256
  ·have c:=h.to j hlt
   have hji:(j:Int) < 256:=zo
   have hj0:(0:Int)≤j:=zo
   cases hT:s.T j
   ·rw[hT] at c
    have HT:Hid (s.T j=false):=hT
    clear hT
    go_wp2
    go_round
    case rel=>exact⟨j+1,by omega,by go_num,fun p hp=>by
     by_cases e:p=j
     ·subst e;exact HT.out
     ·exact HF.out p zo⟩
    case measure=>simp[intOf];omega
   ·rw[hT] at c
    have HE:Hid (touchB s=true):=decide_eq_true (cnt_pos s.T 256 j hlt hT)
    clear hT
    go_wp2
    go_ret
    exact⟨(congrArg (fun b=>Ending.returned (Value.bool b)) HE.out).symm,rfl⟩
  ·have HE:Hid (touchB s=false):=by
    have:j=256:=zo
    subst this
    show touchB s=false
    unfold touchB
    rw[cnt_none s.T 256 HF.out];rfl
   go_wp2
   go_ret
   exact⟨(congrArg (fun b=>Ending.returned (Value.bool b)) HE.out).symm,rfl⟩
def cxOk(c:Nat→Nat):Prop:=∀ i,c i < 4294967296
abbrev cxF(c:Nat→Nat):Int:=Fl.flagsF (c 8) (c 9) (c 10) (c 11)
theorem rstate_any(c:Nat→Nat)(pc:Nat)(w:World)(hc:cxOk c) :
  Calls Tryz.prog 31 #[cxV c,.int .u32 pc] w fun e w'=>e=.returned (sxV c pc (cxF c))∧Below w.heap.size w w':=by
 have h8:(c 8:Int) < 4294967296:=by have:=hc 8;omega
 have h80:(0:Int)≤(c 8:Int):=zo
 have HC:Hid (cxOk c):=hc
 obtain⟨F,HF⟩:∃ F:Int,Hid (cxF c=F):=⟨_,rfl⟩
 clear hc
 go_enter Tryz.func31,Tryz.ntmps31
 go_wp2_with (go_at_call 62;refine(Fl.flags_any (c 8) (c 9) (c 10) (c 11) _ (HC.out 9) (HC.out 10) (HC.out 11)).mono ?_;rintro e w1 ⟨rfl,rfl⟩;rw[show Fl.flagsF (c 8) (c 9) (c 10) (c 11)=F from HF.out])
 refine wp_loop_rounds 9 ?_
 iterate 9 (rw[rounds_succ];go_wp2)
 exact bodyPost_ret (v:=sxV c pc (cxF c)) (by rw[HF.out];simp[results,Tryz.results31,go_sem]) rfl ⟨rfl,by(repeat first|with_reducible exact Below.refl _ _|with_reducible exact hB|with_reducible refine Below.drew ?_|with_reducible refine Below.alloc ?_ zq6 _|with_reducible refine Below.setCell ?_ zq6 _)⟩
def ldNo(k:Int):Int:=if k=0 then 1 else if k=1 then 1 else if k=2 then 2 else if k=3 then 2 else 4
def ldWo(s:MS)(k:Int)(a:Nat):Nat:=if k=1 then unF 2 (ldX s a (ldNo k)).toNat else if k=3 then unF 3 (ldX s a (ldNo k)).toNat else(ldX s a (ldNo k)).toNat
theorem rcell{w:World}{X:Nat}{A:Array Value}{T:TypeId}(h:w.heap[X]?=some (.cells A T))(o:Nat):w.cell? ⟨X,o,none⟩=A[o]?:=cell_of_row _ _ o _ _ (0,0) h
theorem rfr{w:World}{X:Nat}{A:Array Value}{T:TypeId}(h:w.heap[X]?=some (.cells A T))(o:Nat):w.frozen? ⟨X,o,none⟩=false:=frozen_of_row _ _ o _ _ h
theorem rlt{w:World}{X:Nat}{A:Array Value}{T:TypeId}(h:w.heap[X]?=some (.cells A T)):X < w.heap.size:=by
 rcases Nat.lt_or_ge X w.heap.size with g|g
 ·exact g
 ·rw[Array.getElem?_eq_none g] at h;cases h
theorem bal_old(w:World)(o:Obj)(b:Nat)(h:b < w.heap.size):(w.alloc o).heap[b]?=w.heap[b]?:=((Below.refl w.heap.size w).alloc (Nat.le_refl _) o).block b h
theorem ldX_nat(s:MS)(a:Nat)(n:Int)(hs:s.Ok)(hn:n=1∨n=2∨n=4):∃ v:Nat,ldX s a n=v∧v < 4294967296:=by
 have h:=ldv_bd s.B a hs.by_ n.toNat
 unfold ldX
 split
 ·refine⟨(ldv s.B a n.toNat).toNat,by omega,?_⟩
  have:(256:Int) ^ n.toNat≤4294967296:=by rcases hn with rfl|rfl|rfl<;>decide
  omega
 ·exact⟨0,rfl,by omega⟩
theorem rld0(k:RB)(a v:Nat)(s:MS)(w:World)(o:Option Nat)(ha:a < 4294967296)(hs:s.Ok)(h:RM w k s)(hx:ldX s a 1=v)(hv:v < 4294967296)(ho:badN s 1 a 1=o) :
  Calls Tryz.prog 86 #[.pointer (some ⟨k.y,0,none⟩),.int .i64 0,.int .u32 a] w fun e w'=>e=.returned (.tuple #[.int .u32 v,.agg #[.int .i64 (stK 5 o),.int .u32 (stA o)]])∧Below w.heap.size w w':=by
 have HC:Hid (∀ W,Below w.heap.size w W→Calls Tryz.prog 97 #[.pointer (some ⟨k.y,0,none⟩),.int .u32 a,.int .i64 1] W fun e w'=>e=.returned (.tuple #[.int .u32 v,.agg #[.int .i64 (stK 5 o),.int .u32 (stA o)]])∧Below W.heap.size W w'):=show ∀ W,_ from fun W hW=>by
  have:=rload_tot k a 1 s W ha hs (h.below hW (Nat.le_refl _))
  rw[hx,show badN s 1 a (1:Int).toNat=o from ho] at this
  exact this
 clear hx ho h hs
 generalize stK 5 o=kk at *
 generalize stA o=aa at *
 go_enter Tryz.func86,Tryz.ntmps86
 go_wp2_with (first
  | (go_at_call 97;refine(HC.out _ ?_).mono ?_;(focus((repeat first|with_reducible exact Below.refl _ _|with_reducible exact hB|with_reducible refine Below.drew ?_|with_reducible refine Below.alloc ?_ zq6 _|with_reducible refine Below.setCell ?_ zq6 _)));rintro e w1 ⟨rfl,h1⟩;have HB7:Hid (w1.heap[w.heap.size]?=some (.cells #[.int .i64 0,.int .u32 0] 36)):=(h1.block _ zq17).trans ((bal_old _ _ _ (by simp)).trans (heap_alloc_last w _));have HBB:Hid (Below w.heap.size w w1):=(Below.trans zq13 (h1.mono zq17));have q0:w1.cell? ⟨w.heap.size,0,none⟩=some (.int .i64 0):=rcell HB7.out 0;have q1:w1.cell? ⟨w.heap.size,1,none⟩=some (.int .u32 0):=rcell HB7.out 1;have fr:=rfr HB7.out;have l7:=rlt HB7.out;have l7b:=Nat.lt_succ_of_lt l7;clear h1))
 all_goals go_region
 all_goals go_wp2
 all_goals exact bodyPost_ret (v:=.tuple #[.int .u32 v,.agg #[.int .i64 kk,.int .u32 aa]]) zq35 rfl ⟨rfl,by
  have hB:=HBB.out
  (repeat first|with_reducible exact Below.refl _ _|with_reducible exact hB|with_reducible refine Below.drew ?_|with_reducible refine Below.alloc ?_ zq6 _|with_reducible refine Below.setCell ?_ zq6 _)⟩
theorem rld1(k:RB)(a v:Nat)(s:MS)(w:World)(o:Option Nat)(ha:a < 4294967296)(hs:s.Ok)(h:RM w k s)(hx:ldX s a 1=v)(hv:v < 4294967296)(ho:badN s 1 a 1=o) :
  Calls Tryz.prog 86 #[.pointer (some ⟨k.y,0,none⟩),.int .i64 1,.int .u32 a] w fun e w'=>e=.returned (.tuple #[.int .u32 (unF 2 v:Nat),.agg #[.int .i64 (stK 5 o),.int .u32 (stA o)]])∧Below w.heap.size w w':=by
 have HC:Hid (∀ W,Below w.heap.size w W→Calls Tryz.prog 97 #[.pointer (some ⟨k.y,0,none⟩),.int .u32 a,.int .i64 1] W fun e w'=>e=.returned (.tuple #[.int .u32 v,.agg #[.int .i64 (stK 5 o),.int .u32 (stA o)]])∧Below W.heap.size W w'):=show ∀ W,_ from fun W hW=>by
  have:=rload_tot k a 1 s W ha hs (h.below hW (Nat.le_refl _))
  rw[hx,show badN s 1 a (1:Int).toNat=o from ho] at this
  exact this
 clear hx ho h hs
 generalize stK 5 o=kk at *
 generalize stA o=aa at *
 go_enter Tryz.func86,Tryz.ntmps86
 go_wp2_with (first
  | (go_at_call 97;refine(HC.out _ ?_).mono ?_;(focus((repeat first|with_reducible exact Below.refl _ _|with_reducible exact hB|with_reducible refine Below.drew ?_|with_reducible refine Below.alloc ?_ zq6 _|with_reducible refine Below.setCell ?_ zq6 _)));rintro e w1 ⟨rfl,h1⟩;have HB7:Hid (w1.heap[w.heap.size]?=some (.cells #[.int .i64 0,.int .u32 0] 36)):=(h1.block _ zq17).trans ((bal_old _ _ _ (by simp)).trans (heap_alloc_last w _));have HBB:Hid (Below w.heap.size w w1):=(Below.trans zq13 (h1.mono zq17));have q0:w1.cell? ⟨w.heap.size,0,none⟩=some (.int .i64 0):=rcell HB7.out 0;have q1:w1.cell? ⟨w.heap.size,1,none⟩=some (.int .u32 0):=rcell HB7.out 1;have fr:=rfr HB7.out;have l7:=rlt HB7.out;have l7b:=Nat.lt_succ_of_lt l7;clear h1)
  | (go_at_call 104;refine(run_any 2 v _ hv (by decide)).mono ?_;rintro e w2 ⟨rfl,rfl⟩))
 all_goals go_region
 all_goals go_wp2
 all_goals exact bodyPost_ret (v:=.tuple #[.int .u32 (unF 2 v:Nat),.agg #[.int .i64 kk,.int .u32 aa]]) zq35 rfl ⟨rfl,by
  have hB:=HBB.out
  (repeat first|with_reducible exact Below.refl _ _|with_reducible exact hB|with_reducible refine Below.drew ?_|with_reducible refine Below.alloc ?_ zq6 _|with_reducible refine Below.setCell ?_ zq6 _)⟩
theorem rld2(k:RB)(a v:Nat)(s:MS)(w:World)(o:Option Nat)(ha:a < 4294967296)(hs:s.Ok)(h:RM w k s)(hx:ldX s a 2=v)(hv:v < 4294967296)(ho:badN s 1 a 2=o) :
  Calls Tryz.prog 86 #[.pointer (some ⟨k.y,0,none⟩),.int .i64 2,.int .u32 a] w fun e w'=>e=.returned (.tuple #[.int .u32 v,.agg #[.int .i64 (stK 5 o),.int .u32 (stA o)]])∧Below w.heap.size w w':=by
 have HC:Hid (∀ W,Below w.heap.size w W→Calls Tryz.prog 97 #[.pointer (some ⟨k.y,0,none⟩),.int .u32 a,.int .i64 2] W fun e w'=>e=.returned (.tuple #[.int .u32 v,.agg #[.int .i64 (stK 5 o),.int .u32 (stA o)]])∧Below W.heap.size W w'):=show ∀ W,_ from fun W hW=>by
  have:=rload_tot k a 2 s W ha hs (h.below hW (Nat.le_refl _))
  rw[hx,show badN s 1 a (2:Int).toNat=o from ho] at this
  exact this
 clear hx ho h hs
 generalize stK 5 o=kk at *
 generalize stA o=aa at *
 go_enter Tryz.func86,Tryz.ntmps86
 go_wp2_with (first
  | (go_at_call 97;refine(HC.out _ ?_).mono ?_;(focus((repeat first|with_reducible exact Below.refl _ _|with_reducible exact hB|with_reducible refine Below.drew ?_|with_reducible refine Below.alloc ?_ zq6 _|with_reducible refine Below.setCell ?_ zq6 _)));rintro e w1 ⟨rfl,h1⟩;have HB7:Hid (w1.heap[w.heap.size]?=some (.cells #[.int .i64 0,.int .u32 0] 36)):=(h1.block _ zq17).trans ((bal_old _ _ _ (by simp)).trans (heap_alloc_last w _));have HBB:Hid (Below w.heap.size w w1):=(Below.trans zq13 (h1.mono zq17));have q0:w1.cell? ⟨w.heap.size,0,none⟩=some (.int .i64 0):=rcell HB7.out 0;have q1:w1.cell? ⟨w.heap.size,1,none⟩=some (.int .u32 0):=rcell HB7.out 1;have fr:=rfr HB7.out;have l7:=rlt HB7.out;have l7b:=Nat.lt_succ_of_lt l7;clear h1))
 all_goals go_region
 all_goals go_wp2
 all_goals exact bodyPost_ret (v:=.tuple #[.int .u32 v,.agg #[.int .i64 kk,.int .u32 aa]]) zq35 rfl ⟨rfl,by
  have hB:=HBB.out
  (repeat first|with_reducible exact Below.refl _ _|with_reducible exact hB|with_reducible refine Below.drew ?_|with_reducible refine Below.alloc ?_ zq6 _|with_reducible refine Below.setCell ?_ zq6 _)⟩
theorem rld3(k:RB)(a v:Nat)(s:MS)(w:World)(o:Option Nat)(ha:a < 4294967296)(hs:s.Ok)(h:RM w k s)(hx:ldX s a 2=v)(hv:v < 4294967296)(ho:badN s 1 a 2=o) :
  Calls Tryz.prog 86 #[.pointer (some ⟨k.y,0,none⟩),.int .i64 3,.int .u32 a] w fun e w'=>e=.returned (.tuple #[.int .u32 (unF 3 v:Nat),.agg #[.int .i64 (stK 5 o),.int .u32 (stA o)]])∧Below w.heap.size w w':=by
 have HC:Hid (∀ W,Below w.heap.size w W→Calls Tryz.prog 97 #[.pointer (some ⟨k.y,0,none⟩),.int .u32 a,.int .i64 2] W fun e w'=>e=.returned (.tuple #[.int .u32 v,.agg #[.int .i64 (stK 5 o),.int .u32 (stA o)]])∧Below W.heap.size W w'):=show ∀ W,_ from fun W hW=>by
  have:=rload_tot k a 2 s W ha hs (h.below hW (Nat.le_refl _))
  rw[hx,show badN s 1 a (2:Int).toNat=o from ho] at this
  exact this
 clear hx ho h hs
 generalize stK 5 o=kk at *
 generalize stA o=aa at *
 go_enter Tryz.func86,Tryz.ntmps86
 go_wp2_with (first
  | (go_at_call 97;refine(HC.out _ ?_).mono ?_;(focus((repeat first|with_reducible exact Below.refl _ _|with_reducible exact hB|with_reducible refine Below.drew ?_|with_reducible refine Below.alloc ?_ zq6 _|with_reducible refine Below.setCell ?_ zq6 _)));rintro e w1 ⟨rfl,h1⟩;have HB7:Hid (w1.heap[w.heap.size]?=some (.cells #[.int .i64 0,.int .u32 0] 36)):=(h1.block _ zq17).trans ((bal_old _ _ _ (by simp)).trans (heap_alloc_last w _));have HBB:Hid (Below w.heap.size w w1):=(Below.trans zq13 (h1.mono zq17));have q0:w1.cell? ⟨w.heap.size,0,none⟩=some (.int .i64 0):=rcell HB7.out 0;have q1:w1.cell? ⟨w.heap.size,1,none⟩=some (.int .u32 0):=rcell HB7.out 1;have fr:=rfr HB7.out;have l7:=rlt HB7.out;have l7b:=Nat.lt_succ_of_lt l7;clear h1)
  | (go_at_call 104;refine(run_any 3 v _ hv (by decide)).mono ?_;rintro e w2 ⟨rfl,rfl⟩))
 all_goals go_region
 all_goals go_wp2
 all_goals exact bodyPost_ret (v:=.tuple #[.int .u32 (unF 3 v:Nat),.agg #[.int .i64 kk,.int .u32 aa]]) zq35 rfl ⟨rfl,by
  have hB:=HBB.out
  (repeat first|with_reducible exact Below.refl _ _|with_reducible exact hB|with_reducible refine Below.drew ?_|with_reducible refine Below.alloc ?_ zq6 _|with_reducible refine Below.setCell ?_ zq6 _)⟩
theorem rld4(k:RB)(a v:Nat)(s:MS)(w:World)(o:Option Nat)(ha:a < 4294967296)(hs:s.Ok)(h:RM w k s)(hx:ldX s a 4=v)(hv:v < 4294967296)(ho:badN s 1 a 4=o) :
  Calls Tryz.prog 86 #[.pointer (some ⟨k.y,0,none⟩),.int .i64 4,.int .u32 a] w fun e w'=>e=.returned (.tuple #[.int .u32 v,.agg #[.int .i64 (stK 5 o),.int .u32 (stA o)]])∧Below w.heap.size w w':=by
 have HC:Hid (∀ W,Below w.heap.size w W→Calls Tryz.prog 97 #[.pointer (some ⟨k.y,0,none⟩),.int .u32 a,.int .i64 4] W fun e w'=>e=.returned (.tuple #[.int .u32 v,.agg #[.int .i64 (stK 5 o),.int .u32 (stA o)]])∧Below W.heap.size W w'):=show ∀ W,_ from fun W hW=>by
  have:=rload_tot k a 4 s W ha hs (h.below hW (Nat.le_refl _))
  rw[hx,show badN s 1 a (4:Int).toNat=o from ho] at this
  exact this
 clear hx ho h hs
 generalize stK 5 o=kk at *
 generalize stA o=aa at *
 go_enter Tryz.func86,Tryz.ntmps86
 go_wp2_with (first
  | (go_at_call 97;refine(HC.out _ ?_).mono ?_;(focus((repeat first|with_reducible exact Below.refl _ _|with_reducible exact hB|with_reducible refine Below.drew ?_|with_reducible refine Below.alloc ?_ zq6 _|with_reducible refine Below.setCell ?_ zq6 _)));rintro e w1 ⟨rfl,h1⟩;have HB7:Hid (w1.heap[w.heap.size]?=some (.cells #[.int .i64 0,.int .u32 0] 36)):=(h1.block _ zq17).trans ((bal_old _ _ _ (by simp)).trans (heap_alloc_last w _));have HBB:Hid (Below w.heap.size w w1):=(Below.trans zq13 (h1.mono zq17));have q0:w1.cell? ⟨w.heap.size,0,none⟩=some (.int .i64 0):=rcell HB7.out 0;have q1:w1.cell? ⟨w.heap.size,1,none⟩=some (.int .u32 0):=rcell HB7.out 1;have fr:=rfr HB7.out;have l7:=rlt HB7.out;have l7b:=Nat.lt_succ_of_lt l7;clear h1))
 all_goals go_region
 all_goals go_wp2
 all_goals exact bodyPost_ret (v:=.tuple #[.int .u32 v,.agg #[.int .i64 kk,.int .u32 aa]]) zq35 rfl ⟨rfl,by
  have hB:=HBB.out
  (repeat first|with_reducible exact Below.refl _ _|with_reducible exact hB|with_reducible refine Below.drew ?_|with_reducible refine Below.alloc ?_ zq6 _|with_reducible refine Below.setCell ?_ zq6 _)⟩
def valF(o:OpR)(a b c:Nat):Int:=
 if o.kind=1 then(o.k:Int) else if o.kind=4 then binF o.w a b else if o.kind=5 then(unF o.w a:Int) else if o.kind=6 then(if a=0 then(c:Int) else(b:Int))
 else if o.kind=7 then Fl.flagsF o.w a b c else Fl.isF (Fl.holdsF o.w a) 1
structure OpWf(o:OpR):Prop where
 w4:o.kind=4→0≤o.w∧o.w≤15
 w5:o.kind=5→0≤o.w∧o.w≤6
theorem rval1(o:OpR)(a b c:Nat)(w:World)(ha:a < 4294967296)(hb:b < 4294967296)(hc:c < 4294967296)(hk:o.kind=1)(hw:OpWf o) :
  Calls Tryz.prog 88 #[.agg #[.int .i64 o.kind,.int .i64 o.w,.int .i64 o.a,.int .i64 o.b,.int .i64 o.c,.int .u32 o.k,.int .i64 o.n],.int .u32 a,.int .u32 b,.int .u32 c] w fun e w'=>e=.returned (.int .u32 (valF o a b c))∧Below w.heap.size w w':=by
 have HF:Hid (valF o a b c=(o.k:Int)):=by show _=_;simp[valF,hk]
 have HW:Hid _:=hw
 have HK:Hid (o.kind=1):=hk
 clear hw
 go_enter Tryz.func88,Tryz.ntmps88
 go_wp2
 go_ret
 exact⟨by rw[HF.out];rfl,wk_bel1 w _⟩
theorem rval4(o:OpR)(a b c:Nat)(w:World)(ha:a < 4294967296)(hb:b < 4294967296)(hc:c < 4294967296)(hk:o.kind=4)(hw:OpWf o) :
  Calls Tryz.prog 88 #[.agg #[.int .i64 o.kind,.int .i64 o.w,.int .i64 o.a,.int .i64 o.b,.int .i64 o.c,.int .u32 o.k,.int .i64 o.n],.int .u32 a,.int .u32 b,.int .u32 c] w fun e w'=>e=.returned (.int .u32 (valF o a b c))∧Below w.heap.size w w':=by
 have HF:Hid (valF o a b c=binF o.w a b):=by show _=_;simp[valF,hk]
 have HW:Hid _:=hw
 have HK:Hid (o.kind=4):=hk
 clear hw
 go_enter Tryz.func88,Tryz.ntmps88
 go_wp2_with (go_at_call 105;refine(rbin_any o.w a b _ ha hb (HW.out.w4 HK.out)).mono ?_;rintro e w1 ⟨rfl,h1⟩)
 go_ret
 exact⟨by rw[HF.out];rfl,(wk_bel1 w _).trans (h1.mono (by simp))⟩
theorem rval5(o:OpR)(a b c:Nat)(w:World)(ha:a < 4294967296)(hb:b < 4294967296)(hc:c < 4294967296)(hk:o.kind=5)(hw:OpWf o) :
  Calls Tryz.prog 88 #[.agg #[.int .i64 o.kind,.int .i64 o.w,.int .i64 o.a,.int .i64 o.b,.int .i64 o.c,.int .u32 o.k,.int .i64 o.n],.int .u32 a,.int .u32 b,.int .u32 c] w fun e w'=>e=.returned (.int .u32 (valF o a b c))∧Below w.heap.size w w':=by
 have HF:Hid (valF o a b c=(unF o.w a:Int)):=by show _=_;simp[valF,hk]
 have HW:Hid _:=hw
 have HK:Hid (o.kind=5):=hk
 clear hw
 go_enter Tryz.func88,Tryz.ntmps88
 go_wp2_with (go_at_call 104;refine(run_any o.w a _ ha (HW.out.w5 HK.out)).mono ?_;rintro e w1 ⟨rfl,rfl⟩)
 go_ret
 exact⟨by rw[HF.out];rfl,wk_bel1 w _⟩
theorem rval6(o:OpR)(a b c:Nat)(w:World)(ha:a < 4294967296)(hb:b < 4294967296)(hc:c < 4294967296)(hk:o.kind=6)(hw:OpWf o) :
  Calls Tryz.prog 88 #[.agg #[.int .i64 o.kind,.int .i64 o.w,.int .i64 o.a,.int .i64 o.b,.int .i64 o.c,.int .u32 o.k,.int .i64 o.n],.int .u32 a,.int .u32 b,.int .u32 c] w fun e w'=>e=.returned (.int .u32 (valF o a b c))∧Below w.heap.size w w':=by
 have HF:Hid (valF o a b c=if a=0 then(c:Int) else(b:Int)):=by show _=_;simp[valF,hk]
 have HW:Hid _:=hw
 have HK:Hid (o.kind=6):=hk
 clear hw
 go_enter Tryz.func88,Tryz.ntmps88
 by_cases h:a=0
 ·have d:((a:Int) !=0)=false:=by simp;omega
  go_wp2
  go_ret
  exact⟨by rw[HF.out,if_pos h];rfl,wk_bel1 w _⟩
 ·have d:((a:Int) !=0)=true:=by simp;omega
  go_wp2
  go_ret
  exact⟨by rw[HF.out,if_neg h];rfl,wk_bel1 w _⟩
theorem rval7(o:OpR)(a b c:Nat)(w:World)(ha:a < 4294967296)(hb:b < 4294967296)(hc:c < 4294967296)(hk:o.kind=7)(hw:OpWf o) :
  Calls Tryz.prog 88 #[.agg #[.int .i64 o.kind,.int .i64 o.w,.int .i64 o.a,.int .i64 o.b,.int .i64 o.c,.int .u32 o.k,.int .i64 o.n],.int .u32 a,.int .u32 b,.int .u32 c] w fun e w'=>e=.returned (.int .u32 (valF o a b c))∧Below w.heap.size w w':=by
 have HF:Hid (valF o a b c=Fl.flagsF o.w a b c):=by show _=_;simp[valF,hk]
 have HW:Hid _:=hw
 have HK:Hid (o.kind=7):=hk
 clear hw
 go_enter Tryz.func88,Tryz.ntmps88
 go_wp2_with (go_at_call 62;refine(Fl.flags_any o.w a b c _ ha hb hc).mono ?_;rintro e w1 ⟨rfl,rfl⟩)
 go_ret
 exact⟨by rw[HF.out];rfl,wk_bel1 w _⟩
theorem rval8(o:OpR)(a b c:Nat)(w:World)(ha:a < 4294967296)(hb:b < 4294967296)(hc:c < 4294967296)(hk:o.kind=8)(hw:OpWf o) :
  Calls Tryz.prog 88 #[.agg #[.int .i64 o.kind,.int .i64 o.w,.int .i64 o.a,.int .i64 o.b,.int .i64 o.c,.int .u32 o.k,.int .i64 o.n],.int .u32 a,.int .u32 b,.int .u32 c] w fun e w'=>e=.returned (.int .u32 (valF o a b c))∧Below w.heap.size w w':=by
 have HF:Hid (valF o a b c=Fl.isF (Fl.holdsF o.w a) 1):=by show _=_;simp[valF,hk]
 have HW:Hid _:=hw
 have HK:Hid (o.kind=8):=hk
 clear hw
 go_enter Tryz.func88,Tryz.ntmps88
 go_wp2_with (first
  | (go_at_call 63;refine(Fl.holds_any o.w a _ ha).mono ?_;rintro e w1 ⟨rfl,h1⟩)
  | (go_at_call 106;refine(is3_any _ _).mono ?_;rintro e w2 ⟨rfl,rfl⟩))
 go_ret
 exact⟨by rw[HF.out];rfl,(wk_bel1 w _).trans (h1.mono (by simp))⟩
def pvalF(o:OpR)(c:Nat→Nat)(a b d:Nat):Int:=if o.kind=2 then(c o.w.toNat:Int) else if o.kind=17 then cxF c else valF o a b d
def updC(c:Nat→Nat)(i x:Nat):Nat→Nat:=fun j=>if j=i then x else c j
theorem Chg.drewC{S:List Nat}{w w':World}(h:Chg S w w'):Chg S w w'.drew:=h.trans (Chg.of_below S ((Below.refl _ w').drew))
theorem Chg.allocC{S:List Nat}{w w':World}(h:Chg S w w')(x:Obj):Chg S w (w'.alloc x):=h.trans (Chg.of_below S ((Below.refl _ w').alloc (Nat.le_refl _) x))
theorem Chg.setN{S:List Nat}{w w':World}{B o:Nat}{u:Value}(h:Chg S w w')(hB:w.heap.size≤B):Chg S w (w'.setCell ⟨B,o,none⟩ u):=h.new hB ((Only.refl B w').setCell o u)
end Go.Proofs.YtfokgedjocnnmaaGreat
