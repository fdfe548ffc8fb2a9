import Derived.Test.YtkmjenjahbicpaaZQ
import Derived.WalkKit
import Derived.WalkSpells
import Derived.WalkLawsBesides
import Derived.Deep.QuietTactic
import Derived.BigQuiet
import Derived.KernelRfl
import Derived.Laws.Tables
import Derived.Deep.WholeRow
import Derived.Deep.LoopGhost
import Derived.BigRegion
import Derived.LoopN
import Derived.Laws.BitsAllLaws
import Derived.ChangeKeysEq
import Derived.Deep.RegionHeld3
import Derived.Deep.CutBlock
import Derived.Below
import Derived.OwnWalk
import Derived.Deep.AppendLies
set_option linter.unusedVariables false
set_option linter.unusedSimpArgs false
set_option maxHeartbeats 1000000
namespace Go.Proofs.Ytkmjenjahbicpaa.Gu
open Go.RowKit
def zD8(P:Program)(o:Oper)(a:Act):Option Act:=
 match o.guard,o.op with
 | none,.build t parts=>(P.built t (parts.map fun (i,x)=>(i,a.eval x)).toList).map fun cs=>a.put o.dst (.agg cs)
 | _,_=>none
def zBZ(P:Program):Nat→List Oper→Act→Option Act
 | 0,_,a=>some a
 | n+1,o :: r,a=>(zD8 P o a).bind (zBZ P n r)
 | _+1,[],_=>none
theorem zAc{P:Program}{ops:Array Oper}{rest:List Oper}{o:Oper}{a:Act}{w:World}{Q:Exit→Act→World→Prop}(hg:o.guard=none)(t:TypeId)(parts:Array (Nat × Operand))(ho:o.op=.build t parts)(cells:Array Value)
  (hc:P.built t (parts.map fun (i,x)=>(i,a.eval x)).toList=some cells)
  (h:wpList P ops Q rest (a.put o.dst (.agg cells)) w):wpList P ops Q (o :: rest) a w:=
 wpList_build hg t parts ho (by rw[hc];rfl) (by rw[hc];exact h)
theorem zA6{P:Program}{ops:Array Oper}{w:World}{Q:Exit→Act→World→Prop}:∀ (n:Nat) (l:List Oper) (a a':Act),zBZ P n l a=some a'→
  wpList P ops Q (l.drop n) a' w→wpList P ops Q l a w
 | 0,_,_,_,h,k=>by simp only[zBZ,Option.some.injEq] at h;subst h;exact k
 | n+1,[],_,_,h,_=>by simp[zBZ] at h
 | n+1,o :: r,a,a',h,k=>by
  simp only[zBZ] at h
  cases hb:zD8 P o a with
  | none=>simp[hb] at h
  | some a1=>
   simp only[hb,Option.bind_some] at h
   unfold zD8 at hb
   split at hb
   ·rename_i t parts hg ho
    simp only[Option.map_eq_some_iff] at hb
    obtain⟨cs,hcs,rfl⟩:=hb
    exact zAc hg t parts ho cs hcs (zA6 n r _ a' h (by simpa using k))
   ·simp at hb
theorem yX{P:Program}{ops:Array Oper}{w:World}{Q:Exit→Act→World→Prop}(d n:Nat)(o:Oper)(l:List Oper)(a a':Act)(_hd:o.dst=some d)(h:zBZ P n (o :: l) a=some a')
  (k:wpList P ops Q ((o :: l).drop n) a' w):wpList P ops Q (o :: l) a w:=zA6 n (o :: l) a a' h k
theorem vF{P:Program}{ops:Array Oper}{rest:List Oper}{o:Oper}{a:Act}{w:World}{Q:Exit→Act→World→Prop}(hg:o.guard=none)(t:TypeId)(ho:o.op=.alloc t)(cs:Array Value)(hz:∀ w,(zeroValue t).run P w=.ok (.agg cs) w)(H:Nat)(hH:w.heap.size=H)
  (h:wpList P ops Q rest (a.put o.dst (.pointer (some ⟨H,0,none⟩))) (w.alloc (.cells cs t))):wpList P ops Q (o :: rest) a w:=by
 subst hH
 refine wpList_plain hg fun _ hK=>?_
 unfold Oper.wp execOp
 simp[ho,hz,Instr.alloc,go_sem]
 exact hK _ _ h
theorem zAs{P:Program}{ops:Array Oper}{rest:List Oper}{o:Oper}{a:Act}{w:World}{Q:Exit→Act→World→Prop}(hg:o.guard=none)(t:TypeId)(len:Nat)(parts:Array (Nat × Operand))(ho:o.op=.buildSlice t len parts)(v:Value)(w':World)
  (hr:(Instr.buildSlice t len (parts.map fun (i,x)=>(i,a.eval x))).run P w=.ok v w')
  (h:wpList P ops Q rest (a.put o.dst v) w'):wpList P ops Q (o :: rest) a w:=by
 refine wpList_plain hg fun _ hK=>?_
 unfold Oper.wp execOp
 simp only[ho,Sem.run_bind,hr,Result.andThen_ok,Sem.run_pure]
 exact hK _ _ h
end Go.Proofs.Ytkmjenjahbicpaa.Gu
namespace Go.Proofs.Ytkmjenjahbicpaa
open Go.RowKit
set_option maxRecDepth 100000
theorem yW(w:World)(o:Obj)(b:Nat)(h:b < w.heap.size):(w.alloc o).heap[b]?=w.heap[b]?:=((Below.refl w.heap.size w).alloc aL o).block b h
theorem zAu(w:World)(o:Obj):(w.alloc o).heap.size=w.heap.size+1:=by simp
theorem al2(w:World)(o1 o2:Obj):((w.alloc o1).alloc o2).heap[w.heap.size]?=some o1∧((w.alloc o1).alloc o2).heap[w.heap.size+1]?=some o2:=by
 refine⟨(yW _ o2 _ aS).trans (heap_alloc_last w o1),?_⟩
 have:=heap_alloc_last (w.alloc o1) o2
 rwa [zAu] at this
theorem al3(w:World)(o1 o2 o3:Obj):(((w.alloc o1).alloc o2).alloc o3).heap[w.heap.size]?=some o1∧(((w.alloc o1).alloc o2).alloc o3).heap[w.heap.size+1]?=some o2∧(((w.alloc o1).alloc o2).alloc o3).heap[w.heap.size+1+1]?=some o3:=by
 have h:=al2 w o1 o2
 refine⟨(yW _ o3 _ zq19).trans h.1,(yW _ o3 _ aS).trans h.2,?_⟩
 have:=heap_alloc_last ((w.alloc o1).alloc o2) o3
 rwa [zAu,zAu] at this
theorem zU{P:Program}{w:World}{ops:Array Oper}{rest:List Oper}{o:Oper}{a:Act}{Q:Exit→Act→World→Prop}(hg:o.guard=none)(t:TypeId)(x i:Operand)(ho:o.op=.index t x i)
  (xv iv v:Value) (hx:a.eval x=xv) (hi:a.eval i=iv) (hr:∀ w,(Instr.index t xv iv).run P w=.ok v w) (h:wpList P ops Q rest (a.put o.dst v) w):wpList P ops Q (o :: rest) a w:=by
 refine wpList_plain hg fun K hK=>?_
 unfold Oper.wp
 simp only[execOp,ho,hx,hi,Sem.run_bind,hr,Result.andThen_ok,Sem.run_pure]
 exact hK _ _ h
theorem zA{w:World}{X:Nat}{A:Array Value}{T:TypeId}(h:w.heap[X]?=some (.cells A T))(o:Nat):w.cell? ⟨X,o,none⟩=A[o]?:=cell_of_row _ _ o _ _ (0,0) h
theorem zD{w:World}{X:Nat}{A:Array Value}{T:TypeId}(h:w.heap[X]?=some (.cells A T))(o:Nat):w.frozen? ⟨X,o,none⟩=false:=frozen_of_row _ _ o _ _ h
theorem zE{w:World}{X:Nat}{A:Array Value}{T:TypeId}(h:w.heap[X]?=some (.cells A T)):X < w.heap.size:=by
 rcases Nat.lt_or_ge X w.heap.size with g|g
 ·exact g
 ·rw[Array.getElem?_eq_none g] at h;cases h
theorem uI{w:World}{X Y o:Nat}(v:Value)(h:Y≠X)(o':Nat):(w.setCell ⟨X,o,none⟩ v).cell? ⟨Y,o',none⟩=w.cell? ⟨Y,o',none⟩:=
 World.cell?_setCell_other _ _ _ _ (by intro e;cases e;exact h rfl)
structure zL where
 kind:Int
 w:Int
 a:Int
 b:Int
 c:Int
 k:Nat
 n:Int
abbrev opA(o:zL):Array Value:=#[.int .i64 o.kind,.int .i64 o.w,.int .i64 o.a,.int .i64 o.b,.int .i64 o.c,.int .u32 o.k,.int .i64 o.n]
structure RR where
 lo:Int
 hi:Int
 m:Int
 gives:Bool
 ends:Bool
def rrT(k:Nat):RR:=
 match k with
 | 1=>⟨0,0,8,true,false⟩
 | 2=>⟨0,11,0,true,false⟩
 | 3=>⟨0,11,1,false,false⟩
 | 4=>⟨0,15,3,true,false⟩
 | 5=>⟨0,6,1,true,false⟩
 | 6=>⟨0,0,7,true,false⟩
 | 7=>⟨0,12,7,true,false⟩
 | 8=>⟨0,15,1,true,false⟩
 | 9=>⟨0,4,25,true,false⟩
 | 10=>⟨0,2,27,false,false⟩
 | 11=>⟨0,0,24,false,false⟩
 | 12=>⟨0,0,25,false,false⟩
 | 13=>⟨1,7,25,false,false⟩
 | 14=>⟨1,7,56,false,true⟩
 | 15=>⟨0,0,24,false,true⟩
 | 16=>⟨0,0,17,false,true⟩
 | 17=>⟨0,0,0,true,false⟩
 | _=>⟨0,0,0,false,false⟩
def isK(kind:Int):Bool:=decide (1≤kind) && decide (kind≤17)
def rr(kind:Int):RR:=rrT kind.toNat
theorem zKh(kind:Int)(h:¬(1≤kind∧kind≤17)):rr kind=⟨0,0,0,false,false⟩:=by
 unfold rr rrT
 split<;>first|rfl|(exfalso;omega)
theorem zY(n m:Int)(w:World):Calls Try.prog 43 #[.int .i64 n,.int .i64 m] w fun e w'=>e=.returned (.bool (decide (0≤n∧n≤m)))∧w=w':=by
 by_cases h0:0≤n
 ·by_cases h1:n≤m
  ·have d:decide (0≤n∧n≤m)=true:=decide_eq_true ⟨h0,h1⟩
   have d1:decide (n≤m)=true:=decide_eq_true h1
   have d0:decide (0≤n)=true:=decide_eq_true h0
   rw[d]
   go_enter Try.func43,Try.ntmps43;go_wp2;go_ret;exact⟨rfl,rfl⟩
  ·have d:decide (0≤n∧n≤m)=false:=decide_eq_false (fun h=>h1 h.2)
   have d1:decide (n≤m)=false:=decide_eq_false h1
   have d0:decide (0≤n)=true:=decide_eq_true h0
   rw[d]
   clear d
   go_enter Try.func43,Try.ntmps43;go_wp2;go_ret;exact⟨rfl,rfl⟩
 ·have d:decide (0≤n∧n≤m)=false:=decide_eq_false (fun h=>h0 h.1)
  have d0:decide (0≤n)=false:=decide_eq_false h0
  rw[d]
  clear d
  go_enter Try.func43,Try.ntmps43;go_wp2;go_ret;exact⟨rfl,rfl⟩
def zB5(kind:Int):Bool:=decide (14≤kind∧kind≤16)
theorem zO(n:Int)(w:World):Calls Try.prog 22 #[.int .i64 n] w fun e w'=>e=.returned (.bool (zB5 n))∧w=w':=by
 by_cases h0:14≤n
 ·have d0:decide (14≤n)=true:=decide_eq_true h0
  by_cases h1:n≤16
  ·have d1:decide (n≤16)=true:=decide_eq_true h1
   rw[show zB5 n=true by simp[zB5,h0,h1]]
   go_enter Try.func22,Try.ntmps22;go_wp2;go_ret;exact⟨rfl,rfl⟩
  ·have d1:decide (n≤16)=false:=decide_eq_false h1
   rw[show zB5 n=false by simp[zB5,h1]]
   go_enter Try.func22,Try.ntmps22;go_wp2;go_ret;exact⟨rfl,rfl⟩
 ·have d0:decide (14≤n)=false:=decide_eq_false h0
  rw[show zB5 n=false by simp[zB5,h0]]
  go_enter Try.func22,Try.ntmps22;go_wp2;go_ret;exact⟨rfl,rfl⟩
def zD5(kind:Int):Bool:=decide ((1≤kind∧kind≤9∧kind≠3)∨kind=17)
theorem zHJ(n:Int)(w:World):Calls Try.prog 42 #[.int .i64 n] w fun e w'=>e=.returned (.bool (zD5 n))∧w=w':=by
 by_cases h0:1≤n
 ·have d0:decide (1≤n)=true:=decide_eq_true h0
  by_cases h1:n≤9
  ·have d1:decide (n≤9)=true:=decide_eq_true h1
   by_cases h3:n=3
   ·subst h3
    rw[show zD5 3=false by decide]
    clear d0 d1 h0 h1
    go_enter Try.func42,Try.ntmps42;go_wp2;go_ret;exact⟨rfl,rfl⟩
   ·have d3:(n !=3)=true:=by simpa using h3
    rw[show zD5 n=true by simp[zD5,h0,h1,h3]]
    go_enter Try.func42,Try.ntmps42;go_wp2;go_ret;exact⟨rfl,rfl⟩
  ·have d1:decide (n≤9)=false:=decide_eq_false h1
   by_cases h3:n=17
   ·subst h3
    rw[show zD5 17=true by decide]
    clear d0 d1 h0 h1
    go_enter Try.func42,Try.ntmps42;go_wp2;go_ret;exact⟨rfl,rfl⟩
   ·have d3:(n==17)=false:=by simpa using h3
    rw[show zD5 n=false by simp[zD5,h1,h3]]
    go_enter Try.func42,Try.ntmps42;go_wp2;go_ret;exact⟨rfl,rfl⟩
 ·have d0:decide (1≤n)=false:=decide_eq_false h0
  have d3:(n==17)=false:=by simp;omega
  rw[show zD5 n=false by simp[zD5,h0];omega]
  go_enter Try.func42,Try.ntmps42;go_wp2;go_ret;exact⟨rfl,rfl⟩
theorem zAe(w:World)(o1:Obj)(Z C:Array Value)(T:TypeId):((w.alloc o1).alloc (.cells Z T)).setRow (w.heap.size+1) C=(w.alloc o1).alloc (.cells C T):=by
 have:=World.setRow_alloc_new (w.alloc o1) Z C T
 rwa [zAu] at this
theorem zPG(k:Int):zD5 k=(rr k).gives:=by
 by_cases h:1≤k∧k≤17
 ·obtain⟨n,rfl⟩:∃ n:Nat,k=n:=⟨k.toNat,by omega⟩
  have h1:1≤n:=aO
  have h2:n≤17:=aO
  match n,h1,h2 with
  | 1,_,_|2,_,_|3,_,_|4,_,_|5,_,_|6,_,_|7,_,_|8,_,_|9,_,_|10,_,_|11,_,_|12,_,_|13,_,_|14,_,_|15,_,_|16,_,_|17,_,_=>decide
  | n+18,_,h=>exact absurd h aO
 ·rw[zKh k h]
  exact aF
theorem zBH(k:Int):zB5 k=(rr k).ends:=by
 by_cases h:1≤k∧k≤17
 ·obtain⟨n,rfl⟩:∃ n:Nat,k=n:=⟨k.toNat,by omega⟩
  have h1:1≤n:=aO
  have h2:n≤17:=aO
  match n,h1,h2 with
  | 1,_,_|2,_,_|3,_,_|4,_,_|5,_,_|6,_,_|7,_,_|8,_,_|9,_,_|10,_,_|11,_,_|12,_,_|13,_,_|14,_,_|15,_,_|16,_,_|17,_,_=>decide
  | n+18,_,h=>exact absurd h aO
 ·rw[zKh k h]
  exact aF
def neL:List Value:=[.int .i64 0,.int .i64 0,.string { data:=#[] },.int .i64 0,.int .i64 1,.string { data:=#[107] },.int .i64 0,.int .i64 12,.string { data:=#[] },.int .i64 0,.int .i64 12,.string { data:=#[97] },.int .i64 0,.int .i64 16,.string { data:=#[97,98] },.int .i64 0,.int .i64 7,.string { data:=#[97] },.int .i64 0,.int .i64 1,.string { data:=#[97,98,99] },.int .i64 0,.int .i64 13,.string { data:=#[97,98,99] },.int .i64 0,.int .i64 16,.string { data:=#[97] },.int .i64 0,.int .i64 5,.string { data:=#[97,107,110] },.int .i64 0,.int .i64 3,.string { data:=#[97,98,107,110] },.int .i64 0,.int .i64 1,.string { data:=#[107,110] },.int .i64 0,.int .i64 1,.string { data:=#[97,107,110] },.int .i64 1,.int .i64 7,.string { data:=#[97,107,110] },.int .i64 1,.int .i64 7,.string { data:=#[103,107,110] },.int .i64 0,.int .i64 1,.string { data:=#[107,110] },.int .i64 0,.int .i64 1,.string { data:=#[97,110] },.int .i64 0,.int .i64 1,.string { data:=#[] }]
def neC:Array Value:=neL.toArray
structure NN where
 fr:Int
 so:Int
 s:ByteArray
abbrev nnA(x:NN):Array Value:=#[.int .i64 x.fr,.int .i64 x.so,.string x.s]
abbrev nnV(x:NN):Value:=.agg (nnA x)
def nnT(k:Nat):NN:=
 match k with
 | 1=>⟨0,1,{ data:=#[107] }⟩
 | 2=>⟨0,12,{ data:=#[] }⟩
 | 3=>⟨0,12,{ data:=#[97] }⟩
 | 4=>⟨0,16,{ data:=#[97,98] }⟩
 | 5=>⟨0,7,{ data:=#[97] }⟩
 | 6=>⟨0,1,{ data:=#[97,98,99] }⟩
 | 7=>⟨0,13,{ data:=#[97,98,99] }⟩
 | 8=>⟨0,16,{ data:=#[97] }⟩
 | 9=>⟨0,5,{ data:=#[97,107,110] }⟩
 | 10=>⟨0,3,{ data:=#[97,98,107,110] }⟩
 | 11=>⟨0,1,{ data:=#[107,110] }⟩
 | 12=>⟨0,1,{ data:=#[97,107,110] }⟩
 | 13=>⟨1,7,{ data:=#[97,107,110] }⟩
 | 14=>⟨1,7,{ data:=#[103,107,110] }⟩
 | 15=>⟨0,1,{ data:=#[107,110] }⟩
 | 16=>⟨0,1,{ data:=#[97,110] }⟩
 | 17=>⟨0,1,{ data:=#[] }⟩
 | _=>⟨0,0,{ data:=#[] }⟩
theorem zSh(k:Nat)(h1:1≤k)(h2:k≤17):neC[k*3]?=some (.int .i64 (nnT k).fr)∧neC[k*3+1]?=some (.int .i64 (nnT k).so)∧neC[k*3+2]?=some (.string (nnT k).s):=by
 match k,h1,h2 with
 | 1,_,_|2,_,_|3,_,_|4,_,_|5,_,_|6,_,_|7,_,_|8,_,_|9,_,_|10,_,_|11,_,_|12,_,_|13,_,_|14,_,_|15,_,_|16,_,_|17,_,_=>exact⟨by kernel_rfl,by kernel_rfl,by kernel_rfl⟩
 | n+18,_,h=>exact absurd h aO
theorem zJB(k:Nat)(w:World)(h1:1≤k)(h2:k≤17):Calls Try.prog 19 #[.int .i64 k] w fun e w'=>e=.returned (.tuple #[nnV (nnT k),.bool true])∧Below w.heap.size w w':=by
 obtain⟨c0,c1,c2⟩:=zSh k h1 h2
 have k0:(0:Int)≤k:=aO
 have k18:(k:Int) < 18:=aO
 have d0:decide ((k:Int) < 1)=false:=aF
 have d1:decide (18≤(k:Int))=false:=aF
 clear h1 h2
 go_enter Try.func19,Try.ntmps19
 go_upto_region 2 with (first
  | (refine Gu.yX 5 18 _ _ _ ⟨#[.int .i64 k,undef,.pointer (some ⟨w.heap.size,0,none⟩),.bool false,undef,.agg #[.int .i64 0,.int .i64 0,.string { data:=#[] }],.agg #[.int .i64 0,.int .i64 1,.string { data:=#[107] }],.agg #[.int .i64 0,.int .i64 12,.string { data:=#[] }],.agg #[.int .i64 0,.int .i64 12,.string { data:=#[97] }],.agg #[.int .i64 0,.int .i64 16,.string { data:=#[97,98] }],.agg #[.int .i64 0,.int .i64 7,.string { data:=#[97] }],.agg #[.int .i64 0,.int .i64 1,.string { data:=#[97,98,99] }],.agg #[.int .i64 0,.int .i64 13,.string { data:=#[97,98,99] }],.agg #[.int .i64 0,.int .i64 16,.string { data:=#[97] }],.agg #[.int .i64 0,.int .i64 5,.string { data:=#[97,107,110] }],.agg #[.int .i64 0,.int .i64 3,.string { data:=#[97,98,107,110] }],.agg #[.int .i64 0,.int .i64 1,.string { data:=#[107,110] }],.agg #[.int .i64 0,.int .i64 1,.string { data:=#[97,107,110] }],.agg #[.int .i64 1,.int .i64 7,.string { data:=#[97,107,110] }],.agg #[.int .i64 1,.int .i64 7,.string { data:=#[103,107,110] }],.agg #[.int .i64 0,.int .i64 1,.string { data:=#[107,110] }],.agg #[.int .i64 0,.int .i64 1,.string { data:=#[97,110] }],.agg #[.int .i64 0,.int .i64 1,.string { data:=#[] }],undef,undef,undef,undef,undef,undef,undef,undef,undef,undef,undef,undef,undef,undef],[]⟩ rfl (by kernel_rfl) ?_;simp only[List.drop_succ_cons,List.drop_zero])
  | (refine Gu.zAs rfl 108 18 _ rfl (.slice (some ⟨(w.alloc (.cells #[.int .i64 0,.int .i64 0,.string { data:=#[] }] 63)).heap.size,0,none⟩) 18 18) ((w.alloc (.cells #[.int .i64 0,.int .i64 0,.string { data:=#[] }] 63)).alloc (.cells neC 63)) (by kernel_rfl) ?_;rw[zAu]))
 go_wp2
 exact bodyPost_ret (v:=.tuple #[nnV (nnT k),.bool true]) (by simp[results,Try.results19,go_sem]) rfl ⟨rfl,by(repeat first|with_reducible exact Below.refl _ _|with_reducible exact hB|with_reducible refine Below.drew ?_|with_reducible refine Below.alloc ?_ zq8 _|with_reducible refine Below.setCell ?_ zq8 _)⟩
theorem zLX(k:Int)(w:World)(h:¬(1≤k∧k≤17)):Calls Try.prog 19 #[.int .i64 k] w fun e w'=>e=.returned (.tuple #[.agg #[.int .i64 0,.int .i64 0,.string { data:=#[] }],.bool false])∧Below w.heap.size w w':=by
 by_cases h1:k < 1
 ·have d0:decide (k < 1)=true:=decide_eq_true h1
  clear h
  go_enter Try.func19,Try.ntmps19
  go_upto_region 2 with (first
   | (refine Gu.yX 5 18 _ _ _ ⟨#[.int .i64 k,undef,.pointer (some ⟨w.heap.size,0,none⟩),.bool false,undef,.agg #[.int .i64 0,.int .i64 0,.string { data:=#[] }],.agg #[.int .i64 0,.int .i64 1,.string { data:=#[107] }],.agg #[.int .i64 0,.int .i64 12,.string { data:=#[] }],.agg #[.int .i64 0,.int .i64 12,.string { data:=#[97] }],.agg #[.int .i64 0,.int .i64 16,.string { data:=#[97,98] }],.agg #[.int .i64 0,.int .i64 7,.string { data:=#[97] }],.agg #[.int .i64 0,.int .i64 1,.string { data:=#[97,98,99] }],.agg #[.int .i64 0,.int .i64 13,.string { data:=#[97,98,99] }],.agg #[.int .i64 0,.int .i64 16,.string { data:=#[97] }],.agg #[.int .i64 0,.int .i64 5,.string { data:=#[97,107,110] }],.agg #[.int .i64 0,.int .i64 3,.string { data:=#[97,98,107,110] }],.agg #[.int .i64 0,.int .i64 1,.string { data:=#[107,110] }],.agg #[.int .i64 0,.int .i64 1,.string { data:=#[97,107,110] }],.agg #[.int .i64 1,.int .i64 7,.string { data:=#[97,107,110] }],.agg #[.int .i64 1,.int .i64 7,.string { data:=#[103,107,110] }],.agg #[.int .i64 0,.int .i64 1,.string { data:=#[107,110] }],.agg #[.int .i64 0,.int .i64 1,.string { data:=#[97,110] }],.agg #[.int .i64 0,.int .i64 1,.string { data:=#[] }],undef,undef,undef,undef,undef,undef,undef,undef,undef,undef,undef,undef,undef,undef],[]⟩ rfl (by kernel_rfl) ?_;simp only[List.drop_succ_cons,List.drop_zero])
   | (refine Gu.zAs rfl 108 18 _ rfl (.slice (some ⟨(w.alloc (.cells #[.int .i64 0,.int .i64 0,.string { data:=#[] }] 63)).heap.size,0,none⟩) 18 18) ((w.alloc (.cells #[.int .i64 0,.int .i64 0,.string { data:=#[] }] 63)).alloc (.cells neC 63)) (by kernel_rfl) ?_;rw[zAu]))
  go_wp2
  exact bodyPost_ret (v:=.tuple #[.agg #[.int .i64 0,.int .i64 0,.string { data:=#[] }],.bool false]) (by simp[results,Try.results19,go_sem]) rfl ⟨rfl,by(repeat first|with_reducible exact Below.refl _ _|with_reducible exact hB|with_reducible refine Below.drew ?_|with_reducible refine Below.alloc ?_ zq8 _|with_reducible refine Below.setCell ?_ zq8 _)⟩
 ·have d0:decide (k < 1)=false:=decide_eq_false h1
  have d1:decide (18≤k)=true:=aT
  clear h
  go_enter Try.func19,Try.ntmps19
  go_upto_region 2 with (first
   | (refine Gu.yX 5 18 _ _ _ ⟨#[.int .i64 k,undef,.pointer (some ⟨w.heap.size,0,none⟩),.bool false,undef,.agg #[.int .i64 0,.int .i64 0,.string { data:=#[] }],.agg #[.int .i64 0,.int .i64 1,.string { data:=#[107] }],.agg #[.int .i64 0,.int .i64 12,.string { data:=#[] }],.agg #[.int .i64 0,.int .i64 12,.string { data:=#[97] }],.agg #[.int .i64 0,.int .i64 16,.string { data:=#[97,98] }],.agg #[.int .i64 0,.int .i64 7,.string { data:=#[97] }],.agg #[.int .i64 0,.int .i64 1,.string { data:=#[97,98,99] }],.agg #[.int .i64 0,.int .i64 13,.string { data:=#[97,98,99] }],.agg #[.int .i64 0,.int .i64 16,.string { data:=#[97] }],.agg #[.int .i64 0,.int .i64 5,.string { data:=#[97,107,110] }],.agg #[.int .i64 0,.int .i64 3,.string { data:=#[97,98,107,110] }],.agg #[.int .i64 0,.int .i64 1,.string { data:=#[107,110] }],.agg #[.int .i64 0,.int .i64 1,.string { data:=#[97,107,110] }],.agg #[.int .i64 1,.int .i64 7,.string { data:=#[97,107,110] }],.agg #[.int .i64 1,.int .i64 7,.string { data:=#[103,107,110] }],.agg #[.int .i64 0,.int .i64 1,.string { data:=#[107,110] }],.agg #[.int .i64 0,.int .i64 1,.string { data:=#[97,110] }],.agg #[.int .i64 0,.int .i64 1,.string { data:=#[] }],undef,undef,undef,undef,undef,undef,undef,undef,undef,undef,undef,undef,undef,undef],[]⟩ rfl (by kernel_rfl) ?_;simp only[List.drop_succ_cons,List.drop_zero])
   | (refine Gu.zAs rfl 108 18 _ rfl (.slice (some ⟨(w.alloc (.cells #[.int .i64 0,.int .i64 0,.string { data:=#[] }] 63)).heap.size,0,none⟩) 18 18) ((w.alloc (.cells #[.int .i64 0,.int .i64 0,.string { data:=#[] }] 63)).alloc (.cells neC 63)) (by kernel_rfl) ?_;rw[zAu]))
  go_wp2
  exact bodyPost_ret (v:=.tuple #[.agg #[.int .i64 0,.int .i64 0,.string { data:=#[] }],.bool false]) (by simp[results,Try.results19,go_sem]) rfl ⟨rfl,by(repeat first|with_reducible exact Below.refl _ _|with_reducible exact hB|with_reducible refine Below.drew ?_|with_reducible refine Below.alloc ?_ zq8 _|with_reducible refine Below.setCell ?_ zq8 _)⟩
structure FL where
 ha:Bool
 hb:Bool
 hc:Bool
 hk:Bool
 hn:Bool
 hg:Bool
def flT(k:Nat):FL:=
 match k with
 | 1=>⟨false,false,false,true,false,false⟩
 | 2=>⟨false,false,false,false,false,false⟩
 | 3=>⟨true,false,false,false,false,false⟩
 | 4=>⟨true,true,false,false,false,false⟩
 | 5=>⟨true,false,false,false,false,false⟩
 | 6=>⟨true,true,true,false,false,false⟩
 | 7=>⟨true,true,true,false,false,false⟩
 | 8=>⟨true,false,false,false,false,false⟩
 | 9=>⟨true,false,false,true,true,false⟩
 | 10=>⟨true,true,false,true,true,false⟩
 | 11=>⟨false,false,false,true,true,false⟩
 | 12=>⟨true,false,false,true,true,false⟩
 | 13=>⟨true,false,false,true,true,false⟩
 | 14=>⟨false,false,false,true,true,true⟩
 | 15=>⟨false,false,false,true,true,false⟩
 | 16=>⟨true,false,false,false,true,false⟩
 | 17=>⟨false,false,false,false,false,false⟩
 | _=>⟨false,false,false,false,false,false⟩
def bd(x:FL)(o:zL):Nat→Bool
 | 0=>(o.a !=0) && !x.ha
 | 1=>(o.b !=0) && !(x.hb || x.hg)
 | 2=>(o.c !=0) && !x.hc
 | 3=>((o.k:Int) !=0) && !x.hk
 | _=>(o.n !=0) && !x.hn
def bg(x:FL)(o:zL):Bool:=x.hg && (decide (o.b < 0) || decide (4294967295 < o.b))
def zG(x:FL)(o:zL)(count:Int):Bool:=bd x o 0 || bd x o 1 || bd x o 2 || bd x o 3 || bd x o 4 || bg x o || !(decide (0≤o.n∧o.n≤count))
structure zAm(w:World)(b off:Nat)(o:zL):Prop where
 c0:w.cell? ⟨b,off,none⟩=some (.int .i64 o.kind)
 c1:w.cell? ⟨b,off+1,none⟩=some (.int .i64 o.w)
 c2:w.cell? ⟨b,off+2,none⟩=some (.int .i64 o.a)
 c3:w.cell? ⟨b,off+3,none⟩=some (.int .i64 o.b)
 c4:w.cell? ⟨b,off+4,none⟩=some (.int .i64 o.c)
 c5:w.cell? ⟨b,off+5,none⟩=some (.int .u32 o.k)
 c6:w.cell? ⟨b,off+6,none⟩=some (.int .i64 o.n)
def vN(w:World)(bp:Option Addr)(n:Nat)(f:Nat→zL):Prop:=0 < n→∃ b off,bp=some ⟨b,off,none⟩∧b < w.heap.size∧∀ i,i < n→zAm w b (off+i*7) (f i)
theorem zAm.below{w w':World}{b off n:Nat}{o:zL}(h:zAm w b off o)(k:Below n w w')(hb:b < n):zAm w' b off o:=
 ⟨(k.cell (p:=⟨b,off,none⟩) hb).trans h.c0,(k.cell (p:=⟨b,off+1,none⟩) hb).trans h.c1,(k.cell (p:=⟨b,off+2,none⟩) hb).trans h.c2,(k.cell (p:=⟨b,off+3,none⟩) hb).trans h.c3,(k.cell (p:=⟨b,off+4,none⟩) hb).trans h.c4,(k.cell (p:=⟨b,off+5,none⟩) hb).trans h.c5,(k.cell (p:=⟨b,off+6,none⟩) hb).trans h.c6⟩
theorem vN.below{w w':World}{bp:Option Addr}{n m:Nat}{f:Nat→zL}(h:vN w bp n f)(k:Below m w w')(hm:w.heap.size≤m):vN w' bp n f:=fun h0=>by
 obtain⟨b,off,e,hb,hc⟩:=h h0
 exact⟨b,off,e,Nat.lt_of_lt_of_le hb k.size,fun i hi=>(hc i hi).below k aO⟩
theorem vN.less{w:World}{bp:Option Addr}{n m:Nat}{f:Nat→zL}(h:vN w bp n f)(hm:m≤n):vN w bp m f:=fun h0=>by
 obtain⟨b,off,e,hb,hc⟩:=h aO
 exact⟨b,off,e,hb,fun i hi=>hc i aO⟩
def gvn(f:Nat→zL)(i:Nat)(t:Int):Bool:=decide (0≤t∧t < i) && (rr (f t.toNat).kind).gives
def tk(x:FL)(o:zL)(f:Nat→zL)(i:Nat):Nat→Bool
 | 0=>x.ha && !(gvn f i o.a)
 | 1=>x.hb && !(gvn f i o.b)
 | _=>x.hc && !(gvn f i o.c)
def zK(x:FL)(o:zL)(f:Nat→zL)(i:Nat):Bool:=tk x o f i 0 || tk x o f i 1 || tk x o f i 2
def eOp(o:zL):Bool:=!(isK o.kind) || decide (o.w < (rr o.kind).lo) || decide ((rr o.kind).hi < o.w)
def uQ(count:Int)(n:Nat)(f:Nat→zL)(i:Nat):Int:=
 if eOp (f i) then 2 else if zG (flT (f i).kind.toNat) (f i) count then 3 else if zK (flT (f i).kind.toNat) (f i) f i then 6
 else if(rr (f i).kind).ends && decide (i+1≠n) then 7 else 0
theorem zSX(k:Int):0≤(rr k).lo∧(rr k).lo≤255∧0≤(rr k).hi∧(rr k).hi≤255:=by
 unfold rr rrT
 split<;>decide
theorem zCI(k:Int):isK k=true↔1≤k∧k≤17:=by simp[isK]
def zFx(n:Nat)(f:Nat→zL):Int × Int:=if n=0∨(rr (f (n - 1)).kind).ends=false then(7,n) else(0,0)
def zBX(count:Int)(n:Nat)(f:Nat→zL):Nat→Nat→Int × Int
 | 0,_=>zFx n f
 | m+1,i=>if uQ count n f i=0 then zBX count n f m (i+1) else(uQ count n f i,i)
def yH(count bytes:Int)(n:Nat)(f:Nat→zL):Int × Int:=
 if 2048 < n then(5,-1) else if(0≤count∧count≤64)∧(0≤bytes∧bytes≤384) then zBX count n f n 0 else(4,-1)
structure CW(w wr:World)(pc:Nat)(count bytes:Int)(bp:Option Addr)(n cap:Nat):Prop where
 b1:wr.heap[w.heap.size]?=some (.cells #[.int .u32 pc,.int .i64 count,.int .i64 bytes,.slice bp n cap] 25)
 bel:Below w.heap.size w wr
theorem CW.next{w wr w':World}{pc:Nat}{count bytes:Int}{bp:Option Addr}{n cap:Nat}(h:CW w wr pc count bytes bp n cap)(k:Below wr.heap.size wr w'):CW w w' pc count bytes bp n cap:=
 ⟨(k.block _ (zE h.b1)).trans h.b1,h.bel.trans (k.mono (Nat.le_of_lt (zE h.b1)))⟩
def zKz(o:zL):Nat→Value
 | 0=>.int .i64 o.kind
 | 1=>.int .i64 o.w
 | 2=>.int .i64 o.a
 | 3=>.int .i64 o.b
 | 4=>.int .i64 o.c
 | 5=>.int .u32 o.k
 | _=>.int .i64 o.n
theorem zAm.cells{w:World}{b off:Nat}{o:zL}(h:zAm w b off o)(r:Nat)(hr:r < 7):w.cell? ⟨b,off+r,none⟩=some (zKz o r):=by
 match r,hr with
 | 0,_=>exact h.c0
 | 1,_=>exact h.c1
 | 2,_=>exact h.c2
 | 3,_=>exact h.c3
 | 4,_=>exact h.c4
 | 5,_=>exact h.c5
 | 6,_=>exact h.c6
theorem zN4{w:World}{b off:Nat}{o:zL}(h:∀ r,r < 7→w.cell? ⟨b,off+r,none⟩=some (zKz o r)):zAm w b off o:=
 ⟨h 0 aO,h 1 aO,h 2 aO,h 3 aO,h 4 aO,h 5 aO,h 6 aO⟩
theorem zEU{P:Program}{w:World}{ops:Array Oper}{rest:List Oper}{o:Oper}{a:Act}{Q:Exit→Act→World→Prop}(hgd:o.guard=none)(s x:Operand)(t:TypeId)
  (ho:o.op=.call { callee:=.builtin .append,args:=#[s,x],argTypes:=#[t,t] }) (sv xv v:Value) (hs:a.eval s=sv) (hx:a.eval x=xv) (hr:(Builtin.append_ #[t,t] o.type #[sv,xv]).run P w=.ok v w)
  (h:wpList P ops Q rest (a.put o.dst v) w):wpList P ops Q (o :: rest) a w:=by
 refine wpList_plain hgd fun K hK=>?_
 unfold Oper.wp execOp
 simp only[ho,resolve,invoke,builtin,Sem.run_bind,Sem.run_pure,Result.andThen_ok,List.map_toArray,List.map_cons,List.map_nil,hs,hx,hr]
 exact hK _ _ h
structure RU where
 lo:Int
 hi:Int
 takes:Int
 has:Int
 gives:Bool
 leaves:Bool
 ends:Bool
abbrev ruA(r:RU):Array Value:=#[.int .u8 r.lo,.int .u8 r.hi,.int .u8 r.takes,.int .u8 r.has,.bool r.gives,.bool r.leaves,.bool r.ends]
abbrev ruV(r:RU):Value:=.agg (ruA r)
def ruT(k:Nat):RU:=
 match k with
 | 1=>⟨0,0,0,1,true,false,false⟩
 | 2=>⟨0,11,0,0,true,false,false⟩
 | 3=>⟨0,11,1,0,false,false,false⟩
 | 4=>⟨0,15,2,0,true,false,false⟩
 | 5=>⟨0,6,1,0,true,false,false⟩
 | 6=>⟨0,0,3,0,true,false,false⟩
 | 7=>⟨0,12,3,0,true,false,false⟩
 | 8=>⟨0,15,1,0,true,false,false⟩
 | 9=>⟨0,4,1,3,true,true,false⟩
 | 10=>⟨0,2,2,3,false,true,false⟩
 | 11=>⟨0,0,0,3,false,true,false⟩
 | 12=>⟨0,0,1,3,false,true,false⟩
 | 13=>⟨1,7,1,3,false,true,false⟩
 | 14=>⟨1,7,0,7,false,true,true⟩
 | 15=>⟨0,0,0,3,false,true,true⟩
 | 16=>⟨0,0,1,2,false,true,true⟩
 | 17=>⟨0,0,0,0,true,false,false⟩
 | _=>⟨0,0,0,0,false,false,false⟩
def ru(kind:Int):RU:=ruT kind.toNat
theorem zOX(kind:Int)(h:¬(1≤kind∧kind≤17)):ru kind=⟨0,0,0,0,false,false,false⟩:=by
 unfold ru ruT
 split<;>first|rfl|(exfalso;omega)
theorem zEa(k:Int):(ru k).lo=(rr k).lo∧(ru k).hi=(rr k).hi∧(ru k).gives=(rr k).gives∧(ru k).ends=(rr k).ends:=by
 by_cases h:1≤k∧k≤17
 ·obtain⟨n,rfl⟩:∃ n:Nat,k=n:=⟨k.toNat,by omega⟩
  have h1:1≤n:=aO
  have h2:n≤17:=aO
  show(ruT n).lo=(rrT n).lo∧(ruT n).hi=(rrT n).hi∧(ruT n).gives=(rrT n).gives∧(ruT n).ends=(rrT n).ends
  match n,h1,h2 with
  | 1,_,_|2,_,_|3,_,_|4,_,_|5,_,_|6,_,_|7,_,_|8,_,_|9,_,_|10,_,_|11,_,_|12,_,_|13,_,_|14,_,_|15,_,_|16,_,_|17,_,_=>exact⟨rfl,rfl,rfl,rfl⟩
  | n+18,_,h=>exact absurd h aO
 ·rw[zOX k h,zKh k h];exact⟨rfl,rfl,rfl,rfl⟩
structure zEW(r:RU)(x:FL):Prop where
 a:decide (1≤r.takes)=x.ha
 b:decide (2≤r.takes)=x.hb
 c:decide (3≤r.takes)=x.hc
 k:(bits .and .u8 r.has 1 !=0)=x.hk
 n:(bits .and .u8 r.has 2 !=0)=x.hn
 g:(bits .and .u8 r.has 4 !=0)=x.hg
 t0:0≤r.takes
 t3:r.takes≤3
theorem zH0(k:Nat)(h1:1≤k)(h2:k≤17):zEW (ruT k) (flT k):=by
 match k,h1,h2 with
 | 1,_,_|2,_,_|3,_,_|4,_,_|5,_,_|6,_,_|7,_,_|8,_,_|9,_,_|10,_,_|11,_,_|12,_,_|13,_,_|14,_,_|15,_,_|16,_,_|17,_,_=>exact⟨by decide,by decide,by decide,by decide,by decide,by decide,by decide,by decide⟩
 | n+18,_,h=>exact absurd h aO
theorem uU(n:Int)(w:World):Calls Try.prog 67 #[.int .i64 n] w fun e w'=>e=.returned (.bool (isK n))∧w=w':=by
 by_cases h0:1≤n
 ·have d0:decide (1≤n)=true:=decide_eq_true h0
  by_cases h1:n≤17
  ·have d1:decide (n≤17)=true:=decide_eq_true h1
   rw[show isK n=true by simp[isK,h0,h1]]
   go_enter Try.func67,Try.ntmps67;go_wp2;go_ret;exact⟨rfl,rfl⟩
  ·have d1:decide (n≤17)=false:=decide_eq_false h1
   rw[show isK n=false by simp[isK,h1]]
   go_enter Try.func67,Try.ntmps67;go_wp2;go_ret;exact⟨rfl,rfl⟩
 ·have d0:decide (1≤n)=false:=decide_eq_false h0
  rw[show isK n=false by simp[isK,h0]]
  go_enter Try.func67,Try.ntmps67;go_wp2;go_ret;exact⟨rfl,rfl⟩
def ruL:List Value:=[.int .u8 0,.int .u8 0,.int .u8 0,.int .u8 0,.bool false,.bool false,.bool false,.int .u8 0,.int .u8 0,.int .u8 0,.int .u8 1,.bool true,.bool false,.bool false,.int .u8 0,.int .u8 11,.int .u8 0,.int .u8 0,.bool true,.bool false,.bool false,.int .u8 0,.int .u8 11,.int .u8 1,.int .u8 0,.bool false,.bool false,.bool false,.int .u8 0,.int .u8 15,.int .u8 2,.int .u8 0,.bool true,.bool false,.bool false,.int .u8 0,.int .u8 6,.int .u8 1,.int .u8 0,.bool true,.bool false,.bool false,.int .u8 0,.int .u8 0,.int .u8 3,.int .u8 0,.bool true,.bool false,.bool false,.int .u8 0,.int .u8 12,.int .u8 3,.int .u8 0,.bool true,.bool false,.bool false,.int .u8 0,.int .u8 15,.int .u8 1,.int .u8 0,.bool true,.bool false,.bool false,.int .u8 0,.int .u8 4,.int .u8 1,.int .u8 3,.bool true,.bool true,.bool false,.int .u8 0,.int .u8 2,.int .u8 2,.int .u8 3,.bool false,.bool true,.bool false,.int .u8 0,.int .u8 0,.int .u8 0,.int .u8 3,.bool false,.bool true,.bool false,.int .u8 0,.int .u8 0,.int .u8 1,.int .u8 3,.bool false,.bool true,.bool false,.int .u8 1,.int .u8 7,.int .u8 1,.int .u8 3,.bool false,.bool true,.bool false,.int .u8 1,.int .u8 7,.int .u8 0,.int .u8 7,.bool false,.bool true,.bool true,.int .u8 0,.int .u8 0,.int .u8 0,.int .u8 3,.bool false,.bool true,.bool true,.int .u8 0,.int .u8 0,.int .u8 1,.int .u8 2,.bool false,.bool true,.bool true,.int .u8 0,.int .u8 0,.int .u8 0,.int .u8 0,.bool true,.bool false,.bool false]
def ruC:Array Value:=ruL.toArray
def ruZ:Array Value:=#[.int .u8 0,.int .u8 0,.int .u8 0,.int .u8 0,.bool false,.bool false,.bool false,.int .u8 0,.int .u8 0,.int .u8 0,.int .u8 0,.bool false,.bool false,.bool false,.int .u8 0,.int .u8 0,.int .u8 0,.int .u8 0,.bool false,.bool false,.bool false,.int .u8 0,.int .u8 0,.int .u8 0,.int .u8 0,.bool false,.bool false,.bool false,.int .u8 0,.int .u8 0,.int .u8 0,.int .u8 0,.bool false,.bool false,.bool false,.int .u8 0,.int .u8 0,.int .u8 0,.int .u8 0,.bool false,.bool false,.bool false,.int .u8 0,.int .u8 0,.int .u8 0,.int .u8 0,.bool false,.bool false,.bool false,.int .u8 0,.int .u8 0,.int .u8 0,.int .u8 0,.bool false,.bool false,.bool false,.int .u8 0,.int .u8 0,.int .u8 0,.int .u8 0,.bool false,.bool false,.bool false,.int .u8 0,.int .u8 0,.int .u8 0,.int .u8 0,.bool false,.bool false,.bool false,.int .u8 0,.int .u8 0,.int .u8 0,.int .u8 0,.bool false,.bool false,.bool false,.int .u8 0,.int .u8 0,.int .u8 0,.int .u8 0,.bool false,.bool false,.bool false,.int .u8 0,.int .u8 0,.int .u8 0,.int .u8 0,.bool false,.bool false,.bool false,.int .u8 0,.int .u8 0,.int .u8 0,.int .u8 0,.bool false,.bool false,.bool false,.int .u8 0,.int .u8 0,.int .u8 0,.int .u8 0,.bool false,.bool false,.bool false,.int .u8 0,.int .u8 0,.int .u8 0,.int .u8 0,.bool false,.bool false,.bool false,.int .u8 0,.int .u8 0,.int .u8 0,.int .u8 0,.bool false,.bool false,.bool false,.int .u8 0,.int .u8 0,.int .u8 0,.int .u8 0,.bool false,.bool false,.bool false]
theorem zD3:(Try.prog.info? 143).map (fun i=>(i.zero,i.size))=some (some (.agg ruZ),126):=by kernel_rfl
theorem zSY(k:Nat)(h1:1≤k)(h2:k≤17):ruC[k*7]?=some (.int .u8 (ruT k).lo)∧ruC[k*7+1]?=some (.int .u8 (ruT k).hi)∧ruC[k*7+2]?=some (.int .u8 (ruT k).takes)∧ruC[k*7+3]?=some (.int .u8 (ruT k).has)∧ruC[k*7+4]?=some (.bool (ruT k).gives)∧ruC[k*7+5]?=some (.bool (ruT k).leaves)∧ruC[k*7+6]?=some (.bool (ruT k).ends):=by
 match k,h1,h2 with
 | 1,_,_=>exact⟨by kernel_rfl,by kernel_rfl,by kernel_rfl,by kernel_rfl,by kernel_rfl,by kernel_rfl,by kernel_rfl⟩
 | 2,_,_=>exact⟨by kernel_rfl,by kernel_rfl,by kernel_rfl,by kernel_rfl,by kernel_rfl,by kernel_rfl,by kernel_rfl⟩
 | 3,_,_=>exact⟨by kernel_rfl,by kernel_rfl,by kernel_rfl,by kernel_rfl,by kernel_rfl,by kernel_rfl,by kernel_rfl⟩
 | 4,_,_=>exact⟨by kernel_rfl,by kernel_rfl,by kernel_rfl,by kernel_rfl,by kernel_rfl,by kernel_rfl,by kernel_rfl⟩
 | 5,_,_=>exact⟨by kernel_rfl,by kernel_rfl,by kernel_rfl,by kernel_rfl,by kernel_rfl,by kernel_rfl,by kernel_rfl⟩
 | 6,_,_=>exact⟨by kernel_rfl,by kernel_rfl,by kernel_rfl,by kernel_rfl,by kernel_rfl,by kernel_rfl,by kernel_rfl⟩
 | 7,_,_=>exact⟨by kernel_rfl,by kernel_rfl,by kernel_rfl,by kernel_rfl,by kernel_rfl,by kernel_rfl,by kernel_rfl⟩
 | 8,_,_=>exact⟨by kernel_rfl,by kernel_rfl,by kernel_rfl,by kernel_rfl,by kernel_rfl,by kernel_rfl,by kernel_rfl⟩
 | 9,_,_=>exact⟨by kernel_rfl,by kernel_rfl,by kernel_rfl,by kernel_rfl,by kernel_rfl,by kernel_rfl,by kernel_rfl⟩
 | 10,_,_=>exact⟨by kernel_rfl,by kernel_rfl,by kernel_rfl,by kernel_rfl,by kernel_rfl,by kernel_rfl,by kernel_rfl⟩
 | 11,_,_=>exact⟨by kernel_rfl,by kernel_rfl,by kernel_rfl,by kernel_rfl,by kernel_rfl,by kernel_rfl,by kernel_rfl⟩
 | 12,_,_=>exact⟨by kernel_rfl,by kernel_rfl,by kernel_rfl,by kernel_rfl,by kernel_rfl,by kernel_rfl,by kernel_rfl⟩
 | 13,_,_=>exact⟨by kernel_rfl,by kernel_rfl,by kernel_rfl,by kernel_rfl,by kernel_rfl,by kernel_rfl,by kernel_rfl⟩
 | 14,_,_=>exact⟨by kernel_rfl,by kernel_rfl,by kernel_rfl,by kernel_rfl,by kernel_rfl,by kernel_rfl,by kernel_rfl⟩
 | 15,_,_=>exact⟨by kernel_rfl,by kernel_rfl,by kernel_rfl,by kernel_rfl,by kernel_rfl,by kernel_rfl,by kernel_rfl⟩
 | 16,_,_=>exact⟨by kernel_rfl,by kernel_rfl,by kernel_rfl,by kernel_rfl,by kernel_rfl,by kernel_rfl,by kernel_rfl⟩
 | 17,_,_=>exact⟨by kernel_rfl,by kernel_rfl,by kernel_rfl,by kernel_rfl,by kernel_rfl,by kernel_rfl,by kernel_rfl⟩
 | n+18,_,h=>exact absurd h aO
theorem zHO(k:Nat)(w:World)(h1:1≤k)(h2:k≤17):Calls Try.prog 45 #[.int .i64 k] w fun e w'=>e=.returned (ruV (ruT k))∧Below w.heap.size w w':=by
 have HK:Hid (isK k=true):=show(decide (1≤(k:Int)) && decide ((k:Int)≤17))=true by rw[decide_eq_true (by omega:1≤(k:Int)),decide_eq_true (by omega:(k:Int)≤17)];rfl
 obtain⟨c0,c1,c2,c3,c4,c5,c6⟩:=zSY k h1 h2
 have zW:=(Go.zero_of_info zD3).1
 have k0:(0:Int)≤k:=aO
 have k18:(k:Int) < 18:=aO
 have HZ:Hid ((w.alloc (.cells #[.int .u8 0,.int .u8 0,.int .u8 0,.int .u8 0,.bool false,.bool false,.bool false] 111)).heap.size=w.heap.size+1):=zAu _ _
 clear h1 h2
 go_enter Try.func45,Try.ntmps45
 go_upto_region 2 with (first
  | (refine Gu.yX 4 18 _ _ _ ⟨#[.int .i64 k,undef,.pointer (some ⟨w.heap.size,0,none⟩),undef,.agg #[.int .u8 0,.int .u8 0,.int .u8 0,.int .u8 1,.bool true,.bool false,.bool false],.agg #[.int .u8 0,.int .u8 11,.int .u8 0,.int .u8 0,.bool true,.bool false,.bool false],.agg #[.int .u8 0,.int .u8 11,.int .u8 1,.int .u8 0,.bool false,.bool false,.bool false],.agg #[.int .u8 0,.int .u8 15,.int .u8 2,.int .u8 0,.bool true,.bool false,.bool false],.agg #[.int .u8 0,.int .u8 6,.int .u8 1,.int .u8 0,.bool true,.bool false,.bool false],.agg #[.int .u8 0,.int .u8 0,.int .u8 3,.int .u8 0,.bool true,.bool false,.bool false],.agg #[.int .u8 0,.int .u8 12,.int .u8 3,.int .u8 0,.bool true,.bool false,.bool false],.agg #[.int .u8 0,.int .u8 15,.int .u8 1,.int .u8 0,.bool true,.bool false,.bool false],.agg #[.int .u8 0,.int .u8 4,.int .u8 1,.int .u8 3,.bool true,.bool true,.bool false],.agg #[.int .u8 0,.int .u8 2,.int .u8 2,.int .u8 3,.bool false,.bool true,.bool false],.agg #[.int .u8 0,.int .u8 0,.int .u8 0,.int .u8 3,.bool false,.bool true,.bool false],.agg #[.int .u8 0,.int .u8 0,.int .u8 1,.int .u8 3,.bool false,.bool true,.bool false],.agg #[.int .u8 1,.int .u8 7,.int .u8 1,.int .u8 3,.bool false,.bool true,.bool false],.agg #[.int .u8 1,.int .u8 7,.int .u8 0,.int .u8 7,.bool false,.bool true,.bool true],.agg #[.int .u8 0,.int .u8 0,.int .u8 0,.int .u8 3,.bool false,.bool true,.bool true],.agg #[.int .u8 0,.int .u8 0,.int .u8 1,.int .u8 2,.bool false,.bool true,.bool true],.agg #[.int .u8 0,.int .u8 0,.int .u8 0,.int .u8 0,.bool true,.bool false,.bool false],.agg ruC,undef,undef,undef,undef,undef,undef,undef],[]⟩ rfl (by kernel_rfl) ?_;simp only[List.drop_succ_cons,List.drop_zero])
  | (refine Gu.vF rfl 143 rfl _ zW (w.heap.size+1) HZ.out ?_)
  | (refine wpList_store_row rfl 143 _ _ rfl (w.heap.size+1) ruC (by rfl) (by rfl) 143 ruZ (al2 w _ _).2 (Go.zero_of_info zD3).2 (by rfl) (by kernel_rfl) ?_;rw[zAe]))
 go_wp2_with (go_at_call 67;refine(uU k _).mono ?_;rintro e w1 ⟨rfl,rfl⟩;rw[HK.out])
 exact bodyPost_ret (v:=ruV (ruT k)) (by simp[results,Try.results45,go_sem]) rfl ⟨rfl,by(repeat first|with_reducible exact Below.refl _ _|with_reducible exact hB|with_reducible refine Below.drew ?_|with_reducible refine Below.alloc ?_ zq8 _|with_reducible refine Below.setCell ?_ zq8 _)⟩
theorem zJX(k:Int)(w:World)(h:¬(1≤k∧k≤17)):Calls Try.prog 45 #[.int .i64 k] w fun e w'=>e=.returned (.agg #[.int .u8 0,.int .u8 0,.int .u8 0,.int .u8 0,.bool false,.bool false,.bool false])∧Below w.heap.size w w':=by
 have HK:Hid (isK k=false):=show isK k=false by unfold isK;rw[← Bool.decide_and];exact decide_eq_false h
 have zW:=(Go.zero_of_info zD3).1
 have HZ:Hid ((w.alloc (.cells #[.int .u8 0,.int .u8 0,.int .u8 0,.int .u8 0,.bool false,.bool false,.bool false] 111)).heap.size=w.heap.size+1):=zAu _ _
 clear h
 go_enter Try.func45,Try.ntmps45
 go_upto_region 2 with (first
  | (refine Gu.yX 4 18 _ _ _ ⟨#[.int .i64 k,undef,.pointer (some ⟨w.heap.size,0,none⟩),undef,.agg #[.int .u8 0,.int .u8 0,.int .u8 0,.int .u8 1,.bool true,.bool false,.bool false],.agg #[.int .u8 0,.int .u8 11,.int .u8 0,.int .u8 0,.bool true,.bool false,.bool false],.agg #[.int .u8 0,.int .u8 11,.int .u8 1,.int .u8 0,.bool false,.bool false,.bool false],.agg #[.int .u8 0,.int .u8 15,.int .u8 2,.int .u8 0,.bool true,.bool false,.bool false],.agg #[.int .u8 0,.int .u8 6,.int .u8 1,.int .u8 0,.bool true,.bool false,.bool false],.agg #[.int .u8 0,.int .u8 0,.int .u8 3,.int .u8 0,.bool true,.bool false,.bool false],.agg #[.int .u8 0,.int .u8 12,.int .u8 3,.int .u8 0,.bool true,.bool false,.bool false],.agg #[.int .u8 0,.int .u8 15,.int .u8 1,.int .u8 0,.bool true,.bool false,.bool false],.agg #[.int .u8 0,.int .u8 4,.int .u8 1,.int .u8 3,.bool true,.bool true,.bool false],.agg #[.int .u8 0,.int .u8 2,.int .u8 2,.int .u8 3,.bool false,.bool true,.bool false],.agg #[.int .u8 0,.int .u8 0,.int .u8 0,.int .u8 3,.bool false,.bool true,.bool false],.agg #[.int .u8 0,.int .u8 0,.int .u8 1,.int .u8 3,.bool false,.bool true,.bool false],.agg #[.int .u8 1,.int .u8 7,.int .u8 1,.int .u8 3,.bool false,.bool true,.bool false],.agg #[.int .u8 1,.int .u8 7,.int .u8 0,.int .u8 7,.bool false,.bool true,.bool true],.agg #[.int .u8 0,.int .u8 0,.int .u8 0,.int .u8 3,.bool false,.bool true,.bool true],.agg #[.int .u8 0,.int .u8 0,.int .u8 1,.int .u8 2,.bool false,.bool true,.bool true],.agg #[.int .u8 0,.int .u8 0,.int .u8 0,.int .u8 0,.bool true,.bool false,.bool false],.agg ruC,undef,undef,undef,undef,undef,undef,undef],[]⟩ rfl (by kernel_rfl) ?_;simp only[List.drop_succ_cons,List.drop_zero])
  | (refine Gu.vF rfl 143 rfl _ zW (w.heap.size+1) HZ.out ?_)
  | (refine wpList_store_row rfl 143 _ _ rfl (w.heap.size+1) ruC (by rfl) (by rfl) 143 ruZ (al2 w _ _).2 (Go.zero_of_info zD3).2 (by rfl) (by kernel_rfl) ?_;rw[zAe]))
 go_wp2_with (go_at_call 67;refine(uU k _).mono ?_;rintro e w1 ⟨rfl,rfl⟩;rw[HK.out])
 exact bodyPost_ret (v:=.agg #[.int .u8 0,.int .u8 0,.int .u8 0,.int .u8 0,.bool false,.bool false,.bool false]) (by simp[results,Try.results45,go_sem]) rfl ⟨rfl,by(repeat first|with_reducible exact Below.refl _ _|with_reducible exact hB|with_reducible refine Below.drew ?_|with_reducible refine Below.alloc ?_ zq8 _|with_reducible refine Below.setCell ?_ zq8 _)⟩
theorem zHN(k:Int)(w:World):Calls Try.prog 45 #[.int .i64 k] w fun e w'=>e=.returned (ruV (ru k))∧Below w.heap.size w w':=by
 by_cases h:1≤k∧k≤17
 ·obtain⟨n,rfl⟩:∃ n:Nat,k=n:=⟨k.toNat,by omega⟩
  exact zHO n w aO aO
 ·rw[zOX k h]
  exact zJX k w h
theorem uM(k:Int)(R:RU)(w:World)(hR:ru k=R):Calls Try.prog 45 #[.int .i64 k] w fun e w'=>e=.returned (.agg #[.int .u8 R.lo,.int .u8 R.hi,.int .u8 R.takes,.int .u8 R.has,.bool R.gives,.bool R.leaves,.bool R.ends])∧Below w.heap.size w w':=hR▸zHN k w
theorem zMo(R:RU)(w:World):(Instr.field 111 (.agg #[.int .u8 R.lo,.int .u8 R.hi,.int .u8 R.takes,.int .u8 R.has,.bool R.gives,.bool R.leaves,.bool R.ends]) 4).run Try.prog w=.ok (.bool R.gives) w:=by
 simp[Instr.field,Try.underlying111,go_sem,part,asAgg]
theorem zOm(R:RU)(w:World):(Instr.field 111 (.agg #[.int .u8 R.lo,.int .u8 R.hi,.int .u8 R.takes,.int .u8 R.has,.bool R.gives,.bool R.leaves,.bool R.ends]) 6).run Try.prog w=.ok (.bool R.ends) w:=by
 simp[Instr.field,Try.underlying111,go_sem,part,asAgg]
theorem vU(k:Int)(w:World):Calls Try.prog 87 #[.int .i64 k] w fun e w'=>e=.returned (.bool (rr k).gives)∧Below w.heap.size w w':=by
 obtain⟨R,HR⟩:∃ R,Hid (ru k=R):=⟨_,rfl⟩
 have HF:=zMo R
 rw[← (zEa k).2.2.1]
 go_enter Try.func87,Try.ntmps87
 go_wp2_with (go_at_call 45;refine(uM k R _ HR.out).mono ?_;rintro e w1 ⟨rfl,h1⟩)
 go_ret
 exact⟨by rw[HR.out];rfl,h1⟩
end Go.Proofs.Ytkmjenjahbicpaa
