import Derived.Test.YtfokgedjocnnmaaGreatZQ
import Derived.WalkKit
import Derived.WalkSpells
import Derived.WalkLawsBesides
import Derived.Deep.QuietTactic
import Derived.BigQuiet
import Derived.BigRegion
import Derived.KernelRfl
import Derived.LoopN
import Derived.Laws.BitsAllLaws
import Derived.Test.YtfokgedjocnnmaaGreatJ04
import Derived.Deep.RegionHeld3
import Derived.Below
import Derived.Test.YtfokgedjocnnmaaGreatJ01
import Derived.ChangeKeysEq
import Derived.Deep.CutBlock
import Derived.Deep.AppendLies
import Derived.Test.YtfokgedjocnnmaaGreatJ07
import Derived.Laws.Rows
import Derived.Test.YtfokgedjocnnmaaGreatJ03
set_option linter.unusedVariables false
set_option linter.unusedSimpArgs false
set_option maxHeartbeats 8000000
namespace Go.Proofs.YtfokgedjocnnmaaGreat
open Go.RowKit
set_option maxRecDepth 100000
theorem and15(x:Nat)(hx:x < 4294967296):bits .and .u32 (x:Int) 15=((x%16:Nat):Int):=by
 rw[show(15:Int)=((15:Nat):Int) from rfl,Go.u32_and_nat _ _ hx (by decide),Go.nat_mask4]
theorem wk_bel(w:World)(o1 o2:Obj):Below w.heap.size w ((w.alloc o1).alloc o2):=((Below.refl _ _).alloc (Nat.le_refl _) _).alloc (by simp) _
theorem wk_bel1(w:World)(o1:Obj):Below w.heap.size w (w.alloc o1):=(Below.refl _ _).alloc (Nat.le_refl _) _
abbrev cxA(c:Nat→Nat):Array Value:=#[.int .u32 (c 0),.int .u32 (c 1),.int .u32 (c 2),.int .u32 (c 3),.int .u32 (c 4),.int .u32 (c 5),.int .u32 (c 6),.int .u32 (c 7),.int .u32 (c 8),.int .u32 (c 9),.int .u32 (c 10),.int .u32 (c 11)]
abbrev cxV(c:Nat→Nat):Value:=.agg (cxA c)
abbrev sxA(r:Nat→Nat)(pc:Nat)(f:Int):Array Value:=#[.int .u32 (r 0),.int .u32 (r 1),.int .u32 (r 2),.int .u32 (r 3),.int .u32 (r 4),.int .u32 (r 5),.int .u32 (r 6),.int .u32 (r 7),.int .u32 pc,.int .u32 f]
abbrev sxV(r:Nat→Nat)(pc:Nat)(f:Int):Value:=.agg (sxA r pc f)
theorem al_old(w:World)(o:Obj)(b:Nat)(h:b < w.heap.size):(w.alloc o).heap[b]?=w.heap[b]?:=((Below.refl w.heap.size w).alloc (Nat.le_refl _) o).block b h
theorem al_size(w:World)(o:Obj):(w.alloc o).heap.size=w.heap.size+1:=by simp
theorem al2(w:World)(o1 o2:Obj):((w.alloc o1).alloc o2).heap[w.heap.size]?=some o1∧((w.alloc o1).alloc o2).heap[w.heap.size+1]?=some o2:=by
 refine⟨(al_old _ o2 _ (by simp)).trans (heap_alloc_last w o1),?_⟩
 have:=heap_alloc_last (w.alloc o1) o2
 rwa [al_size] at this
theorem al3(w:World)(o1 o2 o3:Obj):(((w.alloc o1).alloc o2).alloc o3).heap[w.heap.size]?=some o1∧(((w.alloc o1).alloc o2).alloc o3).heap[w.heap.size+1]?=some o2∧(((w.alloc o1).alloc o2).alloc o3).heap[w.heap.size+1+1]?=some o3:=by
 have h:=al2 w o1 o2
 refine⟨(al_old _ o3 _ zq17).trans h.1,(al_old _ o3 _ (by simp)).trans h.2,?_⟩
 have:=heap_alloc_last ((w.alloc o1).alloc o2) o3
 rwa [al_size,al_size] at this
theorem row_cell{w:World}{X:Nat}{A:Array Value}{T:TypeId}(h:w.heap[X]?=some (.cells A T))(o:Nat):w.cell? ⟨X,o,none⟩=A[o]?:=cell_of_row _ _ o _ _ (0,0) h
theorem row_fr{w:World}{X:Nat}{A:Array Value}{T:TypeId}(h:w.heap[X]?=some (.cells A T))(o:Nat):w.frozen? ⟨X,o,none⟩=false:=frozen_of_row _ _ o _ _ h
theorem row_lt{w:World}{X:Nat}{A:Array Value}{T:TypeId}(h:w.heap[X]?=some (.cells A T)):X < w.heap.size:=by
 rcases Nat.lt_or_ge X w.heap.size with g|g
 ·exact g
 ·rw[Array.getElem?_eq_none g] at h;cases h
structure OpR where
 kind:Int
 w:Int
 a:Int
 b:Int
 c:Int
 k:Nat
 n:Int
abbrev opA(o:OpR):Array Value:=#[.int .i64 o.kind,.int .i64 o.w,.int .i64 o.a,.int .i64 o.b,.int .i64 o.c,.int .u32 o.k,.int .i64 o.n]
structure RR where
 lo:Int
 hi:Int
 m:Int
 gives:Bool
 ends:Bool
def rrT(k:Nat):RR:=
 match k with
 | 1=>⟨0,0,8,true,false⟩
 | 2=>⟨0,11,0,true,false⟩
 | 3=>⟨0,11,1,false,false⟩
 | 4=>⟨0,15,3,true,false⟩
 | 5=>⟨0,6,1,true,false⟩
 | 6=>⟨0,0,7,true,false⟩
 | 7=>⟨0,12,7,true,false⟩
 | 8=>⟨0,15,1,true,false⟩
 | 9=>⟨0,4,25,true,false⟩
 | 10=>⟨0,2,27,false,false⟩
 | 11=>⟨0,0,24,false,false⟩
 | 12=>⟨0,0,25,false,false⟩
 | 13=>⟨1,7,25,false,false⟩
 | 14=>⟨1,7,56,false,true⟩
 | 15=>⟨0,0,24,false,true⟩
 | 16=>⟨0,0,17,false,true⟩
 | 17=>⟨0,0,0,true,false⟩
 | _=>⟨0,0,0,false,false⟩
def isK(kind:Int):Bool:=decide (1≤kind) && decide (kind≤17)
def rr(kind:Int):RR:=rrT kind.toNat
theorem rr_no(kind:Int)(h:¬(1≤kind∧kind≤17)):rr kind=⟨0,0,0,false,false⟩:=by
 unfold rr rrT
 split<;>first|rfl|(exfalso;omega)
def rfin(kind:Int):Bool:=decide (14≤kind∧kind≤16)
theorem final_any(n:Int)(w:World):Calls Tryz.prog 28 #[.int .i64 n] w fun e w'=>e=.returned (.bool (rfin n))∧w=w':=by
 by_cases h0:14≤n
 ·have d0:decide (14≤n)=true:=decide_eq_true h0
  by_cases h1:n≤16
  ·have d1:decide (n≤16)=true:=decide_eq_true h1
   rw[show rfin n=true by simp[rfin,h0,h1]]
   go_enter Tryz.func28,Tryz.ntmps28;go_wp2;go_ret;exact⟨rfl,rfl⟩
  ·have d1:decide (n≤16)=false:=decide_eq_false h1
   rw[show rfin n=false by simp[rfin,h1]]
   go_enter Tryz.func28,Tryz.ntmps28;go_wp2;go_ret;exact⟨rfl,rfl⟩
 ·have d0:decide (14≤n)=false:=decide_eq_false h0
  rw[show rfin n=false by simp[rfin,h0]]
  go_enter Tryz.func28,Tryz.ntmps28;go_wp2;go_ret;exact⟨rfl,rfl⟩
def rgiv(kind:Int):Bool:=decide ((1≤kind∧kind≤9∧kind≠3)∨kind=17)
theorem rgives_any(n:Int)(w:World):Calls Tryz.prog 60 #[.int .i64 n] w fun e w'=>e=.returned (.bool (rgiv n))∧w=w':=by
 by_cases h0:1≤n
 ·have d0:decide (1≤n)=true:=decide_eq_true h0
  by_cases h1:n≤9
  ·have d1:decide (n≤9)=true:=decide_eq_true h1
   by_cases h3:n=3
   ·subst h3
    rw[show rgiv 3=false by decide]
    clear d0 d1 h0 h1
    go_enter Tryz.func60,Tryz.ntmps60;go_wp2;go_ret;exact⟨rfl,rfl⟩
   ·have d3:(n !=3)=true:=by simpa using h3
    rw[show rgiv n=true by simp[rgiv,h0,h1,h3]]
    go_enter Tryz.func60,Tryz.ntmps60;go_wp2;go_ret;exact⟨rfl,rfl⟩
  ·have d1:decide (n≤9)=false:=decide_eq_false h1
   by_cases h3:n=17
   ·subst h3
    rw[show rgiv 17=true by decide]
    clear d0 d1 h0 h1
    go_enter Tryz.func60,Tryz.ntmps60;go_wp2;go_ret;exact⟨rfl,rfl⟩
   ·have d3:(n==17)=false:=by simpa using h3
    rw[show rgiv n=false by simp[rgiv,h1,h3]]
    go_enter Tryz.func60,Tryz.ntmps60;go_wp2;go_ret;exact⟨rfl,rfl⟩
 ·have d0:decide (1≤n)=false:=decide_eq_false h0
  have d3:(n==17)=false:=by simp;omega
  rw[show rgiv n=false by simp[rgiv,h0];omega]
  go_enter Tryz.func60,Tryz.ntmps60;go_wp2;go_ret;exact⟨rfl,rfl⟩
theorem giv_eq(k:Int):rgiv k=(rr k).gives:=by
 by_cases h:1≤k∧k≤17
 ·obtain⟨n,rfl⟩:∃ n:Nat,k=n:=⟨k.toNat,by omega⟩
  have h1:1≤n:=zo
  have h2:n≤17:=zo
  match n,h1,h2 with
  | 1,_,_|2,_,_|3,_,_|4,_,_|5,_,_|6,_,_|7,_,_|8,_,_|9,_,_|10,_,_|11,_,_|12,_,_|13,_,_|14,_,_|15,_,_|16,_,_|17,_,_=>decide
  | n+18,_,h=>exact absurd h zo
 ·rw[rr_no k h]
  exact decide_eq_false zo
theorem fin_eq(k:Int):rfin k=(rr k).ends:=by
 by_cases h:1≤k∧k≤17
 ·obtain⟨n,rfl⟩:∃ n:Nat,k=n:=⟨k.toNat,by omega⟩
  have h1:1≤n:=zo
  have h2:n≤17:=zo
  match n,h1,h2 with
  | 1,_,_|2,_,_|3,_,_|4,_,_|5,_,_|6,_,_|7,_,_|8,_,_|9,_,_|10,_,_|11,_,_|12,_,_|13,_,_|14,_,_|15,_,_|16,_,_|17,_,_=>decide
  | n+18,_,h=>exact absurd h zo
 ·rw[rr_no k h]
  exact decide_eq_false zo
def neL:List Value:=[.int .i64 0,.int .i64 0,.string { data:=#[] },.int .i64 0,.int .i64 1,.string { data:=#[107] },.int .i64 0,.int .i64 12,.string { data:=#[] },.int .i64 0,.int .i64 12,.string { data:=#[97] },.int .i64 0,.int .i64 16,.string { data:=#[97,98] },.int .i64 0,.int .i64 7,.string { data:=#[97] },.int .i64 0,.int .i64 1,.string { data:=#[97,98,99] },.int .i64 0,.int .i64 13,.string { data:=#[97,98,99] },.int .i64 0,.int .i64 16,.string { data:=#[97] },.int .i64 0,.int .i64 5,.string { data:=#[97,107,110] },.int .i64 0,.int .i64 3,.string { data:=#[97,98,107,110] },.int .i64 0,.int .i64 1,.string { data:=#[107,110] },.int .i64 0,.int .i64 1,.string { data:=#[97,107,110] },.int .i64 1,.int .i64 7,.string { data:=#[97,107,110] },.int .i64 1,.int .i64 7,.string { data:=#[103,107,110] },.int .i64 0,.int .i64 1,.string { data:=#[107,110] },.int .i64 0,.int .i64 1,.string { data:=#[97,110] },.int .i64 0,.int .i64 1,.string { data:=#[] }]
def neC:Array Value:=neL.toArray
structure NN where
 fr:Int
 so:Int
 s:ByteArray
abbrev nnA(x:NN):Array Value:=#[.int .i64 x.fr,.int .i64 x.so,.string x.s]
abbrev nnV(x:NN):Value:=.agg (nnA x)
def nnT(k:Nat):NN:=
 match k with
 | 1=>⟨0,1,{ data:=#[107] }⟩
 | 2=>⟨0,12,{ data:=#[] }⟩
 | 3=>⟨0,12,{ data:=#[97] }⟩
 | 4=>⟨0,16,{ data:=#[97,98] }⟩
 | 5=>⟨0,7,{ data:=#[97] }⟩
 | 6=>⟨0,1,{ data:=#[97,98,99] }⟩
 | 7=>⟨0,13,{ data:=#[97,98,99] }⟩
 | 8=>⟨0,16,{ data:=#[97] }⟩
 | 9=>⟨0,5,{ data:=#[97,107,110] }⟩
 | 10=>⟨0,3,{ data:=#[97,98,107,110] }⟩
 | 11=>⟨0,1,{ data:=#[107,110] }⟩
 | 12=>⟨0,1,{ data:=#[97,107,110] }⟩
 | 13=>⟨1,7,{ data:=#[97,107,110] }⟩
 | 14=>⟨1,7,{ data:=#[103,107,110] }⟩
 | 15=>⟨0,1,{ data:=#[107,110] }⟩
 | 16=>⟨0,1,{ data:=#[97,110] }⟩
 | 17=>⟨0,1,{ data:=#[] }⟩
 | _=>⟨0,0,{ data:=#[] }⟩
theorem ne_at(k:Nat)(h1:1≤k)(h2:k≤17):neC[k*3]?=some (.int .i64 (nnT k).fr)∧neC[k*3+1]?=some (.int .i64 (nnT k).so)∧neC[k*3+2]?=some (.string (nnT k).s):=by
 match k,h1,h2 with
 | 1,_,_|2,_,_|3,_,_|4,_,_|5,_,_|6,_,_|7,_,_|8,_,_|9,_,_|10,_,_|11,_,_|12,_,_|13,_,_|14,_,_|15,_,_|16,_,_|17,_,_=>exact⟨by kernel_rfl,by kernel_rfl,by kernel_rfl⟩
 | n+18,_,h=>exact absurd h zo
theorem needs_yes(k:Nat)(w:World)(h1:1≤k)(h2:k≤17):Calls Tryz.prog 25 #[.int .i64 k] w fun e w'=>e=.returned (.tuple #[nnV (nnT k),.bool true])∧Below w.heap.size w w':=by
 obtain⟨c0,c1,c2⟩:=ne_at k h1 h2
 have k0:(0:Int)≤k:=zo
 have k18:(k:Int) < 18:=zo
 have d0:decide ((k:Int) < 1)=false:=decide_eq_false zo
 have d1:decide (18≤(k:Int))=false:=decide_eq_false zo
 clear h1 h2
 go_enter Tryz.func25,Tryz.ntmps25
 go_upto_region 2 with (first
  | (refine Gu.wpList_pureAt 5 18 _ _ _ ⟨#[.int .i64 k,undef,.pointer (some ⟨w.heap.size,0,none⟩),.bool false,undef,.agg #[.int .i64 0,.int .i64 0,.string { data:=#[] }],.agg #[.int .i64 0,.int .i64 1,.string { data:=#[107] }],.agg #[.int .i64 0,.int .i64 12,.string { data:=#[] }],.agg #[.int .i64 0,.int .i64 12,.string { data:=#[97] }],.agg #[.int .i64 0,.int .i64 16,.string { data:=#[97,98] }],.agg #[.int .i64 0,.int .i64 7,.string { data:=#[97] }],.agg #[.int .i64 0,.int .i64 1,.string { data:=#[97,98,99] }],.agg #[.int .i64 0,.int .i64 13,.string { data:=#[97,98,99] }],.agg #[.int .i64 0,.int .i64 16,.string { data:=#[97] }],.agg #[.int .i64 0,.int .i64 5,.string { data:=#[97,107,110] }],.agg #[.int .i64 0,.int .i64 3,.string { data:=#[97,98,107,110] }],.agg #[.int .i64 0,.int .i64 1,.string { data:=#[107,110] }],.agg #[.int .i64 0,.int .i64 1,.string { data:=#[97,107,110] }],.agg #[.int .i64 1,.int .i64 7,.string { data:=#[97,107,110] }],.agg #[.int .i64 1,.int .i64 7,.string { data:=#[103,107,110] }],.agg #[.int .i64 0,.int .i64 1,.string { data:=#[107,110] }],.agg #[.int .i64 0,.int .i64 1,.string { data:=#[97,110] }],.agg #[.int .i64 0,.int .i64 1,.string { data:=#[] }],undef,undef,undef,undef,undef,undef,undef,undef,undef,undef,undef,undef,undef,undef],[]⟩ rfl (by kernel_rfl) ?_;simp only[List.drop_succ_cons,List.drop_zero])
  | (refine Gu.wpList_buildSlice_as rfl 104 18 _ rfl (.slice (some ⟨(w.alloc (.cells #[.int .i64 0,.int .i64 0,.string { data:=#[] }] 66)).heap.size,0,none⟩) 18 18) ((w.alloc (.cells #[.int .i64 0,.int .i64 0,.string { data:=#[] }] 66)).alloc (.cells neC 66)) (by kernel_rfl) ?_;rw[al_size]))
 go_wp2
 exact bodyPost_ret (v:=.tuple #[nnV (nnT k),.bool true]) (by simp[results,Tryz.results25,go_sem]) rfl ⟨rfl,by(repeat first|with_reducible exact Below.refl _ _|with_reducible exact hB|with_reducible refine Below.drew ?_|with_reducible refine Below.alloc ?_ zq6 _|with_reducible refine Below.setCell ?_ zq6 _)⟩
theorem needs_no(k:Int)(w:World)(h:¬(1≤k∧k≤17)):Calls Tryz.prog 25 #[.int .i64 k] w fun e w'=>e=.returned (.tuple #[.agg #[.int .i64 0,.int .i64 0,.string { data:=#[] }],.bool false])∧Below w.heap.size w w':=by
 by_cases h1:k < 1
 ·have d0:decide (k < 1)=true:=decide_eq_true h1
  clear h
  go_enter Tryz.func25,Tryz.ntmps25
  go_upto_region 2 with (first
   | (refine Gu.wpList_pureAt 5 18 _ _ _ ⟨#[.int .i64 k,undef,.pointer (some ⟨w.heap.size,0,none⟩),.bool false,undef,.agg #[.int .i64 0,.int .i64 0,.string { data:=#[] }],.agg #[.int .i64 0,.int .i64 1,.string { data:=#[107] }],.agg #[.int .i64 0,.int .i64 12,.string { data:=#[] }],.agg #[.int .i64 0,.int .i64 12,.string { data:=#[97] }],.agg #[.int .i64 0,.int .i64 16,.string { data:=#[97,98] }],.agg #[.int .i64 0,.int .i64 7,.string { data:=#[97] }],.agg #[.int .i64 0,.int .i64 1,.string { data:=#[97,98,99] }],.agg #[.int .i64 0,.int .i64 13,.string { data:=#[97,98,99] }],.agg #[.int .i64 0,.int .i64 16,.string { data:=#[97] }],.agg #[.int .i64 0,.int .i64 5,.string { data:=#[97,107,110] }],.agg #[.int .i64 0,.int .i64 3,.string { data:=#[97,98,107,110] }],.agg #[.int .i64 0,.int .i64 1,.string { data:=#[107,110] }],.agg #[.int .i64 0,.int .i64 1,.string { data:=#[97,107,110] }],.agg #[.int .i64 1,.int .i64 7,.string { data:=#[97,107,110] }],.agg #[.int .i64 1,.int .i64 7,.string { data:=#[103,107,110] }],.agg #[.int .i64 0,.int .i64 1,.string { data:=#[107,110] }],.agg #[.int .i64 0,.int .i64 1,.string { data:=#[97,110] }],.agg #[.int .i64 0,.int .i64 1,.string { data:=#[] }],undef,undef,undef,undef,undef,undef,undef,undef,undef,undef,undef,undef,undef,undef],[]⟩ rfl (by kernel_rfl) ?_;simp only[List.drop_succ_cons,List.drop_zero])
   | (refine Gu.wpList_buildSlice_as rfl 104 18 _ rfl (.slice (some ⟨(w.alloc (.cells #[.int .i64 0,.int .i64 0,.string { data:=#[] }] 66)).heap.size,0,none⟩) 18 18) ((w.alloc (.cells #[.int .i64 0,.int .i64 0,.string { data:=#[] }] 66)).alloc (.cells neC 66)) (by kernel_rfl) ?_;rw[al_size]))
  go_wp2
  exact bodyPost_ret (v:=.tuple #[.agg #[.int .i64 0,.int .i64 0,.string { data:=#[] }],.bool false]) (by simp[results,Tryz.results25,go_sem]) rfl ⟨rfl,by(repeat first|with_reducible exact Below.refl _ _|with_reducible exact hB|with_reducible refine Below.drew ?_|with_reducible refine Below.alloc ?_ zq6 _|with_reducible refine Below.setCell ?_ zq6 _)⟩
 ·have d0:decide (k < 1)=false:=decide_eq_false h1
  have d1:decide (18≤k)=true:=decide_eq_true zo
  clear h
  go_enter Tryz.func25,Tryz.ntmps25
  go_upto_region 2 with (first
   | (refine Gu.wpList_pureAt 5 18 _ _ _ ⟨#[.int .i64 k,undef,.pointer (some ⟨w.heap.size,0,none⟩),.bool false,undef,.agg #[.int .i64 0,.int .i64 0,.string { data:=#[] }],.agg #[.int .i64 0,.int .i64 1,.string { data:=#[107] }],.agg #[.int .i64 0,.int .i64 12,.string { data:=#[] }],.agg #[.int .i64 0,.int .i64 12,.string { data:=#[97] }],.agg #[.int .i64 0,.int .i64 16,.string { data:=#[97,98] }],.agg #[.int .i64 0,.int .i64 7,.string { data:=#[97] }],.agg #[.int .i64 0,.int .i64 1,.string { data:=#[97,98,99] }],.agg #[.int .i64 0,.int .i64 13,.string { data:=#[97,98,99] }],.agg #[.int .i64 0,.int .i64 16,.string { data:=#[97] }],.agg #[.int .i64 0,.int .i64 5,.string { data:=#[97,107,110] }],.agg #[.int .i64 0,.int .i64 3,.string { data:=#[97,98,107,110] }],.agg #[.int .i64 0,.int .i64 1,.string { data:=#[107,110] }],.agg #[.int .i64 0,.int .i64 1,.string { data:=#[97,107,110] }],.agg #[.int .i64 1,.int .i64 7,.string { data:=#[97,107,110] }],.agg #[.int .i64 1,.int .i64 7,.string { data:=#[103,107,110] }],.agg #[.int .i64 0,.int .i64 1,.string { data:=#[107,110] }],.agg #[.int .i64 0,.int .i64 1,.string { data:=#[97,110] }],.agg #[.int .i64 0,.int .i64 1,.string { data:=#[] }],undef,undef,undef,undef,undef,undef,undef,undef,undef,undef,undef,undef,undef,undef],[]⟩ rfl (by kernel_rfl) ?_;simp only[List.drop_succ_cons,List.drop_zero])
   | (refine Gu.wpList_buildSlice_as rfl 104 18 _ rfl (.slice (some ⟨(w.alloc (.cells #[.int .i64 0,.int .i64 0,.string { data:=#[] }] 66)).heap.size,0,none⟩) 18 18) ((w.alloc (.cells #[.int .i64 0,.int .i64 0,.string { data:=#[] }] 66)).alloc (.cells neC 66)) (by kernel_rfl) ?_;rw[al_size]))
  go_wp2
  exact bodyPost_ret (v:=.tuple #[.agg #[.int .i64 0,.int .i64 0,.string { data:=#[] }],.bool false]) (by simp[results,Tryz.results25,go_sem]) rfl ⟨rfl,by(repeat first|with_reducible exact Below.refl _ _|with_reducible exact hB|with_reducible refine Below.drew ?_|with_reducible refine Below.alloc ?_ zq6 _|with_reducible refine Below.setCell ?_ zq6 _)⟩
structure FL where
 ha:Bool
 hb:Bool
 hc:Bool
 hk:Bool
 hn:Bool
 hg:Bool
def flT(k:Nat):FL:=
 match k with
 | 1=>⟨false,false,false,true,false,false⟩
 | 2=>⟨false,false,false,false,false,false⟩
 | 3=>⟨true,false,false,false,false,false⟩
 | 4=>⟨true,true,false,false,false,false⟩
 | 5=>⟨true,false,false,false,false,false⟩
 | 6=>⟨true,true,true,false,false,false⟩
 | 7=>⟨true,true,true,false,false,false⟩
 | 8=>⟨true,false,false,false,false,false⟩
 | 9=>⟨true,false,false,true,true,false⟩
 | 10=>⟨true,true,false,true,true,false⟩
 | 11=>⟨false,false,false,true,true,false⟩
 | 12=>⟨true,false,false,true,true,false⟩
 | 13=>⟨true,false,false,true,true,false⟩
 | 14=>⟨false,false,false,true,true,true⟩
 | 15=>⟨false,false,false,true,true,false⟩
 | 16=>⟨true,false,false,false,true,false⟩
 | 17=>⟨false,false,false,false,false,false⟩
 | _=>⟨false,false,false,false,false,false⟩
def bd(x:FL)(o:OpR):Nat→Bool
 | 0=>(o.a !=0) && !x.ha
 | 1=>(o.b !=0) && !(x.hb || x.hg)
 | 2=>(o.c !=0) && !x.hc
 | 3=>((o.k:Int) !=0) && !x.hk
 | _=>(o.n !=0) && !x.hn
def bg(x:FL)(o:OpR):Bool:=x.hg && (decide (o.b < 0) || decide (4294967295 < o.b))
def fieldBad(x:FL)(o:OpR)(count:Int):Bool:=bd x o 0 || bd x o 1 || bd x o 2 || bd x o 3 || bd x o 4 || bg x o || !(decide (0≤o.n∧o.n≤count))
structure OpAt(w:World)(b off:Nat)(o:OpR):Prop where
 c0:w.cell? ⟨b,off,none⟩=some (.int .i64 o.kind)
 c1:w.cell? ⟨b,off+1,none⟩=some (.int .i64 o.w)
 c2:w.cell? ⟨b,off+2,none⟩=some (.int .i64 o.a)
 c3:w.cell? ⟨b,off+3,none⟩=some (.int .i64 o.b)
 c4:w.cell? ⟨b,off+4,none⟩=some (.int .i64 o.c)
 c5:w.cell? ⟨b,off+5,none⟩=some (.int .u32 o.k)
 c6:w.cell? ⟨b,off+6,none⟩=some (.int .i64 o.n)
def OpsR(w:World)(bp:Option Addr)(n:Nat)(f:Nat→OpR):Prop:=0 < n→∃ b off,bp=some ⟨b,off,none⟩∧b < w.heap.size∧∀ i,i < n→OpAt w b (off+i*7) (f i)
theorem OpAt.below{w w':World}{b off n:Nat}{o:OpR}(h:OpAt w b off o)(k:Below n w w')(hb:b < n):OpAt w' b off o:=
 ⟨(k.cell (p:=⟨b,off,none⟩) hb).trans h.c0,(k.cell (p:=⟨b,off+1,none⟩) hb).trans h.c1,(k.cell (p:=⟨b,off+2,none⟩) hb).trans h.c2,(k.cell (p:=⟨b,off+3,none⟩) hb).trans h.c3,(k.cell (p:=⟨b,off+4,none⟩) hb).trans h.c4,(k.cell (p:=⟨b,off+5,none⟩) hb).trans h.c5,(k.cell (p:=⟨b,off+6,none⟩) hb).trans h.c6⟩
theorem OpsR.below{w w':World}{bp:Option Addr}{n m:Nat}{f:Nat→OpR}(h:OpsR w bp n f)(k:Below m w w')(hm:w.heap.size≤m):OpsR w' bp n f:=fun h0=>by
 obtain⟨b,off,e,hb,hc⟩:=h h0
 exact⟨b,off,e,Nat.lt_of_lt_of_le hb k.size,fun i hi=>(hc i hi).below k zo⟩
def gvn(f:Nat→OpR)(i:Nat)(t:Int):Bool:=decide (0≤t∧t < i) && (rr (f t.toNat).kind).gives
def tk(x:FL)(o:OpR)(f:Nat→OpR)(i:Nat):Nat→Bool
 | 0=>x.ha && !(gvn f i o.a)
 | 1=>x.hb && !(gvn f i o.b)
 | _=>x.hc && !(gvn f i o.c)
def takenBad(x:FL)(o:OpR)(f:Nat→OpR)(i:Nat):Bool:=tk x o f i 0 || tk x o f i 1 || tk x o f i 2
def eOp(o:OpR):Bool:=!(isK o.kind) || decide (o.w < (rr o.kind).lo) || decide ((rr o.kind).hi < o.w)
def opErr(count:Int)(n:Nat)(f:Nat→OpR)(i:Nat):Int:=
 if eOp (f i) then 2 else if fieldBad (flT (f i).kind.toNat) (f i) count then 3 else if takenBad (flT (f i).kind.toNat) (f i) f i then 6
 else if(rr (f i).kind).ends && decide (i+1≠n) then 7 else 0
theorem isK_iff(k:Int):isK k=true↔1≤k∧k≤17:=by simp[isK]
def endR(n:Nat)(f:Nat→OpR):Int × Int:=if n=0∨(rr (f (n - 1)).kind).ends=false then(7,n) else(0,0)
def scan(count:Int)(n:Nat)(f:Nat→OpR):Nat→Nat→Int × Int
 | 0,_=>endR n f
 | m+1,i=>if opErr count n f i=0 then scan count n f m (i+1) else(opErr count n f i,i)
def checkF(count bytes:Int)(n:Nat)(f:Nat→OpR):Int × Int:=
 if 2048 < n then(5,-1) else if(0≤count∧count≤64)∧(0≤bytes∧bytes≤384) then scan count n f n 0 else(4,-1)
structure CW(w wr:World)(pc:Nat)(count bytes:Int)(bp:Option Addr)(n cap:Nat):Prop where
 b1:wr.heap[w.heap.size]?=some (.cells #[.int .u32 pc,.int .i64 count,.int .i64 bytes,.slice bp n cap] 33)
 bel:Below w.heap.size w wr
def opCell(o:OpR):Nat→Value
 | 0=>.int .i64 o.kind
 | 1=>.int .i64 o.w
 | 2=>.int .i64 o.a
 | 3=>.int .i64 o.b
 | 4=>.int .i64 o.c
 | 5=>.int .u32 o.k
 | _=>.int .i64 o.n
def opsL(f:Nat→OpR)(n:Nat):List Value:=(List.range (n*7)).map fun j=>opCell (f (j / 7)) (j%7)
theorem opsL_len(f:Nat→OpR)(n:Nat):(opsL f n).length=n*7:=by simp[opsL]
theorem OpAt.cells{w:World}{b off:Nat}{o:OpR}(h:OpAt w b off o)(r:Nat)(hr:r < 7):w.cell? ⟨b,off+r,none⟩=some (opCell o r):=by
 match r,hr with
 | 0,_=>exact h.c0
 | 1,_=>exact h.c1
 | 2,_=>exact h.c2
 | 3,_=>exact h.c3
 | 4,_=>exact h.c4
 | 5,_=>exact h.c5
 | 6,_=>exact h.c6
theorem opAt_of{w:World}{b off:Nat}{o:OpR}(h:∀ r,r < 7→w.cell? ⟨b,off+r,none⟩=some (opCell o r)):OpAt w b off o:=
 ⟨h 0 zo,h 1 zo,h 2 zo,h 3 zo,h 4 zo,h 5 zo,h 6 zo⟩
theorem info160:(Tryz.prog.info? 54).map (fun i=>(i.zero,i.size,i.bytes))=some (some (.agg #[.int .i64 0,.int .i64 0,.int .i64 0,.int .i64 0,.int .i64 0,.int .u32 0,.int .i64 0]),7,56):=by kernel_rfl
theorem owns_ops{w:World}{base g n cap:Nat}{f:Nat→OpR}(h:w.ownsRow base 54 7 (.slice (some ⟨g,0,none⟩) n cap) n (opsL f n))(hn:0 < n):OpsR w (some ⟨g,0,none⟩) n f∧n≤cap:=by
 rcases h.2 with ⟨hv,h0⟩|⟨g',c',cur,hv,hb,hh,h1,h2,h3,h4⟩
 ·omega
 ·cases hv
  refine⟨fun _=>⟨g,0,rfl,row_lt hh,fun i hi=>opAt_of fun r hr=>?_⟩,by omega⟩
  rw[Nat.zero_add,cell_of_row _ _ _ _ _ _ hh]
  have hj:i*7+r < n*7:=zo
  have h5:(cur.toList.take (n*7))[i*7+r]?=some (opCell (f i) r):=by
   rw[h4]
   unfold opsL
   rw[List.getElem?_map,List.getElem?_range hj]
   have e1:(i*7+r) / 7=i:=zo
   have e2:(i*7+r)%7=r:=zo
   simp[e1,e2]
  rw[List.getElem?_take,if_pos hj] at h5
  simpa using h5
theorem OpsR.set{w:World}{g off n X:Nat}{f:Nat→OpR}(h:OpsR w (some ⟨g,off,none⟩) n f)(hne:g≠X)(o:Nat)(v:Value):OpsR (w.setCell ⟨X,o,none⟩ v) (some ⟨g,off,none⟩) n f:=fun h0=>by
 obtain⟨b,off',e,hb,hc⟩:=h h0
 cases e
 exact⟨g,off,rfl,by simpa using hb,fun i hi=>opAt_of fun r hr=>(cell_setOther v hne _).trans ((hc i hi).cells r hr)⟩
def unF(w:Int)(a:Nat):Nat:=
 if w=0 then 4294967295 - a else if w=1 then(4294967296 - a)%4294967296 else if w=2 then(if 128≤a%256 then a%256+4294967040 else a%256)
 else if w=3 then(if 32768≤a%65536 then a%65536+4294901760 else a%65536) else if w=4 then a%256 else if w=5 then a%65536 else if a=0 then 1 else 0
theorem is3_any(b:Bool)(w:World):Calls Tryz.prog 106 #[.bool b] w fun e w'=>e=.returned (.int .u32 (Fl.isF b 1))∧w=w':=by
 cases b<;>(go_enter Tryz.func106,Tryz.ntmps106;go_wp2;go_ret;exact⟨rfl,rfl⟩)
theorem sgn3_any(x:Int)(w:World)(h0:0≤x)(h1:x < 4294967296):Calls Tryz.prog 107 #[.int .u32 x] w fun e w'=>e=.returned (.int .i64 (Fl.sgn x))∧w=w':=by
 by_cases h:2147483648≤x
 ·rw[Fl.sgn,if_pos h]
  go_enter Tryz.func107,Tryz.ntmps107;go_wp2;go_ret;exact⟨rfl,rfl⟩
 ·rw[Fl.sgn,if_neg h]
  go_enter Tryz.func107,Tryz.ntmps107;go_wp2;go_ret;exact⟨rfl,rfl⟩
theorem retu{a b:Int}(h:a=b):Ending.returned (.int .u32 a)=.returned (.int .u32 b):=by rw[h]
theorem run_any(k:Int)(a:Nat)(w:World)(ha:a < 4294967296)(hk:0≤k∧k≤6):Calls Tryz.prog 104 #[.int .i64 k,.int .u32 a] w fun e w'=>e=.returned (.int .u32 (unF k a))∧w=w':=by
 have a0:(0:Int)≤(a:Int):=zo
 have a1:(a:Int) < 4294967296:=zo
 rcases(by omega:k=0∨k=1∨k=2∨k=3∨k=4∨k=5∨k=6) with rfl|rfl|rfl|rfl|rfl|rfl|rfl
 ·go_enter Tryz.func104,Tryz.ntmps104;go_wp2;go_ret;exact⟨retu (by simp[unF]<;>omega),rfl⟩
 ·go_enter Tryz.func104,Tryz.ntmps104;go_wp2;go_ret;exact⟨retu (by simp[unF]<;>omega),rfl⟩
 ·by_cases h:128≤a%256
  ·have d:decide (128≤(a:Int)%256)=true:=decide_eq_true zo
   go_enter Tryz.func104,Tryz.ntmps104;go_wp2;go_ret;exact⟨retu (by simp[unF,h]<;>omega),rfl⟩
  ·have d:decide (128≤(a:Int)%256)=false:=decide_eq_false zo
   go_enter Tryz.func104,Tryz.ntmps104;go_wp2;go_ret;exact⟨retu (by simp[unF,h]),rfl⟩
 ·by_cases h:32768≤a%65536
  ·have d:decide (32768≤(a:Int)%65536)=true:=decide_eq_true zo
   go_enter Tryz.func104,Tryz.ntmps104;go_wp2;go_ret;exact⟨retu (by simp[unF,h]<;>omega),rfl⟩
  ·have d:decide (32768≤(a:Int)%65536)=false:=decide_eq_false zo
   go_enter Tryz.func104,Tryz.ntmps104;go_wp2;go_ret;exact⟨retu (by simp[unF,h]),rfl⟩
 ·go_enter Tryz.func104,Tryz.ntmps104;go_wp2;go_ret;exact⟨retu (by simp[unF]),rfl⟩
 ·go_enter Tryz.func104,Tryz.ntmps104;go_wp2;go_ret;exact⟨retu (by simp[unF]),rfl⟩
 ·go_enter Tryz.func104,Tryz.ntmps104
  go_wp2_with (go_at_call 106;refine(is3_any _ _).mono ?_;rintro e w1 ⟨rfl,rfl⟩)
  go_ret
  exact⟨retu (by by_cases h:a=0<;>simp[unF,Fl.isF,h]),rfl⟩
def opCells(o:OpR):List Value:=[.int .i64 o.kind,.int .i64 o.w,.int .i64 o.a,.int .i64 o.b,.int .i64 o.c,.int .u32 o.k,.int .i64 o.n]
def opsV:List OpR→List Value
 | []=>[]
 | o :: l=>opCells o++opsV l
theorem opsV_len:∀ l:List OpR,(opsV l).length=l.length*7
 | []=>rfl
 | o :: l=>by simp only[opsV,List.length_append,opsV_len l,opCells,List.length_cons,List.length_nil];omega
theorem opsV_app:∀ (l:List OpR) (o:OpR),opsV (l++[o])=opsV l++opCells o
 | [],o=>by simp[opsV]
 | x :: l,o=>by simp only[List.cons_append,opsV,opsV_app l o,List.append_assoc]
structure LB(w:World)(base B pc:Nat)(count bytes:Int)(sv:Value)(l:List OpR):Prop where
 b:w.heap[B]?=some (.cells #[.int .u32 pc,.int .i64 count,.int .i64 bytes,sv] 33)
 o:w.ownsRow base 54 7 sv l.length (opsV l)
structure Kp(B:Nat)(w w':World):Prop where
 os:w'.os=w.os
 tape:w'.tape=w.tape
 output:w'.output=w.output
 size:w.heap.size≤w'.heap.size
 keep:∀ k A T,w.heap[k]?=some (.cells A T)→k≠B→T≠54→w'.heap[k]?=some (.cells A T)
theorem Kp.refl(B:Nat)(w:World):Kp B w w:=⟨rfl,rfl,rfl,Nat.le_refl _,fun _ _ _ h _ _=>h⟩
theorem Kp.trans{B:Nat}{a b c:World}(h:Kp B a b)(k:Kp B b c):Kp B a c:=
 ⟨k.os.trans h.os,k.tape.trans h.tape,k.output.trans h.output,Nat.le_trans h.size k.size,fun i A T h1 h2 h3=>k.keep i A T (h.keep i A T h1 h2 h3) h2 h3⟩
theorem Kp.of_below{B:Nat}{a b:World}(h:Below a.heap.size a b):Kp B a b:=
 ⟨h.os,h.tape,h.output,h.size,fun i A T h1 _ _=>(h.block i (row_lt h1)).trans h1⟩
theorem Kp.set{B:Nat}{a b:World}(h:Kp B a b)(o:Nat)(v:Value):Kp B a (b.setCell ⟨B,o,none⟩ v):=
 h.trans ⟨rfl,rfl,rfl,by simp,fun i A T h1 h2 _=>(Below.heap_setCell b ⟨B,o,none⟩ v i h2).trans h1⟩
theorem owns_block{w:World}{base n:Nat}{v:Value}{xs:List Value}{g:Nat}(h:w.ownsRow base 54 7 v n xs)(hg:v.ownBlock=some g):base≤g∧∃ cur,w.heap[g]?=some (.cells cur 54):=by
 rcases h.2 with ⟨hv,h0⟩|⟨g',c',cur,hv,hb,hh,h1,h2,h3,h4⟩
 ·rw[hv] at hg;cases hg
 ·rw[hv] at hg;cases hg;exact⟨hb,cur,hh⟩
theorem owns_keep{w w':World}{base n:Nat}{v:Value}{xs:List Value}(h:w.ownsRow base 54 7 v n xs)(hk:∀ g,v.ownBlock=some g→w'.heap[g]?=w.heap[g]?):w'.ownsRow base 54 7 v n xs:=by
 refine⟨h.1,?_⟩
 rcases h.2 with ⟨hv,h0⟩|⟨g',c',cur,hv,hb,hh,h1,h2,h3,h4⟩
 ·exact Or.inl ⟨hv,h0⟩
 ·exact Or.inr ⟨g',c',cur,hv,hb,(hk g' (by rw[hv];rfl)).trans hh,h1,h2,h3,h4⟩
theorem owns_below{w w':World}{base n:Nat}{v:Value}{xs:List Value}(h:w.ownsRow base 54 7 v n xs)(b:Below w.heap.size w w'):w'.ownsRow base 54 7 v n xs:=
 owns_keep h fun g hg=>by obtain⟨-,cur,hh⟩:=owns_block h hg;exact b.block g (row_lt hh)
theorem LB.ne{w:World}{base B pc:Nat}{count bytes:Int}{sv:Value}{l:List OpR}(h:LB w base B pc count bytes sv l){g:Nat}(hg:sv.ownBlock=some g):g≠B:=fun e=>by
 obtain⟨-,cur,hh⟩:=owns_block h.o hg
 rw[e,h.b] at hh
 cases hh
theorem LB.below{w w':World}{base B pc:Nat}{count bytes:Int}{sv:Value}{l:List OpR}(h:LB w base B pc count bytes sv l)(b:Below w.heap.size w w'):LB w' base B pc count bytes sv l:=
 ⟨(b.block _ (row_lt h.b)).trans h.b,owns_below h.o b⟩
theorem kp_grown{B:Nat}{w w':World}{base n:Nat}{v:Value}{xs:List Value}(ho:w.ownsRow base 54 7 v n xs)(hg:w.grownBy w' v.ownBlock):Kp B w w':=
 ⟨hg.os,hg.tape,hg.output,hg.size,fun i A T h1 h2 h3=>(hg.block i (row_lt h1) (fun e=>by obtain⟨-,cur,hh⟩:=owns_block ho e.symm;rw[hh] at h1;cases h1;exact h3 rfl)).trans h1⟩
theorem lay_any(base B pc:Nat)(count bytes:Int)(sv:Value)(l:List OpR)(o:OpR)(w:World)(hB:LB w base B pc count bytes sv l)(hlen:l.length < 100000)(hb:base≤B)(hw:base≤w.heap.size) :
  Calls Tryz.prog 18 #[.agg #[.int .i64 o.kind,.int .i64 o.w,.int .i64 o.a,.int .i64 o.b,.int .i64 o.c,.int .u32 o.k,.int .i64 o.n],.pointer (some ⟨B,0,none⟩)] w fun e w'=>e=.returned (.int .i64 l.length)∧(∃ sv',LB w' base B pc count bytes sv' (l++[o]))∧Kp B w w'∧Below base w w':=by
 have c3:w.cell? ⟨B,3,none⟩=some sv:=row_cell hB.b 3
 have lB:=row_lt hB.b
 have lB1:=Nat.lt_succ_of_lt lB
 obtain⟨i0,hi,hz0,hz1,hz2⟩:=info_parts info160
 have HB:Hid _:=hB
 have b2:=wk_bel w (.cells #[.int .i64 o.kind,.int .i64 o.w,.int .i64 o.a,.int .i64 o.b,.int .i64 o.c,.int .u32 o.k,.int .i64 o.n] 54) (.cells #[.int .i64 o.kind,.int .i64 o.w,.int .i64 o.a,.int .i64 o.b,.int .i64 o.c,.int .u32 o.k,.int .i64 o.n] 54)
 have HB2:Hid _:=hB.below b2
 have HW2:Hid (Below w.heap.size w ((w.alloc (.cells #[.int .i64 o.kind,.int .i64 o.w,.int .i64 o.a,.int .i64 o.b,.int .i64 o.c,.int .u32 o.k,.int .i64 o.n] 54)).alloc (.cells #[.int .i64 o.kind,.int .i64 o.w,.int .i64 o.a,.int .i64 o.b,.int .i64 o.c,.int .u32 o.k,.int .i64 o.n] 54))):=b2
 have HNW:Hid (∀ j u,(opCells o)[j]?=some u→((w.alloc (.cells #[.int .i64 o.kind,.int .i64 o.w,.int .i64 o.a,.int .i64 o.b,.int .i64 o.c,.int .u32 o.k,.int .i64 o.n] 54)).alloc (.cells #[.int .i64 o.kind,.int .i64 o.w,.int .i64 o.a,.int .i64 o.b,.int .i64 o.c,.int .u32 o.k,.int .i64 o.n] 54)).cell? ((⟨w.heap.size+1,0,none⟩:Addr).add j)=some u):=show ∀ j u,_ from fun j u hu=>by
  rw[Addr.add_mid,Nat.zero_add]
  have hl:=heap_alloc_last (w.alloc (.cells #[.int .i64 o.kind,.int .i64 o.w,.int .i64 o.a,.int .i64 o.b,.int .i64 o.c,.int .u32 o.k,.int .i64 o.n] 54)) (.cells #[.int .i64 o.kind,.int .i64 o.w,.int .i64 o.a,.int .i64 o.b,.int .i64 o.c,.int .u32 o.k,.int .i64 o.n] 54)
  rw[show(w.alloc (.cells #[.int .i64 o.kind,.int .i64 o.w,.int .i64 o.a,.int .i64 o.b,.int .i64 o.c,.int .u32 o.k,.int .i64 o.n] 54)).heap.size=w.heap.size+1 by simp] at hl
  rw[row_cell hl]
  simpa[opCells] using hu
 have HONE:Hid (∀ u∈opCells o,u.oneCell'=true):=show ∀ u∈opCells o,_ from fun u hu=>by
  simp only[opCells,List.mem_cons,List.not_mem_nil,or_false] at hu
  rcases hu with rfl|rfl|rfl|rfl|rfl|rfl|rfl<;>rfl
 have H63:Hid (l.length+1≤maxLen):=show l.length+1≤maxLen by unfold maxLen;omega
 have HBY:Hid ((l.length+1)*56≤140737488355328):=show(l.length+1)*56≤140737488355328 by omega
 have HBS:Hid (base≤((w.alloc (.cells #[.int .i64 o.kind,.int .i64 o.w,.int .i64 o.a,.int .i64 o.b,.int .i64 o.c,.int .u32 o.k,.int .i64 o.n] 54)).alloc (.cells #[.int .i64 o.kind,.int .i64 o.w,.int .i64 o.a,.int .i64 o.b,.int .i64 o.c,.int .u32 o.k,.int .i64 o.n] 54)).heap.size):=show base≤_ by simp;omega
 have HLB:Hid (base≤B):=hb
 have HLW:Hid (base≤w.heap.size):=hw
 have ll:(l.length:Int) < 100000:=zo
 have l0:(0:Int)≤(l.length:Int):=zo
 clear hB hb hw b2 hlen
 go_enter Tryz.func18,Tryz.ntmps18
 go_wp2_with (at_builtin;refine wpList_append_lies _ rfl _ _ _ rfl base 54 i0 _ 7 56 Tryz.underlying31 hi hz0 hz1 hz2 rfl (by decide) sv l.length (opsV l) rfl HB2.out.o ⟨w.heap.size+1,0,none⟩ 1 1 (opCells o) rfl rfl HNW.out HONE.out (by decide) H63.out HBY.out HBS.out (w.heap.size+1+1) (by simp) ?_;intro g cap2 w2 hown hgr hgg hlt;have HOW:Hid _:=hown;have HGR:Hid _:=hgr;have HGG:Hid _:=hgg;have HBB:Hid (w2.heap[B]?=some (.cells #[.int .u32 pc,.int .i64 count,.int .i64 bytes,sv] 33)):=(hgr.block B zq17 (fun e=>HB2.out.ne e.symm rfl)).trans HB2.out.b;have d3:w2.cell? ⟨B,3,none⟩=some sv:=row_cell HBB.out 3;have df:=row_fr HBB.out;have dl:=row_lt HBB.out;clear hown hgr hgg)
 have hgB:g≠B:=fun e=>by
  rcases HGG.out with h|h
  ·exact HB2.out.ne h e
  ·omega
 exact bodyPost_ret (v:=.int .i64 l.length) (by simp[results,Tryz.results18,go_sem]) rfl ⟨rfl,⟨_,⟨(heap_setCell_same w2 B 3 _ _ _ HBB.out).trans rfl,by
  have h1:=HOW.out
  have e1:(l++[o]).length=l.length+1:=by simp
  rw[e1,opsV_app]
  exact owns_keep h1 (fun g' hg'=>by cases hg';exact Below.heap_setCell w2 ⟨B,3,none⟩ _ _ hgB)⟩⟩,
  (((Kp.of_below HW2.out).trans (kp_grown HB2.out.o HGR.out)).set 3 _),
  (Below.grown (HW2.out.mono HLW.out) HGR.out HBS.out (fun k hk=>(owns_block HB2.out.o hk).1)).setCell HLB.out _⟩
theorem rowV{W:World}{b n:Nat}{V:Nat→Value}(h:∀ i,i < n→W.cell? ⟨b,i,none⟩=some (V i)):∀ j u,((List.range n).map V)[j]?=some u→W.cell? ((⟨b,0,none⟩:Addr).add j)=some u:=fun j u hu=>by
 rw[Addr.add_mid,Nat.zero_add]
 rcases Nat.lt_or_ge j n with g|g
 ·rw[List.getElem?_map,List.getElem?_range g] at hu
  rw[h j g]
  exact hu
 ·rw[List.getElem?_eq_none (by simpa using g)] at hu;cases hu
structure NV(w:World)(g n cap:Nat)(T:TypeId)(V:Nat→Value):Prop where
 ex:∃ cur,w.heap[g]?=some (.cells cur T)∧∀ i,i < n→cur[i]?=some (V i)
 cp:n≤cap
theorem NV.of_owns{w:World}{base g n cap:Nat}{T:TypeId}{V:Nat→Value}(h:w.ownsRow base T 1 (.slice (some ⟨g,0,none⟩) (0+n) cap) (0+n) ([]++(List.range n).map V))(hn:0 < n):NV w g n cap T V:=by
 rw[Nat.zero_add,List.nil_append] at h
 rcases h.2 with ⟨-,h0⟩|⟨g',c',cur,hv,hb,hh,h1,h2,h3,h4⟩
 ·omega
 ·cases hv
  refine⟨⟨cur,hh,fun i hi=>?_⟩,h1⟩
  have h5:(cur.toList.take (n*1))[i]?=some (V i):=by rw[h4,List.getElem?_map,List.getElem?_range hi];rfl
  rw[List.getElem?_take_of_lt zo,Array.getElem?_toList] at h5
  exact h5
theorem NV.keep{w w':World}{g n cap:Nat}{T:TypeId}{V:Nat→Value}(h:NV w g n cap T V)(b:Below w.heap.size w w'):NV w' g n cap T V:=by
 obtain⟨cur,h1,h2⟩:=h.ex
 exact⟨⟨cur,(b.block _ (row_lt h1)).trans h1,h2⟩,h.cp⟩
theorem NV.cell{w:World}{g n cap:Nat}{T:TypeId}{V:Nat→Value}(h:NV w g n cap T V)(i:Nat)(hi:i < n):w.cell? ⟨g,i,none⟩=some (V i):=by
 obtain⟨cur,h1,h2⟩:=h.ex
 exact(row_cell h1 i).trans (h2 i hi)
theorem NV.fr{w:World}{g n cap:Nat}{T:TypeId}{V:Nat→Value}(h:NV w g n cap T V)(o:Nat):w.frozen? ⟨g,o,none⟩=false:=by
 obtain⟨cur,h1,h2⟩:=h.ex
 exact row_fr h1 o
theorem NV.lt{w:World}{g n cap:Nat}{T:TypeId}{V:Nat→Value}(h:NV w g n cap T V):g < w.heap.size:=by
 obtain⟨cur,h1,h2⟩:=h.ex
 exact row_lt h1
theorem grown_below{w w':World}(h:w.grownBy w' none):Below w.heap.size w w':=Below.grown (Below.refl _ _) h (Nat.le_refl _) (fun k hk=>by cases hk)
theorem one_int{n:Nat}{V:Nat→Value}(h:∀ i,(V i).oneCell'=true):∀ u∈(List.range n).map V,u.oneCell'=true:=fun u hu=>by
 obtain⟨i,-,rfl⟩:=List.mem_map.1 hu
 exact h i
theorem rcopy_any(k:RB)(s:MS)(w:World)(h:RM w k s) :
  Calls Tryz.prog 29 #[.pointer (some ⟨k.y,0,none⟩)] w fun e w'=>∃ k':RB,e=.returned (.pointer (some ⟨k'.y,0,none⟩))∧RM w' k' s∧Below w.heap.size w w'∧∀ x∈k'.y :: k'.all,w.heap.size≤x:=by
 obtain⟨i5,i5a,i5b,i5c,i5d⟩:=info_parts info5
 obtain⟨i3,i3a,i3b,i3c,i3d⟩:=info_parts info3
 obtain⟨i4,i4a,i4b,i4c,i4d⟩:=info_parts info4
 have ly:=h.lty
 have c0:=h.c0
 have c1:=h.c1
 have c2:=h.c2
 have c3:=h.c3
 have HR0:Hid (RM w.drew k s):=h.drew
 have HB0:Hid (Below w.heap.size w w.drew):=(Below.refl _ _).drew
 have HML:Hid (0+65536≤maxLen):=show 0+65536≤maxLen by unfold maxLen;omega
 have HMS:Hid (0+256≤maxLen):=show 0+256≤maxLen by unfold maxLen;omega
 clear h
 go_enter Tryz.func29,Tryz.ntmps29
 go_wp2
 go_region_held3 (fun W'=>W'.cell? ⟨k.y,0,none⟩=some (.slice (some ⟨k.b,0,none⟩) 65536 k.cb)∧W'.cell? ⟨k.y,1,none⟩=some (.slice (some ⟨k.r,0,none⟩) 256 k.cr)∧W'.cell? ⟨k.y,2,none⟩=some (.slice (some ⟨k.m,0,none⟩) 256 k.cm)∧W'.cell? ⟨k.y,3,none⟩=some (.slice (some ⟨k.t,0,none⟩) 256 k.ct)) (first|(simp[go_sem,c0,c1,c2,c3,ly];done))
  (first
  | (refine step_append_lies _ rfl (.const (.slice none 0 0)) (.tmp 6) 47 rfl w.heap.size 5 i5 _ 1 1 Tryz.underlying47 i5a i5b i5c i5d rfl (by decide) (.slice none 0 0) 0 [] rfl (World.ownsRow_nil _ _ _ _) ⟨k.b,0,none⟩ 65536 k.cb ((List.range 65536).map (fun i=>.int .u8 (s.B i))) rfl (by simp) (rowV HR0.out.by_) (one_int fun _=>rfl) (by decide) HML.out (by decide) HB0.out.size _ rfl ?_;intro g1 cap1 w1 ho1 hg1 hgg1 hlt1;have hb1:=grown_below hg1;have HR1:Hid (RM w1 k s):=HR0.out.below hb1 (Nat.le_refl _);have c0:=HR1.out.c0;have c1:=HR1.out.c1;have c2:=HR1.out.c2;have c3:=HR1.out.c3;have ly:=HR1.out.lty;have HB1:Hid (Below w.heap.size w w1):=HB0.out.trans (hb1.mono HB0.out.size);have HG1:Hid (g1=w.drew.heap.size):=(show g1=w.drew.heap.size from hgg1.resolve_left (by intro e;cases e));have HNB1:Hid (NV w1 g1 65536 cap1 5 (fun i=>.int .u8 (s.B i))):=NV.of_owns ho1 (by decide);clear ho1 hg1 hgg1 hlt1 hb1)
  | (refine step_append_lies _ rfl (.const (.slice none 0 0)) (.tmp 11) 26 rfl w.heap.size 3 i3 _ 1 8 Tryz.underlying26 i3a i3b i3c i3d rfl (by decide) (.slice none 0 0) 0 [] rfl (World.ownsRow_nil _ _ _ _) ⟨k.r,0,none⟩ 256 k.cr ((List.range 256).map (fun i=>.int .i64 (s.R i))) rfl (by simp) (rowV HR1.out.ri) (one_int fun _=>rfl) (by decide) HMS.out (by decide) HB1.out.size _ rfl ?_;intro g2 cap2 w2 ho2 hg2 hgg2 hlt2;have hb2:=grown_below hg2;have HR2:Hid (RM w2 k s):=HR1.out.below hb2 (Nat.le_refl _);have c0:=HR2.out.c0;have c1:=HR2.out.c1;have c2:=HR2.out.c2;have c3:=HR2.out.c3;have ly:=HR2.out.lty;have HB2:Hid (Below w.heap.size w w2):=HB1.out.trans (hb2.mono HB1.out.size);have HG2:Hid (g2=w1.heap.size):=(show g2=w1.heap.size from hgg2.resolve_left (by intro e;cases e));have HNR2:Hid (NV w2 g2 256 cap2 3 (fun i=>.int .i64 (s.R i))):=NV.of_owns ho2 (by decide);have HNB2:Hid (NV w2 g1 65536 cap1 5 (fun i=>.int .u8 (s.B i))):=HNB1.out.keep hb2;clear ho2 hg2 hgg2 hlt2 hb2)
  | (refine step_append_lies _ rfl (.const (.slice none 0 0)) (.tmp 16) 88 rfl w.heap.size 4 i4 _ 1 1 Tryz.underlying88 i4a i4b i4c i4d rfl (by decide) (.slice none 0 0) 0 [] rfl (World.ownsRow_nil _ _ _ _) ⟨k.m,0,none⟩ 256 k.cm ((List.range 256).map (fun i=>.bool (s.M i))) rfl (by simp) (rowV HR2.out.wa) (one_int fun _=>rfl) (by decide) HMS.out (by decide) HB2.out.size _ rfl ?_;intro g3 cap3 w3 ho3 hg3 hgg3 hlt3;have hb3:=grown_below hg3;have HR3:Hid (RM w3 k s):=HR2.out.below hb3 (Nat.le_refl _);have c0:=HR3.out.c0;have c1:=HR3.out.c1;have c2:=HR3.out.c2;have c3:=HR3.out.c3;have ly:=HR3.out.lty;have HB3:Hid (Below w.heap.size w w3):=HB2.out.trans (hb3.mono HB2.out.size);have HG3:Hid (g3=w2.heap.size):=(show g3=w2.heap.size from hgg3.resolve_left (by intro e;cases e));have HNM3:Hid (NV w3 g3 256 cap3 4 (fun i=>.bool (s.M i))):=NV.of_owns ho3 (by decide);have HNB3:Hid (NV w3 g1 65536 cap1 5 (fun i=>.int .u8 (s.B i))):=HNB2.out.keep hb3;have HNR3:Hid (NV w3 g2 256 cap2 3 (fun i=>.int .i64 (s.R i))):=HNR2.out.keep hb3;clear ho3 hg3 hgg3 hlt3 hb3)
  | (refine step_append_lies _ rfl (.const (.slice none 0 0)) (.tmp 21) 88 rfl w.heap.size 4 i4 _ 1 1 Tryz.underlying88 i4a i4b i4c i4d rfl (by decide) (.slice none 0 0) 0 [] rfl (World.ownsRow_nil _ _ _ _) ⟨k.t,0,none⟩ 256 k.ct ((List.range 256).map (fun i=>.bool (s.T i))) rfl (by simp) (rowV HR3.out.to) (one_int fun _=>rfl) (by decide) HMS.out (by decide) HB3.out.size _ rfl ?_;intro g4 cap4 w4 ho4 hg4 hgg4 hlt4;have hb4:=grown_below hg4;have HR4:Hid (RM w4 k s):=HR3.out.below hb4 (Nat.le_refl _);have c0:=HR4.out.c0;have c1:=HR4.out.c1;have c2:=HR4.out.c2;have c3:=HR4.out.c3;have ly:=HR4.out.lty;have HB4:Hid (Below w.heap.size w w4):=HB3.out.trans (hb4.mono HB3.out.size);have HG4:Hid (g4=w3.heap.size):=(show g4=w3.heap.size from hgg4.resolve_left (by intro e;cases e));have HNT4:Hid (NV w4 g4 256 cap4 4 (fun i=>.bool (s.T i))):=NV.of_owns ho4 (by decide);have HNB4:Hid (NV w4 g1 65536 cap1 5 (fun i=>.int .u8 (s.B i))):=HNB3.out.keep hb4;have HNR4:Hid (NV w4 g2 256 cap2 3 (fun i=>.int .i64 (s.R i))):=HNR3.out.keep hb4;have HNM4:Hid (NV w4 g3 256 cap3 4 (fun i=>.bool (s.M i))):=HNM3.out.keep hb4;clear ho4 hg4 hgg4 hlt4 hb4))
 all_goals
  go_wp2
  go_ret
  have lB:=HNB4.out.lt
  have lR:=HNR4.out.lt
  have lM:=HNM4.out.lt
  have lT:=HNT4.out.lt
  have q1:=HG1.out
  have q2:=HG2.out
  have q3:=HG3.out
  have q4:=HG4.out
  have r1:=HNB1.out.lt
  have r2:=HNR2.out.lt
  have r3:=HNM3.out.lt
  have z0:w.heap.size≤w.drew.heap.size:=Nat.le_refl _
  have hA:∀ o,Below w4.heap.size w4 (w4.alloc o):=fun o=>(Below.refl _ _).alloc (Nat.le_refl _) _
  refine⟨⟨w4.heap.size,g1,g2,g3,g4,cap1,cap2,cap3,cap4,HNB4.out.cp⟩,rfl,⟨(row_cell (heap_alloc_last w4 _) 0),(row_cell (heap_alloc_last w4 _) 1),(row_cell (heap_alloc_last w4 _) 2),(row_cell (heap_alloc_last w4 _) 3),(HNB4.out.keep (hA _)).cell,(HNR4.out.keep (hA _)).cell,(HNM4.out.keep (hA _)).cell,(HNT4.out.keep (hA _)).cell,(HNB4.out.keep (hA _)).fr,(HNR4.out.keep (hA _)).fr,(HNM4.out.keep (hA _)).fr,(HNT4.out.keep (hA _)).fr,?_⟩,HB4.out.trans ((hA _).mono HB4.out.size),?_⟩
  ·show w4.heap.size≠g1∧w4.heap.size≠g2∧w4.heap.size≠g3∧w4.heap.size≠g4∧g1≠g2∧g1≠g3∧g1≠g4∧g2≠g3∧g2≠g4∧g3≠g4
   omega
  ·simp only[RB.all,List.mem_cons,List.not_mem_nil,or_false]
   rintro x (e|e|e|e|e)<;>rw[e]
   ·exact HB4.out.size
   ·show w.heap.size≤g1;omega
   ·show w.heap.size≤g2;omega
   ·show w.heap.size≤g3;omega
   ·show w.heap.size≤g4;omega
end Go.Proofs.YtfokgedjocnnmaaGreat
