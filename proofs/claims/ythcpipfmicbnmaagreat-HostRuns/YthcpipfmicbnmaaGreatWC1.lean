import Derived.Test.YthcpipfmicbnmaaGreatZQ
import Derived.WalkKit
import Derived.WalkSpells
import Derived.WalkLawsBesides
import Derived.Deep.QuietTactic
import Derived.BigQuiet
import Derived.KernelRfl
import Derived.Laws.Tables
import Derived.Deep.WholeRow
import Derived.Deep.LoopGhost
import Derived.BigRegion
import Derived.LoopN
import Derived.Laws.BitsAllLaws
import Derived.ChangeKeysEq
import Derived.Deep.RegionHeld3
import Derived.Deep.CutBlock
import Derived.Below
import Derived.OwnWalk
import Derived.Deep.AppendLies
import Derived.Test.YthcpipfmicbnmaaGreatWJ01
import Derived.Test.YthcpipfmicbnmaaGreatWJ29
import Derived.Test.YthcpipfmicbnmaaGreatWJ30
import Derived.Test.YthcpipfmicbnmaaGreatWJ31
import Derived.Test.YthcpipfmicbnmaaGreatWJ07
import Derived.Test.YthcpipfmicbnmaaGreatWJ04
import Derived.Test.YthcpipfmicbnmaaGreatRU
import Derived.Test.YthcpipfmicbnmaaGreatQX
import Derived.Test.YthcpipfmicbnmaaGreatXE
import Derived.Deep.MidRow
set_option linter.unusedVariables false
set_option linter.unusedSimpArgs false
set_option maxHeartbeats 4000000
namespace Go.Proofs.YthcpipfmicbnmaaGreat.Va.Gu
open Go.RowKit
end Go.Proofs.YthcpipfmicbnmaaGreat.Va.Gu
namespace Go.Proofs.YthcpipfmicbnmaaGreat.Va
open Go.RowKit
set_option maxRecDepth 100000
theorem zIm(w:World)(o:Obj)(b:Nat)(h:b < w.heap.size):(w.alloc o).heap[b]?=w.heap[b]?:=((Below.refl w.heap.size w).alloc aL o).block b h
theorem zGR(w:World)(o:Obj):(w.alloc o).heap.size=w.heap.size+1:=by simp
theorem al2(w:World)(o1 o2:Obj):((w.alloc o1).alloc o2).heap[w.heap.size]?=some o1∧((w.alloc o1).alloc o2).heap[w.heap.size+1]?=some o2:=by
 refine⟨(zIm _ o2 _ aS).trans (heap_alloc_last w o1),?_⟩
 have:=heap_alloc_last (w.alloc o1) o2
 rwa [zGR] at this
theorem zA{w:World}{X:Nat}{A:Array Value}{T:TypeId}(h:w.heap[X]?=some (.cells A T))(o:Nat):w.cell? ⟨X,o,none⟩=A[o]?:=cell_of_row _ _ o _ _ (0,0) h
theorem zD{w:World}{X:Nat}{A:Array Value}{T:TypeId}(h:w.heap[X]?=some (.cells A T))(o:Nat):w.frozen? ⟨X,o,none⟩=false:=frozen_of_row _ _ o _ _ h
theorem zE{w:World}{X:Nat}{A:Array Value}{T:TypeId}(h:w.heap[X]?=some (.cells A T)):X < w.heap.size:=by
 rcases Nat.lt_or_ge X w.heap.size with g|g
 ·exact g
 ·rw[Array.getElem?_eq_none g] at h;cases h
structure OpR where
 kind:Int
 w:Int
 a:Int
 b:Int
 c:Int
 k:Nat
 n:Int
structure RR where
 lo:Int
 hi:Int
 m:Int
 gives:Bool
 ends:Bool
def rrT(k:Nat):RR:=
 match k with
 | 1=>⟨0,0,8,true,false⟩
 | 2=>⟨0,11,0,true,false⟩
 | 3=>⟨0,11,1,false,false⟩
 | 4=>⟨0,15,3,true,false⟩
 | 5=>⟨0,6,1,true,false⟩
 | 6=>⟨0,0,7,true,false⟩
 | 7=>⟨0,12,7,true,false⟩
 | 8=>⟨0,15,1,true,false⟩
 | 9=>⟨0,4,25,true,false⟩
 | 10=>⟨0,2,27,false,false⟩
 | 11=>⟨0,0,24,false,false⟩
 | 12=>⟨0,0,25,false,false⟩
 | 13=>⟨1,7,25,false,false⟩
 | 14=>⟨1,7,56,false,true⟩
 | 15=>⟨0,0,24,false,true⟩
 | 16=>⟨0,0,17,false,true⟩
 | 17=>⟨0,0,0,true,false⟩
 | _=>⟨0,0,0,false,false⟩
def rr(kind:Int):RR:=rrT kind.toNat
structure FL where
 ha:Bool
 hb:Bool
 hc:Bool
 hk:Bool
 hn:Bool
 hg:Bool
def bd(x:FL)(o:OpR):Nat→Bool
 | 0=>(o.a !=0) && !x.ha
 | 1=>(o.b !=0) && !(x.hb || x.hg)
 | 2=>(o.c !=0) && !x.hc
 | 3=>((o.k:Int) !=0) && !x.hk
 | _=>(o.n !=0) && !x.hn
abbrev cxA(c:Nat→Nat):Array Value:=#[.int .u32 (c 0),.int .u32 (c 1),.int .u32 (c 2),.int .u32 (c 3),.int .u32 (c 4),.int .u32 (c 5),.int .u32 (c 6),.int .u32 (c 7),.int .u32 (c 8),.int .u32 (c 9),.int .u32 (c 10),.int .u32 (c 11)]
abbrev cxV(c:Nat→Nat):Value:=.agg (cxA c)
abbrev r8L(r:Nat→Nat):List Value:=[.int .u32 (r 0),.int .u32 (r 1),.int .u32 (r 2),.int .u32 (r 3),.int .u32 (r 4),.int .u32 (r 5),.int .u32 (r 6),.int .u32 (r 7)]
abbrev sxA(r:Nat→Nat)(pc:Nat)(f:Int):Array Value:=#[.int .u32 (r 0),.int .u32 (r 1),.int .u32 (r 2),.int .u32 (r 3),.int .u32 (r 4),.int .u32 (r 5),.int .u32 (r 6),.int .u32 (r 7),.int .u32 pc,.int .u32 f]
abbrev sxV(r:Nat→Nat)(pc:Nat)(f:Int):Value:=.agg (sxA r pc f)
theorem zNw:(Tryz.prog.info? 23).map (·.size)=some 1:=by kernel_rfl
theorem zOW(r:Nat→Nat)(j:Nat)(v:Value)(h:(r8L r)[j]?=some v):j < 8∧v=.int .u32 (r j):=by
 have hj:j < 8:=by
  rcases Nat.lt_or_ge j 8 with h8|h8
  ·exact h8
  ·rw[List.getElem?_eq_none (by simpa using h8)] at h;cases h
 refine⟨hj,?_⟩
 match j,hj with
 | 0,_|1,_|2,_|3,_|4,_|5,_|6,_|7,_=>simpa using h.symm
theorem zN4(c:Nat→Nat)(j:Nat)(hj:j < 12):(cxA c)[j]?=some (.int .u32 (c j)):=by
 match j,hj with
 | 0,_|1,_|2,_|3,_|4,_|5,_|6,_|7,_|8,_|9,_|10,_|11,_=>rfl
theorem zN3{W:World}{b d:Nat}{A D:Array Value}{tA tD:TypeId}{r:Nat→Nat}(hb:W.heap[b]?=some (.cells A tA))(hd:W.heap[d]?=some (.cells D tD))(hA:∀ j,j < 8→A[j]?=some (.int .u32 (r j)))(hD:8≤D.size) :
  zCU W (some ⟨d,0,none⟩) (some ⟨b,0,none⟩) 8 8 d 0 (r8L r):=by
 refine⟨rfl,fun _=>⟨rfl,_,rfl,fun j v hv=>?_⟩,fun j hj=>?_,fun j _=>frozen_of_row _ _ _ _ _ hd,fun v hv=>?_⟩
 ·obtain⟨hj,rfl⟩:=zOW r j v hv
  rw[Addr.add_mid,Nat.zero_add,cell_of_row _ _ j _ _ (0,0) hb]
  exact hA j hj
 ·have hj8:j < 8:=by simpa using hj
  rw[cell_of_row _ _ _ _ _ (0,0) hd,Nat.zero_add,Array.getElem?_eq_getElem aO];rfl
 ·simp only[List.mem_cons,List.not_mem_nil,or_false] at hv
  rcases hv with rfl|rfl|rfl|rfl|rfl|rfl|rfl|rfl<;>rfl
theorem zHn{W:World}{b d dCap sCap:Nat}{A D:Array Value}{tA tD:TypeId}{r:Nat→Nat}(hb:W.heap[b]?=some (.cells A tA))(hd:W.heap[d]?=some (.cells D tD))(hA:∀ j,j < 8→A[j]?=some (.int .u32 (r j)))(hD:8≤D.size) :
  (Builtin.copy_ #[22,22] 3 #[.slice (some ⟨d,0,none⟩) 8 dCap,.slice (some ⟨b,0,none⟩) 8 sCap]).run Tryz.prog W=.ok (.int .i64 8) (W.setCells d 0 (r8L r)):=by
 have h:=zN3 hb hd hA hD
 obtain⟨_,ad,e,hs⟩:=h.hpos aS
 cases e
 exact run_copy_cells (P:=Tryz.prog) W 22 22 3 23 d 0 8 dCap ⟨b,0,none⟩ 8 sCap (r8L r) Tryz.underlying22 zNw h.hn hs h.hc h.hf h.h1
def wkX(k:Int)(a b old:Nat):Int:=
 if k=1 then((a:Int)+b)%4294967296 else if k=2 then((a:Int)+b+Fl.vM old)%4294967296 else if k=3 then((a:Int) - b)%4294967296 else if k=4 then((a:Int) - b - Fl.vM old)%4294967296 else if k=6 then((a*2 ^ (b%32)%4294967296:Nat):Int) else if k=7 then(a:Int) / 2 ^ (b%32) else if k=8 then Fl.vP a / 2 ^ (b%32)%4294967296 else if k=9 then Fl.vT (b%32) a else if k=10 then((a*b%4294967296:Nat):Int) else if k=11 then((a:Int)+1)%4294967296 else if k=12 then((a:Int) - 1)%4294967296 else(a:Int)
theorem zNr(a n old:Nat):Fl.zBH a n (old%16)=Fl.zBH a n old:=by
 unfold Fl.zBH Fl.vM;rw[Nat.mod_mod]
theorem zLv(a:Nat)(ha:a < 4294967296):Fl.vP a / 2 ^ 0%4294967296=(a:Int):=by
 unfold Fl.vP;split<;>simp<;>omega
theorem zKd(k:Int)(a b old:Nat)(w:World)(ha:a < 4294967296)(hb:b < 4294967296)(ho:old < 4294967296) :
  Calls Tryz.prog 81 #[.int .i64 k,.int .u32 a,.int .u32 b,.int .u32 old] w fun e w'=>e=.returned (.tuple #[.int .u32 (wkX k a b old),.int .u32 (Fl.zN k a b old)])∧Below w.heap.size w w':=by
 have o16:((old%16:Nat):Int)=(old:Int)%16:=aO
 by_cases hlo:k < 0
 ·have e1:wkX k a b old=a:=by unfold wkX;repeat rw[if_neg aO]
  have e2:Fl.zN k a b old=((old%16:Nat):Int):=by unfold Fl.zN;(repeat rw[if_neg aO]);exact o16.symm
  rw[e1,e2];exact zLI k a b old _ w ha hb ho rfl hlo
 by_cases hhi:12 < k
 ·have e1:wkX k a b old=a:=by unfold wkX;repeat rw[if_neg aO]
  have e2:Fl.zN k a b old=((old%16:Nat):Int):=by unfold Fl.zN;(repeat rw[if_neg aO]);exact o16.symm
  rw[e1,e2];exact zLH k a b old _ w ha hb ho rfl hhi
 have hc:k=0∨k=1∨k=2∨k=3∨k=4∨k=5∨k=6∨k=7∨k=8∨k=9∨k=10∨k=11∨k=12:=aO
 rcases hc with rfl|rfl|rfl|rfl|rfl|rfl|rfl|rfl|rfl|rfl|rfl|rfl|rfl
 ·have e1:wkX 0 a b old=a:=by simp[wkX]
  have e2:Fl.zN 0 a b old=((old%16:Nat):Int):=by simp[Fl.zN]
  rw[e1,e2];exact zPy a b old _ w ha hb ho rfl
 ·have e1:wkX 1 a b old=((a:Int)+b)%4294967296:=by simp[wkX]
  have e2:Fl.zN 1 a b old=Fl.zBa a b 0:=by simp[Fl.zN]
  rw[e1,e2];exact zPz a b old _ w ha hb ho rfl
 ·have e1:wkX 2 a b old=((a:Int)+b+Fl.vM old)%4294967296:=by simp[wkX]
  have e2:Fl.zN 2 a b old=Fl.zBa a b (Fl.vM old):=by simp[Fl.zN]
  rw[e1,e2];exact zPA a b old _ w ha hb ho rfl
 ·have e1:wkX 3 a b old=((a:Int) - b)%4294967296:=by simp[wkX]
  have e2:Fl.zN 3 a b old=Fl.zBi a b 0:=by simp[Fl.zN]
  rw[e1,e2];exact zPB a b old _ w ha hb ho rfl
 ·have e1:wkX 4 a b old=((a:Int) - b - Fl.vM old)%4294967296:=by simp[wkX]
  have e2:Fl.zN 4 a b old=Fl.zBi a b (Fl.vM old):=by simp[Fl.zN]
  rw[e1,e2];exact zPC a b old _ w ha hb ho rfl
 ·have e1:wkX 5 a b old=(a:Int):=by simp[wkX]
  have e2:Fl.zN 5 a b old=Fl.yC a:=by simp[Fl.zN]
  rw[e1,e2];exact zPD a b old _ w ha hb ho rfl
 ·by_cases hz:b%32=0
  ·have e1:wkX 6 a b old=a:=by
    have:wkX 6 a b old=((a*2 ^ (b%32)%4294967296:Nat):Int):=by simp[wkX]
    rw[this];rw[hz];simp;omega
   have e2:Fl.zN 6 a b old=((old%16:Nat):Int):=by simp[Fl.zN,hz]
   rw[e1,e2];exact zNO a b old _ w ha hb ho rfl hz
  ·have h0:0 < b%32:=Nat.pos_of_ne_zero hz
   have e1:wkX 6 a b old=((a*2 ^ (b%32)%4294967296:Nat):Int):=by simp[wkX]
   have e2:Fl.zN 6 a b old=Fl.zCf a (b%32):=by simp[Fl.zN,h0]
   rw[e1,e2];exact zNN a b old _ w ha hb ho rfl _ rfl h0
 ·by_cases hz:b%32=0
  ·have e1:wkX 7 a b old=a:=by
    have:wkX 7 a b old=(a:Int) / 2 ^ (b%32):=by simp[wkX]
    rw[this];rw[hz];simp
   have e2:Fl.zN 7 a b old=((old%16:Nat):Int):=by simp[Fl.zN,hz]
   rw[e1,e2];exact zNQ a b old _ w ha hb ho rfl hz
  ·have h0:0 < b%32:=Nat.pos_of_ne_zero hz
   have e1:wkX 7 a b old=(a:Int) / 2 ^ (b%32):=by simp[wkX]
   have e2:Fl.zN 7 a b old=Fl.zCg a (b%32):=by simp[Fl.zN,h0]
   rw[e1,e2];exact zNP a b old _ w ha hb ho rfl _ rfl h0
 ·by_cases hz:b%32=0
  ·have e1:wkX 8 a b old=a:=by
    have:wkX 8 a b old=Fl.vP a / 2 ^ (b%32)%4294967296:=by simp[wkX]
    rw[this];rw[hz];exact zLv a ha
   have e2:Fl.zN 8 a b old=((old%16:Nat):Int):=by simp[Fl.zN,hz]
   rw[e1,e2];exact zNS a b old _ w ha hb ho rfl hz
  ·have h0:0 < b%32:=Nat.pos_of_ne_zero hz
   have e1:wkX 8 a b old=Fl.vP a / 2 ^ (b%32)%4294967296:=by simp[wkX]
   have e2:Fl.zN 8 a b old=Fl.zCe a (b%32):=by simp[Fl.zN,h0]
   rw[e1,e2];exact zNR a b old _ w ha hb ho rfl _ rfl h0
 ·by_cases hz:b%32=0
  ·have e1:wkX 9 a b old=a:=by
    have:wkX 9 a b old=Fl.vT (b%32) a:=by simp[wkX]
    rw[this];rw[hz];rfl
   have e2:Fl.zN 9 a b old=((old%16:Nat):Int):=by simp[Fl.zN,hz]
   rw[e1,e2];exact zNU a b old _ w ha hb ho rfl hz
  ·have h0:0 < b%32:=Nat.pos_of_ne_zero hz
   have e1:wkX 9 a b old=Fl.vT (b%32) a:=by simp[wkX]
   have e2:Fl.zN 9 a b old=Fl.zBH a (b%32) old:=by simp[Fl.zN,h0]
   rw[e1,e2,← zNr a (b%32) old];exact zNT a b old _ w ha hb ho rfl _ rfl h0
 ·have e1:wkX 10 a b old=((a*b%4294967296:Nat):Int):=by simp[wkX]
  have e2:Fl.zN 10 a b old=Fl.zBG a b:=by simp[Fl.zN]
  rw[e1,e2];exact zNK a b old _ w ha hb ho rfl
 ·have e1:wkX 11 a b old=((a:Int)+1)%4294967296:=by simp[wkX]
  have e2:Fl.zN 11 a b old=Fl.zDD a old:=by simp[Fl.zN]
  rw[e1,e2];exact zNL a b old _ w ha hb ho rfl
 ·have e1:wkX 12 a b old=((a:Int) - 1)%4294967296:=by simp[wkX]
  have e2:Fl.zN 12 a b old=Fl.zDC a old:=by simp[Fl.zN]
  rw[e1,e2];exact zNM a b old _ w ha hb ho rfl
theorem zDr(k:Int)(a b old:Nat)(w:World)(ha:a < 4294967296)(hb:b < 4294967296)(ho:old < 4294967296) :
  Calls Tryz.prog 63 #[.int .i64 k,.int .u32 a,.int .u32 b,.int .u32 old] w fun e w'=>e=.returned (.int .u32 (Fl.zN k a b old))∧Below w.heap.size w w':=by
 go_enter Tryz.func63,Tryz.ntmps63
 go_wp2_with (go_at_call 81;refine(zKd k a b old _ ha hb ho).mono ?_;rintro e w1 ⟨rfl,hB⟩)
 go_ret
 exact⟨rfl,hB⟩
def hoL:List Value:=[.int .u32 8,.bool false,.bool false,.int .u32 4,.bool false,.bool false,.int .u32 1,.bool false,.bool false,.int .u32 5,.bool false,.bool false,.int .u32 2,.bool false,.bool false,.int .u32 0,.bool true,.bool false,.int .u32 1,.bool true,.bool false,.int .u32 0,.bool false,.bool true]
def yW:Array Value:=hoL.toArray
def hoZ:Array Value:=#[.int .u32 0,.bool false,.bool false,.int .u32 0,.bool false,.bool false,.int .u32 0,.bool false,.bool false,.int .u32 0,.bool false,.bool false,.int .u32 0,.bool false,.bool false,.int .u32 0,.bool false,.bool false,.int .u32 0,.bool false,.bool false,.int .u32 0,.bool false,.bool false]
theorem yK:(Tryz.prog.info? 148).map (fun i=>(i.zero,i.size))=some (some (.agg hoZ),24):=by kernel_rfl
theorem hoS{W w:World}{ops:Array Oper}{rest:List Oper}{o:Oper}{a:Act}{Q:Exit→Act→World→Prop}{x y:Operand}(hgd:o.guard=none)(ho:o.op=.store 148 x y)(hx:a.eval x=.pointer (some ⟨w.heap.size,0,none⟩))(hy:a.eval y=.agg yW)(hW:W=w.alloc (.cells hoZ 148))(h:wpList Tryz.prog ops Q rest (a.put o.dst undef) (w.alloc (.cells yW 148))):wpList Tryz.prog ops Q (o :: rest) a W:=
 hW▸wpList_store_row hgd 148 x y ho w.heap.size yW hx hy 148 hoZ (heap_alloc_last w _) (Go.zero_of_info yK).2 (by rfl) (by kernel_rfl) (by rw[World.setRow_alloc_new];exact h)
theorem zMv:∀ f:Fin 16,∀ S:Fin 16,((f.val &&& S.val:Nat) !=0)=((f.val%2==1 && S.val%2==1) || (f.val / 2%2==1 && S.val / 2%2==1) || (f.val / 4%2==1 && S.val / 4%2==1) || (f.val / 8%2==1 && S.val / 8%2==1)):=by decide +kernel
theorem zX(f:Nat)(S:Nat)(hf:f < 4294967296)(hS:S < 16):(bits .and .u32 (f:Int) (S:Int) !=0)=(((f:Int)%2==1 && (S:Int)%2==1) || ((f:Int) / 2%2==1 && (S:Int) / 2%2==1) || ((f:Int) / 4%2==1 && (S:Int) / 4%2==1) || ((f:Int) / 8%2==1 && (S:Int) / 8%2==1)):=by
 rw[Go.u32_and_nat _ _ hf aO]
 have e:f &&& S=(f%16) &&& S:=by
  have h1:S=15 &&& S:=by rw[Nat.and_comm];exact(Go.nat_mask4 S▸(Nat.mod_eq_of_lt hS).symm)
  have h2:f%16=f &&& 15:=(Go.nat_mask4 f).symm
  rw[h2,Nat.and_assoc,← h1]
 have h:=zMv ⟨f%16,by omega⟩ ⟨S,hS⟩
 simp only at h
 rw[e]
 have c:∀ x:Nat,(((x:Nat):Int) !=0)=(x !=0):=fun x=>by rw[Bool.eq_iff_iff];simp
 have g:∀ x d:Nat,((x:Int) / (d:Int)%2==1)=(x / d%2==1):=fun x d=>by
  rw[Bool.eq_iff_iff];simp only[beq_iff_eq];rw[← Int.natCast_ediv];omega
 have g1:∀ x:Nat,((x:Int)%2==1)=(x%2==1):=fun x=>by rw[Bool.eq_iff_iff];simp only[beq_iff_eq];omega
 rw[c,h]
 have e1:f%16%2=f%2:=aO
 have e2:f%16 / 2%2=f / 2%2:=aO
 have e4:f%16 / 4%2=f / 4%2:=aO
 have e8:f%16 / 8%2=f / 8%2:=aO
 have k2:=g f 2
 have k4:=g f 4
 have k8:=g f 8
 have l2:=g S 2
 have l4:=g S 4
 have l8:=g S 8
 simp only[Int.cast_ofNat_Int] at k2 k4 k8 l2 l4 l8
 rw[e1,e2,e4,e8,k2,k4,k8,l2,l4,l8,g1,g1]
def zA0(c:Nat→Nat):Prop:=∀ i,c i < 4294967296
abbrev cxF(c:Nat→Nat):Int:=Fl.zN (c 8) (c 9) (c 10) (c 11)
theorem zFz(c:Nat→Nat)(w:World)(hc:zA0 c) :
  Calls Tryz.prog 84 #[cxV c] w fun e w'=>e=.returned (.int .u32 (cxF c))∧Below w.heap.size w w':=by
 have h8:(c 8:Int) < 4294967296:=by have:=hc 8;omega
 have h80:(0:Int)≤(c 8:Int):=aO
 have HC:Hid (zA0 c):=hc
 clear hc
 go_enter Tryz.func84,Tryz.ntmps84
 go_wp2_with (go_at_call 63;refine(zDr (c 8) (c 9) (c 10) (c 11) _ (HC.out 9) (HC.out 10) (HC.out 11)).mono ?_;rintro e w1 ⟨rfl,h1⟩)
 go_ret
 exact⟨rfl,(yF w _).trans (h1.mono aS)⟩
theorem zOH{w w1:World}{o1 o2:Obj}(h:Below ((w.alloc o1).alloc o2).heap.size ((w.alloc o1).alloc o2) w1):w1.heap[w.heap.size]?=some o1∧w1.heap[w.heap.size+1]?=some o2∧Below w.heap.size w w1:=by
 refine⟨(h.block _ zq7).trans (al2 w o1 o2).1,(h.block _ aS).trans (al2 w o1 o2).2,zB1 h⟩
theorem zGo(c:Nat→Nat)(pc:Nat)(w:World)(hc:zA0 c) :
  Calls Tryz.prog 70 #[cxV c,.int .u32 pc] w fun e w'=>e=.returned (sxV c pc (cxF c))∧Below w.heap.size w w':=by
 have HC:Hid (zA0 c):=hc
 obtain⟨F,HF⟩:∃ F:Int,Hid (cxF c=F):=⟨_,rfl⟩
 clear hc
 go_enter Tryz.func70,Tryz.ntmps70
 go_upto_region 2 with (go_at_call 84;refine(zFz c _ HC.out).mono ?_;rintro e w1 ⟨rfl,h1⟩;obtain⟨b0,b1,B⟩:=zOH h1;have HB:Hid _:=B;have Hb0:Hid _:=b0;have Hb1:Hid _:=b1;have s1:=h1.size;simp only[zGR] at s1;clear h1 b0 b1 B;rw[HF.out])
 have l1:w.heap.size+1 < w1.heap.size:=zE Hb1.out
 have l0:w.heap.size < w1.heap.size:=zE Hb0.out
 have HR:=zHn (W:=(w1.alloc (.cells #[.int .u32 0,.int .u32 0,.int .u32 0,.int .u32 0,.int .u32 0,.int .u32 0,.int .u32 0,.int .u32 0,.int .u32 pc,.int .u32 F] 126)).drew) (dCap:=8) (sCap:=12) (r:=c) ((zIm w1 _ _ l0).trans Hb0.out) (heap_alloc_last w1 _) (fun j hj=>zN4 c j aO) aS
 simp only[r8L,World.setCells] at HR
 have f1:=zD Hb1.out
 have q0:w1.cell? ⟨w.heap.size+1,0,none⟩=some (.int .u32 0):=zA Hb1.out 0
 have q1:w1.cell? ⟨w.heap.size+1,1,none⟩=some (.int .u32 0):=zA Hb1.out 1
 have q2:w1.cell? ⟨w.heap.size+1,2,none⟩=some (.int .u32 0):=zA Hb1.out 2
 have q3:w1.cell? ⟨w.heap.size+1,3,none⟩=some (.int .u32 0):=zA Hb1.out 3
 have q4:w1.cell? ⟨w.heap.size+1,4,none⟩=some (.int .u32 0):=zA Hb1.out 4
 have q5:w1.cell? ⟨w.heap.size+1,5,none⟩=some (.int .u32 0):=zA Hb1.out 5
 have q6:w1.cell? ⟨w.heap.size+1,6,none⟩=some (.int .u32 0):=zA Hb1.out 6
 have q7:w1.cell? ⟨w.heap.size+1,7,none⟩=some (.int .u32 0):=zA Hb1.out 7
 have q8:w1.cell? ⟨w.heap.size+1,8,none⟩=some (.int .u32 0):=zA Hb1.out 8
 have q9:w1.cell? ⟨w.heap.size+1,9,none⟩=some (.int .u32 0):=zA Hb1.out 9
 go_region
 all_goals(clear HR;go_wp2)
 exact bodyPost_ret (v:=sxV c pc (cxF c)) (by rw[HF.out];simp[results,Tryz.results70,go_sem,l0,l1,f1,q0,q1,q2,q3,q4,q5,q6,q7,q8,q9]) rfl ⟨rfl,by
  have hB:=HB.out
  (repeat first|with_reducible exact Below.refl _ _|with_reducible exact hB|with_reducible refine Below.drew ?_|with_reducible refine Below.alloc ?_ zq11 _|with_reducible refine Below.setCell ?_ zq11 _)⟩
theorem zGw(c:Nat→Nat)(pc:Nat)(w:World)(hc:zA0 c) :
  Calls Tryz.prog 57 #[cxV c,.int .u32 pc] w fun e w'=>e=.returned (sxV c pc (cxF c))∧Below w.heap.size w w':=by
 have h8:(c 8:Int) < 4294967296:=by have:=hc 8;omega
 have h80:(0:Int)≤(c 8:Int):=aO
 have HC:Hid (zA0 c):=hc
 obtain⟨F,HF⟩:∃ F:Int,Hid (cxF c=F):=⟨_,rfl⟩
 clear hc
 go_enter Tryz.func57,Tryz.ntmps57
 go_wp2_with (go_at_call 74;refine(Fl.vV (c 8) (c 9) (c 10) (c 11) _ (HC.out 9) (HC.out 10) (HC.out 11)).mono ?_;rintro e w1 ⟨rfl,rfl⟩;rw[show Fl.zN (c 8) (c 9) (c 10) (c 11)=F from HF.out])
 refine wp_loop_rounds 9 ?_
 iterate 9 (rw[rounds_succ];go_wp2)
 exact bodyPost_ret (v:=sxV c pc (cxF c)) (by rw[HF.out];simp[results,Tryz.results57,go_sem]) rfl ⟨rfl,by(repeat first|with_reducible exact Below.refl _ _|with_reducible exact hB|with_reducible refine Below.drew ?_|with_reducible refine Below.alloc ?_ zq11 _|with_reducible refine Below.setCell ?_ zq11 _)⟩
end Go.Proofs.YthcpipfmicbnmaaGreat.Va
namespace Go.Proofs.YthcpipfmicbnmaaGreat.Ho
open Go.RowKit
set_option maxRecDepth 100000
theorem zN0(c:Nat→Nat)(pc:Nat)(F:Int)(w:World):(Instr.field 126 (Va.sxV c pc F) 2).run Tryz.prog w=.ok (.int .u32 F) w:=by
 simp[Instr.field,Tryz.underlying126,go_sem,part,asAgg]
theorem zHK(R X I d n va vb vc vd v:Nat)(ws tb:Value)(h:HP)(w:World)(hR:RB w R (yB ws tb X h))(c0:w.cell? ⟨I,0,none⟩=some (.int .i64 97))(c1:w.cell? ⟨I,1,none⟩=some (.int .i64 d))(c5:w.cell? ⟨I,5,none⟩=some (.int .i64 n))(lI:I < w.heap.size)(hd:d < 16)(hIR:I≠R)
  (hv:∀ W,Calls Tryz.prog 70 #[.agg #[.int .u32 (h.c 0),.int .u32 (h.c 1),.int .u32 (h.c 2),.int .u32 (h.c 3),.int .u32 (h.c 4),.int .u32 (h.c 5),.int .u32 (h.c 6),.int .u32 (h.c 7),.int .u32 (h.c 8),.int .u32 (h.c 9),.int .u32 (h.c 10),.int .u32 (h.c 11)],.int .u32 0] W fun e w'=>e=.returned (.agg #[.int .u32 (h.c 0),.int .u32 (h.c 1),.int .u32 (h.c 2),.int .u32 (h.c 3),.int .u32 (h.c 4),.int .u32 (h.c 5),.int .u32 (h.c 6),.int .u32 (h.c 7),.int .u32 0,.int .u32 v])∧Below W.heap.size W w') :
  Calls Tryz.prog 53 #[.pointer (some ⟨R,0,none⟩),.pointer (some ⟨I,0,none⟩),.agg (uW va vb vc vd)] w fun e w'=>e=.returned (.tuple #[])∧RB w' R (yB ws tb X (h.reg d v))∧zI [R] w w':=by
 have lR:=hR.lt
 have d0:(0:Int)≤d:=aO
 have d1:(d:Int) < 16:=aO
 have HR:Hid _:=hR
 have HV:Hid _:=hv
 have HSF:∀ w,(Instr.field 126 (.agg #[.int .u32 (h.c 0),.int .u32 (h.c 1),.int .u32 (h.c 2),.int .u32 (h.c 3),.int .u32 (h.c 4),.int .u32 (h.c 5),.int .u32 (h.c 6),.int .u32 (h.c 7),.int .u32 0,.int .u32 v]) 2).run Tryz.prog w=.ok (.int .u32 (v:Int)) w:=fun w=>zN0 h.c 0 v w
 have HDl:Hid _:=hd
 have lI1:I < w.heap.size+1:=aO
 have lR1:R < w.heap.size+1:=aO
 clear hR hd hv hIR
 go_enter Tryz.func53,Tryz.ntmps53
 go_upto_region 1 with fail
 go_quiet (fail)
 go_upto_region 14 with fail
 refine zJ (fun W'=>RB W' R (yB ws tb X h)∧zI [R] w W') ⟨(HR.out.al _).drwN _,((zI.refl [R] w).alloc _).drwN _⟩ ?_
 rintro W ⟨hR2,hC2⟩
 have lR2:=hR2.lt
 have a0:W.cell? ⟨R,1,none⟩=some (.int .u32 (h.c 0)):=hR2.c 1 aO
 have a1:W.cell? ⟨R,2,none⟩=some (.int .u32 (h.c 1)):=hR2.c 2 aO
 have a2:W.cell? ⟨R,3,none⟩=some (.int .u32 (h.c 2)):=hR2.c 3 aO
 have a3:W.cell? ⟨R,4,none⟩=some (.int .u32 (h.c 3)):=hR2.c 4 aO
 have a4:W.cell? ⟨R,5,none⟩=some (.int .u32 (h.c 4)):=hR2.c 5 aO
 have a5:W.cell? ⟨R,6,none⟩=some (.int .u32 (h.c 5)):=hR2.c 6 aO
 have a6:W.cell? ⟨R,7,none⟩=some (.int .u32 (h.c 6)):=hR2.c 7 aO
 have a7:W.cell? ⟨R,8,none⟩=some (.int .u32 (h.c 7)):=hR2.c 8 aO
 have a8:W.cell? ⟨R,9,none⟩=some (.int .u32 (h.c 8)):=hR2.c 9 aO
 have a9:W.cell? ⟨R,10,none⟩=some (.int .u32 (h.c 9)):=hR2.c 10 aO
 have a10:W.cell? ⟨R,11,none⟩=some (.int .u32 (h.c 10)):=hR2.c 11 aO
 have a11:W.cell? ⟨R,12,none⟩=some (.int .u32 (h.c 11)):=hR2.c 12 aO
 have HR2:Hid _:=hR2
 have HC2:Hid _:=hC2
 clear hR2 hC2
 go_wp2_with (first|(go_at_call 70;refine(HV.out _).mono ?_;rintro e w1 ⟨rfl,hb1⟩;have HB1:Hid (zI ([]:List Nat) W w1):=(zI.of_below _ hb1);clear hb1)|(go_at_call 49;refine(zAP R d v X ws tb h _ (HR2.out.chg HB1.out aS) HDl.out).mono ?_;rintro e w2 ⟨rfl,hr2,hc2⟩;have HR3:Hid _:=hr2;have HC3:Hid _:=hc2;clear hr2 hc2))
 go_end0
 exact⟨rfl,HR3.out,(HC2.out.trans (HB1.out.mono aS)).trans HC3.out⟩
abbrev stC(sk:Int)(ar:Int):Array Value:=#[.int .i64 sk,.int .u32 ar]
structure MW(w W:World)(k:QB)(ws tb mp:Value)(q:HQ)(C:Array Value)(sk ar:Int):Prop where
 q:QW W k ws tb mp q
 b0:W.heap[w.heap.size]?=some (.cells C 69)
 b1:W.heap[w.heap.size+1]?=some (.cells (stC sk ar) 35)
theorem hpa(w:World)(X Y:Obj):((w.alloc X).alloc Y).heap[w.heap.size]?=some X∧((w.alloc X).alloc Y).heap[w.heap.size+1]?=some Y:=by
 constructor
 ·show((w.heap.push X).push Y)[w.heap.size]?=some X
  rw[Array.getElem?_push,if_neg aS,Array.getElem?_push,if_pos rfl]
 ·show((w.heap.push X).push Y)[w.heap.size+1]?=some Y
  rw[Array.getElem?_push,if_pos aS]
theorem cel{w:World}{X:Nat}{B:Array Value}{T:TypeId}(h:w.heap[X]?=some (.cells B T))(o:Nat):w.cell? ⟨X,o,none⟩=B[o]?:=cell_of_row _ _ o _ _ (0,0) h
theorem fro{w:World}{X:Nat}{B:Array Value}{T:TypeId}(h:w.heap[X]?=some (.cells B T))(o:Nat):w.frozen? ⟨X,o,none⟩=false:=frozen_of_row _ _ o _ _ h
theorem ltb{w:World}{X:Nat}{o:Obj}(h:w.heap[X]?=some o):X < w.heap.size:=by
 rcases Nat.lt_or_ge X w.heap.size with g|g
 ·exact g
 ·rw[Array.getElem?_eq_none g] at h;cases h
theorem zA1{w:World}{k:QB}{ws tb mp:Value}{q:HQ}(h:QW w k ws tb mp q):∀ x∈k.own,x < w.heap.size:=by
 intro x hx
 simp only[QB.own,List.mem_cons,List.not_mem_nil,or_false] at hx
 rcases hx with rfl|rfl|rfl|rfl|rfl
 ·exact h.h.lt
 ·exact h.r.lt
 ·exact h.g.lt
 ·exact h.s.lt
 ·exact h.d.lt
theorem zHG(k:QB)(ws tb mp:Value)(q:HQ)(op g b c n sk ar:Int)(d a kk xx:Nat)(S:List Nat)(P P':World→Prop)(w:World)(hq:QW w k ws tb mp q)(ha:a < 16)(hh:q.has a=true)(hd:d < 16)(hhd:q.has d=true)(yZ:q.stuck=false)(ho1:¬op < 88)(ho:IntKind.i64.wrap (op - 88)=g)(hS:∀ x∈k.own,x∉S)(hSn:∀ x∈S,x < w.heap.size)
  (hP0:∀ W,zI [] w W→P W) (hPk:∀ W W' x,P' W→w.heap.size≤x→zI [x] W W'→P' W')
  (hs:∀ W,P W→Calls Tryz.prog 56 #[mp,.int .i64 g,.int .u32 (q.reg a),.int .u32 (q.reg d)] W fun e w'=>e=.returned (.agg (stC sk ar))∧P' w'∧zI S W w') :
  Calls Tryz.prog 39 #[.pointer (some ⟨k.h,0,none⟩),.agg (yJ op d a b c n kk xx)] w fun e w'=>e=.returned (.agg (stC sk ar))∧QW w' k ws tb mp q∧P' w'∧zI S w w':=by
 have lh:=hq.h.lt
 have HS:Hid _:=hs
 have HSS:Hid _:=hS
 have HSN:Hid _:=hSn
 have HP0:Hid _:=hP0
 have HPK:Hid _:=hPk
 have HQ':Hid _:=hq
 have HA:Hid _:=ha
 have HH:Hid _:=hh
 have HD:Hid _:=hd
 have HHD:Hid _:=hhd
 have HST:Hid _:=yZ
 have c23:w.cell? ⟨k.h,23,none⟩=some (.bool q.stuck):=hq.h.c 23 aO
 rw[yZ] at c23
 clear hq hs hS ha hh hd hhd yZ hSn hP0 hPk
 go_enter Tryz.func39,Tryz.ntmps39
 go_upto_region 7 with (go_at_call 38;refine Calls.mono (zC0 k ws tb mp q a _ ?_ HA.out HH.out) ?_;(exact zq3);rintro e w1 ⟨rfl,rfl⟩)
 go_upto_region 10 with (go_at_call 38;refine Calls.mono (zC0 k ws tb mp q d _ ?_ HD.out HHD.out) ?_;(exact zq3);rintro e w1 ⟨rfl,rfl⟩)
 refine zJ (fun W'=>MW w W' k ws tb mp q (yJ op d a b c n kk xx) 0 0∧zI [] w W') ⟨⟨zq3,(hpa w _ _).1,(hpa w _ _).2⟩,zq4⟩ ?_
 intro wx hW
 have HW:Hid _:=hW.1
 have HC:Hid _:=hW.2
 have lh':k.h < wx.heap.size:=hW.1.q.h.lt
 have c14:wx.cell? ⟨k.h,14,none⟩=some mp:=hW.1.q.h.c 14 aO
 have o0:wx.cell? ⟨w.heap.size,0,none⟩=some (.int .i64 op):=cel hW.1.b0 0
 have l0:=ltb hW.1.b0
 have l1:=ltb hW.1.b1
 have l1':w.heap.size+1 < wx.drew.heap.size:=l1
 clear hW c23 lh
 go_region_held3 (fun W'=>W'.cell? ⟨k.h,14,none⟩=some mp∧W'.cell? ⟨w.heap.size,0,none⟩=some (.int .i64 op)) (first|(simp[go_sem,c14,o0,lh',l0,l1];done)|(simp[go_sem,d14,p0];done))
  (first|(go_at_call 56;refine Calls.mono (HS.out _ (HP0.out _ zq41)) ?_;rintro e w1 ⟨rfl,hp1,hc1⟩;have HP1:Hid _:=hp1;have HCC:Hid (zI S wx w1):=zI.trans zq4 hc1;have HM1:Hid (MW w w1 k ws tb mp q (yJ op d a b c n kk xx) 0 0):=⟨HW.out.q.chg HCC.out HSS.out,(HCC.out.block _ (ltb HW.out.b0) (fun e=>absurd (HSN.out _ e) (Nat.lt_irrefl _))).trans HW.out.b0,(HCC.out.block _ (ltb HW.out.b1) (fun e=>absurd (HSN.out _ e) aO)).trans HW.out.b1⟩;have d14:w1.cell? ⟨k.h,14,none⟩=some mp:=HM1.out.q.h.c 14 aO;have p0:w1.cell? ⟨w.heap.size,0,none⟩=some (.int .i64 op):=cel HM1.out.b0 0;have z0:w1.cell? ⟨w.heap.size+1,0,none⟩=some (.int .i64 0):=cel HM1.out.b1 0;have z1:w1.cell? ⟨w.heap.size+1,1,none⟩=some (.int .u32 0):=cel HM1.out.b1 1;have zf:=fro HM1.out.b1;have zl:=ltb HM1.out.b1;clear hp1 hc1))
 all_goals(try go_wp2)
 all_goals(
  have hn:w.heap.size+1∉k.own:=fun e=>by have:=zA1 HQ'.out _ e;omega
  exact bodyPost_ret (v:=.agg (stC sk ar)) (by simp[results,Tryz.results39,go_sem,z0,z1,zf,zl]) rfl ⟨rfl,(by focus(repeat first|with_reducible exact HM1.out.q|with_reducible refine QW.oth ?_ hn _ _|with_reducible refine QW.al ?_ _|with_reducible refine QW.dr ?_|with_reducible refine QW.drN ?_ _)),HPK.out _ _ (w.heap.size+1) HP1.out aO (zI.set (zI.set (zI.refl _ _) aC _ _) aC _ _),(by focus(repeat first|with_reducible exact((show zI S w wx from HC.out.mono aS).trans HCC.out)|with_reducible exact zI.refl _ _|with_reducible refine zI.setNew ?_ aO _ _|with_reducible refine zI.alloc ?_ _|with_reducible refine zI.drew ?_|with_reducible refine zI.dN ?_ _))⟩)
structure JW(w W:World)(k:QB)(ws tb mp:Value)(q:HQ)(C:Array Value):Prop where
 q:QW W k ws tb mp q
 b0:W.heap[w.heap.size]?=some (.cells C 69)
 ch:zI [] w W
theorem JW.nx{w W w1:World}{k:QB}{ws tb mp:Value}{q:HQ}{C:Array Value}(h:JW w W k ws tb mp q C)(b:Below W.heap.size W w1):JW w w1 k ws tb mp q C:=
 ⟨h.q.chg (S:=[]) (zI.of_below _ b) (fun _ _=>by simp),(b.block _ (ltb h.b0)).trans h.b0,h.ch.trans (zI.of_below _ b)⟩
theorem JW.st{w W w1:World}{k:QB}{ws tb mp:Value}{q:HQ}{C:Array Value}(h:JW w W k ws tb mp q C){r g:Nat}(b:zI [r,g] W w1)(hr:r < w.heap.size)(hg:g < w.heap.size):w1.heap[w.heap.size]?=some (.cells C 69):=
 (b.block _ (ltb h.b0) zq7).trans h.b0
theorem zGM{w:World}{k:QB}{ws tb mp:Value}(q:HQ){q':HQ}(h:QW w k ws tb mp q')(e:q'.c=q.c):w.rangeAt k.h 2 [.int .u32 (q.c 0),.int .u32 (q.c 1),.int .u32 (q.c 2),.int .u32 (q.c 3),.int .u32 (q.c 4),.int .u32 (q.c 5),.int .u32 (q.c 6),.int .u32 (q.c 7),.int .u32 (q.c 8),.int .u32 (q.c 9),.int .u32 (q.c 10),.int .u32 (q.c 11)]:=fun j x hx=>by
 have hj:j < 12:=by
  rcases Nat.lt_or_ge j 12 with g|g
  ·exact g
  ·rw[List.getElem?_eq_none (by simpa using g)] at hx;cases hx
 rw[h.h.c (2+j) aO,zKj _ _ _ _ _ j hj,e]
 match j,hj with
 | 0,_|1,_|2,_|3,_|4,_|5,_|6,_|7,_|8,_|9,_|10,_|11,_=>simpa using hx
theorem u27:Tryz.prog.underlying 25=some (.array 12 23):=Tryz.underlying25
theorem i27:(Tryz.prog.info? 25).map (·.size)=some 12:=by kernel_rfl
theorem zMP(k:QB)(ws tb mp:Value)(q:HQ)(d:Nat)(a b c n:Int)(kk xx v:Nat)(w:World)(hq:QW w k ws tb mp q)(hd:d < 16)
  (hv:∀ W,Calls Tryz.prog 57 #[.agg #[.int .u32 (q.c 0),.int .u32 (q.c 1),.int .u32 (q.c 2),.int .u32 (q.c 3),.int .u32 (q.c 4),.int .u32 (q.c 5),.int .u32 (q.c 6),.int .u32 (q.c 7),.int .u32 (q.c 8),.int .u32 (q.c 9),.int .u32 (q.c 10),.int .u32 (q.c 11)],.int .u32 0] W fun e w'=>e=.returned (.agg (Va.sxA q.c 0 v))∧Below W.heap.size W w') :
  Calls Tryz.prog 40 #[.pointer (some ⟨k.h,0,none⟩),.agg (yJ 97 d a b c n kk xx)] w fun e w'=>e=.returned (.tuple #[])∧QW w' k ws tb mp { q with reg:=upd q.reg d v,has:=upd q.has d true }∧zI k.own w w':=by
 have HF:∀ w,Hid (Calls Tryz.prog 35 #[.int .i64 97] w fun e w'=>e=.returned (.tuple #[.string ⟨#[100]⟩,.int .i64 0,.int .i64 1])∧w=w'):=fun w=>yH 97 w
 have lh:=hq.h.lt
 have HQ':Hid _:=hq
 have HD:Hid _:=hd
 have HV:Hid _:=hv
 have HLR:Hid _:=hq.r.lt
 have HLG:Hid _:=hq.g.lt
 clear hq hd hv
 go_enter Tryz.func40,Tryz.ntmps40
 go_upto_region 38 with (go_at_call 35;refine Calls.mono (HF _).out ?_;rintro e w1 ⟨rfl,rfl⟩)
 refine zJ (fun W'=>JW w W' k ws tb mp q (yJ 97 d a b c n kk xx)) ⟨zq3,heap_alloc_last w _,zq4⟩ ?_
 intro wx hW
 have HW:Hid _:=hW
 have od:wx.cell? ⟨w.heap.size,1,none⟩=some (.int .i64 d):=cel hW.b0 1
 have or:wx.rangeAt k.h 2 [.int .u32 (q.c 0),.int .u32 (q.c 1),.int .u32 (q.c 2),.int .u32 (q.c 3),.int .u32 (q.c 4),.int .u32 (q.c 5),.int .u32 (q.c 6),.int .u32 (q.c 7),.int .u32 (q.c 8),.int .u32 (q.c 9),.int .u32 (q.c 10),.int .u32 (q.c 11)]:=zGM q hW.q rfl
 have ol:=ltb hW.b0
 have om:=hW.q.h.lt
 clear hW lh
 have U27:=u27
 have HSF:∀ w,(Instr.field 126 (.agg (Va.sxA q.c 0 v)) 2).run Tryz.prog w=.ok (.int .u32 (v:Int)) w:=fun w=>zN0 q.c 0 v w
 have I27:(Tryz.prog.info? 25).map (·.size)=some ([.int .u32 (q.c 0),.int .u32 (q.c 1),.int .u32 (q.c 2),.int .u32 (q.c 3),.int .u32 (q.c 4),.int .u32 (q.c 5),.int .u32 (q.c 6),.int .u32 (q.c 7),.int .u32 (q.c 8),.int .u32 (q.c 9),.int .u32 (q.c 10),.int .u32 (q.c 11)]:List Value).length:=i27
 go_region_held3 (fun W'=>W'.cell? ⟨w.heap.size,1,none⟩=some (.int .i64 d)∧W'.rangeAt k.h 2 [.int .u32 (q.c 0),.int .u32 (q.c 1),.int .u32 (q.c 2),.int .u32 (q.c 3),.int .u32 (q.c 4),.int .u32 (q.c 5),.int .u32 (q.c 6),.int .u32 (q.c 7),.int .u32 (q.c 8),.int .u32 (q.c 9),.int .u32 (q.c 10),.int .u32 (q.c 11)]) (first|(simp[go_sem,rd,rr,rl,rm];done)|(simp[go_sem,pd,pr,pl,pm];done)|(simp[go_sem,od,or,ol,om];done))
  (first
  | (go_at_call 57;refine Calls.mono (HV.out _) ?_;rintro e w1 ⟨rfl,hb1⟩;have HW1:Hid (JW w w1 k ws tb mp q (yJ 97 d a b c n kk xx)):=HW.out.nx (zCh hb1);have pd:w1.cell? ⟨w.heap.size,1,none⟩=some (.int .i64 d):=cel HW1.out.b0 1;have pr:w1.rangeAt k.h 2 [.int .u32 (q.c 0),.int .u32 (q.c 1),.int .u32 (q.c 2),.int .u32 (q.c 3),.int .u32 (q.c 4),.int .u32 (q.c 5),.int .u32 (q.c 6),.int .u32 (q.c 7),.int .u32 (q.c 8),.int .u32 (q.c 9),.int .u32 (q.c 10),.int .u32 (q.c 11)]:=zGM q HW1.out.q rfl;have pl:=ltb HW1.out.b0;have pm:=HW1.out.q.h.lt;clear hb1)
  | (go_at_call 55;have HXX:=HW1;refine Calls.mono (uG k ws tb mp q d v _ ?_ HD.out) ?_;(exact zq13);rintro e w2 ⟨rfl,hq2,hc2⟩;have HQ2:Hid _:=hq2;have HC2:Hid _:=hc2;have rd:w2.cell? ⟨w.heap.size,1,none⟩=some (.int .i64 d):=cel (HW1.out.st (HC2.out) HLR.out HLG.out) 1;have rr:w2.rangeAt k.h 2 [.int .u32 (q.c 0),.int .u32 (q.c 1),.int .u32 (q.c 2),.int .u32 (q.c 3),.int .u32 (q.c 4),.int .u32 (q.c 5),.int .u32 (q.c 6),.int .u32 (q.c 7),.int .u32 (q.c 8),.int .u32 (q.c 9),.int .u32 (q.c 10),.int .u32 (q.c 11)]:=zGM q HQ2.out rfl;have rl:=ltb (HW1.out.st (HC2.out) HLR.out HLG.out);have rm:=HQ2.out.h.lt;clear hq2 hc2))
 all_goals(try go_wp2)
 all_goals go_end0
 all_goals exact⟨rfl,HQ2.out,((HW1.out.ch.mono aS).trans (zI.trans zq4 (HC2.out.mono zq56)))⟩
structure zFS(op:Int):Prop where
 a1:(op==1)=false
 a10:(op==10)=false
 a11:(op==11)=false
 a14:(op==14)=false
 a12:(op==12)=false
 a13:(op==13)=false
 a4:(op==4)=false
 a15:(op==15)=false
 a96:(op==96)=false
 l:80≤op
 h:op≤90
structure SM2(w W:World)(k:QB)(ws tb mp:Value)(q:HQ)(S:List Nat)(P:World→Prop)(pc:Nat)(n:Int):Prop where
 q:QW W k ws tb mp q
 p:P W
 ch:zI (k.own++S) w W
 b1:W.heap[w.heap.size+1]?=some (.cells (uX 0 0 0 0 0 0) 37)
 b2:W.heap[w.heap.size+1+1]?=some (.cells (uX 0 0 0 pc n 0) 37)
theorem zIt(w:World)(X Y Z:Obj):(((w.alloc X).alloc Y).alloc Z).drew.heap[w.heap.size+1+1]?=some Z:=by
 show(((w.heap.push X).push Y).push Z)[w.heap.size+1+1]?=some Z
 rw[Array.getElem?_push,if_pos aS]
theorem zBE(k:QB)(ws tb mp:Value)(q q':HQ)(op d a b c n sk:Int)(kk xx ar:Nat)(S:List Nat)(P P':World→Prop)(w:World)(hq:QW w k ws tb mp q)(ho:zFS op)(hsk:(sk==0)=true)(hn0:0≤q.done+n)(hn1:q.done+n≤9223372036854775807)(hSn:∀ x∈S,x < w.heap.size)
  (hP0:∀ W,zI [] w W→P W) (hPk:∀ W W' T,P' W→(∀ x∈T,w.heap.size≤x)→zI T W W'→P' W')
  (hi:∀ W,w.heap.size≤W.heap.size→QW W k ws tb mp q→P W→Calls Tryz.prog 39 #[.pointer (some ⟨k.h,0,none⟩),.agg (yJ op d a b c n kk xx)] W fun e w'=>e=.returned (.agg (stC sk ar))∧QW w' k ws tb mp q'∧P' w'∧zI (k.own++S) W w') :
  Calls Tryz.prog 24 #[.pointer (some ⟨k.h,0,none⟩),.agg (yJ op d a b c n kk xx)] w fun e w'=>e=.returned (.agg (uX 0 0 0 0 0 0))∧QW w' k ws tb mp q'∧P' w'∧zI (k.own++S) w w':=by
 have lh:=hq.h.lt
 have c16:w.cell? ⟨k.h,16,none⟩=some (.int .i64 q.done):=hq.h.c 16 aO
 obtain⟨a1,a10,a11,a14,a12,a13,a4,a15,a96,l,h⟩:=ho
 have HI:Hid _:=hi
 have HQ':Hid _:=hq
 have HP0:Hid _:=hP0
 have HPK:Hid _:=hPk
 have l1:k.h < w.heap.size+1:=aO
 have l2:k.h < w.heap.size+1+1:=aO
 have l3:k.h < w.heap.size+1+1+1:=aO
 have n4:∀ B,w.heap.size≤B→B∉k.own++S:=fun B hB e=>by
  rcases List.mem_append.1 e with e|e
  ·have:=zA1 hq _ e;omega
  ·have:=hSn _ e;omega
 have N4:Hid _:=n4
 clear n4 hq hi hP0 hPk hSn
 go_enter Tryz.func24,Tryz.ntmps24
 go_upto_region 1 with fail
 go_region
 all_goals go_upto_region 51 with (go_at_call 39;refine Calls.mono (HI.out _ ?_ ?_ (HP0.out _ ?_)) ?_;(focus(simp;omega));(exact zq3);(exact zq4);rintro e w1 ⟨rfl,hq1,hp1,hc1⟩;have HM1:Hid (SM2 w w1 k ws tb mp q' S P' kk (q.done+n)):=⟨hq1,hp1,zI.trans zq4 hc1,hc1.keep (zC7 w _ _ _) (N4.out _ aO),hc1.keep (zIt w _ _ _) (N4.out _ aO)⟩;clear hq1 hp1 hc1)
 all_goals(
  have z0:=zA HM1.out.b1 0;have z1:=zA HM1.out.b1 1;have z2:=zA HM1.out.b1 2;have z3:=zA HM1.out.b1 3;have z4:=zA HM1.out.b1 4;have z5:=zA HM1.out.b1 5
  have zf:=zD HM1.out.b1
  have zl:=zE HM1.out.b1
  have x0:=zA HM1.out.b2 0;have x1:=zA HM1.out.b2 1;have x2:=zA HM1.out.b2 2;have x3:=zA HM1.out.b2 3;have x4:=zA HM1.out.b2 4;have x5:=zA HM1.out.b2 5
  have xf:=zD HM1.out.b2
  have xl:=zE HM1.out.b2
  have N1:Hid _:=fun e=>N4.out (w.heap.size+1) aO (List.mem_append_left S e)
  have N2:Hid _:=fun e=>N4.out (w.heap.size+1+1) aO (List.mem_append_left S e)
  go_wp2)
 all_goals exact bodyPost_ret (v:=.agg (uX 0 0 0 0 0 0)) zq18 rfl ⟨rfl,by(focus(repeat first|with_reducible exact HM1.out.q|with_reducible refine QW.oth ?_ N1.out _ _|with_reducible refine QW.oth ?_ N2.out _ _|with_reducible refine QW.al ?_ _ )),HPK.out w1 _ [w.heap.size+1,w.heap.size+1+1] HM1.out.p (fun x hx=>by simp at hx;omega) (by(focus(repeat first|with_reducible exact zI.refl _ _|with_reducible refine zI.set ?_ aS _ _|with_reducible refine zI.alloc ?_ _))),zq59⟩
theorem zD5(k:QB)(ws tb mp:Value)(q q':HQ)(op d a b c n sk:Int)(kk xx ar:Nat)(S:List Nat)(P P':World→Prop)(w:World)(hq:QW w k ws tb mp q)(ho:zFS op)(hsk:(sk==0)=false)(hn0:0≤q.done+n)(hn1:q.done+n≤9223372036854775807)(hSn:∀ x∈S,x < w.heap.size)
  (hP0:∀ W,zI [] w W→P W) (hPk:∀ W W' T,P' W→(∀ x∈T,w.heap.size≤x)→zI T W W'→P' W')
  (hi:∀ W,w.heap.size≤W.heap.size→QW W k ws tb mp q→P W→Calls Tryz.prog 39 #[.pointer (some ⟨k.h,0,none⟩),.agg (yJ op d a b c n kk xx)] W fun e w'=>e=.returned (.agg (stC sk ar))∧QW w' k ws tb mp q'∧P' w'∧zI (k.own++S) W w') :
  Calls Tryz.prog 24 #[.pointer (some ⟨k.h,0,none⟩),.agg (yJ op d a b c n kk xx)] w fun e w'=>e=.returned (.agg (uX 3 sk ar kk (q.done+n) 0))∧QW w' k ws tb mp q'∧P' w'∧zI (k.own++S) w w':=by
 have lh:=hq.h.lt
 have c16:w.cell? ⟨k.h,16,none⟩=some (.int .i64 q.done):=hq.h.c 16 aO
 obtain⟨a1,a10,a11,a14,a12,a13,a4,a15,a96,l,h⟩:=ho
 have HI:Hid _:=hi
 have HQ':Hid _:=hq
 have HP0:Hid _:=hP0
 have HPK:Hid _:=hPk
 have l1:k.h < w.heap.size+1:=aO
 have l2:k.h < w.heap.size+1+1:=aO
 have l3:k.h < w.heap.size+1+1+1:=aO
 have n4:∀ B,w.heap.size≤B→B∉k.own++S:=fun B hB e=>by
  rcases List.mem_append.1 e with e|e
  ·have:=zA1 hq _ e;omega
  ·have:=hSn _ e;omega
 have N4:Hid _:=n4
 clear n4 hq hi hP0 hPk hSn
 go_enter Tryz.func24,Tryz.ntmps24
 go_upto_region 1 with fail
 go_region
 all_goals go_upto_region 51 with (go_at_call 39;refine Calls.mono (HI.out _ ?_ ?_ (HP0.out _ ?_)) ?_;(focus(simp;omega));(exact zq3);(exact zq4);rintro e w1 ⟨rfl,hq1,hp1,hc1⟩;have HM1:Hid (SM2 w w1 k ws tb mp q' S P' kk (q.done+n)):=⟨hq1,hp1,zI.trans zq4 hc1,hc1.keep (zC7 w _ _ _) (N4.out _ aO),hc1.keep (zIt w _ _ _) (N4.out _ aO)⟩;clear hq1 hp1 hc1)
 all_goals(
  have z0:=zA HM1.out.b1 0;have z1:=zA HM1.out.b1 1;have z2:=zA HM1.out.b1 2;have z3:=zA HM1.out.b1 3;have z4:=zA HM1.out.b1 4;have z5:=zA HM1.out.b1 5
  have zf:=zD HM1.out.b1
  have zl:=zE HM1.out.b1
  have x0:=zA HM1.out.b2 0;have x1:=zA HM1.out.b2 1;have x2:=zA HM1.out.b2 2;have x3:=zA HM1.out.b2 3;have x4:=zA HM1.out.b2 4;have x5:=zA HM1.out.b2 5
  have xf:=zD HM1.out.b2
  have xl:=zE HM1.out.b2
  have N1:Hid _:=fun e=>N4.out (w.heap.size+1) aO (List.mem_append_left S e)
  have N2:Hid _:=fun e=>N4.out (w.heap.size+1+1) aO (List.mem_append_left S e)
  go_wp2)
 all_goals exact bodyPost_ret (v:=.agg (uX 3 sk ar kk (q.done+n) 0)) zq18 rfl ⟨rfl,by(focus(repeat first|with_reducible exact HM1.out.q|with_reducible refine QW.oth ?_ N1.out _ _|with_reducible refine QW.oth ?_ N2.out _ _|with_reducible refine QW.al ?_ _ )),HPK.out w1 _ [w.heap.size+1,w.heap.size+1+1] HM1.out.p (fun x hx=>by simp at hx;omega) (by(focus(repeat first|with_reducible exact zI.refl _ _|with_reducible refine zI.set ?_ aS _ _|with_reducible refine zI.alloc ?_ _))),zq59⟩
end Go.Proofs.YthcpipfmicbnmaaGreat.Ho
