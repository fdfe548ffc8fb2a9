import Derived.Test.YtfokgedjocnnmaaGreatZQ
import Derived.Laws.IdiomStrings
import Derived.BigRegion
import Derived.Deep.Cut
import Derived.Deep.CutRange
import Derived.Deep.RegionWith
import Derived.Deep.RegionHeld3
import Derived.Laws.BitsAllLaws
set_option linter.unusedVariables false
set_option linter.unusedSimpArgs false
set_option maxHeartbeats 1000000
namespace Go.Proofs.YtfokgedjocnnmaaGreat.Gu
open Go.RowKit
set_option maxRecDepth 100000 in
theorem find_byte(p:Nat)(fit:Nat→Bool)(w:World)
    (hfit:∀ (k:Nat) (w':World),k < 32→Below w.heap.size w w'→Calls Tryz.prog 101 #[rowC k,.pointer (some ⟨p,0,none⟩)] w' fun e w''=>e=.returned (.bool (fit k))∧Below w'.heap.size w' w'') :
    Calls Tryz.prog 100 #[.func (Fn.func 101) #[] #[.pointer (some ⟨p,0,none⟩)]] w
      fun e w'=>e=.returned (.tuple #[rowV (hit fit),.bool (hit fit).isSome])∧Below w.heap.size w w':=by
  have z59:=(zero_of_info info59).1
  go_enter Tryz.func100,Tryz.ntmps100
  go_wp2_with (first|(refine wpList_pureAt 6 33 _ _ _ ⟨#[.func (Fn.func 101) #[] #[.pointer (some ⟨p,0,none⟩)],undef,.pointer (some ⟨w.heap.size,0,none⟩),.bool false,undef,undef,rowC 0,rowC 1,rowC 2,rowC 3,rowC 4,rowC 5,rowC 6,rowC 7,rowC 8,rowC 9,rowC 10,rowC 11,rowC 12,rowC 13,rowC 14,rowC 15,rowC 16,rowC 17,rowC 18,rowC 19,rowC 20,rowC 21,rowC 22,rowC 23,rowC 24,rowC 25,rowC 26,rowC 27,rowC 28,rowC 29,rowC 30,rowC 31,.agg tabCells,undef,undef,undef,undef,undef,undef,undef,undef,undef,undef,undef,undef,undef],[]⟩ rfl (by kernel_rfl) ?_;simp only[List.drop_succ_cons,List.drop_zero])|(refine wpList_alloc_as rfl 159 rfl _ z59 (w.heap.size+1) (by simp) ?_)|(refine wpList_store_row rfl 159 _ _ rfl (w.heap.size+1) tabCells (by rfl) (by rfl) 159 tabZero (by exact heap_alloc2_new w _ _) (zero_of_info info59).2 (by rfl) (by kernel_rfl) ?_;rw[show w.heap.size+1=(w.alloc (.cells #[.int .u8 0,.int .u8 0,.int .u8 0,.int .u8 0,.int .u8 0,.int .u8 0] 117)).heap.size from by simp,World.setRow_alloc_new];simp only[World.size_alloc]))
  clear z59
  generalize hW1:w.alloc (.cells #[.int .u8 0,.int .u8 0,.int .u8 0,.int .u8 0,.int .u8 0,.int .u8 0] 117)=W1
  have hs1:W1.heap.size=w.heap.size+1:=by rw[← hW1];simp
  have hb1:Below w.heap.size w W1:=by rw[← hW1];exact(Below.refl _ _).alloc (Nat.le_refl _) _
  have hc1:∀ i,W1.cell? ⟨w.heap.size,i,none⟩=#[Value.int .u8 0,.int .u8 0,.int .u8 0,.int .u8 0,.int .u8 0,.int .u8 0][i]?:=by
    intro i;rw[← hW1];exact cell_of_row _ _ i _ 117 (0,0) (heap_alloc_last w _)
  have hf1:∀ i,W1.frozen? ⟨w.heap.size,i,none⟩=false:=by
    intro i;rw[← hW1];exact frozen_of_row _ _ i _ 117 (heap_alloc_last w _)
  clear hW1
  go_loopw [39] (fun i wr=>∃ k:Nat,k≤32∧i=.int .i64 k∧(∀ j,j < k→fit j=false)∧Below (W1.heap.size+1) (W1.alloc (.cells tabCells 159)) wr) (fun i _=>32 - (intOf i).toNat)
  case atStart=>exact⟨0,by omega,rfl,fun j hj=>by omega,Below.refl _ _⟩
  case round=>
    obtain⟨k,hk,rfl,hno,hbel⟩:=hrel
    have hbw:Below w.heap.size w wr:=hb1.trans (((Below.refl _ _).alloc zo _).trans (hbel.mono zo))
    have hsz:w.heap.size+1 < wr.heap.size:=by have:=hbel.size;simp at this;omega
    have hsz0:w.heap.size < wr.heap.size:=zo
    have hrow:∀ j,k*6+j < 192→wr.cell? ⟨w.heap.size+1,k*6+j,none⟩=some (.int .u8 (tg k j)):=fun j hj=>by
      rw[info_cells hbel hs1.symm];exact tab_at _ hj
    have hres:∀ i,wr.cell? ⟨w.heap.size,i,none⟩=#[Value.int .u8 0,.int .u8 0,.int .u8 0,.int .u8 0,.int .u8 0,.int .u8 0][i]?:=fun i=>by
      rw[hbel.cell (p:=⟨w.heap.size,i,none⟩) (by show w.heap.size < _;omega),World.cell?_alloc_past _ _ _ (by show w.heap.size < _;omega),hc1]
    have hfrz:∀ i,wr.frozen? ⟨w.heap.size,i,none⟩=false:=fun i=>by
      rw[hbel.frozen (p:=⟨w.heap.size,i,none⟩) (by show w.heap.size < _;omega),World.frozen?_of_block (w:=W1) (Below.heap_alloc _ _ _ (by show w.heap.size < _;omega)),hf1]
    have r0:=hres 0
    have r1:=hres 1
    have r2:=hres 2
    have r3:=hres 3
    have r4:=hres 4
    have r5:=hres 5
    have z0:=hfrz 0
    have z1:=hfrz 1
    have z2:=hfrz 2
    have z3:=hfrz 3
    have z4:=hfrz 4
    have z5:=hfrz 5
    simp at r0 r1 r2 r3 r4 r5
    by_cases hlt:k < 32
    · have c0:=hrow 0 zo
      have c1:=hrow 1 zo
      have c2:=hrow 2 zo
      have c3:=hrow 3 zo
      have c4:=hrow 4 zo
      have c5:=hrow 5 zo
      simp only[Nat.add_zero] at c0
      clear hrow hres hfrz hc1 hf1
      go_wp2_with (go_at_call 101;refine(hfit k _ hlt hbw).mono ?_;rintro e w2 ⟨rfl,hb2⟩;obtain⟨hc2,hf2⟩:=bcell hb2)
      · have hyes:fit k=true:=by assumption
        refine bodyPost_ret (v:=.tuple #[.agg #[.int .u8 (tg k 0),.int .u8 (tg k 1),.int .u8 (tg k 2),.int .u8 (tg k 3),.int .u8 (tg k 4),.int .u8 (tg k 5)],.bool true]) (by simp[results,Tryz.results100,go_sem,hc2,hsz0,r0,r1,r2,r3,r4,r5]) rfl ⟨by rw[hit_some hlt hyes hno];rfl,?_⟩
        exact((((((hbw.trans (hb2.mono zo)).setCell (by simp) _).setCell (by simp) _).setCell (by simp) _).setCell (by simp) _).setCell (by simp) _).setCell (by simp) _
      · have hnot:fit k=false:=by assumption
        go_roundw
        case rel=>exact⟨k+1,by omega,by go_num,fun j hj=>by rcases Nat.lt_succ_iff_lt_or_eq.1 hj with h|h;exact hno j h;rw[h];exact hnot,hbel.trans (hb2.mono zo)⟩
        case measure=>simp[intOf];omega
    · clear hrow hres hfrz hc1 hf1
      go_wp2
      have hk32:k=32:=zo
      refine bodyPost_ret (v:=.tuple #[.agg #[.int .u8 0,.int .u8 0,.int .u8 0,.int .u8 0,.int .u8 0,.int .u8 0],.bool false]) (by simp[results,Tryz.results100,go_sem,r0,r1,r2,r3,r4,r5]) rfl ⟨by rw[hit_none (fun j hj=>hno j zo)];rfl,?_⟩
      exact(((((hbw.setCell (by simp) _).setCell (by simp) _).setCell (by simp) _).setCell (by simp) _).setCell (by simp) _).setCell (by simp) _
def hitB(x:Int):Option Nat:=hit (fun k=>decide ((x - tg k 1)%256 < tg k 2))
theorem cell_second{w w':World}{o1 o2:Obj}(hb:Below ((w.alloc o1).alloc o2).heap.size ((w.alloc o1).alloc o2) w')(i:Nat):w'.cell? ⟨w.heap.size,i,none⟩=(w.alloc o1).cell? ⟨w.heap.size,i,none⟩:=by
  rw[hb.cell (p:=⟨w.heap.size,i,none⟩) zq12,World.cell?_alloc_past _ _ _ (by simp)]
theorem rowOfByte_any(x:Int)(w:World) :
    Calls Tryz.prog 69 #[.int .u8 x] w fun e w'=>e=.returned (.tuple #[rowV (hitB x),.bool (hitB x).isSome])∧Below w.heap.size w w':=by
  go_enter Tryz.func69,Tryz.ntmps69
  go_wp2_with fail
  go_at_call 100
  refine(find_byte _ (fun k=>decide ((x - tg k 1)%256 < tg k 2)) _ (fun k w' hk hb=>fits_byte _ x _ _ _ _ _ _ w' ?_ ?_)).mono ?_
  · rw[cell_second hb];exact cell_of_row _ _ 0 _ 5 (0,0) (heap_alloc_last w _)
  · have:=hb.size;simp at this;omega
  rintro e w1 ⟨rfl,hb1⟩
  obtain⟨hc,hf⟩:=bcell hb1
  have hz:w.heap.size+2≤w1.heap.size:=by have:=hb1.size;simp at this;omega
  have hz1:w.heap.size+1 < w.heap.size+1+1:=zo
  have hbw:Below w.heap.size w w1:=(((Below.refl _ _).alloc (Nat.le_refl _) _).alloc (by simp) _).trans (hb1.mono zq17)
  simp only[World.size_alloc] at hc hf
  go_wp2
  refine bodyPost_ret (v:=.tuple #[rowV (hitB x),.bool (hitB x).isSome]) (by simp[results,Tryz.results69,go_sem,hc,hz1,hitB]) rfl ⟨rfl,?_⟩
  exact(((((hbw.setCell (by simp) _).setCell (by simp) _).setCell (by simp) _).setCell (by simp) _).setCell (by simp) _).setCell (by simp) _
theorem rg5_bd(x:Int):0≤rg (hitB x) 5∧rg (hitB x) 5≤3:=by
  unfold hitB hit rg
  split
  · rename_i k h
    have hk:=List.mem_of_find?_eq_some h
    exact(by decide +kernel:∀ k:Fin 32,0≤tg k.val 5∧tg k.val 5≤3) ⟨k,by simpa using hk⟩
  · omega
def sizeB(x:Int):Int:=if(hitB x).isSome then sizeN (rg (hitB x) 4) (rg (hitB x) 5) else 0
theorem size10(x:Int)(w:World) :
    Calls Tryz.prog 43 #[.int .u8 x] w fun e w'=>e=.returned (.int .i64 (sizeB x))∧Below w.heap.size w w':=by
  have hbd:=rg5_bd x
  cases hh:(hitB x).isSome
  · have e:sizeB x=0:=by simp[sizeB,hh]
    rw[e]
    clear e
    go_enter Tryz.func43,Tryz.ntmps43
    go_wp2_with (go_at_call 69;refine(rowOfByte_any x _).mono ?_;rintro e w1 ⟨rfl,hb1⟩;rw[hh])
    go_ret
    exact⟨rfl,hb1.alloc hb1.size _⟩
  · have e:sizeB x=sizeN (rg (hitB x) 4) (rg (hitB x) 5):=by simp[sizeB,hh]
    rw[e]
    clear e
    go_enter Tryz.func43,Tryz.ntmps43
    go_wp2_with (first|(go_at_call 69;refine(rowOfByte_any x _).mono ?_;rintro e w1 ⟨rfl,hb1⟩;rw[hh])|(go_at_call 70;refine(size_any _ _ _ _ _ _ _ hbd.1 hbd.2).mono ?_;rintro e w2 ⟨rfl,hb2⟩))
    go_ret
    exact⟨rfl,(hb1.alloc hb1.size _).trans (hb2.mono (by have:=hb1.size;simp;omega))⟩
def formI(k j:Nat):Int:=match formV[k*4+j]? with|some (.int _ n)=>n|_=>0
def formS(k j:Nat):ByteArray:=match formV[k*4+j]? with|some (.string s)=>s|_=>ByteArray.empty
theorem form_ok(k:Nat)(hk:k < 32):formV[k*4+0]?=some (.int .i64 (formI k 0))∧formV[k*4+1]?=some (.int .i64 (formI k 1))∧formV[k*4+2]?=some (.string (formS k 2))∧formV[k*4+3]?=some (.string (formS k 3)):=by
  match k,hk with
  | 0,_=>exact⟨rfl,rfl,rfl,rfl⟩
  | 1,_=>exact⟨rfl,rfl,rfl,rfl⟩
  | 2,_=>exact⟨rfl,rfl,rfl,rfl⟩
  | 3,_=>exact⟨rfl,rfl,rfl,rfl⟩
  | 4,_=>exact⟨rfl,rfl,rfl,rfl⟩
  | 5,_=>exact⟨rfl,rfl,rfl,rfl⟩
  | 6,_=>exact⟨rfl,rfl,rfl,rfl⟩
  | 7,_=>exact⟨rfl,rfl,rfl,rfl⟩
  | 8,_=>exact⟨rfl,rfl,rfl,rfl⟩
  | 9,_=>exact⟨rfl,rfl,rfl,rfl⟩
  | 10,_=>exact⟨rfl,rfl,rfl,rfl⟩
  | 11,_=>exact⟨rfl,rfl,rfl,rfl⟩
  | 12,_=>exact⟨rfl,rfl,rfl,rfl⟩
  | 13,_=>exact⟨rfl,rfl,rfl,rfl⟩
  | 14,_=>exact⟨rfl,rfl,rfl,rfl⟩
  | 15,_=>exact⟨rfl,rfl,rfl,rfl⟩
  | 16,_=>exact⟨rfl,rfl,rfl,rfl⟩
  | 17,_=>exact⟨rfl,rfl,rfl,rfl⟩
  | 18,_=>exact⟨rfl,rfl,rfl,rfl⟩
  | 19,_=>exact⟨rfl,rfl,rfl,rfl⟩
  | 20,_=>exact⟨rfl,rfl,rfl,rfl⟩
  | 21,_=>exact⟨rfl,rfl,rfl,rfl⟩
  | 22,_=>exact⟨rfl,rfl,rfl,rfl⟩
  | 23,_=>exact⟨rfl,rfl,rfl,rfl⟩
  | 24,_=>exact⟨rfl,rfl,rfl,rfl⟩
  | 25,_=>exact⟨rfl,rfl,rfl,rfl⟩
  | 26,_=>exact⟨rfl,rfl,rfl,rfl⟩
  | 27,_=>exact⟨rfl,rfl,rfl,rfl⟩
  | 28,_=>exact⟨rfl,rfl,rfl,rfl⟩
  | 29,_=>exact⟨rfl,rfl,rfl,rfl⟩
  | 30,_=>exact⟨rfl,rfl,rfl,rfl⟩
  | 31,_=>exact⟨rfl,rfl,rfl,rfl⟩
  | n+32,h=>omega
theorem form_bd:∀ k:Fin 32,0≤formI k.val 0∧formI k.val 0≤255∧0≤formI k.val 1∧formI k.val 1≤16:=by decide +kernel
theorem form_at(k j:Nat)(v:Value)(h:formV[k*4+j]?=some v):formCells[k*4+j]?=some v:=by
  simp only[formCells,List.getElem?_toArray];exact h
def fitF(x:Int)(k:Nat):Bool:=decide (formI k 0≤x∧x < formI k 0+formI k 1)
def hitF(x:Int):Option Nat:=hit (fitF x)
def opF(x:Int):Int:=match hitF x with|some k=>k|none=>-1
set_option maxRecDepth 100000 in
theorem refind_any(x:Int)(w:World)(h0:0≤x)(h1:x≤255) :
    Calls Tryz.prog 83 #[.int .i64 x] w fun e w'=>e=.returned (.int .i64 (opF x))∧Below w.heap.size w w':=by
  go_enter Tryz.func83,Tryz.ntmps83
  go_wp2_with (go_at_call 84;refine(forms_any _).mono ?_;rintro e w1 ⟨rfl,rfl⟩)
  go_loopw [7] (fun i wr=>∃ k:Nat,k≤32∧i=.int .i64 k∧(∀ j,j < k→fitF x j=false)∧Below (w.heap.size+1) (w.alloc (.cells formCells 126)) wr) (fun i _=>32 - (intOf i).toNat)
  case atStart=>exact⟨0,by omega,rfl,fun j hj=>by omega,Below.refl _ _⟩
  case round=>
    obtain⟨k,hk,rfl,hno,hbel⟩:=hrel
    have hbw:Below w.heap.size w wr:=((Below.refl _ _).alloc (Nat.le_refl _) _).trans (hbel.mono zo)
    have hsz:w.heap.size < wr.heap.size:=by have:=hbel.size;simp at this;omega
    by_cases hlt:k < 32
    · have hrow:∀ j v,formV[k*4+j]?=some v→wr.cell? ⟨w.heap.size,k*4+j,none⟩=some v:=fun j v hv=>by
        rw[info_cells hbel rfl];exact form_at k j v hv
      obtain⟨e0,e1,e2,e3⟩:=form_ok k hlt
      have c0:=hrow 0 _ e0
      have c1:=hrow 1 _ e1
      have c2:=hrow 2 _ e2
      have c3:=hrow 3 _ e3
      have hbd:=form_bd ⟨k,hlt⟩
      simp only[Nat.add_zero] at c0
      simp only at hbd
      obtain⟨b0,b1,b2,b3⟩:=hbd
      clear hrow e0 e1 e2 e3
      by_cases hge:formI k 0≤x
      · by_cases hl2:x < formI k 0+formI k 1
        · have hyes:fitF x k=true:=by simp[fitF,hge,hl2]
          go_wp2
          go_ret
          exact⟨by simp only[opF,hitF,hit_some hlt hyes hno];rfl,hbw.alloc zo _⟩
        · have hnot:fitF x k=false:=by simp[fitF];omega
          go_wp2
          go_roundw
          case rel=>exact⟨k+1,by omega,by go_num,fun j hj=>by rcases Nat.lt_succ_iff_lt_or_eq.1 hj with h|h;exact hno j h;rw[h];exact hnot,hbel.alloc zo _⟩
          case measure=>simp[intOf];omega
      · have hnot:fitF x k=false:=by simp[fitF];omega
        go_wp2
        go_roundw
        case rel=>exact⟨k+1,by omega,by go_num,fun j hj=>by rcases Nat.lt_succ_iff_lt_or_eq.1 hj with h|h;exact hno j h;rw[h];exact hnot,hbel.alloc zo _⟩
        case measure=>simp[intOf];omega
    · go_wp2
      go_ret
      exact⟨by simp only[opF,hitF,hit_none (fun j hj=>hno j zo)];rfl,hbw⟩
def strL(s:ByteArray):List Int:=s.data.toList.map (fun b=>(b.toNat:Int))
theorem strL_length(s:ByteArray):(strL s).length=s.size:=by simp[strL]
theorem strL_at(s:ByteArray)(j:Nat)(hj:j < s.data.size):(strL s).getD j 0=(s.data[j].toNat:Int):=by
  simp[strL,List.getD_eq_getElem?_getD,Array.getElem?_eq_getElem hj]
theorem wpList_bytes{P:Program}{ops:Array Oper}{rest:List Oper}{o:Oper}{a:Act}{w:World}{Q:Exit→Act→World→Prop}(hg:o.guard=none)(src dst e:TypeId)(x:Operand)(ho:o.op=.convert src dst x)(s:ByteArray)(hx:a.eval x=.string s)
    (hs:P.underlying src=some .string) (hd:P.underlying dst=some (.slice e)) (he:P.underlying e=some (.int .u8)) (H:Nat) (hH:w.heap.size=H)
    (h:∀ cap w',Below w.heap.size w w'→H < w'.heap.size→(∀ j,j < (strL s).length→w'.cell? ⟨H,j,none⟩=some (.int .u8 ((strL s).getD j 0)))→
      wpList P ops Q rest (a.put o.dst (.slice (some ⟨H,0,none⟩) (strL s).length cap)) w'):wpList P ops Q (o :: rest) a w:=by
  subst hH
  refine wpList_plain hg fun _ hK=>?_
  unfold Oper.wp execOp
  simp only[ho,hx,Sem.run_bind,run_bytes_of_string w src dst e s hs hd he,Result.andThen_ok,Sem.run_pure]
  refine hK _ _ ?_
  have:=h (grownCap w s.size 0 e) (w.drew.alloc (.cells (bytesRow s (grownCap w s.size 0 e)) e ((bytesRow s (grownCap w s.size 0 e)).size,(bytesRow s (grownCap w s.size 0 e)).size+1))) ((Below.refl _ _).drew.alloc (Nat.le_refl _) _) (by simp) (fun j hj=>by
    have hj':j < s.data.size:=by simpa[strL] using hj
    rw[strL_at s j hj',← bytesRow_at s (grownCap w s.size 0 e) j hj']
    exact World.cell?_alloc_mark w.drew _ e _ j)
  rw[strL_length] at this
  exact this
def formB(k:Nat):List Int:=strL (formS k 3)
def szL:List Int→Int
  | []=>0
  | c :: l=>(if c=119 then 4 else 1)+szL l
theorem szL_snoc(l:List Int)(c:Int):szL (l++[c])=szL l+(if c=119 then 4 else 1):=by
  induction l with
  | nil=>simp[szL]
  | cons d l ih=>simp only[List.cons_append,szL,ih];omega
theorem szL_bd(l:List Int):0≤szL l∧szL l≤4*l.length:=by
  induction l with
  | nil=>simp[szL]
  | cons d l ih=>simp only[szL,List.length_cons];split<;>omega
theorem take_next(l:List Int)(i:Nat)(h:i < l.length):l.take (i+1)=l.take i++[l.getD i 0]:=by
  rw[List.take_succ_eq_append_getElem h]
  simp[List.getD_eq_getElem?_getD,h]
theorem formB_len:∀ k:Fin 32,(formB k.val).length≤2:=by decide +kernel
theorem hitF_lt{x:Int}{k:Nat}(h:hitF x=some k):k < 32:=by
  have:=List.mem_of_find?_eq_some h
  simpa using this
def sizeF(x:Int):Int:=match hitF x with|some k=>1+szL (formB k)|none=>0
set_option maxRecDepth 100000 in
theorem resize_some(x:Int)(k:Nat)(w:World)(h0:0≤x)(h1:x≤255)(hk:hitF x=some k) :
    Calls Tryz.prog 58 #[.int .i64 x] w fun e w'=>e=.returned (.int .i64 (1+szL (formB k)))∧Below w.heap.size w w':=by
  have hlt:=hitF_lt hk
  have hop:opF x=(k:Int):=by simp[opF,hk]
  have hge:(0:Int)≤(k:Int):=zo
  have hl32:(k:Int) < 32:=zo
  have hneg:decide ((k:Int) < 0)=false:=by simp
  have hlen:=formB_len ⟨k,hlt⟩
  simp only at hlen
  obtain⟨-,-,-,hs⟩:=form_ok k hlt
  clear hk
  go_enter Tryz.func58,Tryz.ntmps58
  go_wp2_with (first|(go_at_call 83;refine(refind_any x _ h0 h1).mono ?_;rintro e w1 ⟨rfl,hb1⟩;rw[hop])|(go_at_call 84;refine(forms_any _).mono ?_;rintro e w2 ⟨rfl,rfl⟩;have c3:(w1.alloc (.cells formCells 126)).cell? ⟨w1.heap.size,k*4+3,none⟩=some (.string (formS k 3)):=(cell_of_row _ _ _ _ 126 (0,0) (heap_alloc_last w1 _)).trans (form_at k 3 _ hs))|(refine wpList_bytes rfl 9 47 5 _ rfl (formS k 3) (by rfl) Tryz.underlying9 Tryz.underlying47 Tryz.underlying5 (w1.heap.size+1) (by simp) ?_;intro cap w3 hb3 hz3 hc3;simp only[World.size_alloc] at hb3;rw[show strL (formS k 3)=formB k from rfl] at hc3 ⊢))
  have hb3':Below w.heap.size w w3:=(hb1.alloc hb1.size _).trans (hb3.mono (by have:=hb1.size;omega))
  clear hop c3 hs hb3
  have HC:Hid (∀ j,j < (formB k).length→w3.cell? ⟨w1.heap.size+1,j,none⟩=some (.int .u8 ((formB k).getD j 0))):=hc3
  clear hc3
  go_loop [4,18] (fun n i=>∃ j:Nat,j≤(formB k).length∧i=.int .i64 j∧n=.int .i64 (1+szL ((formB k).take j))) (fun _ i=>(formB k).length - (intOf i).toNat)
  case atStart=>exact⟨0,by omega,rfl,rfl⟩
  case round=>
    obtain⟨j,hj,rfl,rfl⟩:=hrel
    have hbd:=szL_bd ((formB k).take j)
    have hl2:((formB k).take j).length≤2:=by rw[List.length_take];omega
    by_cases hjl:j < (formB k).length
    · have c:=HC.out j hjl
      have hn:=szL_snoc ((formB k).take j) ((formB k).getD j 0)
      rw[← take_next _ _ hjl] at hn
      have HN:Hid (szL ((formB k).take (j+1))=szL ((formB k).take j)+(if(formB k).getD j 0=119 then 4 else 1)):=hn
      clear hn
      generalize (formB k).getD j 0=y at *
      by_cases hy:y=119
      · subst hy
        go_wp2
        go_round
        case rel=>exact⟨j+1,by omega,by go_num,by rw[HN.out];go_num⟩
        case measure=>simp[intOf];omega
      · have hy':(y==119)=false:=by simpa using hy
        rw[if_neg hy] at HN
        clear hy
        go_wp2
        go_round
        case rel=>exact⟨j+1,by omega,by go_num,by rw[HN.out];go_num⟩
        case measure=>simp[intOf];omega
    · go_wp2
      go_ret
      refine⟨?_,hb3'⟩
      have:(formB k).take j=formB k:=List.take_of_length_le zo
      show Ending.returned (.int .i64 (1+szL ((formB k).take j)))=_
      rw[this]
set_option maxRecDepth 100000 in
theorem resize_any(x:Int)(w:World)(h0:0≤x)(h1:x≤255) :
    Calls Tryz.prog 58 #[.int .i64 x] w fun e w'=>e=.returned (.int .i64 (sizeF x))∧Below w.heap.size w w':=by
  cases hk:hitF x with
  | some k=>
    have e:sizeF x=1+szL (formB k):=by simp[sizeF,hk]
    rw[e];exact resize_some x k w h0 h1 hk
  | none=>
    have e:sizeF x=0:=by simp[sizeF,hk]
    have hop:opF x = -1:=by simp[opF,hk]
    rw[e]
    clear e hk
    go_enter Tryz.func58,Tryz.ntmps58
    go_wp2_with (go_at_call 83;refine(refind_any x _ h0 h1).mono ?_;rintro e w1 ⟨rfl,hb1⟩;rw[hop])
    go_ret
    exact⟨rfl,hb1⟩
structure Only(X:Nat)(w w':World):Prop where
  os:w'.os=w.os
  tape:w'.tape=w.tape
  output:w'.output=w.output
  size:w'.heap.size=w.heap.size
  block:∀ k,k≠X→w'.heap[k]?=w.heap[k]?
theorem Only.refl(X:Nat)(w:World):Only X w w:=⟨rfl,rfl,rfl,rfl,fun _ _=>rfl⟩
theorem Only.drew{X:Nat}{w w':World}(h:Only X w w'):Only X w w'.drew:=⟨h.os,h.tape,h.output,h.size,h.block⟩
theorem Only.setCell{X:Nat}{w w':World}(h:Only X w w')(o:Nat)(v:Value):Only X w (w'.setCell ⟨X,o,none⟩ v):=
  ⟨h.os,h.tape,h.output,by simp[World.setCell];exact h.size,fun k hk=>(Below.heap_setCell _ _ _ _ hk).trans (h.block k hk)⟩
theorem Only.below{X B:Nat}{w w':World}(h:Only X w w')(hB:B≤X):Below B w w':=⟨h.os,h.tape,h.output,by rw[h.size];exact Nat.le_refl _,fun k hk=>h.block k zo⟩
theorem Only.cell{X:Nat}{w w':World}(h:Only X w w'){b o:Nat}(hb:b≠X):w'.cell? ⟨b,o,none⟩=w.cell? ⟨b,o,none⟩:=World.cell?_of_block (w:=w) (h.block b hb)
structure St where
  at':Nat
  D:Int
  S:Int
  O:Int
  imm:Int
def stp(zs:List Int)(st:St)(c:Int):St:=
  let y:=zs.getD st.at' 0
  if c=98 then { st with imm:=y,at':=st.at'+1 }
  else if c=115 then { st with imm:=if 128≤y then y+4294967040 else y,at':=st.at'+1 }
  else if c=119 then { st with imm:=y+zs.getD (st.at'+1) 0*256+zs.getD (st.at'+2) 0*65536+zs.getD (st.at'+3) 0*16777216,at':=st.at'+4 }
  else if c=100 then { st with D:=y,at':=st.at'+1 }
  else if c=101 then { st with S:=y,at':=st.at'+1 }
  else if c=112 then { st with D:=y / 16,S:=y%16,at':=st.at'+1 }
  else if c=99 then { st with O:=y / 16,D:=y%16,at':=st.at'+1 }
  else { st with at':=st.at'+1 }
structure DecR where
  op:Int
  D:Int
  S:Int
  O:Int
  imm:Int
  n:Int
  e:Int
abbrev decV(r:DecR):Value:=.tuple #[.agg #[.int .i64 r.op,.int .i64 r.D,.int .i64 r.S,.int .i64 r.O,.int .u32 r.imm],.int .i64 r.n,.int .i64 r.e]
def decErr(e:Int):DecR:=⟨0,0,0,0,0,0,e⟩
def st0(k:Nat)(y:Int):St:=
  let low:=y - formI k 0
  if formS k 2=⟨#[68]⟩ then⟨1,low,0,0,0⟩ else if formS k 2=⟨#[83]⟩ then⟨1,0,low,0,0⟩ else if formS k 2=⟨#[79]⟩ then⟨1,0,0,low,0⟩ else⟨1,0,0,0,0⟩
def stF(zs:List Int)(k:Nat):St:=(formB k).foldl (stp zs) (st0 k (zs.getD 0 0))
def refDec(zs:List Int)(len:Nat):DecR:=
  if len=0 then decErr 1 else
    match hitF (zs.getD 0 0) with
    | none=>decErr 2
    | some k=>
      if(len:Int) < 1+szL (formB k) then decErr 1
      else if 7 < (stF zs k).D∨7 < (stF zs k).S then decErr 3
      else⟨k,(stF zs k).D,(stF zs k).S,(stF zs k).O,(stF zs k).imm,1+szL (formB k),0⟩
structure Row(w:World)(b off len cap:Nat)(zs:List Int):Prop where
  le:len≤cap
  max:cap≤maxLen
  cell:∀ i,i < len→w.cell? ⟨b,off+i,none⟩=some (.int .u8 (zs.getD i 0))
  bd:∀ i,0≤zs.getD i 0∧zs.getD i 0≤255
  lt:b < w.heap.size
theorem formS2:∀ k:Fin 32,formS k.val 2=⟨#[]⟩∨formS k.val 2=⟨#[68]⟩∨formS k.val 2=⟨#[83]⟩∨formS k.val 2=⟨#[79]⟩:=by decide +kernel
theorem formB_ch:∀ k:Fin 32,∀ c∈formB k.val,c=98∨c=115∨c=119∨c=100∨c=101∨c=112∨c=99:=by decide +kernel
theorem szL_take(l:List Int)(j:Nat):szL (l.take j)≤szL l:=by
  induction l generalizing j with
  | nil=>simp
  | cons c l ih=>
    cases j with
    | zero=>have:=(szL_bd (c :: l)).1;simpa[szL] using this
    | succ j=>have:=ih j;simp only[List.take_succ_cons,szL];omega
theorem stp_at(zs:List Int)(st:St)(c:Int):((stp zs st c).at':Int)=st.at'+(if c=119 then 4 else 1):=by
  unfold stp
  by_cases h1:c=98
  · subst h1;simp
  by_cases h2:c=115
  · subst h2;simp
  by_cases h3:c=119
  · subst h3;simp
  by_cases h4:c=100
  · subst h4;simp
  by_cases h5:c=101
  · subst h5;simp
  by_cases h6:c=112
  · subst h6;simp
  by_cases h7:c=99
  · subst h7;simp
  simp[h1,h2,h3,h4,h5,h6,h7]
theorem fold_at(zs:List Int)(l:List Int)(st:St):((l.foldl (stp zs) st).at':Int)=st.at'+szL l:=by
  induction l generalizing st with
  | nil=>simp[szL]
  | cons c l ih=>rw[List.foldl_cons,ih,stp_at,szL];omega
def stJ(zs:List Int)(k:Nat)(j:Nat):St:=((formB k).take j).foldl (stp zs) (st0 k (zs.getD 0 0))
theorem st0_at(k:Nat)(y:Int):(st0 k y).at'=1:=by
  unfold st0
  split
  · rfl
  split
  · rfl
  split<;>rfl
theorem stJ_at(zs:List Int)(k j:Nat):((stJ zs k j).at':Int)=1+szL ((formB k).take j):=by
  unfold stJ;rw[fold_at,st0_at];simp
theorem stJ_next(zs:List Int)(k j:Nat)(h:j < (formB k).length):stJ zs k (j+1)=stp zs (stJ zs k j) ((formB k).getD j 0):=by
  unfold stJ;rw[take_next _ _ h,List.foldl_append];rfl
theorem stJ_all(zs:List Int)(k j:Nat)(h:(formB k).length≤j):stJ zs k j=stF zs k:=by
  unfold stJ stF;rw[List.take_of_length_le h]
theorem digest{w w1 w2 w4:World}{o0 o1 o2 o3:Obj}(hb1:Below (w.alloc o0).heap.size (w.alloc o0) w1)(hb2:Below w1.heap.size w1 w2)
    (hb4:Below (((w2.alloc o1).alloc o2).alloc o3).drew.heap.size (((w2.alloc o1).alloc o2).alloc o3).drew w4) :
    w4.heap[w2.heap.size+1+1]?=some o3∧w4.heap[w.heap.size]?=some o0∧Below w.heap.size w w4∧w.heap.size < w2.heap.size:=by
  have s1:=hb1.size
  have s2:=hb2.size
  simp only[World.size_alloc] at s1
  have hz:(((w2.alloc o1).alloc o2).alloc o3).drew.heap.size=w2.heap.size+3:=by show(((w2.alloc o1).alloc o2).alloc o3).heap.size=_;simp
  rw[hz] at hb4
  have hW:Below w2.heap.size w2 (((w2.alloc o1).alloc o2).alloc o3).drew:=((((Below.refl _ _).alloc (Nat.le_refl _) _).alloc (by simp) _).alloc zq17 _).drew
  have h2:Below w.heap.size w w2:=(((Below.refl _ _).alloc (Nat.le_refl _) _).trans (hb1.mono (by simp))).trans (hb2.mono zo)
  refine⟨?_,?_,?_,by omega⟩
  · rw[hb4.block _ zo]
    have:=heap_alloc_last ((w2.alloc o1).alloc o2) o3
    simp only[World.size_alloc] at this
    exact this
  · rw[hb4.block _ zo,hW.block _ zo,hb2.block _ zo,hb1.block _ (by simp)]
    exact heap_alloc_last w o0
  · exact h2.trans ((hW.mono zo).trans (hb4.mono zo))
theorem st0_n{k:Nat}(y:Int)(h:formS k 2=⟨#[]⟩):st0 k y=⟨1,0,0,0,0⟩:=by
  unfold st0;rw[if_neg (by rw[h];decide),if_neg (by rw[h];decide),if_neg (by rw[h];decide)]
theorem st0_D{k:Nat}(y:Int)(h:formS k 2=⟨#[68]⟩):st0 k y=⟨1,y - formI k 0,0,0,0⟩:=by
  unfold st0;rw[if_pos h]
theorem st0_S{k:Nat}(y:Int)(h:formS k 2=⟨#[83]⟩):st0 k y=⟨1,0,y - formI k 0,0,0⟩:=by
  unfold st0;rw[if_neg (by rw[h];decide),if_pos h]
theorem st0_O{k:Nat}(y:Int)(h:formS k 2=⟨#[79]⟩):st0 k y=⟨1,0,0,y - formI k 0,0⟩:=by
  unfold st0;rw[if_neg (by rw[h];decide),if_neg (by rw[h];decide),if_pos h]
theorem stp_b(zs:List Int)(a:Nat)(D S O im:Int):stp zs ⟨a,D,S,O,im⟩ 98=⟨a+1,D,S,O,zs.getD a 0⟩:=rfl
theorem stp_s(zs:List Int)(a:Nat)(D S O im:Int):stp zs ⟨a,D,S,O,im⟩ 115=⟨a+1,D,S,O,if 128≤zs.getD a 0 then zs.getD a 0+4294967040 else zs.getD a 0⟩:=rfl
theorem stp_w(zs:List Int)(a:Nat)(D S O im:Int):stp zs ⟨a,D,S,O,im⟩ 119=⟨a+4,D,S,O,zs.getD a 0+zs.getD (a+1) 0*256+zs.getD (a+2) 0*65536+zs.getD (a+3) 0*16777216⟩:=rfl
theorem stp_d(zs:List Int)(a:Nat)(D S O im:Int):stp zs ⟨a,D,S,O,im⟩ 100=⟨a+1,zs.getD a 0,S,O,im⟩:=rfl
theorem stp_e(zs:List Int)(a:Nat)(D S O im:Int):stp zs ⟨a,D,S,O,im⟩ 101=⟨a+1,D,zs.getD a 0,O,im⟩:=rfl
theorem stp_p(zs:List Int)(a:Nat)(D S O im:Int):stp zs ⟨a,D,S,O,im⟩ 112=⟨a+1,zs.getD a 0 / 16,zs.getD a 0%16,O,im⟩:=rfl
theorem stp_c(zs:List Int)(a:Nat)(D S O im:Int):stp zs ⟨a,D,S,O,im⟩ 99=⟨a+1,zs.getD a 0%16,S,zs.getD a 0 / 16,im⟩:=rfl
abbrev insB(op D S O im:Int):Obj:=.cells #[.int .i64 op,.int .i64 D,.int .i64 S,.int .i64 O,.int .u32 im] 58
theorem ins_cells{w:World}{X:Nat}{op D S O im:Int}(h:w.heap[X]?=some (insB op D S O im)) :
    w.cell? ⟨X,0,none⟩=some (.int .i64 op)∧w.cell? ⟨X,1,none⟩=some (.int .i64 D)∧w.cell? ⟨X,2,none⟩=some (.int .i64 S)∧w.cell? ⟨X,3,none⟩=some (.int .i64 O)∧w.cell? ⟨X,4,none⟩=some (.int .u32 im):=
  ⟨cell_of_row _ _ 0 _ _ _ h,cell_of_row _ _ 1 _ _ _ h,cell_of_row _ _ 2 _ _ _ h,cell_of_row _ _ 3 _ _ _ h,cell_of_row _ _ 4 _ _ _ h⟩
theorem ins_frozen{w:World}{X:Nat}{op D S O im:Int}(h:w.heap[X]?=some (insB op D S O im)) :
    w.frozen? ⟨X,0,none⟩=false∧w.frozen? ⟨X,1,none⟩=false∧w.frozen? ⟨X,2,none⟩=false∧w.frozen? ⟨X,3,none⟩=false∧w.frozen? ⟨X,4,none⟩=false:=
  ⟨frozen_of_row _ _ 0 _ _ h,frozen_of_row _ _ 1 _ _ h,frozen_of_row _ _ 2 _ _ h,frozen_of_row _ _ 3 _ _ h,frozen_of_row _ _ 4 _ _ h⟩
theorem ins_set1{w:World}{X:Nat}{op D S O im:Int}(h:w.heap[X]?=some (insB op D S O im))(v:Int):(w.setCell ⟨X,1,none⟩ (.int .i64 v)).heap[X]?=some (insB op v S O im):=heap_setCell_same w X 1 _ 58 _ h
theorem ins_set2{w:World}{X:Nat}{op D S O im:Int}(h:w.heap[X]?=some (insB op D S O im))(v:Int):(w.setCell ⟨X,2,none⟩ (.int .i64 v)).heap[X]?=some (insB op D v O im):=heap_setCell_same w X 2 _ 58 _ h
theorem ins_set3{w:World}{X:Nat}{op D S O im:Int}(h:w.heap[X]?=some (insB op D S O im))(v:Int):(w.setCell ⟨X,3,none⟩ (.int .i64 v)).heap[X]?=some (insB op D S v im):=heap_setCell_same w X 3 _ 58 _ h
theorem ins_set4{w:World}{X:Nat}{op D S O im:Int}(h:w.heap[X]?=some (insB op D S O im))(v:Int):(w.setCell ⟨X,4,none⟩ (.int .u32 v)).heap[X]?=some (insB op D S O v):=heap_setCell_same w X 4 _ 58 _ h
theorem ret_int{k:IntKind}{a b:Int}(h:a=b):Value.int k a=Value.int k b:=by rw[h]
theorem next_any(pb pa b off len cap p:Nat)(y:Int)(w:World)(hb:w.cell? ⟨pb,0,none⟩=some (.slice (some ⟨b,off,none⟩) len cap))(ha:w.cell? ⟨pa,0,none⟩=some (.int .i64 p))(hf:w.frozen? ⟨pa,0,none⟩=false)
    (hp:(p:Int) < len) (hl:(len:Int)≤9223372036854775807) (hy:w.cell? ⟨b,off+p,none⟩=some (.int .u8 y)) (y0:0≤y) (y1:y≤255) :
    Calls Tryz.prog 102 #[.pointer (some ⟨pb,0,none⟩),.pointer (some ⟨pa,0,none⟩)] w fun e w'=>e=.returned (.int .i64 y)∧w.setCell ⟨pa,0,none⟩ (.int .i64 (p+1:Nat))=w':=by
  have hp0:(0:Int)≤p:=zo
  go_enter Tryz.func102,Tryz.ntmps102
  go_wp2
  go_ret
  exact⟨rfl,rfl⟩
def sx(y:Int):Int:=if 128≤y then y+4294967040 else y
theorem read_world{w W:World}{o0 o1 o2 o3 o4:Obj}(h:((((w.alloc o0).alloc o1).alloc o2).alloc o3).alloc o4=W) :
    W.heap[w.heap.size]?=some o0∧W.heap[w.heap.size+1]?=some o1∧W.heap[w.heap.size+1+1]?=some o2∧W.heap[w.heap.size+1+1+1]?=some o3∧W.heap[w.heap.size+1+1+1+1]?=some o4∧Below w.heap.size w W:=by
  subst h
  have e:∀ (v:World) (o:Obj) (k:Nat),k < v.heap.size→(v.alloc o).heap[k]?=v.heap[k]?:=fun v o k hk=>Below.heap_alloc v o k hk
  refine⟨?_,?_,?_,?_,?_,((((((Below.refl _ _).alloc (Nat.le_refl _) _).alloc (by simp) _).alloc zq17 _).alloc zq17 _).alloc zq17 _)⟩
  · rw[e _ _ _ zq12,e _ _ _ zq12,e _ _ _ zq12,e _ _ _ (by simp)];exact heap_alloc_last _ _
  · rw[e _ _ _ zq12,e _ _ _ zq12,e _ _ _ (by simp)];have:=heap_alloc_last (w.alloc o0) o1;simpa using this
  · rw[e _ _ _ zq12,e _ _ _ (by simp)];have:=heap_alloc_last ((w.alloc o0).alloc o1) o2;simpa using this
  · rw[e _ _ _ (by simp)];have:=heap_alloc_last (((w.alloc o0).alloc o1).alloc o2) o3;simpa using this
  · have:=heap_alloc_last ((((w.alloc o0).alloc o1).alloc o2).alloc o3) o4;simpa using this
theorem i8_sx_nat:∀ n:Fin 256,IntKind.i8.wrap ((n.val:Nat):Int)%4294967296=sx ((n.val:Nat):Int):=by decide +kernel
theorem i8_sx(y:Int)(h0:0≤y)(h1:y≤255):IntKind.i8.wrap y%4294967296=sx y:=by
  have:=i8_sx_nat ⟨y.toNat,by omega⟩
  simp only[Int.toNat_of_nonneg h0] at this
  exact this
theorem or_add(a y:Int)(s:Nat)(ha:0≤a)(has:a < 2 ^ s)(hy:0≤y)(hs:y*2 ^ s < 4294967296)(hs2:(2:Int) ^ s≤4294967296):bits .or .u32 a (y*2 ^ s)=a+y*2 ^ s:=by
  have h2:(0:Int) < 2 ^ s:=Int.pow_pos (by decide)
  rw[u32_or a (y*2 ^ s) ha zo (Int.mul_nonneg hy zo) hs]
  obtain⟨m,rfl⟩:=Int.eq_ofNat_of_zero_le ha
  obtain⟨n,rfl⟩:=Int.eq_ofNat_of_zero_le hy
  have e1:((n:Int)*2 ^ s).toNat=2 ^ s*n:=by
    have:(n:Int)*2 ^ s=((n*2 ^ s:Nat):Int):=by simp
    rw[this,Int.toNat_natCast,Nat.mul_comm]
  have hm:m < 2 ^ s:=by
      have:((2 ^ s:Nat):Int)=2 ^ s:=by simp
      omega
  rw[e1,Int.toNat_natCast,Nat.or_comm,← Nat.two_pow_add_eq_or_of_lt hm]
  simp[Int.mul_comm,Int.add_comm]
structure Two(X A:Nat)(w w':World):Prop where
  os:w'.os=w.os
  tape:w'.tape=w.tape
  output:w'.output=w.output
  size:w'.heap.size=w.heap.size
  block:∀ k,k≠X→k≠A→w'.heap[k]?=w.heap[k]?
  frozen:∀ p,w'.frozen? p=w.frozen? p
theorem Two.refl(X A:Nat)(w:World):Two X A w w:=⟨rfl,rfl,rfl,rfl,fun _ _ _=>rfl,fun _=>rfl⟩
theorem Two.drew{X A:Nat}{w w':World}(h:Two X A w w'):Two X A w w'.drew:=⟨h.os,h.tape,h.output,h.size,h.block,h.frozen⟩
theorem Two.setX{X A:Nat}{w w':World}(h:Two X A w w')(o:Nat)(v:Value):Two X A w (w'.setCell ⟨X,o,none⟩ v):=
  ⟨h.os,h.tape,h.output,by simp[World.setCell];exact h.size,fun k hk hk'=>(Below.heap_setCell _ _ _ _ hk).trans (h.block k hk hk'),fun p=>by rw[← h.frozen p];simp⟩
theorem Two.setA{X A:Nat}{w w':World}(h:Two X A w w')(o:Nat)(v:Value):Two X A w (w'.setCell ⟨A,o,none⟩ v):=
  ⟨h.os,h.tape,h.output,by simp[World.setCell];exact h.size,fun k hk hk'=>(Below.heap_setCell _ _ _ _ hk').trans (h.block k hk hk'),fun p=>by rw[← h.frozen p];simp⟩
theorem Two.below{X A B:Nat}{w w':World}(h:Two X A w w')(hX:B≤X)(hA:B≤A):Below B w w':=⟨h.os,h.tape,h.output,by rw[h.size];exact Nat.le_refl _,fun k hk=>h.block k zo zo⟩
theorem Two.cell{X A:Nat}{w w':World}(h:Two X A w w'){b o:Nat}(hX:b≠X)(hA:b≠A):w'.cell? ⟨b,o,none⟩=w.cell? ⟨b,o,none⟩:=World.cell?_of_block (w:=w) (h.block b hX hA)
def four(a b c d:Int):Nat→Int
  | 0=>0
  | 1=>a
  | 2=>a+b*256
  | 3=>a+b*256+c*65536
  | _=>a+b*256+c*65536+d*16777216
theorem four_0{a b c d:Int}(a0:0≤a)(a1:a≤255)(_b0:0≤b)(_b1:b≤255)(_c0:0≤c)(_c1:c≤255)(_d0:0≤d)(_d1:d≤255):bits BinOp.or IntKind.u32 0 a=four a b c d 1:=by
  have:=or_add 0 a 0 zo (by simp) a0 zq17 (by simp)
  simpa[four] using this
theorem four_1{a b c d:Int}(a0:0≤a)(a1:a≤255)(b0:0≤b)(b1:b≤255)(_c0:0≤c)(_c1:c≤255)(_d0:0≤d)(_d1:d≤255):bits BinOp.or IntKind.u32 a (b*256)=four a b c d 2:=by
  have:=or_add a b 8 zo zq17 b0 zq17 (by simp)
  simpa[four] using this
theorem four_2{a b c d:Int}(a0:0≤a)(a1:a≤255)(b0:0≤b)(b1:b≤255)(c0:0≤c)(c1:c≤255)(_d0:0≤d)(_d1:d≤255):bits BinOp.or IntKind.u32 (a+b*256) (c*65536)=four a b c d 3:=by
  have:=or_add (a+b*256) c 16 zo zq17 c0 zq17 (by simp)
  simpa[four] using this
theorem four_3{a b c d:Int}(a0:0≤a)(a1:a≤255)(b0:0≤b)(b1:b≤255)(c0:0≤c)(c1:c≤255)(d0:0≤d)(d1:d≤255):bits BinOp.or IntKind.u32 (a+b*256+c*65536) (d*16777216)=four a b c d 4:=by
  have:=or_add (a+b*256+c*65536) d 24 zo zq17 d0 zq17 (by simp)
  simpa[four] using this
end Go.Proofs.YtfokgedjocnnmaaGreat.Gu
