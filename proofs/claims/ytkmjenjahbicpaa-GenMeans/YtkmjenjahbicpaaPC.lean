import Derived.Test.YtkmjenjahbicpaaPB
set_option linter.unusedVariables false
set_option linter.unusedSimpArgs false
set_option maxHeartbeats 4000000
namespace Go.Proofs.Ytkmjenjahbicpaa
open Go.RowKit
set_option maxRecDepth 100000
structure FT(w wr:World)(r:RU)(o:zL):Prop where
 fw:FW w wr r o
 b5:wr.heap[w.heap.size+2]?=some (.cells #[.int .i64 o.a,.int .i64 o.b,.int .i64 o.c] 116)
theorem FT.next{w wr w':World}{r:RU}{o:zL}(h:FT w wr r o)(k:Below wr.heap.size wr w'):FT w w' r o:=
 ⟨h.fw.next k,(k.block _ (zE h.b5)).trans h.b5⟩
theorem FT.start(w:World)(r:RU)(o:zL):FT w (((w.alloc (.cells #[.int .u8 r.lo,.int .u8 r.hi,.int .u8 r.takes,.int .u8 r.has,.bool r.gives,.bool r.leaves,.bool r.ends] 111)).alloc (.cells #[.int .i64 o.kind,.int .i64 o.w,.int .i64 o.a,.int .i64 o.b,.int .i64 o.c,.int .u32 o.k,.int .i64 o.n] 52)).alloc (.cells #[.int .i64 o.a,.int .i64 o.b,.int .i64 o.c] 116)) r o:=
 ⟨(FW.start w r o).alloc _,(al3 w _ _ _).2.2⟩
theorem zOt(lo hi has:Int)(gives leaves ends:Bool)(x:FL)(o:zL)(bp:Option Addr)(i cap:Nat)(f:Nat→zL)(w:World)(hm:zEW ⟨lo,hi,0,has,gives,leaves,ends⟩ x)(hi':i≤2048)(hO:vN w bp i f) :
  Calls Try.prog 69 #[.agg #[.int .u8 lo,.int .u8 hi,.int .u8 0,.int .u8 has,.bool gives,.bool leaves,.bool ends],.agg #[.int .i64 o.kind,.int .i64 o.w,.int .i64 o.a,.int .i64 o.b,.int .i64 o.c,.int .u32 o.k,.int .i64 o.n],.slice bp i cap] w
   fun e w'=>e=.returned (.bool (!(zK x o f i)))∧Below w.heap.size w w':=by
 have X0:Hid (x.ha=false):=by show _=_;rw[← hm.a];rfl
 have X1:Hid (x.hb=false):=by show _=_;rw[← hm.b];rfl
 have X2:Hid (x.hc=false):=by show _=_;rw[← hm.c];rfl
 have HO:Hid _:=hO
 have i0:(0:Int)≤(i:Int):=aO
 have i1:(i:Int)≤2048:=aO
 clear hm hO hi'
 go_enter Try.func69,Try.ntmps69
 go_upto_region 2 with fail
 have HW:Hid (FT w _ ⟨lo,hi,0,has,gives,leaves,ends⟩ o):=FT.start w ⟨lo,hi,0,has,gives,leaves,ends⟩ o
 go_wp2
 go_loopw [21] (fun i' wr=>∃ j:Nat,i'=.int .i64 j∧j≤0∧(∀ p,p < j→tk x o f i p=false)∧FT w wr ⟨lo,hi,0,has,gives,leaves,ends⟩ o) (fun i _=>0 - (intOf i).toNat)
 case atStart=>exact⟨0,rfl,by omega,fun p hp=>absurd hp (Nat.not_lt_zero p),HW.out⟩
 case round=>
  obtain⟨j,rfl,hj,hall,hW⟩:=hrel
  have HA:Hid _:=hall
  have HWr:Hid _:=hW
  have l3:=zE hW.fw.b3
  have l4:=zE hW.fw.b4
  have l5:=zE hW.b5
  have l3':=Nat.lt_succ_of_lt l3
  have c0:wr.cell? ⟨w.heap.size+2,0,none⟩=some (.int .i64 o.a):=zA hW.b5 0
  have c1:wr.cell? ⟨w.heap.size+2,1,none⟩=some (.int .i64 o.b):=zA hW.b5 1
  have c2:wr.cell? ⟨w.heap.size+2,2,none⟩=some (.int .i64 o.c):=zA hW.b5 2
  clear hall hW HW
  rcases(by omega:j=0) with rfl
  ·have FB:Hid (zK x o f i=false):=by show _=_;unfold zK;rw[show tk x o f i 0=false by show(x.ha && _)=false;rw[X0.out];rfl,show tk x o f i 1=false by show(x.hb && _)=false;rw[X1.out];rfl,show tk x o f i 2=false by show(x.hc && _)=false;rw[X2.out];rfl];rfl
   go_wp2
   go_ret
   exact⟨by rw[FB.out];rfl,HWr.out.fw.bel⟩
theorem zOu(lo hi has:Int)(gives leaves ends:Bool)(x:FL)(o:zL)(bp:Option Addr)(i cap:Nat)(f:Nat→zL)(w:World)(hm:zEW ⟨lo,hi,1,has,gives,leaves,ends⟩ x)(hi':i≤2048)(hO:vN w bp i f) :
  Calls Try.prog 69 #[.agg #[.int .u8 lo,.int .u8 hi,.int .u8 1,.int .u8 has,.bool gives,.bool leaves,.bool ends],.agg #[.int .i64 o.kind,.int .i64 o.w,.int .i64 o.a,.int .i64 o.b,.int .i64 o.c,.int .u32 o.k,.int .i64 o.n],.slice bp i cap] w
   fun e w'=>e=.returned (.bool (!(zK x o f i)))∧Below w.heap.size w w':=by
 have X0:Hid (x.ha=true):=by show _=_;rw[← hm.a];rfl
 have X1:Hid (x.hb=false):=by show _=_;rw[← hm.b];rfl
 have X2:Hid (x.hc=false):=by show _=_;rw[← hm.c];rfl
 have HO:Hid _:=hO
 have i0:(0:Int)≤(i:Int):=aO
 have i1:(i:Int)≤2048:=aO
 clear hm hO hi'
 go_enter Try.func69,Try.ntmps69
 go_upto_region 2 with fail
 have HW:Hid (FT w _ ⟨lo,hi,1,has,gives,leaves,ends⟩ o):=FT.start w ⟨lo,hi,1,has,gives,leaves,ends⟩ o
 go_wp2
 go_loopw [21] (fun i' wr=>∃ j:Nat,i'=.int .i64 j∧j≤1∧(∀ p,p < j→tk x o f i p=false)∧FT w wr ⟨lo,hi,1,has,gives,leaves,ends⟩ o) (fun i _=>1 - (intOf i).toNat)
 case atStart=>exact⟨0,rfl,by omega,fun p hp=>absurd hp (Nat.not_lt_zero p),HW.out⟩
 case round=>
  obtain⟨j,rfl,hj,hall,hW⟩:=hrel
  have HA:Hid _:=hall
  have HWr:Hid _:=hW
  have l3:=zE hW.fw.b3
  have l4:=zE hW.fw.b4
  have l5:=zE hW.b5
  have l3':=Nat.lt_succ_of_lt l3
  have c0:wr.cell? ⟨w.heap.size+2,0,none⟩=some (.int .i64 o.a):=zA hW.b5 0
  have c1:wr.cell? ⟨w.heap.size+2,1,none⟩=some (.int .i64 o.b):=zA hW.b5 1
  have c2:wr.cell? ⟨w.heap.size+2,2,none⟩=some (.int .i64 o.c):=zA hW.b5 2
  clear hall hW HW
  rcases(by omega:j=0∨j=1) with rfl|rfl
  ·by_cases hin:0≤o.a∧o.a < i
   ·obtain⟨q0,q1⟩:=hin
    have hin:0≤o.a∧o.a < i:=⟨q0,q1⟩
    have d1:decide (0≤o.a∧o.a≤(i:Int) - 1)=true:=aT
    have hqi:o.a.toNat < i:=aO
    obtain⟨b,off,rfl,hb,hc⟩:=HO.out aO
    have hk:wr.cell? ⟨b,off+o.a.toNat*7,none⟩=some (.int .i64 (f o.a.toNat).kind):=((hc o.a.toNat hqi).below HWr.out.fw.bel hb).c0
    obtain⟨g,hg⟩:∃ g,(rr (f o.a.toNat).kind).gives=g:=⟨_,rfl⟩
    have HGV:Hid (gvn f i o.a=g):=by show _=_;unfold gvn;rw[decide_eq_true hin,← hg];rfl
    have HD:Hid _:=d1
    have HG:Hid _:=hg
    have lb:b < wr.heap.size:=by have:=HWr.out.fw.bel.size;omega
    have lb':=Nat.lt_succ_of_lt lb
    have ne:b≠wr.heap.size:=aO
    clear hin hc hb d1 hg hqi
    cases g with
    | true=>
     go_wp2_with (first
      | (go_at_call 43;refine(zY o.a ((i:Int) - 1) _).mono ?_;rintro e w1 ⟨rfl,rfl⟩;rw[HD.out])
      | (go_at_call 87;refine(vU (f o.a.toNat).kind _).mono ?_;rintro e w1 ⟨rfl,h1⟩;rw[HG.out]))
     go_round
     case rel=>exact⟨1,by go_num,by omega,fun p hp=>by
       rcases Nat.lt_succ_iff_lt_or_eq.1 hp with h|rfl
       ·exact HA.out p h
       ·show(x.ha && !(gvn f i o.a))=false;rw[HGV.out];simp,HWr.out.next h1⟩
     case measure=>simp[intOf]
    | false=>
     have FB:Hid (zK x o f i=true):=by show _=_;unfold zK;rw[show tk x o f i 0=true by show(x.ha && !(gvn f i o.a))=true;rw[X0.out,HGV.out];rfl];simp
     go_wp2_with (first
      | (go_at_call 43;refine(zY o.a ((i:Int) - 1) _).mono ?_;rintro e w1 ⟨rfl,rfl⟩;rw[HD.out])
      | (go_at_call 87;refine(vU (f o.a.toNat).kind _).mono ?_;rintro e w1 ⟨rfl,h1⟩;rw[HG.out]))
     go_ret
     exact⟨by rw[FB.out];rfl,(HWr.out.next h1).fw.bel⟩
   ·have d1:decide (0≤o.a∧o.a≤(i:Int) - 1)=false:=aF
    have HGV:Hid (gvn f i o.a=false):=by show _=_;unfold gvn;rw[decide_eq_false hin];rfl
    have FB:Hid (zK x o f i=true):=by show _=_;unfold zK;rw[show tk x o f i 0=true by show(x.ha && !(gvn f i o.a))=true;rw[X0.out,HGV.out];rfl];simp
    have HD:Hid _:=d1
    clear hin d1
    go_wp2_with (go_at_call 43;refine(zY o.a ((i:Int) - 1) _).mono ?_;rintro e w1 ⟨rfl,rfl⟩;rw[HD.out])
    go_ret
    exact⟨by rw[FB.out];rfl,HWr.out.fw.bel⟩
  ·have FB:Hid (zK x o f i=false):=by show _=_;unfold zK;rw[HA.out 0 aO,show tk x o f i 1=false by show(x.hb && _)=false;rw[X1.out];rfl,show tk x o f i 2=false by show(x.hc && _)=false;rw[X2.out];rfl];rfl
   go_wp2
   go_ret
   exact⟨by rw[FB.out];rfl,HWr.out.fw.bel⟩
theorem zOv(lo hi has:Int)(gives leaves ends:Bool)(x:FL)(o:zL)(bp:Option Addr)(i cap:Nat)(f:Nat→zL)(w:World)(hm:zEW ⟨lo,hi,2,has,gives,leaves,ends⟩ x)(hi':i≤2048)(hO:vN w bp i f) :
  Calls Try.prog 69 #[.agg #[.int .u8 lo,.int .u8 hi,.int .u8 2,.int .u8 has,.bool gives,.bool leaves,.bool ends],.agg #[.int .i64 o.kind,.int .i64 o.w,.int .i64 o.a,.int .i64 o.b,.int .i64 o.c,.int .u32 o.k,.int .i64 o.n],.slice bp i cap] w
   fun e w'=>e=.returned (.bool (!(zK x o f i)))∧Below w.heap.size w w':=by
 have X0:Hid (x.ha=true):=by show _=_;rw[← hm.a];rfl
 have X1:Hid (x.hb=true):=by show _=_;rw[← hm.b];rfl
 have X2:Hid (x.hc=false):=by show _=_;rw[← hm.c];rfl
 have HO:Hid _:=hO
 have i0:(0:Int)≤(i:Int):=aO
 have i1:(i:Int)≤2048:=aO
 clear hm hO hi'
 go_enter Try.func69,Try.ntmps69
 go_upto_region 2 with fail
 have HW:Hid (FT w _ ⟨lo,hi,2,has,gives,leaves,ends⟩ o):=FT.start w ⟨lo,hi,2,has,gives,leaves,ends⟩ o
 go_wp2
 go_loopw [21] (fun i' wr=>∃ j:Nat,i'=.int .i64 j∧j≤2∧(∀ p,p < j→tk x o f i p=false)∧FT w wr ⟨lo,hi,2,has,gives,leaves,ends⟩ o) (fun i _=>2 - (intOf i).toNat)
 case atStart=>exact⟨0,rfl,by omega,fun p hp=>absurd hp (Nat.not_lt_zero p),HW.out⟩
 case round=>
  obtain⟨j,rfl,hj,hall,hW⟩:=hrel
  have HA:Hid _:=hall
  have HWr:Hid _:=hW
  have l3:=zE hW.fw.b3
  have l4:=zE hW.fw.b4
  have l5:=zE hW.b5
  have l3':=Nat.lt_succ_of_lt l3
  have c0:wr.cell? ⟨w.heap.size+2,0,none⟩=some (.int .i64 o.a):=zA hW.b5 0
  have c1:wr.cell? ⟨w.heap.size+2,1,none⟩=some (.int .i64 o.b):=zA hW.b5 1
  have c2:wr.cell? ⟨w.heap.size+2,2,none⟩=some (.int .i64 o.c):=zA hW.b5 2
  clear hall hW HW
  rcases(by omega:j=0∨j=1∨j=2) with rfl|rfl|rfl
  ·by_cases hin:0≤o.a∧o.a < i
   ·obtain⟨q0,q1⟩:=hin
    have hin:0≤o.a∧o.a < i:=⟨q0,q1⟩
    have d1:decide (0≤o.a∧o.a≤(i:Int) - 1)=true:=aT
    have hqi:o.a.toNat < i:=aO
    obtain⟨b,off,rfl,hb,hc⟩:=HO.out aO
    have hk:wr.cell? ⟨b,off+o.a.toNat*7,none⟩=some (.int .i64 (f o.a.toNat).kind):=((hc o.a.toNat hqi).below HWr.out.fw.bel hb).c0
    obtain⟨g,hg⟩:∃ g,(rr (f o.a.toNat).kind).gives=g:=⟨_,rfl⟩
    have HGV:Hid (gvn f i o.a=g):=by show _=_;unfold gvn;rw[decide_eq_true hin,← hg];rfl
    have HD:Hid _:=d1
    have HG:Hid _:=hg
    have lb:b < wr.heap.size:=by have:=HWr.out.fw.bel.size;omega
    have lb':=Nat.lt_succ_of_lt lb
    have ne:b≠wr.heap.size:=aO
    clear hin hc hb d1 hg hqi
    cases g with
    | true=>
     go_wp2_with (first
      | (go_at_call 43;refine(zY o.a ((i:Int) - 1) _).mono ?_;rintro e w1 ⟨rfl,rfl⟩;rw[HD.out])
      | (go_at_call 87;refine(vU (f o.a.toNat).kind _).mono ?_;rintro e w1 ⟨rfl,h1⟩;rw[HG.out]))
     go_round
     case rel=>exact⟨1,by go_num,by omega,fun p hp=>by
       rcases Nat.lt_succ_iff_lt_or_eq.1 hp with h|rfl
       ·exact HA.out p h
       ·show(x.ha && !(gvn f i o.a))=false;rw[HGV.out];simp,HWr.out.next h1⟩
     case measure=>simp[intOf]
    | false=>
     have FB:Hid (zK x o f i=true):=by show _=_;unfold zK;rw[show tk x o f i 0=true by show(x.ha && !(gvn f i o.a))=true;rw[X0.out,HGV.out];rfl];simp
     go_wp2_with (first
      | (go_at_call 43;refine(zY o.a ((i:Int) - 1) _).mono ?_;rintro e w1 ⟨rfl,rfl⟩;rw[HD.out])
      | (go_at_call 87;refine(vU (f o.a.toNat).kind _).mono ?_;rintro e w1 ⟨rfl,h1⟩;rw[HG.out]))
     go_ret
     exact⟨by rw[FB.out];rfl,(HWr.out.next h1).fw.bel⟩
   ·have d1:decide (0≤o.a∧o.a≤(i:Int) - 1)=false:=aF
    have HGV:Hid (gvn f i o.a=false):=by show _=_;unfold gvn;rw[decide_eq_false hin];rfl
    have FB:Hid (zK x o f i=true):=by show _=_;unfold zK;rw[show tk x o f i 0=true by show(x.ha && !(gvn f i o.a))=true;rw[X0.out,HGV.out];rfl];simp
    have HD:Hid _:=d1
    clear hin d1
    go_wp2_with (go_at_call 43;refine(zY o.a ((i:Int) - 1) _).mono ?_;rintro e w1 ⟨rfl,rfl⟩;rw[HD.out])
    go_ret
    exact⟨by rw[FB.out];rfl,HWr.out.fw.bel⟩
  ·by_cases hin:0≤o.b∧o.b < i
   ·obtain⟨q0,q1⟩:=hin
    have hin:0≤o.b∧o.b < i:=⟨q0,q1⟩
    have d1:decide (0≤o.b∧o.b≤(i:Int) - 1)=true:=aT
    have hqi:o.b.toNat < i:=aO
    obtain⟨b,off,rfl,hb,hc⟩:=HO.out aO
    have hk:wr.cell? ⟨b,off+o.b.toNat*7,none⟩=some (.int .i64 (f o.b.toNat).kind):=((hc o.b.toNat hqi).below HWr.out.fw.bel hb).c0
    obtain⟨g,hg⟩:∃ g,(rr (f o.b.toNat).kind).gives=g:=⟨_,rfl⟩
    have HGV:Hid (gvn f i o.b=g):=by show _=_;unfold gvn;rw[decide_eq_true hin,← hg];rfl
    have HD:Hid _:=d1
    have HG:Hid _:=hg
    have lb:b < wr.heap.size:=by have:=HWr.out.fw.bel.size;omega
    have lb':=Nat.lt_succ_of_lt lb
    have ne:b≠wr.heap.size:=aO
    clear hin hc hb d1 hg hqi
    cases g with
    | true=>
     go_wp2_with (first
      | (go_at_call 43;refine(zY o.b ((i:Int) - 1) _).mono ?_;rintro e w1 ⟨rfl,rfl⟩;rw[HD.out])
      | (go_at_call 87;refine(vU (f o.b.toNat).kind _).mono ?_;rintro e w1 ⟨rfl,h1⟩;rw[HG.out]))
     go_round
     case rel=>exact⟨2,by go_num,by omega,fun p hp=>by
       rcases Nat.lt_succ_iff_lt_or_eq.1 hp with h|rfl
       ·exact HA.out p h
       ·show(x.hb && !(gvn f i o.b))=false;rw[HGV.out];simp,HWr.out.next h1⟩
     case measure=>simp[intOf]
    | false=>
     have FB:Hid (zK x o f i=true):=by show _=_;unfold zK;rw[show tk x o f i 1=true by show(x.hb && !(gvn f i o.b))=true;rw[X1.out,HGV.out];rfl];simp
     go_wp2_with (first
      | (go_at_call 43;refine(zY o.b ((i:Int) - 1) _).mono ?_;rintro e w1 ⟨rfl,rfl⟩;rw[HD.out])
      | (go_at_call 87;refine(vU (f o.b.toNat).kind _).mono ?_;rintro e w1 ⟨rfl,h1⟩;rw[HG.out]))
     go_ret
     exact⟨by rw[FB.out];rfl,(HWr.out.next h1).fw.bel⟩
   ·have d1:decide (0≤o.b∧o.b≤(i:Int) - 1)=false:=aF
    have HGV:Hid (gvn f i o.b=false):=by show _=_;unfold gvn;rw[decide_eq_false hin];rfl
    have FB:Hid (zK x o f i=true):=by show _=_;unfold zK;rw[show tk x o f i 1=true by show(x.hb && !(gvn f i o.b))=true;rw[X1.out,HGV.out];rfl];simp
    have HD:Hid _:=d1
    clear hin d1
    go_wp2_with (go_at_call 43;refine(zY o.b ((i:Int) - 1) _).mono ?_;rintro e w1 ⟨rfl,rfl⟩;rw[HD.out])
    go_ret
    exact⟨by rw[FB.out];rfl,HWr.out.fw.bel⟩
  ·have FB:Hid (zK x o f i=false):=by show _=_;unfold zK;rw[HA.out 0 aO,HA.out 1 aO,show tk x o f i 2=false by show(x.hc && _)=false;rw[X2.out];rfl];rfl
   go_wp2
   go_ret
   exact⟨by rw[FB.out];rfl,HWr.out.fw.bel⟩
theorem zOw(lo hi has:Int)(gives leaves ends:Bool)(x:FL)(o:zL)(bp:Option Addr)(i cap:Nat)(f:Nat→zL)(w:World)(hm:zEW ⟨lo,hi,3,has,gives,leaves,ends⟩ x)(hi':i≤2048)(hO:vN w bp i f) :
  Calls Try.prog 69 #[.agg #[.int .u8 lo,.int .u8 hi,.int .u8 3,.int .u8 has,.bool gives,.bool leaves,.bool ends],.agg #[.int .i64 o.kind,.int .i64 o.w,.int .i64 o.a,.int .i64 o.b,.int .i64 o.c,.int .u32 o.k,.int .i64 o.n],.slice bp i cap] w
   fun e w'=>e=.returned (.bool (!(zK x o f i)))∧Below w.heap.size w w':=by
 have X0:Hid (x.ha=true):=by show _=_;rw[← hm.a];rfl
 have X1:Hid (x.hb=true):=by show _=_;rw[← hm.b];rfl
 have X2:Hid (x.hc=true):=by show _=_;rw[← hm.c];rfl
 have HO:Hid _:=hO
 have i0:(0:Int)≤(i:Int):=aO
 have i1:(i:Int)≤2048:=aO
 clear hm hO hi'
 go_enter Try.func69,Try.ntmps69
 go_upto_region 2 with fail
 have HW:Hid (FT w _ ⟨lo,hi,3,has,gives,leaves,ends⟩ o):=FT.start w ⟨lo,hi,3,has,gives,leaves,ends⟩ o
 go_wp2
 go_loopw [21] (fun i' wr=>∃ j:Nat,i'=.int .i64 j∧j≤3∧(∀ p,p < j→tk x o f i p=false)∧FT w wr ⟨lo,hi,3,has,gives,leaves,ends⟩ o) (fun i _=>3 - (intOf i).toNat)
 case atStart=>exact⟨0,rfl,by omega,fun p hp=>absurd hp (Nat.not_lt_zero p),HW.out⟩
 case round=>
  obtain⟨j,rfl,hj,hall,hW⟩:=hrel
  have HA:Hid _:=hall
  have HWr:Hid _:=hW
  have l3:=zE hW.fw.b3
  have l4:=zE hW.fw.b4
  have l5:=zE hW.b5
  have l3':=Nat.lt_succ_of_lt l3
  have c0:wr.cell? ⟨w.heap.size+2,0,none⟩=some (.int .i64 o.a):=zA hW.b5 0
  have c1:wr.cell? ⟨w.heap.size+2,1,none⟩=some (.int .i64 o.b):=zA hW.b5 1
  have c2:wr.cell? ⟨w.heap.size+2,2,none⟩=some (.int .i64 o.c):=zA hW.b5 2
  clear hall hW HW
  rcases(by omega:j=0∨j=1∨j=2∨j=3) with rfl|rfl|rfl|rfl
  ·by_cases hin:0≤o.a∧o.a < i
   ·obtain⟨q0,q1⟩:=hin
    have hin:0≤o.a∧o.a < i:=⟨q0,q1⟩
    have d1:decide (0≤o.a∧o.a≤(i:Int) - 1)=true:=aT
    have hqi:o.a.toNat < i:=aO
    obtain⟨b,off,rfl,hb,hc⟩:=HO.out aO
    have hk:wr.cell? ⟨b,off+o.a.toNat*7,none⟩=some (.int .i64 (f o.a.toNat).kind):=((hc o.a.toNat hqi).below HWr.out.fw.bel hb).c0
    obtain⟨g,hg⟩:∃ g,(rr (f o.a.toNat).kind).gives=g:=⟨_,rfl⟩
    have HGV:Hid (gvn f i o.a=g):=by show _=_;unfold gvn;rw[decide_eq_true hin,← hg];rfl
    have HD:Hid _:=d1
    have HG:Hid _:=hg
    have lb:b < wr.heap.size:=by have:=HWr.out.fw.bel.size;omega
    have lb':=Nat.lt_succ_of_lt lb
    have ne:b≠wr.heap.size:=aO
    clear hin hc hb d1 hg hqi
    cases g with
    | true=>
     go_wp2_with (first
      | (go_at_call 43;refine(zY o.a ((i:Int) - 1) _).mono ?_;rintro e w1 ⟨rfl,rfl⟩;rw[HD.out])
      | (go_at_call 87;refine(vU (f o.a.toNat).kind _).mono ?_;rintro e w1 ⟨rfl,h1⟩;rw[HG.out]))
     go_round
     case rel=>exact⟨1,by go_num,by omega,fun p hp=>by
       rcases Nat.lt_succ_iff_lt_or_eq.1 hp with h|rfl
       ·exact HA.out p h
       ·show(x.ha && !(gvn f i o.a))=false;rw[HGV.out];simp,HWr.out.next h1⟩
     case measure=>simp[intOf]
    | false=>
     have FB:Hid (zK x o f i=true):=by show _=_;unfold zK;rw[show tk x o f i 0=true by show(x.ha && !(gvn f i o.a))=true;rw[X0.out,HGV.out];rfl];simp
     go_wp2_with (first
      | (go_at_call 43;refine(zY o.a ((i:Int) - 1) _).mono ?_;rintro e w1 ⟨rfl,rfl⟩;rw[HD.out])
      | (go_at_call 87;refine(vU (f o.a.toNat).kind _).mono ?_;rintro e w1 ⟨rfl,h1⟩;rw[HG.out]))
     go_ret
     exact⟨by rw[FB.out];rfl,(HWr.out.next h1).fw.bel⟩
   ·have d1:decide (0≤o.a∧o.a≤(i:Int) - 1)=false:=aF
    have HGV:Hid (gvn f i o.a=false):=by show _=_;unfold gvn;rw[decide_eq_false hin];rfl
    have FB:Hid (zK x o f i=true):=by show _=_;unfold zK;rw[show tk x o f i 0=true by show(x.ha && !(gvn f i o.a))=true;rw[X0.out,HGV.out];rfl];simp
    have HD:Hid _:=d1
    clear hin d1
    go_wp2_with (go_at_call 43;refine(zY o.a ((i:Int) - 1) _).mono ?_;rintro e w1 ⟨rfl,rfl⟩;rw[HD.out])
    go_ret
    exact⟨by rw[FB.out];rfl,HWr.out.fw.bel⟩
  ·by_cases hin:0≤o.b∧o.b < i
   ·obtain⟨q0,q1⟩:=hin
    have hin:0≤o.b∧o.b < i:=⟨q0,q1⟩
    have d1:decide (0≤o.b∧o.b≤(i:Int) - 1)=true:=aT
    have hqi:o.b.toNat < i:=aO
    obtain⟨b,off,rfl,hb,hc⟩:=HO.out aO
    have hk:wr.cell? ⟨b,off+o.b.toNat*7,none⟩=some (.int .i64 (f o.b.toNat).kind):=((hc o.b.toNat hqi).below HWr.out.fw.bel hb).c0
    obtain⟨g,hg⟩:∃ g,(rr (f o.b.toNat).kind).gives=g:=⟨_,rfl⟩
    have HGV:Hid (gvn f i o.b=g):=by show _=_;unfold gvn;rw[decide_eq_true hin,← hg];rfl
    have HD:Hid _:=d1
    have HG:Hid _:=hg
    have lb:b < wr.heap.size:=by have:=HWr.out.fw.bel.size;omega
    have lb':=Nat.lt_succ_of_lt lb
    have ne:b≠wr.heap.size:=aO
    clear hin hc hb d1 hg hqi
    cases g with
    | true=>
     go_wp2_with (first
      | (go_at_call 43;refine(zY o.b ((i:Int) - 1) _).mono ?_;rintro e w1 ⟨rfl,rfl⟩;rw[HD.out])
      | (go_at_call 87;refine(vU (f o.b.toNat).kind _).mono ?_;rintro e w1 ⟨rfl,h1⟩;rw[HG.out]))
     go_round
     case rel=>exact⟨2,by go_num,by omega,fun p hp=>by
       rcases Nat.lt_succ_iff_lt_or_eq.1 hp with h|rfl
       ·exact HA.out p h
       ·show(x.hb && !(gvn f i o.b))=false;rw[HGV.out];simp,HWr.out.next h1⟩
     case measure=>simp[intOf]
    | false=>
     have FB:Hid (zK x o f i=true):=by show _=_;unfold zK;rw[show tk x o f i 1=true by show(x.hb && !(gvn f i o.b))=true;rw[X1.out,HGV.out];rfl];simp
     go_wp2_with (first
      | (go_at_call 43;refine(zY o.b ((i:Int) - 1) _).mono ?_;rintro e w1 ⟨rfl,rfl⟩;rw[HD.out])
      | (go_at_call 87;refine(vU (f o.b.toNat).kind _).mono ?_;rintro e w1 ⟨rfl,h1⟩;rw[HG.out]))
     go_ret
     exact⟨by rw[FB.out];rfl,(HWr.out.next h1).fw.bel⟩
   ·have d1:decide (0≤o.b∧o.b≤(i:Int) - 1)=false:=aF
    have HGV:Hid (gvn f i o.b=false):=by show _=_;unfold gvn;rw[decide_eq_false hin];rfl
    have FB:Hid (zK x o f i=true):=by show _=_;unfold zK;rw[show tk x o f i 1=true by show(x.hb && !(gvn f i o.b))=true;rw[X1.out,HGV.out];rfl];simp
    have HD:Hid _:=d1
    clear hin d1
    go_wp2_with (go_at_call 43;refine(zY o.b ((i:Int) - 1) _).mono ?_;rintro e w1 ⟨rfl,rfl⟩;rw[HD.out])
    go_ret
    exact⟨by rw[FB.out];rfl,HWr.out.fw.bel⟩
  ·by_cases hin:0≤o.c∧o.c < i
   ·obtain⟨q0,q1⟩:=hin
    have hin:0≤o.c∧o.c < i:=⟨q0,q1⟩
    have d1:decide (0≤o.c∧o.c≤(i:Int) - 1)=true:=aT
    have hqi:o.c.toNat < i:=aO
    obtain⟨b,off,rfl,hb,hc⟩:=HO.out aO
    have hk:wr.cell? ⟨b,off+o.c.toNat*7,none⟩=some (.int .i64 (f o.c.toNat).kind):=((hc o.c.toNat hqi).below HWr.out.fw.bel hb).c0
    obtain⟨g,hg⟩:∃ g,(rr (f o.c.toNat).kind).gives=g:=⟨_,rfl⟩
    have HGV:Hid (gvn f i o.c=g):=by show _=_;unfold gvn;rw[decide_eq_true hin,← hg];rfl
    have HD:Hid _:=d1
    have HG:Hid _:=hg
    have lb:b < wr.heap.size:=by have:=HWr.out.fw.bel.size;omega
    have lb':=Nat.lt_succ_of_lt lb
    have ne:b≠wr.heap.size:=aO
    clear hin hc hb d1 hg hqi
    cases g with
    | true=>
     go_wp2_with (first
      | (go_at_call 43;refine(zY o.c ((i:Int) - 1) _).mono ?_;rintro e w1 ⟨rfl,rfl⟩;rw[HD.out])
      | (go_at_call 87;refine(vU (f o.c.toNat).kind _).mono ?_;rintro e w1 ⟨rfl,h1⟩;rw[HG.out]))
     go_round
     case rel=>exact⟨3,by go_num,by omega,fun p hp=>by
       rcases Nat.lt_succ_iff_lt_or_eq.1 hp with h|rfl
       ·exact HA.out p h
       ·show(x.hc && !(gvn f i o.c))=false;rw[HGV.out];simp,HWr.out.next h1⟩
     case measure=>simp[intOf]
    | false=>
     have FB:Hid (zK x o f i=true):=by show _=_;unfold zK;rw[show tk x o f i 2=true by show(x.hc && !(gvn f i o.c))=true;rw[X2.out,HGV.out];rfl];simp
     go_wp2_with (first
      | (go_at_call 43;refine(zY o.c ((i:Int) - 1) _).mono ?_;rintro e w1 ⟨rfl,rfl⟩;rw[HD.out])
      | (go_at_call 87;refine(vU (f o.c.toNat).kind _).mono ?_;rintro e w1 ⟨rfl,h1⟩;rw[HG.out]))
     go_ret
     exact⟨by rw[FB.out];rfl,(HWr.out.next h1).fw.bel⟩
   ·have d1:decide (0≤o.c∧o.c≤(i:Int) - 1)=false:=aF
    have HGV:Hid (gvn f i o.c=false):=by show _=_;unfold gvn;rw[decide_eq_false hin];rfl
    have FB:Hid (zK x o f i=true):=by show _=_;unfold zK;rw[show tk x o f i 2=true by show(x.hc && !(gvn f i o.c))=true;rw[X2.out,HGV.out];rfl];simp
    have HD:Hid _:=d1
    clear hin d1
    go_wp2_with (go_at_call 43;refine(zY o.c ((i:Int) - 1) _).mono ?_;rintro e w1 ⟨rfl,rfl⟩;rw[HD.out])
    go_ret
    exact⟨by rw[FB.out];rfl,HWr.out.fw.bel⟩
  ·have FB:Hid (zK x o f i=false):=by show _=_;unfold zK;rw[HA.out 0 aO,HA.out 1 aO,HA.out 2 aO];rfl
   go_wp2
   go_ret
   exact⟨by rw[FB.out];rfl,HWr.out.fw.bel⟩
theorem zDF(r:RU)(x:FL)(o:zL)(bp:Option Addr)(i cap:Nat)(f:Nat→zL)(w:World)(hm:zEW r x)(hi':i≤2048)(hO:vN w bp i f) :
  Calls Try.prog 69 #[.agg #[.int .u8 r.lo,.int .u8 r.hi,.int .u8 r.takes,.int .u8 r.has,.bool r.gives,.bool r.leaves,.bool r.ends],.agg #[.int .i64 o.kind,.int .i64 o.w,.int .i64 o.a,.int .i64 o.b,.int .i64 o.c,.int .u32 o.k,.int .i64 o.n],.slice bp i cap] w
   fun e w'=>e=.returned (.bool (!(zK x o f i)))∧Below w.heap.size w w':=by
 obtain⟨lo,hi,takes,has,gives,leaves,ends⟩:=r
 have h0:0≤takes:=hm.t0
 have h3:takes≤3:=hm.t3
 rcases(by omega:takes=0∨takes=1∨takes=2∨takes=3) with rfl|rfl|rfl|rfl
 ·exact zOt lo hi has gives leaves ends x o bp i cap f w hm hi' hO
 ·exact zOu lo hi has gives leaves ends x o bp i cap f w hm hi' hO
 ·exact zOv lo hi has gives leaves ends x o bp i cap f w hm hi' hO
 ·exact zOw lo hi has gives leaves ends x o bp i cap f w hm hi' hO
end Go.Proofs.Ytkmjenjahbicpaa
