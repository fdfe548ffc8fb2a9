import Derived.Test.YtkmjenjahbicpaaC1
import Derived.Test.YtkmjenjahbicpaaWEB
import Derived.Test.YtkmjenjahbicpaaVJ07
import Derived.Test.YtkmjenjahbicpaaWJ03
import Derived.Test.YtkmjenjahbicpaaWJ01
import Derived.Laws.Rows
import Derived.Test.YtkmjenjahbicpaaSI
set_option linter.unusedVariables false
set_option linter.unusedSimpArgs false
set_option maxHeartbeats 1000000
namespace Go.Proofs.Ytkmjenjahbicpaa.Va
open Go.RowKit
set_option maxRecDepth 100000
def yM(o:zL)(a b c:Nat):Int:=
 if o.kind=1 then(o.k:Int) else if o.kind=4 then zBv o.w a b else if o.kind=5 then(unF o.w a:Int) else if o.kind=6 then(if a=0 then(c:Int) else(b:Int))
 else if o.kind=7 then Fl.zV o.w a b c else Fl.isF (Fl.zZ o.w a) 1
structure zGU(o:zL):Prop where
 w4:o.kind=4→0≤o.w∧o.w≤15
 w5:o.kind=5→0≤o.w∧o.w≤6
theorem zS0(o:zL)(a b c:Nat)(w:World)(ha:a < 4294967296)(hb:b < 4294967296)(hc:c < 4294967296)(hk:o.kind=1)(hw:zGU o) :
  Calls Try.prog 31 #[.agg #[.int .i64 o.kind,.int .i64 o.w,.int .i64 o.a,.int .i64 o.b,.int .i64 o.c,.int .u32 o.k,.int .i64 o.n],.int .u32 a,.int .u32 b,.int .u32 c] w fun e w'=>e=.returned (.int .u32 (yM o a b c))∧Below w.heap.size w w':=by
 have HF:Hid (yM o a b c=(o.k:Int)):=by show _=_;simp[yM,hk]
 have HW:Hid _:=hw
 have HK:Hid (o.kind=1):=hk
 clear hw
 go_enter Try.func31,Try.ntmps31
 go_wp2
 go_ret
 exact⟨by rw[HF.out];rfl,yS w _⟩
theorem zS1(o:zL)(a b c:Nat)(w:World)(ha:a < 4294967296)(hb:b < 4294967296)(hc:c < 4294967296)(hk:o.kind=4)(hw:zGU o) :
  Calls Try.prog 31 #[.agg #[.int .i64 o.kind,.int .i64 o.w,.int .i64 o.a,.int .i64 o.b,.int .i64 o.c,.int .u32 o.k,.int .i64 o.n],.int .u32 a,.int .u32 b,.int .u32 c] w fun e w'=>e=.returned (.int .u32 (yM o a b c))∧Below w.heap.size w w':=by
 have HF:Hid (yM o a b c=zBv o.w a b):=by show _=_;simp[yM,hk]
 have HW:Hid _:=hw
 have HK:Hid (o.kind=4):=hk
 clear hw
 go_enter Try.func31,Try.ntmps31
 go_wp2_with (go_at_call 58;refine(zMa o.w a b _ ha hb (HW.out.w4 HK.out)).mono ?_;rintro e w1 ⟨rfl,h1⟩)
 go_ret
 exact⟨by rw[HF.out];rfl,(yS w _).trans (h1.mono aS)⟩
theorem zS2(o:zL)(a b c:Nat)(w:World)(ha:a < 4294967296)(hb:b < 4294967296)(hc:c < 4294967296)(hk:o.kind=5)(hw:zGU o) :
  Calls Try.prog 31 #[.agg #[.int .i64 o.kind,.int .i64 o.w,.int .i64 o.a,.int .i64 o.b,.int .i64 o.c,.int .u32 o.k,.int .i64 o.n],.int .u32 a,.int .u32 b,.int .u32 c] w fun e w'=>e=.returned (.int .u32 (yM o a b c))∧Below w.heap.size w w':=by
 have HF:Hid (yM o a b c=(unF o.w a:Int)):=by show _=_;simp[yM,hk]
 have HW:Hid _:=hw
 have HK:Hid (o.kind=5):=hk
 clear hw
 go_enter Try.func31,Try.ntmps31
 go_wp2_with (go_at_call 56;refine(zDd o.w a _ ha (HW.out.w5 HK.out)).mono ?_;rintro e w1 ⟨rfl,rfl⟩)
 go_ret
 exact⟨by rw[HF.out];rfl,yS w _⟩
theorem zS3(o:zL)(a b c:Nat)(w:World)(ha:a < 4294967296)(hb:b < 4294967296)(hc:c < 4294967296)(hk:o.kind=6)(hw:zGU o) :
  Calls Try.prog 31 #[.agg #[.int .i64 o.kind,.int .i64 o.w,.int .i64 o.a,.int .i64 o.b,.int .i64 o.c,.int .u32 o.k,.int .i64 o.n],.int .u32 a,.int .u32 b,.int .u32 c] w fun e w'=>e=.returned (.int .u32 (yM o a b c))∧Below w.heap.size w w':=by
 have HF:Hid (yM o a b c=if a=0 then(c:Int) else(b:Int)):=by show _=_;simp[yM,hk]
 have HW:Hid _:=hw
 have HK:Hid (o.kind=6):=hk
 clear hw
 go_enter Try.func31,Try.ntmps31
 by_cases h:a=0
 ·have d:((a:Int) !=0)=false:=by simp;omega
  go_wp2
  go_ret
  exact⟨by rw[HF.out,if_pos h];rfl,yS w _⟩
 ·have d:((a:Int) !=0)=true:=by simp;omega
  go_wp2
  go_ret
  exact⟨by rw[HF.out,if_neg h];rfl,yS w _⟩
theorem zS4(o:zL)(a b c:Nat)(w:World)(ha:a < 4294967296)(hb:b < 4294967296)(hc:c < 4294967296)(hk:o.kind=7)(hw:zGU o) :
  Calls Try.prog 31 #[.agg #[.int .i64 o.kind,.int .i64 o.w,.int .i64 o.a,.int .i64 o.b,.int .i64 o.c,.int .u32 o.k,.int .i64 o.n],.int .u32 a,.int .u32 b,.int .u32 c] w fun e w'=>e=.returned (.int .u32 (yM o a b c))∧Below w.heap.size w w':=by
 have HF:Hid (yM o a b c=Fl.zV o.w a b c):=by show _=_;simp[yM,hk]
 have HW:Hid _:=hw
 have HK:Hid (o.kind=7):=hk
 clear hw
 go_enter Try.func31,Try.ntmps31
 go_wp2_with (go_at_call 54;refine(Fl.uC o.w a b c _ ha hb hc).mono ?_;rintro e w1 ⟨rfl,rfl⟩)
 go_ret
 exact⟨by rw[HF.out];rfl,yS w _⟩
theorem zS5(o:zL)(a b c:Nat)(w:World)(ha:a < 4294967296)(hb:b < 4294967296)(hc:c < 4294967296)(hk:o.kind=8)(hw:zGU o) :
  Calls Try.prog 31 #[.agg #[.int .i64 o.kind,.int .i64 o.w,.int .i64 o.a,.int .i64 o.b,.int .i64 o.c,.int .u32 o.k,.int .i64 o.n],.int .u32 a,.int .u32 b,.int .u32 c] w fun e w'=>e=.returned (.int .u32 (yM o a b c))∧Below w.heap.size w w':=by
 have HF:Hid (yM o a b c=Fl.isF (Fl.zZ o.w a) 1):=by show _=_;simp[yM,hk]
 have HW:Hid _:=hw
 have HK:Hid (o.kind=8):=hk
 clear hw
 go_enter Try.func31,Try.ntmps31
 go_wp2_with (first
  | (go_at_call 60;refine(Fl.zJt o.w a _ ha).mono ?_;rintro e w1 ⟨rfl,h1⟩)
  | (go_at_call 59;refine(zDb _ _).mono ?_;rintro e w2 ⟨rfl,rfl⟩))
 go_ret
 exact⟨by rw[HF.out];rfl,(yS w _).trans (h1.mono aS)⟩
def zAZ(o:zL)(c:Nat→Nat)(a b d:Nat):Int:=if o.kind=2 then(c o.w.toNat:Int) else if o.kind=17 then cxF c else yM o a b d
def zAX(k:Int):Int:=if k=0 then 1 else if k=1 then 1 else if k=2 then 2 else if k=3 then 2 else 4
def zBL(s:MS)(k:Int)(a:Nat):Nat:=if k=1 then unF 2 (ldX s a (zAX k)).toNat else if k=3 then unF 3 (ldX s a (zAX k)).toNat else(ldX s a (zAX k)).toNat
theorem zBt{w:World}{X:Nat}{A:Array Value}{T:TypeId}(h:w.heap[X]?=some (.cells A T))(o:Nat):w.cell? ⟨X,o,none⟩=A[o]?:=cell_of_row _ _ o _ _ (0,0) h
theorem rfr{w:World}{X:Nat}{A:Array Value}{T:TypeId}(h:w.heap[X]?=some (.cells A T))(o:Nat):w.frozen? ⟨X,o,none⟩=false:=frozen_of_row _ _ o _ _ h
theorem rlt{w:World}{X:Nat}{A:Array Value}{T:TypeId}(h:w.heap[X]?=some (.cells A T)):X < w.heap.size:=by
 rcases Nat.lt_or_ge X w.heap.size with g|g
 ·exact g
 ·rw[Array.getElem?_eq_none g] at h;cases h
theorem zBP(w:World)(o:Obj)(b:Nat)(h:b < w.heap.size):(w.alloc o).heap[b]?=w.heap[b]?:=((Below.refl w.heap.size w).alloc aL o).block b h
theorem zCJ(s:MS)(a:Nat)(n:Int)(hs:s.Ok)(hn:n=1∨n=2∨n=4):∃ v:Nat,ldX s a n=v∧v < 4294967296:=by
 have h:=zG6 s.B a hs.by_ n.toNat
 unfold ldX
 split
 ·refine⟨(ldv s.B a n.toNat).toNat,by omega,?_⟩
  have:(256:Int) ^ n.toNat≤4294967296:=by rcases hn with rfl|rfl|rfl<;>decide
  omega
 ·exact⟨0,rfl,by omega⟩
theorem zTD(k:RB)(a v:Nat)(s:MS)(w:World)(o:Option Nat)(ha:a < 4294967296)(hs:s.Ok)(h:RM w k s)(hx:ldX s a 1=v)(hv:v < 4294967296)(ho:vA s 1 a 1=o) :
  Calls Try.prog 28 #[.pointer (some ⟨k.y,0,none⟩),.int .i64 0,.int .u32 a] w fun e w'=>e=.returned (.tuple #[.int .u32 v,.agg #[.int .i64 (stK 5 o),.int .u32 (stA o)]])∧Below w.heap.size w w':=by
 have HC:Hid (∀ W,Below w.heap.size w W→Calls Try.prog 55 #[.pointer (some ⟨k.y,0,none⟩),.int .u32 a,.int .i64 1] W fun e w'=>e=.returned (.tuple #[.int .u32 v,.agg #[.int .i64 (stK 5 o),.int .u32 (stA o)]])∧Below W.heap.size W w'):=show ∀ W,_ from fun W hW=>by
  have:=zB4 k a 1 s W ha hs (h.below hW aL)
  rw[hx,show vA s 1 a (1:Int).toNat=o from ho] at this
  exact this
 clear hx ho h hs
 generalize stK 5 o=kk at *
 generalize stA o=aa at *
 go_enter Try.func28,Try.ntmps28
 go_wp2_with (first
  | (go_at_call 55;refine(HC.out _ ?_).mono ?_;(focus((repeat first|with_reducible exact Below.refl _ _|with_reducible exact hB|with_reducible refine Below.drew ?_|with_reducible refine Below.alloc ?_ zq8 _|with_reducible refine Below.setCell ?_ zq8 _)));rintro e w1 ⟨rfl,h1⟩;have HB7:Hid (w1.heap[w.heap.size]?=some (.cells #[.int .i64 0,.int .u32 0] 42)):=(h1.block _ zq19).trans ((zBP _ _ _ aS).trans (heap_alloc_last w _));have HBB:Hid (Below w.heap.size w w1):=(Below.trans zq14 (h1.mono zq19));have q0:w1.cell? ⟨w.heap.size,0,none⟩=some (.int .i64 0):=zBt HB7.out 0;have q1:w1.cell? ⟨w.heap.size,1,none⟩=some (.int .u32 0):=zBt HB7.out 1;have fr:=rfr HB7.out;have l7:=rlt HB7.out;have l7b:=Nat.lt_succ_of_lt l7;clear h1))
 all_goals go_region
 all_goals go_wp2
 all_goals exact bodyPost_ret (v:=.tuple #[.int .u32 v,.agg #[.int .i64 kk,.int .u32 aa]]) zq42 rfl ⟨rfl,by
  have hB:=HBB.out
  (repeat first|with_reducible exact Below.refl _ _|with_reducible exact hB|with_reducible refine Below.drew ?_|with_reducible refine Below.alloc ?_ zq8 _|with_reducible refine Below.setCell ?_ zq8 _)⟩
theorem zTE(k:RB)(a v:Nat)(s:MS)(w:World)(o:Option Nat)(ha:a < 4294967296)(hs:s.Ok)(h:RM w k s)(hx:ldX s a 1=v)(hv:v < 4294967296)(ho:vA s 1 a 1=o) :
  Calls Try.prog 28 #[.pointer (some ⟨k.y,0,none⟩),.int .i64 1,.int .u32 a] w fun e w'=>e=.returned (.tuple #[.int .u32 (unF 2 v:Nat),.agg #[.int .i64 (stK 5 o),.int .u32 (stA o)]])∧Below w.heap.size w w':=by
 have HC:Hid (∀ W,Below w.heap.size w W→Calls Try.prog 55 #[.pointer (some ⟨k.y,0,none⟩),.int .u32 a,.int .i64 1] W fun e w'=>e=.returned (.tuple #[.int .u32 v,.agg #[.int .i64 (stK 5 o),.int .u32 (stA o)]])∧Below W.heap.size W w'):=show ∀ W,_ from fun W hW=>by
  have:=zB4 k a 1 s W ha hs (h.below hW aL)
  rw[hx,show vA s 1 a (1:Int).toNat=o from ho] at this
  exact this
 clear hx ho h hs
 generalize stK 5 o=kk at *
 generalize stA o=aa at *
 go_enter Try.func28,Try.ntmps28
 go_wp2_with (first
  | (go_at_call 55;refine(HC.out _ ?_).mono ?_;(focus((repeat first|with_reducible exact Below.refl _ _|with_reducible exact hB|with_reducible refine Below.drew ?_|with_reducible refine Below.alloc ?_ zq8 _|with_reducible refine Below.setCell ?_ zq8 _)));rintro e w1 ⟨rfl,h1⟩;have HB7:Hid (w1.heap[w.heap.size]?=some (.cells #[.int .i64 0,.int .u32 0] 42)):=(h1.block _ zq19).trans ((zBP _ _ _ aS).trans (heap_alloc_last w _));have HBB:Hid (Below w.heap.size w w1):=(Below.trans zq14 (h1.mono zq19));have q0:w1.cell? ⟨w.heap.size,0,none⟩=some (.int .i64 0):=zBt HB7.out 0;have q1:w1.cell? ⟨w.heap.size,1,none⟩=some (.int .u32 0):=zBt HB7.out 1;have fr:=rfr HB7.out;have l7:=rlt HB7.out;have l7b:=Nat.lt_succ_of_lt l7;clear h1)
  | (go_at_call 56;refine(zDd 2 v _ hv aD).mono ?_;rintro e w2 ⟨rfl,rfl⟩))
 all_goals go_region
 all_goals go_wp2
 all_goals exact bodyPost_ret (v:=.tuple #[.int .u32 (unF 2 v:Nat),.agg #[.int .i64 kk,.int .u32 aa]]) zq42 rfl ⟨rfl,by
  have hB:=HBB.out
  (repeat first|with_reducible exact Below.refl _ _|with_reducible exact hB|with_reducible refine Below.drew ?_|with_reducible refine Below.alloc ?_ zq8 _|with_reducible refine Below.setCell ?_ zq8 _)⟩
theorem zTF(k:RB)(a v:Nat)(s:MS)(w:World)(o:Option Nat)(ha:a < 4294967296)(hs:s.Ok)(h:RM w k s)(hx:ldX s a 2=v)(hv:v < 4294967296)(ho:vA s 1 a 2=o) :
  Calls Try.prog 28 #[.pointer (some ⟨k.y,0,none⟩),.int .i64 2,.int .u32 a] w fun e w'=>e=.returned (.tuple #[.int .u32 v,.agg #[.int .i64 (stK 5 o),.int .u32 (stA o)]])∧Below w.heap.size w w':=by
 have HC:Hid (∀ W,Below w.heap.size w W→Calls Try.prog 55 #[.pointer (some ⟨k.y,0,none⟩),.int .u32 a,.int .i64 2] W fun e w'=>e=.returned (.tuple #[.int .u32 v,.agg #[.int .i64 (stK 5 o),.int .u32 (stA o)]])∧Below W.heap.size W w'):=show ∀ W,_ from fun W hW=>by
  have:=zB4 k a 2 s W ha hs (h.below hW aL)
  rw[hx,show vA s 1 a (2:Int).toNat=o from ho] at this
  exact this
 clear hx ho h hs
 generalize stK 5 o=kk at *
 generalize stA o=aa at *
 go_enter Try.func28,Try.ntmps28
 go_wp2_with (first
  | (go_at_call 55;refine(HC.out _ ?_).mono ?_;(focus((repeat first|with_reducible exact Below.refl _ _|with_reducible exact hB|with_reducible refine Below.drew ?_|with_reducible refine Below.alloc ?_ zq8 _|with_reducible refine Below.setCell ?_ zq8 _)));rintro e w1 ⟨rfl,h1⟩;have HB7:Hid (w1.heap[w.heap.size]?=some (.cells #[.int .i64 0,.int .u32 0] 42)):=(h1.block _ zq19).trans ((zBP _ _ _ aS).trans (heap_alloc_last w _));have HBB:Hid (Below w.heap.size w w1):=(Below.trans zq14 (h1.mono zq19));have q0:w1.cell? ⟨w.heap.size,0,none⟩=some (.int .i64 0):=zBt HB7.out 0;have q1:w1.cell? ⟨w.heap.size,1,none⟩=some (.int .u32 0):=zBt HB7.out 1;have fr:=rfr HB7.out;have l7:=rlt HB7.out;have l7b:=Nat.lt_succ_of_lt l7;clear h1))
 all_goals go_region
 all_goals go_wp2
 all_goals exact bodyPost_ret (v:=.tuple #[.int .u32 v,.agg #[.int .i64 kk,.int .u32 aa]]) zq42 rfl ⟨rfl,by
  have hB:=HBB.out
  (repeat first|with_reducible exact Below.refl _ _|with_reducible exact hB|with_reducible refine Below.drew ?_|with_reducible refine Below.alloc ?_ zq8 _|with_reducible refine Below.setCell ?_ zq8 _)⟩
theorem zTG(k:RB)(a v:Nat)(s:MS)(w:World)(o:Option Nat)(ha:a < 4294967296)(hs:s.Ok)(h:RM w k s)(hx:ldX s a 2=v)(hv:v < 4294967296)(ho:vA s 1 a 2=o) :
  Calls Try.prog 28 #[.pointer (some ⟨k.y,0,none⟩),.int .i64 3,.int .u32 a] w fun e w'=>e=.returned (.tuple #[.int .u32 (unF 3 v:Nat),.agg #[.int .i64 (stK 5 o),.int .u32 (stA o)]])∧Below w.heap.size w w':=by
 have HC:Hid (∀ W,Below w.heap.size w W→Calls Try.prog 55 #[.pointer (some ⟨k.y,0,none⟩),.int .u32 a,.int .i64 2] W fun e w'=>e=.returned (.tuple #[.int .u32 v,.agg #[.int .i64 (stK 5 o),.int .u32 (stA o)]])∧Below W.heap.size W w'):=show ∀ W,_ from fun W hW=>by
  have:=zB4 k a 2 s W ha hs (h.below hW aL)
  rw[hx,show vA s 1 a (2:Int).toNat=o from ho] at this
  exact this
 clear hx ho h hs
 generalize stK 5 o=kk at *
 generalize stA o=aa at *
 go_enter Try.func28,Try.ntmps28
 go_wp2_with (first
  | (go_at_call 55;refine(HC.out _ ?_).mono ?_;(focus((repeat first|with_reducible exact Below.refl _ _|with_reducible exact hB|with_reducible refine Below.drew ?_|with_reducible refine Below.alloc ?_ zq8 _|with_reducible refine Below.setCell ?_ zq8 _)));rintro e w1 ⟨rfl,h1⟩;have HB7:Hid (w1.heap[w.heap.size]?=some (.cells #[.int .i64 0,.int .u32 0] 42)):=(h1.block _ zq19).trans ((zBP _ _ _ aS).trans (heap_alloc_last w _));have HBB:Hid (Below w.heap.size w w1):=(Below.trans zq14 (h1.mono zq19));have q0:w1.cell? ⟨w.heap.size,0,none⟩=some (.int .i64 0):=zBt HB7.out 0;have q1:w1.cell? ⟨w.heap.size,1,none⟩=some (.int .u32 0):=zBt HB7.out 1;have fr:=rfr HB7.out;have l7:=rlt HB7.out;have l7b:=Nat.lt_succ_of_lt l7;clear h1)
  | (go_at_call 56;refine(zDd 3 v _ hv aD).mono ?_;rintro e w2 ⟨rfl,rfl⟩))
 all_goals go_region
 all_goals go_wp2
 all_goals exact bodyPost_ret (v:=.tuple #[.int .u32 (unF 3 v:Nat),.agg #[.int .i64 kk,.int .u32 aa]]) zq42 rfl ⟨rfl,by
  have hB:=HBB.out
  (repeat first|with_reducible exact Below.refl _ _|with_reducible exact hB|with_reducible refine Below.drew ?_|with_reducible refine Below.alloc ?_ zq8 _|with_reducible refine Below.setCell ?_ zq8 _)⟩
theorem zTH(k:RB)(a v:Nat)(s:MS)(w:World)(o:Option Nat)(ha:a < 4294967296)(hs:s.Ok)(h:RM w k s)(hx:ldX s a 4=v)(hv:v < 4294967296)(ho:vA s 1 a 4=o) :
  Calls Try.prog 28 #[.pointer (some ⟨k.y,0,none⟩),.int .i64 4,.int .u32 a] w fun e w'=>e=.returned (.tuple #[.int .u32 v,.agg #[.int .i64 (stK 5 o),.int .u32 (stA o)]])∧Below w.heap.size w w':=by
 have HC:Hid (∀ W,Below w.heap.size w W→Calls Try.prog 55 #[.pointer (some ⟨k.y,0,none⟩),.int .u32 a,.int .i64 4] W fun e w'=>e=.returned (.tuple #[.int .u32 v,.agg #[.int .i64 (stK 5 o),.int .u32 (stA o)]])∧Below W.heap.size W w'):=show ∀ W,_ from fun W hW=>by
  have:=zB4 k a 4 s W ha hs (h.below hW aL)
  rw[hx,show vA s 1 a (4:Int).toNat=o from ho] at this
  exact this
 clear hx ho h hs
 generalize stK 5 o=kk at *
 generalize stA o=aa at *
 go_enter Try.func28,Try.ntmps28
 go_wp2_with (first
  | (go_at_call 55;refine(HC.out _ ?_).mono ?_;(focus((repeat first|with_reducible exact Below.refl _ _|with_reducible exact hB|with_reducible refine Below.drew ?_|with_reducible refine Below.alloc ?_ zq8 _|with_reducible refine Below.setCell ?_ zq8 _)));rintro e w1 ⟨rfl,h1⟩;have HB7:Hid (w1.heap[w.heap.size]?=some (.cells #[.int .i64 0,.int .u32 0] 42)):=(h1.block _ zq19).trans ((zBP _ _ _ aS).trans (heap_alloc_last w _));have HBB:Hid (Below w.heap.size w w1):=(Below.trans zq14 (h1.mono zq19));have q0:w1.cell? ⟨w.heap.size,0,none⟩=some (.int .i64 0):=zBt HB7.out 0;have q1:w1.cell? ⟨w.heap.size,1,none⟩=some (.int .u32 0):=zBt HB7.out 1;have fr:=rfr HB7.out;have l7:=rlt HB7.out;have l7b:=Nat.lt_succ_of_lt l7;clear h1))
 all_goals go_region
 all_goals go_wp2
 all_goals exact bodyPost_ret (v:=.tuple #[.int .u32 v,.agg #[.int .i64 kk,.int .u32 aa]]) zq42 rfl ⟨rfl,by
  have hB:=HBB.out
  (repeat first|with_reducible exact Below.refl _ _|with_reducible exact hB|with_reducible refine Below.drew ?_|with_reducible refine Below.alloc ?_ zq8 _|with_reducible refine Below.setCell ?_ zq8 _)⟩
theorem zGm(T:Nat→Bool)(n p:Nat)(h:p < n)(hT:T p=true):cnt (upd T p false) n+1=cnt T n:=by
 induction n with
 | zero=>omega
 | succ n ih=>
  simp only[cnt]
  by_cases e:n=p
  ·subst e;rw[zDN _ _ _ _ aL,upd_same,hT];simp
  ·have:=ih aO;rw[zCR _ _ _ _ e];omega
theorem zIa(T:Nat→Bool)(n p:Nat)(h:p < n)(hT:T p=true):0 < cnt T n:=by
 have:=zGm T n p h hT;omega
def zAi(s:MS):Bool:=decide (0 < cnt s.T 256)
theorem zBC(k:RB)(s:MS)(w:World)(h:RM w k s) :
  Calls Try.prog 30 #[.pointer (some ⟨k.y,0,none⟩)] w fun e w'=>e=.returned (.bool (zAi s))∧w=w':=by
 have d3:=h.c3
 go_enter Try.func30,Try.ntmps30
 go_wp2
 go_loop [10] (fun i=>∃ j:Nat,j≤256∧i=.int .i64 j∧∀ p,p < j→s.T p=false) (fun i=>256 - (intOf i).toNat)
 case atStart=>exact⟨0,by omega,rfl,fun p hp=>by omega⟩
 case round=>
  obtain⟨j,hj,rfl,hf⟩:=hrel
  have HF:Hid (∀ p,p < j→s.T p=false):=hf
  clear hf
  by_cases hlt:j < 256
  ·have c:=h.to j hlt
   have hji:(j:Int) < 256:=aO
   have hj0:(0:Int)≤j:=aO
   cases hT:s.T j
   ·rw[hT] at c
    have HT:Hid (s.T j=false):=hT
    clear hT
    go_wp2
    go_round
    case rel=>exact⟨j+1,by omega,by go_num,fun p hp=>by
     by_cases e:p=j
     ·subst e;exact HT.out
     ·exact HF.out p aO⟩
    case measure=>simp[intOf];omega
   ·rw[hT] at c
    have HE:Hid (zAi s=true):=decide_eq_true (zIa s.T 256 j hlt hT)
    clear hT
    go_wp2
    go_ret
    exact⟨(congrArg (fun b=>Ending.returned (Value.bool b)) HE.out).symm,rfl⟩
  ·have HE:Hid (zAi s=false):=by
    have:j=256:=aO
    subst this
    show zAi s=false
    unfold zAi
    rw[zCy s.T 256 HF.out];rfl
   go_wp2
   go_ret
   exact⟨(congrArg (fun b=>Ending.returned (Value.bool b)) HE.out).symm,rfl⟩
def zBm(c:Nat→Nat)(i x:Nat):Nat→Nat:=fun j=>if j=i then x else c j
theorem zJ.drewC{S:List Nat}{w w':World}(h:zJ S w w'):zJ S w w'.drew:=h.trans (zJ.of_below S ((Below.refl _ w').drew))
theorem zJ.setN{S:List Nat}{w w':World}{B o:Nat}{u:Value}(h:zJ S w w')(hB:w.heap.size≤B):zJ S w (w'.setCell ⟨B,o,none⟩ u):=h.new hB ((zBD.refl B w').setCell o u)
theorem zTI(k:RB)(a v:Nat)(s:MS)(w:World)(o:Option Nat)(ha:a < 4294967296)(hv:v < 4294967296)(hs:s.Ok)(h:RM w k s)(ho:sto s a 1=o) :
  Calls Try.prog 29 #[.pointer (some ⟨k.y,0,none⟩),.int .i64 0,.int .u32 a,.int .u32 v] w fun e w'=>e=.returned (.agg #[.int .i64 (stK 6 o),.int .u32 (stA o)])∧RM w' k (storeT s a 1 v)∧zJ k.all w w':=by
 have HC:Hid (∀ W,Below w.heap.size w W→Calls Try.prog 57 #[.pointer (some ⟨k.y,0,none⟩),.int .u32 a,.int .i64 1,.int .u32 v] W fun e w'=>e=.returned (.agg #[.int .i64 (stK 6 o),.int .u32 (stA o)])∧RM w' k (storeT s a 1 v)∧zJ k.all W w'):=show ∀ W,_ from fun W hW=>by
  have:=zC1 k a v 1 s W ha hv hs (h.below hW aL)
  rw[ho] at this
  exact this
 have HX:Hid (∀ x∈k.y :: k.all,x < w.heap.size):=h.lt
 clear ho h hs
 generalize stK 6 o=kk at *
 generalize stA o=aa at *
 go_enter Try.func29,Try.ntmps29
 go_wp2_with (first
  | (go_at_call 57;refine(HC.out _ ?_).mono ?_;(focus((repeat first|with_reducible exact Below.refl _ _|with_reducible exact hB|with_reducible refine Below.drew ?_|with_reducible refine Below.alloc ?_ zq8 _|with_reducible refine Below.setCell ?_ zq8 _)));rintro e w1 ⟨rfl,hp,hc⟩;have HPM:Hid _:=hp;have hXl:=HX.out;have HB8:Hid (w1.heap[w.heap.size]?=some (.cells #[.int .i64 0,.int .u32 0] 42)):=(hc.block _ zq19 (fun hm=>Nat.lt_irrefl _ (hXl _ (aM _ hm)))).trans ((zBP _ _ _ aS).trans (heap_alloc_last w _));have HCH:Hid _:=hc;have q0:w1.cell? ⟨w.heap.size,0,none⟩=some (.int .i64 0):=zBt HB8.out 0;have q1:w1.cell? ⟨w.heap.size,1,none⟩=some (.int .u32 0):=zBt HB8.out 1;have fr:=rfr HB8.out;have l8:=rlt HB8.out;clear hp hc))
 exact bodyPost_ret (v:=.agg #[.int .i64 kk,.int .u32 aa]) (by simp[results,Try.results29,go_sem,q0,q1,fr,l8]) rfl ⟨rfl,HPM.out.of_blocks fun x hx=>(Below.heap_setCell _ _ _ x (Nat.ne_of_lt (HX.out x hx))).trans (Below.heap_setCell _ _ _ x (Nat.ne_of_lt (HX.out x hx))),zJ.new (zJ.trans (zJ.of_below k.all (((Below.refl w.heap.size w).alloc aL _).alloc aS _)) HCH.out) aL (((zBD.refl _ w1).setCell 0 _).setCell 1 _)⟩
theorem zTJ(k:RB)(a v:Nat)(s:MS)(w:World)(o:Option Nat)(ha:a < 4294967296)(hv:v < 4294967296)(hs:s.Ok)(h:RM w k s)(ho:sto s a 2=o) :
  Calls Try.prog 29 #[.pointer (some ⟨k.y,0,none⟩),.int .i64 1,.int .u32 a,.int .u32 v] w fun e w'=>e=.returned (.agg #[.int .i64 (stK 6 o),.int .u32 (stA o)])∧RM w' k (storeT s a 2 v)∧zJ k.all w w':=by
 have HC:Hid (∀ W,Below w.heap.size w W→Calls Try.prog 57 #[.pointer (some ⟨k.y,0,none⟩),.int .u32 a,.int .i64 2,.int .u32 v] W fun e w'=>e=.returned (.agg #[.int .i64 (stK 6 o),.int .u32 (stA o)])∧RM w' k (storeT s a 2 v)∧zJ k.all W w'):=show ∀ W,_ from fun W hW=>by
  have:=zC1 k a v 2 s W ha hv hs (h.below hW aL)
  rw[ho] at this
  exact this
 have HX:Hid (∀ x∈k.y :: k.all,x < w.heap.size):=h.lt
 clear ho h hs
 generalize stK 6 o=kk at *
 generalize stA o=aa at *
 go_enter Try.func29,Try.ntmps29
 go_wp2_with (first
  | (go_at_call 57;refine(HC.out _ ?_).mono ?_;(focus((repeat first|with_reducible exact Below.refl _ _|with_reducible exact hB|with_reducible refine Below.drew ?_|with_reducible refine Below.alloc ?_ zq8 _|with_reducible refine Below.setCell ?_ zq8 _)));rintro e w1 ⟨rfl,hp,hc⟩;have HPM:Hid _:=hp;have hXl:=HX.out;have HB8:Hid (w1.heap[w.heap.size]?=some (.cells #[.int .i64 0,.int .u32 0] 42)):=(hc.block _ zq19 (fun hm=>Nat.lt_irrefl _ (hXl _ (aM _ hm)))).trans ((zBP _ _ _ aS).trans (heap_alloc_last w _));have HCH:Hid _:=hc;have q0:w1.cell? ⟨w.heap.size,0,none⟩=some (.int .i64 0):=zBt HB8.out 0;have q1:w1.cell? ⟨w.heap.size,1,none⟩=some (.int .u32 0):=zBt HB8.out 1;have fr:=rfr HB8.out;have l8:=rlt HB8.out;clear hp hc))
 exact bodyPost_ret (v:=.agg #[.int .i64 kk,.int .u32 aa]) (by simp[results,Try.results29,go_sem,q0,q1,fr,l8]) rfl ⟨rfl,HPM.out.of_blocks fun x hx=>(Below.heap_setCell _ _ _ x (Nat.ne_of_lt (HX.out x hx))).trans (Below.heap_setCell _ _ _ x (Nat.ne_of_lt (HX.out x hx))),zJ.new (zJ.trans (zJ.of_below k.all (((Below.refl w.heap.size w).alloc aL _).alloc aS _)) HCH.out) aL (((zBD.refl _ w1).setCell 0 _).setCell 1 _)⟩
theorem zTK(k:RB)(a v:Nat)(s:MS)(w:World)(o:Option Nat)(ha:a < 4294967296)(hv:v < 4294967296)(hs:s.Ok)(h:RM w k s)(ho:sto s a 4=o) :
  Calls Try.prog 29 #[.pointer (some ⟨k.y,0,none⟩),.int .i64 2,.int .u32 a,.int .u32 v] w fun e w'=>e=.returned (.agg #[.int .i64 (stK 6 o),.int .u32 (stA o)])∧RM w' k (storeT s a 4 v)∧zJ k.all w w':=by
 have HC:Hid (∀ W,Below w.heap.size w W→Calls Try.prog 57 #[.pointer (some ⟨k.y,0,none⟩),.int .u32 a,.int .i64 4,.int .u32 v] W fun e w'=>e=.returned (.agg #[.int .i64 (stK 6 o),.int .u32 (stA o)])∧RM w' k (storeT s a 4 v)∧zJ k.all W w'):=show ∀ W,_ from fun W hW=>by
  have:=zC1 k a v 4 s W ha hv hs (h.below hW aL)
  rw[ho] at this
  exact this
 have HX:Hid (∀ x∈k.y :: k.all,x < w.heap.size):=h.lt
 clear ho h hs
 generalize stK 6 o=kk at *
 generalize stA o=aa at *
 go_enter Try.func29,Try.ntmps29
 go_wp2_with (first
  | (go_at_call 57;refine(HC.out _ ?_).mono ?_;(focus((repeat first|with_reducible exact Below.refl _ _|with_reducible exact hB|with_reducible refine Below.drew ?_|with_reducible refine Below.alloc ?_ zq8 _|with_reducible refine Below.setCell ?_ zq8 _)));rintro e w1 ⟨rfl,hp,hc⟩;have HPM:Hid _:=hp;have hXl:=HX.out;have HB8:Hid (w1.heap[w.heap.size]?=some (.cells #[.int .i64 0,.int .u32 0] 42)):=(hc.block _ zq19 (fun hm=>Nat.lt_irrefl _ (hXl _ (aM _ hm)))).trans ((zBP _ _ _ aS).trans (heap_alloc_last w _));have HCH:Hid _:=hc;have q0:w1.cell? ⟨w.heap.size,0,none⟩=some (.int .i64 0):=zBt HB8.out 0;have q1:w1.cell? ⟨w.heap.size,1,none⟩=some (.int .u32 0):=zBt HB8.out 1;have fr:=rfr HB8.out;have l8:=rlt HB8.out;clear hp hc))
 exact bodyPost_ret (v:=.agg #[.int .i64 kk,.int .u32 aa]) (by simp[results,Try.results29,go_sem,q0,q1,fr,l8]) rfl ⟨rfl,HPM.out.of_blocks fun x hx=>(Below.heap_setCell _ _ _ x (Nat.ne_of_lt (HX.out x hx))).trans (Below.heap_setCell _ _ _ x (Nat.ne_of_lt (HX.out x hx))),zJ.new (zJ.trans (zJ.of_below k.all (((Below.refl w.heap.size w).alloc aL _).alloc aS _)) HCH.out) aL (((zBD.refl _ w1).setCell 0 _).setCell 1 _)⟩
theorem zH3(a b:Nat)(c:Int):0≤Fl.zFv a b c∧Fl.zFv a b c≤15:=by
 have h1:=Fl.vX (((a:Int)+b+c)%4294967296)
 have h2:=Fl.yZ (decide (4294967296≤(a:Int)+b+c)) 4 aO
 have h3:=Fl.yZ (Fl.zA8 (Fl.sgn a+Fl.sgn b+c)) 8 aO
 unfold Fl.zFv;omega
theorem zIz(a b:Nat)(c:Int):0≤Fl.zFy a b c∧Fl.zFy a b c≤15:=by
 have h1:=Fl.vX (((a:Int) - b - c)%4294967296)
 have h2:=Fl.yZ (decide ((a:Int) - b - c < 0)) 4 aO
 have h3:=Fl.yZ (Fl.zA8 (Fl.sgn a - Fl.sgn b - c)) 8 aO
 unfold Fl.zFy;omega
theorem zN1(a b:Nat):0≤Fl.zGW a b∧Fl.zGW a b≤15:=by
 have h1:=Fl.vX ((a*b%4294967296:Nat):Int)
 have h2:=Fl.yZ (decide (4294967296≤a*b)) 12 aO
 unfold Fl.zGW;omega
theorem zNO(a old:Nat):0≤Fl.zIG a old∧Fl.zIG a old≤15:=by
 have h1:=Fl.vX (((a:Int)+1)%4294967296)
 have h2:=Fl.zBy old
 have h3:=Fl.yZ (Fl.zA8 (Fl.sgn a+1)) 8 aO
 unfold Fl.zIG;omega
theorem zM6(a old:Nat):0≤Fl.zIF a old∧Fl.zIF a old≤15:=by
 have h1:=Fl.vX (((a:Int) - 1)%4294967296)
 have h2:=Fl.zBy old
 have h3:=Fl.yZ (Fl.zA8 (Fl.sgn a - 1)) 8 aO
 unfold Fl.zIF;omega
theorem zOo(a n:Nat):0≤Fl.zGa a n∧Fl.zGa a n≤15:=by
 have h1:=Fl.vX ((a*2 ^ n%4294967296:Nat):Int)
 have h2:=Fl.yZ (a*2 ^ n / 4294967296%2==1) 4 aO
 unfold Fl.zGa;omega
theorem zOp(a n:Nat):0≤Fl.zGb a n∧Fl.zGb a n≤15:=by
 have h1:=Fl.vX ((a:Int) / 2 ^ n)
 have h2:=Fl.yZ ((a:Int) / 2 ^ (n - 1)%2==1) 4 aO
 unfold Fl.zGb;omega
theorem zOn(a n:Nat):0≤Fl.zF9 a n∧Fl.zF9 a n≤15:=by
 have h1:=Fl.vX (Fl.sgn a / 2 ^ (n - 1) / 2%4294967296)
 have h2:=Fl.yZ (Fl.sgn a / 2 ^ (n - 1)%4294967296%2==1) 4 aO
 unfold Fl.zF9;omega
theorem zOk(a n old:Nat):0≤Fl.zF8 a n old∧Fl.zF8 a n old≤15:=by
 have h2:=Fl.yZ (Fl.zB6 n a%2==1) 4 aO
 unfold Fl.zF8 Fl.zAH;omega
theorem zCP(k:Int)(a b old:Nat):0≤Fl.zV k a b old∧Fl.zV k a b old≤15:=by
 unfold Fl.zV
 by_cases h1:k=1
 ·rw[if_pos h1];exact zH3 ..
 rw[if_neg h1]
 by_cases h2:k=2
 ·rw[if_pos h2];exact zH3 ..
 rw[if_neg h2]
 by_cases h3:k=3
 ·rw[if_pos h3];exact zIz ..
 rw[if_neg h3]
 by_cases h4:k=4
 ·rw[if_pos h4];exact zIz ..
 rw[if_neg h4]
 by_cases h5:k=5
 ·rw[if_pos h5];have:=Fl.vX a;omega
 rw[if_neg h5]
 by_cases h6:k=10
 ·rw[if_pos h6];exact zN1 ..
 rw[if_neg h6]
 by_cases h7:k=11
 ·rw[if_pos h7];exact zNO ..
 rw[if_neg h7]
 by_cases h8:k=12
 ·rw[if_pos h8];exact zM6 ..
 rw[if_neg h8]
 by_cases h9:(k=6∨k=7∨k=8∨k=9)∧0 < b%32
 ·rw[if_pos h9]
  by_cases g1:k=6
  ·rw[if_pos g1];exact zOo ..
  rw[if_neg g1]
  by_cases g2:k=7
  ·rw[if_pos g2];exact zOp ..
  rw[if_neg g2]
  by_cases g3:k=8
  ·rw[if_pos g3];exact zOn ..
  rw[if_neg g3]
  exact zOk ..
 ·rw[if_neg h9];omega
theorem zDf:∀ (n:Nat) (x:Int),0≤x→x < 4294967296→0≤Fl.zB6 n x∧Fl.zB6 n x < 4294967296
 | 0,x,h0,h1=>⟨h0,h1⟩
 | n+1,x,h0,h1=>zDf n _ (Fl.zDe x h0 h1).1 (Fl.zDe x h0 h1).2
theorem zOg(o:Int)(a b f:Nat)(ha:a < 4294967296)(hb:b < 4294967296):0≤Fl.uG o a b f∧Fl.uG o a b f < 4294967296:=by
 have hbit:=Fl.zCG o a b ha hb
 unfold Fl.uG
 by_cases h1:o=0
 ·rw[if_pos h1];omega
 rw[if_neg h1]
 by_cases h2:o=1
 ·rw[if_pos h2];omega
 rw[if_neg h2]
 by_cases h3:o=2
 ·rw[if_pos h3];omega
 rw[if_neg h3]
 by_cases h4:o=3
 ·rw[if_pos h4];omega
 rw[if_neg h4]
 by_cases h5:o=4∨o=5∨o=6
 ·rw[if_pos h5];omega
 rw[if_neg h5]
 by_cases h6:o=7∨o=8
 ·rw[if_pos h6];omega
 rw[if_neg h6]
 by_cases h7:o=9
 ·rw[if_pos h7]
  have:=Nat.mod_lt (a*2 ^ (b%32)) (show 0 < 4294967296 by omega)
  omega
 rw[if_neg h7]
 by_cases h8:o=10
 ·rw[if_pos h8]
  have e:(a:Int) / 2 ^ (b%32)=((a / 2 ^ (b%32):Nat):Int):=by push_cast;rfl
  have:=Nat.div_le_self a (2 ^ (b%32))
  rw[e];exact⟨Int.natCast_nonneg _,by have h2:=Int.ofNat_le.2 this;omega⟩
 rw[if_neg h8]
 by_cases h9:o=11
 ·rw[if_pos h9];omega
 rw[if_neg h9]
 by_cases h10:o=12
 ·rw[if_pos h10];exact zDf _ _ aO aO
 rw[if_neg h10]
 by_cases h11:o=13
 ·rw[if_pos h11]
  have:=Nat.mod_lt (a*b) (show 0 < 4294967296 by omega)
  omega
 rw[if_neg h11]
 by_cases h12:o=14∧0 < b
 ·rw[if_pos h12]
  have h2:=Int.ofNat_le.2 (Nat.div_le_self a b)
  exact⟨Int.natCast_nonneg _,by omega⟩
 rw[if_neg h12]
 by_cases h13:o=15∧0 < b
 ·rw[if_pos h13]
  have:=Nat.mod_le a b
  omega
 rw[if_neg h13];omega
structure Sq where
 c:Nat→Nat
 s:MS
 v:Nat→Nat
structure zJ8(q:Sq):Prop where
 c:zC3 q.c
 s:q.s.Ok
 v:zC3 q.v
def stN(w:Int):Int:=if w=0 then 1 else if w=1 then 2 else 4
def zBg(o:zL)(q:Sq):Int:=zAZ o q.c (q.v o.a.toNat) (q.v o.b.toNat) (q.v o.c.toNat)
def isV(k:Int):Prop:=k=1∨k=2∨k=4∨k=5∨k=6∨k=7∨k=8∨k=17
instance (k:Int):Decidable (isV k):=by unfold isV;infer_instance
def ldO(o:zL)(q:Sq):Option Nat:=vA q.s 1 (q.v o.a.toNat) (zAX o.w).toNat
def stO(o:zL)(q:Sq):Option Nat:=sto q.s (q.v o.a.toNat) (stN o.w)
def zP(o:zL)(i:Nat)(q:Sq):Sq:=
 if o.kind=3 then⟨zBm q.c o.w.toNat (q.v o.a.toNat),q.s,q.v⟩
 else if o.kind=9 then⟨q.c,q.s,zBm q.v i (zBL q.s o.w (q.v o.a.toNat))⟩
 else if o.kind=10 then⟨q.c,storeT q.s (q.v o.a.toNat) (stN o.w) (q.v o.b.toNat),q.v⟩
 else if isV o.kind then⟨q.c,q.s,zBm q.v i (zBg o q).toNat⟩ else q
structure ExR where
 k:Int
 a:Int
 pc:Int
 n:Int
abbrev exR(x:ExR):Value:=.agg #[.int .i64 x.k,.int .u32 x.a,.int .u32 x.pc,.int .i64 x.n]
def exO(o:zL)(q:Sq):ExR:=
 if o.kind=9 then⟨stK 5 (ldO o q),stA (ldO o q),o.k,o.n⟩
 else if o.kind=10 then⟨stK 6 (stO o q),stA (stO o q),o.k,o.n⟩
 else if o.kind=13 then⟨o.w,0,o.k,o.n⟩
 else if o.kind=14 then⟨o.w,o.b,o.k,o.n⟩
 else if o.kind=16 then⟨0,0,q.v o.a.toNat,o.n⟩ else⟨0,0,o.k,o.n⟩
def yC(o:zL)(q:Sq):Bool:=
 if o.kind=9 then stK 5 (ldO o q) !=0 else if o.kind=10 then stK 6 (stO o q) !=0 else if o.kind=11 then zAi q.s
 else if o.kind=12∨o.kind=13 then(q.v o.a.toNat:Int) !=0 else decide (o.kind=14∨o.kind=15∨o.kind=16)
def zBx(f:Nat→zL):Nat→Nat→Sq→Sq × ExR × Int
 | 0,_,q=>(q,⟨0,0,0,0⟩,-1)
 | m+1,i,q=>if yC (f i) q then(zP (f i) i q,exO (f i) q,i) else zBx f m (i+1) (zP (f i) i q)
theorem zMG(b:Bool):0≤Fl.isF b 1∧Fl.isF b 1 < 4294967296:=by have:=Fl.yZ b 1 aO;omega
theorem zMK(w:Int)(a b:Nat)(ha:a < 4294967296)(hb:b < 4294967296):0≤zBv w a b∧zBv w a b < 4294967296:=by
 have hm:=zKx a b ha hb
 unfold zBv
 by_cases h1:w < 10
 ·rw[if_pos h1];exact zOg _ a b 0 ha hb
 rw[if_neg h1]
 by_cases h2:w=10
 ·rw[if_pos h2]
  have:a*b / 4294967296 < 4294967296:=Nat.div_lt_of_lt_mul aO
  omega
 rw[if_neg h2]
 by_cases h3:w=11
 ·rw[if_pos h3];split
  ·omega
  ·have h9:=Nat.div_le_self a b
   generalize a / b=d at h9 ⊢
   omega
 rw[if_neg h3]
 by_cases h4:w=12
 ·rw[if_pos h4];split
  ·omega
  ·have h9:=Nat.mod_le a b
   generalize a%b=d at h9 ⊢
   omega
 rw[if_neg h4]
 by_cases h5:w=13
 ·rw[if_pos h5];exact zMG _
 rw[if_neg h5]
 by_cases h6:w=14
 ·rw[if_pos h6];exact zMG _
 rw[if_neg h6];exact zMG _
theorem zHb(w:Int)(a:Nat)(ha:a < 4294967296):unF w a < 4294967296:=by
 unfold unF
 repeat' split
 all_goals omega
theorem zEw(o:zL)(c:Nat→Nat)(a b d:Nat)(hc:zC3 c)(ha:a < 4294967296)(hb:b < 4294967296)(hd:d < 4294967296)(hk:o.k < 4294967296):0≤zAZ o c a b d∧zAZ o c a b d < 4294967296:=by
 unfold zAZ yM
 by_cases h1:o.kind=2
 ·rw[if_pos h1];have:=hc o.w.toNat;omega
 rw[if_neg h1]
 by_cases h2:o.kind=17
 ·rw[if_pos h2];have:=zCP (c 8) (c 9) (c 10) (c 11);exact⟨this.1,by unfold cxF;omega⟩
 rw[if_neg h2]
 by_cases h3:o.kind=1
 ·rw[if_pos h3];omega
 rw[if_neg h3]
 by_cases h4:o.kind=4
 ·rw[if_pos h4];exact zMK _ _ _ ha hb
 rw[if_neg h4]
 by_cases h5:o.kind=5
 ·rw[if_pos h5];have:=zHb o.w a ha;omega
 rw[if_neg h5]
 by_cases h6:o.kind=6
 ·rw[if_pos h6];split<;>omega
 rw[if_neg h6]
 by_cases h7:o.kind=7
 ·rw[if_pos h7];have:=zCP o.w a b d;omega
 rw[if_neg h7];exact zMG _
theorem zKt(s:MS)(k:Int)(a:Nat)(hs:s.Ok):zBL s k a < 4294967296:=by
 have hn:zAX k=1∨zAX k=2∨zAX k=4:=by unfold zAX;(repeat' split)<;>omega
 obtain⟨x,e,hx⟩:=zCJ s a (zAX k) hs hn
 unfold zBL
 rw[e]
 split
 ·exact zHb _ _ aO
 ·split
  ·exact zHb _ _ aO
  ·omega
theorem zFY{v:Nat→Nat}(h:zC3 v)(i x:Nat)(hx:x < 4294967296):zC3 (zBm v i x):=fun j=>by
 unfold zBm
 split
 ·exact hx
 ·exact h j
theorem zLY(o:zL)(i:Nat)(q:Sq)(h:zJ8 q)(hk:o.k < 4294967296):zJ8 (zP o i q):=by
 unfold zP
 by_cases h1:o.kind=3
 ·rw[if_pos h1];exact⟨zFY h.c _ _ (h.v _),h.s,h.v⟩
 rw[if_neg h1]
 by_cases h2:o.kind=9
 ·rw[if_pos h2];exact⟨h.c,h.s,zFY h.v _ _ (zKt _ _ _ h.s)⟩
 rw[if_neg h2]
 by_cases h3:o.kind=10
 ·rw[if_pos h3];exact⟨h.c,zFn h.s _ _ _,h.v⟩
 rw[if_neg h3]
 by_cases h4:isV o.kind
 ·rw[if_pos h4]
  have:=zEw o q.c (q.v o.a.toNat) (q.v o.b.toNat) (q.v o.c.toNat) h.c (h.v _) (h.v _) (h.v _) hk
  exact⟨h.c,h.s,zFY h.v _ _ (by unfold zBg;omega)⟩
 rw[if_neg h4];exact h
structure zB7(n:Nat)(o:zL):Prop where
 k1:1≤o.kind
 k2:o.kind≤17
 lo:(rr o.kind).lo≤o.w
 hi:o.w≤(rr o.kind).hi
 a:0≤o.a∧o.a < n
 b:o.kind≠14→0≤o.b∧o.b < n
 b14:o.kind=14→0≤o.b∧o.b≤4294967295
 c:0≤o.c∧o.c < n
theorem zJC(count:Int)(n:Nat)(f:Nat→zL)(i:Nat)(hi:i < n)(h:uQ count n f i=0):zB7 n (f i):=by
 unfold uQ at h
 by_cases e1:eOp (f i)=true
 ·rw[if_pos e1] at h;omega
 rw[if_neg e1] at h
 by_cases e2:zG (flT (f i).kind.toNat) (f i) count=true
 ·rw[if_pos e2] at h;omega
 rw[if_neg e2] at h
 by_cases e3:zK (flT (f i).kind.toNat) (f i) f i=true
 ·rw[if_pos e3] at h;omega
 clear h
 simp only[eOp,Bool.or_eq_true,Bool.not_eq_true',decide_eq_true_eq,not_or,Bool.not_eq_false,zCI] at e1
 obtain⟨⟨⟨k1,k2⟩,e1⟩,e1'⟩:=e1
 generalize hx:flT (f i).kind.toNat=x at e2 e3
 have hg:x.hg=true→(f i).kind=14:=fun h=>by
  rw[← hx] at h
  obtain⟨k,hk⟩:∃ k:Nat,(f i).kind=k:=⟨(f i).kind.toNat,by omega⟩
  rw[hk] at h k1 k2 ⊢
  have:k≤17:=aO
  simp only[Int.toNat_natCast] at h
  have hk17:k=1∨k=2∨k=3∨k=4∨k=5∨k=6∨k=7∨k=8∨k=9∨k=10∨k=11∨k=12∨k=13∨k=14∨k=15∨k=16∨k=17:=aO
  clear hk hx k1 k2 this
  rcases hk17 with rfl|rfl|rfl|rfl|rfl|rfl|rfl|rfl|rfl|rfl|rfl|rfl|rfl|rfl|rfl|rfl|rfl<;>first|rfl|(exact absurd h aD)
 have hg2:(f i).kind=14→x.hg=true∧x.hb=false:=fun h=>by rw[← hx,h];exact⟨rfl,rfl⟩
 simp only[zG,zK,bd,bg,tk,gvn,Bool.or_eq_true,Bool.and_eq_true,bne_iff_ne,ne_eq,Bool.not_eq_true',decide_eq_true_eq,decide_eq_false_iff_not,Bool.or_eq_false_iff,Bool.and_eq_false_iff,not_or,not_and,Bool.not_eq_false,Classical.not_not] at e2 e3
 obtain⟨⟨⟨⟨⟨⟨a1,a2⟩,a3⟩,-⟩,-⟩,a6⟩,-⟩:=e2
 obtain⟨⟨t1,t2⟩,t3⟩:=e3
 refine⟨k1,k2,by omega,by omega,?_,fun h14=>?_,fun h14=>?_,?_⟩
 ·by_cases ha:x.ha=true
  ·have:=(t1 ha).1;omega
  ·have:(f i).a=0:=by apply Classical.byContradiction;intro hne;exact ha (a1 hne)
   omega
 ·have hgf:¬x.hg=true:=fun hh=>h14 (hg hh)
  by_cases hb:x.hb=true
  ·have:=(t2 hb).1;omega
  ·have:(f i).b=0:=by
    apply Classical.byContradiction;intro hne
    have h9:=a2 hne
    simp[hb,hgf] at h9
   omega
 ·have:=a6 (hg2 h14).1
  omega
 ·by_cases hc:x.hc=true
  ·have:=(t3 hc).1;omega
  ·have:(f i).c=0:=by apply Classical.byContradiction;intro hne;exact hc (a3 hne)
   omega
theorem zFX(count:Int)(n:Nat)(f:Nat→zL):∀ (m i:Nat),i+m=n→(zBX count n f m i).1=0→(∀ j,i≤j→j < n→uQ count n f j=0)∧0 < n
 | 0,i,hi,h=>by
  refine⟨fun j h1 h2=>by omega,?_⟩
  simp only[zBX,zFx] at h
  by_cases e:n=0
  ·rw[if_pos (Or.inl e)] at h;simp at h
  ·omega
 | m+1,i,hi,h=>by
  simp only[zBX] at h
  by_cases e:uQ count n f i=0
  ·rw[if_pos e] at h
   have:=zFX count n f m (i+1) aO h
   refine⟨fun j h1 h2=>?_,this.2⟩
   by_cases ej:j=i
   ·rw[ej];exact e
   ·exact this.1 j aO h2
  ·rw[if_neg e] at h;exact absurd h e
theorem zEI(count bytes:Int)(n:Nat)(f:Nat→zL)(h:(yH count bytes n f).1=0):n≤2048∧0 < n∧∀ j,j < n→zB7 n (f j):=by
 unfold yH at h
 by_cases e:2048 < n
 ·rw[if_pos e] at h;simp at h
 rw[if_neg e] at h
 by_cases e2:(0≤count∧count≤64)∧(0≤bytes∧bytes≤384)
 ·rw[if_pos e2] at h
  have:=zFX count n f n 0 aO h
  exact⟨by omega,this.2,fun j hj=>zJC count n f j hj (this.1 j aO hj)⟩
 ·rw[if_neg e2] at h;simp at h
theorem zTb{k:Int}(h:0≤k∧k≤4):k=0∨k=1∨k=2∨k=3∨k=4:=aO
theorem zTa{k:Int}(h:0≤k∧k≤2):k=0∨k=1∨k=2:=aO
theorem zIp(k:RB)(a:Nat)(g:Int)(s:MS)(w:World)(ha:a < 4294967296)(hs:s.Ok)(h:RM w k s)(hg:0≤g∧g≤4) :
  Calls Try.prog 28 #[.pointer (some ⟨k.y,0,none⟩),.int .i64 g,.int .u32 a] w fun e w'=>e=.returned (.tuple #[.int .u32 (zBL s g a:Nat),.agg #[.int .i64 (stK 5 (vA s 1 a (zAX g).toNat)),.int .u32 (stA (vA s 1 a (zAX g).toNat))]])∧Below w.heap.size w w':=by
 rcases zTb hg with rfl|rfl|rfl|rfl|rfl
 ·obtain⟨v,e,hv⟩:=zCJ s a 1 hs aO
  have c:=zTD k a v s w _ ha hs h e hv rfl
  rw[show zBL s 0 a=v by simp[zBL,zAX,e]]
  exact c
 ·obtain⟨v,e,hv⟩:=zCJ s a 1 hs aO
  have c:=zTE k a v s w _ ha hs h e hv rfl
  rw[show zBL s 1 a=unF 2 v by simp[zBL,zAX,e]]
  exact c
 ·obtain⟨v,e,hv⟩:=zCJ s a 2 hs aO
  have c:=zTF k a v s w _ ha hs h e hv rfl
  rw[show zBL s 2 a=v by simp[zBL,zAX,e]]
  exact c
 ·obtain⟨v,e,hv⟩:=zCJ s a 2 hs aO
  have c:=zTG k a v s w _ ha hs h e hv rfl
  rw[show zBL s 3 a=unF 3 v by simp[zBL,zAX,e]]
  exact c
 ·obtain⟨v,e,hv⟩:=zCJ s a 4 hs aO
  have c:=zTH k a v s w _ ha hs h e hv rfl
  rw[show zBL s 4 a=v by simp[zBL,zAX,e]]
  exact c
theorem zIr(k:RB)(a v:Nat)(g:Int)(s:MS)(w:World)(ha:a < 4294967296)(hv:v < 4294967296)(hs:s.Ok)(h:RM w k s)(hg:0≤g∧g≤2) :
  Calls Try.prog 29 #[.pointer (some ⟨k.y,0,none⟩),.int .i64 g,.int .u32 a,.int .u32 v] w fun e w'=>e=.returned (.agg #[.int .i64 (stK 6 (sto s a (stN g))),.int .u32 (stA (sto s a (stN g)))])∧RM w' k (storeT s a (stN g) v)∧zJ k.all w w':=by
 rcases zTa hg with rfl|rfl|rfl
 ·exact zTI k a v s w _ ha hv hs h rfl
 ·exact zTJ k a v s w _ ha hv hs h rfl
 ·exact zTK k a v s w _ ha hv hs h rfl
theorem zCM{n:Nat}{o:zL}(h:zB7 n o):zGU o:=
 ⟨fun e=>by have h1:=h.lo;have h2:=h.hi;rw[e] at h1 h2;exact⟨h1,h2⟩,fun e=>by have h1:=h.lo;have h2:=h.hi;rw[e] at h1 h2;exact⟨h1,h2⟩⟩
theorem zGD(n:Nat)(o:zL)(a b c:Nat)(w:World)(ha:a < 4294967296)(hb:b < 4294967296)(hc:c < 4294967296)(hk:o.kind=1∨o.kind=4∨o.kind=5∨o.kind=6∨o.kind=7∨o.kind=8)(hw:zB7 n o) :
  Calls Try.prog 31 #[.agg #[.int .i64 o.kind,.int .i64 o.w,.int .i64 o.a,.int .i64 o.b,.int .i64 o.c,.int .u32 o.k,.int .i64 o.n],.int .u32 a,.int .u32 b,.int .u32 c] w fun e w'=>e=.returned (.int .u32 (yM o a b c))∧Below w.heap.size w w':=by
 rcases hk with h|h|h|h|h|h
 ·exact zS0 o a b c w ha hb hc h (zCM hw)
 ·exact zS1 o a b c w ha hb hc h (zCM hw)
 ·exact zS2 o a b c w ha hb hc h (zCM hw)
 ·exact zS3 o a b c w ha hb hc h (zCM hw)
 ·exact zS4 o a b c w ha hb hc h (zCM hw)
 ·exact zS5 o a b c w ha hb hc h (zCM hw)
structure Fz(w:World)(X:Nat):Prop where
 fr:∀ j,w.frozen? ⟨X,j,none⟩=false
theorem Fz.set{w:World}{X:Nat}(h:Fz w X)(a:Addr)(v:Value):Fz (w.setCell a v) X:=⟨fun j=>by rw[World.frozen?_setCell];exact h.fr j⟩
theorem Fz.below{w w':World}{X n:Nat}(h:Fz w X)(k:Below n w w')(hX:X < n):Fz w' X:=⟨fun j=>(k.frozen (p:=⟨X,j,none⟩) hX).trans (h.fr j)⟩
theorem Fz.chg{w w':World}{S:List Nat}{X:Nat}(h:Fz w X)(k:zJ S w w')(hX:X < w.heap.size)(hs:X∉S):Fz w' X:=⟨fun j=>(World.frozen?_of_block (w:=w) (k.block X hX hs)).trans (h.fr j)⟩
abbrev exA(x:ExR):Array Value:=#[.int .i64 x.k,.int .u32 x.a,.int .u32 x.pc,.int .i64 x.n]
theorem yE{w:World}{X o:Nat}{A:Array Value}{T:TypeId}(h:w.heap[X]?=some (.cells A T))(v:Value):(w.setCell ⟨X,o,none⟩ v).heap[X]?=some (.cells (A.setIfInBounds o v) T):=heap_setCell_same w X o A T v h
theorem zQ{w:World}{X Y o:Nat}(hne:Y≠X)(v:Value):(w.setCell ⟨X,o,none⟩ v).heap[Y]?=w.heap[Y]?:=Below.heap_setCell w ⟨X,o,none⟩ v Y hne
end Go.Proofs.Ytkmjenjahbicpaa.Va
namespace Go.Proofs.Ytkmjenjahbicpaa.Ho
open Go.RowKit
set_option maxRecDepth 100000
theorem zKC(o:zL)(ρ:Nat→Nat)(r:Nat)(count:Int)(hw:WOk o)(hf:zG (flT o.kind.toNat) o count=false)(hc:count≤64)(hρ:∀ q,ρ q < 16)(h0:∀ q,(ru o.kind).takes.toNat≤q→ρ q=0)(hr:r < 16) :
  ((ru o.kind).gives=true→zAz { yQ o ρ with d:=(r:Int) })∧((ru o.kind).gives=false→zAz (yQ o ρ)):=by
 have k1:=hw.ok.k1
 have k2:=hw.ok.k2
 obtain⟨k,hk⟩:∃ k:Nat,o.kind=k:=⟨o.kind.toNat,by omega⟩
 have a1:1≤k:=aO
 have a2:k≤17:=aO
 have h0':∀ q,(ru (k:Int)).takes.toNat≤q→ρ q=0:=by rw[← hk];exact h0
 match k,a1,a2 with
 | 1,_,_=>exact⟨fun _=>zSq o ρ r count hk hw hf hc hρ h0' hr,fun e=>by rw[hk] at e;exact absurd e aD⟩
 | 2,_,_=>exact⟨fun _=>zSr o ρ r count hk hw hf hc hρ h0' hr,fun e=>by rw[hk] at e;exact absurd e aD⟩
 | 3,_,_=>exact⟨fun e=>by rw[hk] at e;exact absurd e aD,fun _=>zSs o ρ r count hk hw hf hc hρ h0' hr⟩
 | 4,_,_=>exact⟨fun _=>zSt o ρ r count hk hw hf hc hρ h0' hr,fun e=>by rw[hk] at e;exact absurd e aD⟩
 | 5,_,_=>exact⟨fun _=>zSu o ρ r count hk hw hf hc hρ h0' hr,fun e=>by rw[hk] at e;exact absurd e aD⟩
 | 6,_,_=>exact⟨fun _=>zSv o ρ r count hk hw hf hc hρ h0' hr,fun e=>by rw[hk] at e;exact absurd e aD⟩
 | 7,_,_=>exact⟨fun _=>zSw o ρ r count hk hw hf hc hρ h0' hr,fun e=>by rw[hk] at e;exact absurd e aD⟩
 | 8,_,_=>exact⟨fun _=>zSx o ρ r count hk hw hf hc hρ h0' hr,fun e=>by rw[hk] at e;exact absurd e aD⟩
 | 9,_,_=>exact⟨fun _=>zSy o ρ r count hk hw hf hc hρ h0' hr,fun e=>by rw[hk] at e;exact absurd e aD⟩
 | 10,_,_=>exact⟨fun e=>by rw[hk] at e;exact absurd e aD,fun _=>zQw o ρ r count hk hw hf hc hρ h0' hr⟩
 | 11,_,_=>exact⟨fun e=>by rw[hk] at e;exact absurd e aD,fun _=>zQx o ρ r count hk hw hf hc hρ h0' hr⟩
 | 12,_,_=>exact⟨fun e=>by rw[hk] at e;exact absurd e aD,fun _=>zQy o ρ r count hk hw hf hc hρ h0' hr⟩
 | 13,_,_=>exact⟨fun e=>by rw[hk] at e;exact absurd e aD,fun _=>zQz o ρ r count hk hw hf hc hρ h0' hr⟩
 | 14,_,_=>exact⟨fun e=>by rw[hk] at e;exact absurd e aD,fun _=>zQA o ρ r count hk hw hf hc hρ h0' hr⟩
 | 15,_,_=>exact⟨fun e=>by rw[hk] at e;exact absurd e aD,fun _=>zQB o ρ r count hk hw hf hc hρ h0' hr⟩
 | 16,_,_=>exact⟨fun e=>by rw[hk] at e;exact absurd e aD,fun _=>zQC o ρ r count hk hw hf hc hρ h0' hr⟩
 | 17,_,_=>exact⟨fun _=>zQD o ρ r count hk hw hf hc hρ h0' hr,fun e=>by rw[hk] at e;exact absurd e aD⟩
 | n+18,_,h=>exact absurd h aO
theorem zMs(g:G)(r:Nat)(hr:r < 16)(hv:g.hv r < 2048):zAz (zCV g r):=
 ⟨8,9+0,0,r,0,0,g.hv r,rfl,rfl,rfl,rfl,rfl,rfl,zRD ⟨0,by decide⟩ r (g.hv r) hr aO⟩
theorem zGB(g:G)(regs:Nat)(h0:0 < regs)(h16:regs≤16)(hv:∀ r,r < 16→g.hv r < 2048):∀ x∈zBI g regs,zAz x:=by
 have hr:=zAC g regs h0
 unfold zBI
 split
 ·intro x hx;cases hx
 ·unfold zDx
  split
  ·intro x hx
   rw[List.mem_singleton] at hx
   subst hx
   exact zMs g _ aO (hv _ aO)
  ·intro x hx;cases hx
theorem zIL(f:Nat→zL)(g:G)(regs v:Nat)(count:Int)(h0:0 < regs)(h16:regs≤16)(hv:∀ r,r < 16→g.hv r < 2048)(hvn:v < 2048)(hw:WOk (f v))(hf:zG (flT (f v).kind.toNat) (f v) count=false)(hc:count≤64)(hl:(g.P v).lazy=true→(ru (f v).kind).gives=true):∀ x∈zA2 f g regs v,zAz x:=by
 have hr:=zAC g regs h0
 have hP:=(vK g regs).2.2.2.1
 unfold zA2
 split
 ·intro x hx;cases hx
 ·intro x hx
  rcases List.mem_append.1 hx with hx|hx
  ·exact zGB g regs h0 h16 hv x hx
  ·rw[List.mem_singleton] at hx
   subst hx
   unfold zAy
   rw[hP]
   split
   ·rename_i hz
    have hg:=hl hz
    have h10:(f v).kind≠10:=fun e=>by rw[e] at hg;exact absurd hg aD
    have F:=(zKC (f v) (fun _=>0) (yA g regs) count hw hf hc (fun _=>by decide) (fun _ _=>rfl) aO).1 hg
    have e:({ yQ (f v) (fun _=>0) with d:=(yA g regs:Int) }:Cd)={ yF (f v) with d:=(yA g regs:Int) }:=by
     unfold yQ;rw[if_neg h10];rfl
    rw[e] at F;exact F
   ·exact⟨7,8+0,yA g regs,0,0,0,v,rfl,rfl,rfl,rfl,rfl,rfl,zRC ⟨0,by decide⟩ (yA g regs) v aO aO⟩
theorem tkρ_zero(f:Nat→zL)(regs i:Nat)(g:G):∀ j q,j≤q→tkρ f regs i g j q=0
 | 0,_,_=>rfl
 | j+1,q,h=>by
  show upd (tkρ f regs i g j) j _ q=0
  unfold upd
  rw[if_neg aO]
  exact tkρ_zero f regs i g j q aO
theorem zKJ(f:Nat→zL)(regs i n:Nat)(count:Int)(g:G)(h0:0 < regs)(h16:regs≤16)(hn:n≤2048)(hv:∀ r,r < 16→g.hv r < n)(hw:∀ v,v < n→WOk (f v))(hf:∀ v,v < n→zG (flT (f v).kind.toNat) (f v) count=false)(hc:count≤64)(hl:∀ v,v < n→(g.P v).lazy=true→(ru (f v).kind).gives=true):∀ j,(∀ q,q < j→zX (f i) q < n)→∀ x∈zDw f regs i g j,zAz x
 | 0,_=>fun x hx=>by cases hx
 | j+1,hq=>fun x hx=>by
  rcases List.mem_append.1 (show x∈zDw f regs i g j++zA2 f (vV f regs i g j) regs (zX (f i) j) from hx) with hx|hx
  ·exact zKJ f regs i n count g h0 h16 hn hv hw hf hc hl j (fun q e=>hq q aO) x hx
  ·have hj:=hq j aO
   have hvj:=(zBf f regs i n g hv j (fun q e=>hq q aO)).1
   refine zIL f (vV f regs i g j) regs (zX (f i) j) count h0 h16 (fun r hr=>by have:=hvj r hr;omega) aO (hw _ hj) (hf _ hj) hc (fun e=>?_) x hx
   rw[(zCW f regs i g (zX (f i) j) j).2.2.1] at e
   exact hl _ hj e
theorem zL2(f:Nat→zL)(regs i n:Nat)(count:Int)(g:G)(h0:0 < regs)(h16:regs≤16)(hn:n≤2048)(hi:i < n)(hv:∀ r,r < 16→g.hv r < n)(hw:∀ v,v < n→WOk (f v))(hf:∀ v,v < n→zG (flT (f v).kind.toNat) (f v) count=false)(hc:count≤64)(hl:∀ v,v < n→(g.P v).lazy=true→(ru (f v).kind).gives=true)(ht:(g.P i).takes=(ru (f i).kind).takes.toNat)(hg:(g.P i).gives=(ru (f i).kind).gives)(tk:∀ q,q < (g.P i).takes→zX (f i) q < n):∀ x∈zDv f regs g i,zAz x:=by
 unfold zDv
 split
 ·intro x hx;cases hx
 ·intro x hx
  rcases List.mem_append.1 hx with hx|hx
  ·exact zKJ f regs i n count g h0 h16 hn hv hw hf hc hl _ tk x hx
  ·have hvj:=zCC _ n (zBf f regs i n g hv (g.P i).takes tk).1
   have hr:=zAC (zAo (vV f regs i g (g.P i).takes)) regs h0
   have hgg:((zAo (vV f regs i g (g.P i).takes)).P i).gives=(ru (f i).kind).gives:=by rw[zEe,(zCW f regs i g i (g.P i).takes).2.1,hg]
   obtain⟨F1,F2⟩:=zKC (f i) (tkρ f regs i g (g.P i).takes) (yA (zAo (vV f regs i g (g.P i).takes)) regs) count (hw i hi) (hf i hi) hc (fun q=>by have:=tkρ_lt f i g h0 (g.P i).takes q;omega) (fun q hq=>tkρ_zero f regs i g _ q aO) aO
   unfold zC5 at hx
   split at hx
   ·rename_i hgt
    rcases List.mem_append.1 hx with hx|hx
    ·exact zGB _ regs h0 h16 (fun r hr=>by have:=hvj r hr;omega) x hx
    ·rw[List.mem_singleton] at hx
     subst hx
     exact F1 (hgg▸hgt)
   ·rename_i hgt
    rw[List.mem_singleton] at hx
    subst hx
    exact F2 (by rw[← hgg];simpa using hgt)
theorem zFc{n:Nat}{f:Nat→zL}(hB:uX n f)(hW:∀ v,v < n→WOk (f v))(regs:Nat)(count:Int)(pc:Nat)(hf:∀ v,v < n→zG (flT (f v).kind.toNat) (f v) count=false)(hc:count≤64)(h0:0 < regs)(h16:regs≤16):∀ i,i≤n→∀ x∈zAY f n regs count pc i,zAz x
 | 0,_=>fun x hx=>by cases hx
 | i+1,hi=>fun x hx=>by
  rcases List.mem_append.1 (show x∈zAY f n regs count pc i++zDv f regs (vW f n regs count pc i) i from hx) with hx|hx
  ·exact zFc hB hW regs count pc hf hc h0 h16 i aO x hx
  ·obtain⟨ht,hg⟩:=zAr f n regs count pc i i aO
   exact zL2 f regs i n count _ h0 h16 hB.hn aO (zEz f n regs count pc hB i aO).1 hW hf hc (fun v hv e=>by rw[zDo hB regs count pc i v hv] at e;exact(zFm e).1) ht hg (fun q hq=>by rw[ht] at hq;have:=(hB.tk i aO q hq).2;omega) x hx
inductive zFu(l:List Nat):Nat→List Cd→Prop
 | done:zFu l l.length []
 | step (a:Nat) (x:Cd) (xs:List Cd):a < l.length→(yB (uP l) l.length a).e=0→(yB (uP l) l.length a).x=x→0 < (yB (uP l) l.length a).n→zFu l (a+(yB (uP l) l.length a).n) xs→zFu l a (x :: xs)
theorem zJ5(xs:List Cd)(h:∀ x∈xs,zAz x):∀ pre:List Nat,zFu (pre++yT xs) pre.length xs:=by
 induction xs with
 | nil=>intro pre;show zFu (pre++[]) _ _;rw[List.append_nil];exact zFu.done
 | cons x xs ih=>
  intro pre
  have hx:=(h x aC).enc
  have ih':=ih (fun y hy=>h y (aM _ hy)) (pre++(vZ x).2)
  obtain⟨h1,h2,h3⟩:=zGo x hx
  have e:pre++yT (x :: xs)=pre++(vZ x).2++yT xs:=by show pre++((vZ x).2++yT xs)=_;rw[List.append_assoc]
  rw[e]
  have hm:=zFd (a:=0) (ws2:=uP (pre++(vZ x).2++yT xs)) (len2:=(pre++(vZ x).2++yT xs).length) (b:=pre.length) h1 (fun i hi=>by
   have e0:((0:Nat):Int)=0:=rfl
   rw[e0,h3] at hi
   rw[Nat.zero_add,zGI _ _ _ (by rw[List.length_append];omega),zJ6]) (by have e0:((0:Nat):Int)=0:=rfl;rw[e0,h3,List.length_append,List.length_append];omega)
  have e0:((0:Nat):Int)=0:=rfl
  rw[e0] at hm
  have hl:0 < (vZ x).2.length:=List.length_pos_iff.2 hx
  refine zFu.step _ x xs (by rw[List.length_append,List.length_append];omega) hm.1 (hm.2.1.trans h2) (by rw[hm.2.2.1,h3];exact hl) ?_
  rw[hm.2.2.1,h3,← List.length_append]
  exact ih'
def yY:Sm Va.MS where
 val k w a b c:=(Va.yM ⟨k,w,0,0,0,0,0⟩ a b c).toNat
 now c:=(Va.cxF c).toNat
 load s w a:=(Va.zBL s w a,Va.stK 5 (Va.vA s 1 a (Va.zAX w).toNat),(Va.stA (Va.vA s 1 a (Va.zAX w).toNat)).toNat)
 store s w a v:=(Va.storeT s a (Va.stN w) v,Va.stK 6 (Va.sto s a (Va.stN w)),(Va.stA (Va.sto s a (Va.stN w))).toNat)
 tch s:=Va.zAi s
theorem zQV:zDu yY:=⟨fun _ _ _ _=>rfl,fun _ _ _ _=>rfl,fun _ _ _ _=>rfl,fun _ _ _ _=>rfl⟩
structure ExM(e:Ex)(x:Va.ExR)(kind:Int):Prop where
 k:e.kind=if x.k≠0 then 2 else if kind=16 then 3 else 1
 sk:e.sk=x.k
 a:(e.arg:Int)=x.a
 pc:(e.pc:Int)=x.pc
 n:e.n=x.n
 z:kind=16→x.k=0
theorem zIy(o:Option Nat):(((Va.stA o).toNat:Nat):Int)=Va.stA o:=by cases o<;>simp[Va.stA]
theorem zIx(o:Option Nat):max (Va.stA o) 0=Va.stA o:=by cases o<;>simp[Va.stA]
theorem zCs(f:Nat→Nat)(i v:Nat):upd f i v=Va.zBm f i v:=rfl
theorem zMR(n:Nat)(o:zL)(hg:Va.zB7 n o)(i:Nat)(q:Va.Sq) :
  (Va.yC o q=false→uE yY o i ⟨q.v,q.c,q.s⟩=(⟨(Va.zP o i q).v,(Va.zP o i q).c,(Va.zP o i q).s⟩,none))∧
  (Va.yC o q=true→∃ t e,uE yY o i ⟨q.v,q.c,q.s⟩=(t,some e)∧t.c=(Va.zP o i q).c∧t.m=(Va.zP o i q).s∧ExM e (Va.exO o q) o.kind):=by
 have k1:=hg.k1
 have k2:=hg.k2
 have lo:=hg.lo
 have hb:=hg.b14
 obtain⟨k,hk⟩:∃ k:Nat,o.kind=k:=⟨o.kind.toNat,by omega⟩
 rw[hk] at lo hb
 have a1:1≤k:=aO
 have a2:k≤17:=aO
 match k,a1,a2 with
 | 1,_,_=>
  have hk:o.kind=1:=hk
  refine⟨fun _=>?_,fun h=>by simp[Va.yC,hk] at h⟩
  simp[uE,hk,Va.zP,Va.isV,Va.zBg,Va.zAZ,Va.yM,yY,zX,zAn,zCs]
 | 2,_,_=>
  have hk:o.kind=2:=hk
  refine⟨fun _=>?_,fun h=>by simp[Va.yC,hk] at h⟩
  simp[uE,hk,Va.zP,Va.isV,Va.zBg,Va.zAZ,Va.yM,yY,zX,zAn,zCs]
 | 3,_,_=>
  have hk:o.kind=3:=hk
  refine⟨fun _=>?_,fun h=>by simp[Va.yC,hk] at h⟩
  simp[uE,hk,Va.zP,Va.isV,Va.zBg,Va.zAZ,Va.yM,yY,zX,zAn,zCs]
 | 4,_,_=>
  have hk:o.kind=4:=hk
  refine⟨fun _=>?_,fun h=>by simp[Va.yC,hk] at h⟩
  simp[uE,hk,Va.zP,Va.isV,Va.zBg,Va.zAZ,Va.yM,yY,zX,zAn,zCs]
 | 5,_,_=>
  have hk:o.kind=5:=hk
  refine⟨fun _=>?_,fun h=>by simp[Va.yC,hk] at h⟩
  simp[uE,hk,Va.zP,Va.isV,Va.zBg,Va.zAZ,Va.yM,yY,zX,zAn,zCs]
 | 6,_,_=>
  have hk:o.kind=6:=hk
  refine⟨fun _=>?_,fun h=>by simp[Va.yC,hk] at h⟩
  simp[uE,hk,Va.zP,Va.isV,Va.zBg,Va.zAZ,Va.yM,yY,zX,zAn,zCs]
 | 7,_,_=>
  have hk:o.kind=7:=hk
  refine⟨fun _=>?_,fun h=>by simp[Va.yC,hk] at h⟩
  simp[uE,hk,Va.zP,Va.isV,Va.zBg,Va.zAZ,Va.yM,yY,zX,zAn,zCs]
 | 8,_,_=>
  have hk:o.kind=8:=hk
  refine⟨fun _=>?_,fun h=>by simp[Va.yC,hk] at h⟩
  simp[uE,hk,Va.zP,Va.isV,Va.zBg,Va.zAZ,Va.yM,yY,zX,zAn,zCs]
 | 9,_,_=>
  have hk:o.kind=9:=hk
  refine⟨fun h=>?_,fun h=>?_⟩
  ·have h:Va.stK 5 (Va.ldO o q)=0:=by simpa[Va.yC,hk] using h
   simp only[Va.ldO,Va.stO] at h
   simp[uE,hk,Va.zP,yY,zX,zAn,zCs,h]
  ·have h:Va.stK 5 (Va.ldO o q)≠0:=by simpa[Va.yC,hk] using h
   have h':=h
   simp only[Va.ldO,Va.stO] at h
   refine⟨_,_,by simp[uE,hk,yY,zX,zAn,h];exact⟨rfl,rfl⟩,by simp[Va.zP,hk],by simp[Va.zP,hk,zX,zAn],?_⟩
   refine⟨?_,?_,?_,?_,?_,fun h=>by rw[hk] at h;exact absurd h aD⟩
   ·simp[Va.exO,hk,h']
   ·simp[Va.exO,hk,Va.ldO,Va.stO,yY,zX,zAn]
   ·simp[Va.exO,hk,Va.ldO,Va.stO,yY,zX,zAn,zIx]
   ·simp[Va.exO,hk]
   ·simp[Va.exO,hk]
 | 10,_,_=>
  have hk:o.kind=10:=hk
  refine⟨fun h=>?_,fun h=>?_⟩
  ·have h:Va.stK 6 (Va.stO o q)=0:=by simpa[Va.yC,hk] using h
   simp only[Va.ldO,Va.stO] at h
   simp[uE,hk,Va.zP,yY,zX,zAn,zCs,h]
  ·have h:Va.stK 6 (Va.stO o q)≠0:=by simpa[Va.yC,hk] using h
   have h':=h
   simp only[Va.ldO,Va.stO] at h
   refine⟨_,_,by simp[uE,hk,yY,zX,zAn,h];exact⟨rfl,rfl⟩,by simp[Va.zP,hk],by simp[Va.zP,hk,zX,zAn],?_⟩
   refine⟨?_,?_,?_,?_,?_,fun h=>by rw[hk] at h;exact absurd h aD⟩
   ·simp[Va.exO,hk,h']
   ·simp[Va.exO,hk,Va.ldO,Va.stO,yY,zX,zAn]
   ·simp[Va.exO,hk,Va.ldO,Va.stO,yY,zX,zAn,zIx]
   ·simp[Va.exO,hk]
   ·simp[Va.exO,hk]
 | 11,_,_=>
  have hk:o.kind=11:=hk
  refine⟨fun h=>?_,fun h=>?_⟩
  ·have h:¬(Va.zAi q.s=true):=by simpa[Va.yC,hk] using h
   simp at h
   simp[uE,hk,Va.zP,Va.isV,yY,zX,zAn,h]
  ·have h:Va.zAi q.s=true:=by simpa[Va.yC,hk] using h
   refine⟨_,_,by simp[uE,hk,yY,zX,zAn,h];exact⟨rfl,rfl⟩,by simp[Va.zP,hk,Va.isV],by simp[Va.zP,hk,Va.isV],?_⟩
   have lo':(rr 11).lo≤o.w:=lo
   refine⟨?_,?_,?_,?_,?_,fun h=>by rw[hk] at h;exact absurd h aD⟩<;>simp[Va.exO,hk]
 | 12,_,_=>
  have hk:o.kind=12:=hk
  refine⟨fun h=>?_,fun h=>?_⟩
  ·have h:¬(q.v o.a.toNat≠0):=by simpa[Va.yC,hk] using h
   simp at h
   simp[uE,hk,Va.zP,Va.isV,yY,zX,zAn,h]
  ·have h:q.v o.a.toNat≠0:=by simpa[Va.yC,hk] using h
   refine⟨_,_,by simp[uE,hk,yY,zX,zAn,h];exact⟨rfl,rfl⟩,by simp[Va.zP,hk,Va.isV],by simp[Va.zP,hk,Va.isV],?_⟩
   have lo':(rr 12).lo≤o.w:=lo
   refine⟨?_,?_,?_,?_,?_,fun h=>by rw[hk] at h;exact absurd h aD⟩<;>simp[Va.exO,hk]
 | 13,_,_=>
  have hk:o.kind=13:=hk
  refine⟨fun h=>?_,fun h=>?_⟩
  ·have h:¬(q.v o.a.toNat≠0):=by simpa[Va.yC,hk] using h
   simp at h
   simp[uE,hk,Va.zP,Va.isV,yY,zX,zAn,h]
  ·have h:q.v o.a.toNat≠0:=by simpa[Va.yC,hk] using h
   refine⟨_,_,by simp[uE,hk,yY,zX,zAn,h];exact⟨rfl,rfl⟩,by simp[Va.zP,hk,Va.isV],by simp[Va.zP,hk,Va.isV],?_⟩
   have lo':(rr 13).lo≤o.w:=lo
   refine⟨?_,?_,?_,?_,?_,fun h=>by rw[hk] at h;exact absurd h aD⟩<;>simp[Va.exO,hk]
   have l13:(rr 13).lo=1:=by decide
   rw[l13] at lo'
   omega
 | 14,_,_=>
  have hk:o.kind=14:=hk
  refine⟨fun h=>by simp[Va.yC,hk] at h,fun _=>?_⟩
  refine⟨_,_,by simp[uE,hk,yY,zX,zAn];exact⟨rfl,rfl⟩,by simp[Va.zP,hk,Va.isV],by simp[Va.zP,hk,Va.isV],?_⟩
  have lo':(rr 14).lo≤o.w:=lo
  have hb':=hb rfl
  have l14:(rr 14).lo=1:=by decide
  rw[l14] at lo'
  refine⟨?_,?_,?_,?_,?_,fun h=>by rw[hk] at h;exact absurd h aD⟩<;>simp[Va.exO,hk]<;>omega
 | 15,_,_=>
  have hk:o.kind=15:=hk
  refine⟨fun h=>by simp[Va.yC,hk] at h,fun _=>?_⟩
  refine⟨_,_,by simp[uE,hk,yY,zX,zAn];exact⟨rfl,rfl⟩,by simp[Va.zP,hk,Va.isV],by simp[Va.zP,hk,Va.isV],?_⟩
  have lo':(rr 15).lo≤o.w:=lo
  refine⟨?_,?_,?_,?_,?_,fun h=>?_⟩<;>simp[Va.exO,hk]
 | 16,_,_=>
  have hk:o.kind=16:=hk
  refine⟨fun h=>by simp[Va.yC,hk] at h,fun _=>?_⟩
  refine⟨_,_,by simp[uE,hk,yY,zX,zAn];exact⟨rfl,rfl⟩,by simp[Va.zP,hk,Va.isV],by simp[Va.zP,hk,Va.isV],?_⟩
  have lo':(rr 16).lo≤o.w:=lo
  refine⟨?_,?_,?_,?_,?_,fun h=>?_⟩<;>simp[Va.exO,hk]
 | 17,_,_=>
  have hk:o.kind=17:=hk
  refine⟨fun _=>?_,fun h=>by simp[Va.yC,hk] at h⟩
  simp[uE,hk,Va.zP,Va.isV,Va.zBg,Va.zAZ,Va.yM,yY,zX,zAn,zCs]
 | m+18,_,h=>exact absurd h aO
theorem zIw{n:Nat}{f:Nat→zL}(hg:∀ j,j < n→Va.zB7 n (f j))(c:Nat→Nat)(s:Va.MS):∀ (m i:Nat) (q:Va.Sq),i+m=n→zFw yY f i ⟨fun _=>0,c,s⟩=some ⟨q.v,q.c,q.s⟩→
  (∀ j,i≤j→j < n→∃ q',Va.yC (f j) q'=false)∨(∃ j t t' e,j < n∧(Va.zBx f m i q).2.2=j∧zFw yY f j ⟨fun _=>0,c,s⟩=some t∧uE yY (f j) j t=(t',some e)∧t'.c=(Va.zBx f m i q).1.c∧t'.m=(Va.zBx f m i q).1.s∧ExM e (Va.zBx f m i q).2.1 (f j).kind)
 | 0,i,q,hi,_=>.inl (fun j h1 h2=>absurd h2 aO)
 | m+1,i,q,hi,hb=>by
  obtain⟨t1,t2⟩:=zMR n (f i) (hg i aO) i q
  unfold Va.zBx
  cases hl:Va.yC (f i) q with
  | true=>
   obtain⟨t,e,b1,b2,b3,b4⟩:=t2 hl
   exact .inr ⟨i,_,t,e,by omega,rfl,hb,b1,b2,b3,b4⟩
  | false=>
   have hb1:zFw yY f (i+1) ⟨fun _=>0,c,s⟩=some ⟨(Va.zP (f i) i q).v,(Va.zP (f i) i q).c,(Va.zP (f i) i q).s⟩:=by
    unfold zFw;rw[hb];simp only[t1 hl]
   rcases zIw hg c s m (i+1) (Va.zP (f i) i q) aO hb1 with h|⟨j,t,t',e,b⟩
   ·refine .inl (fun j h1 h2=>?_)
    by_cases e:j=i
    ·rw[e];exact⟨q,hl⟩
    ·exact h j aO h2
   ·exact .inr ⟨j,t,t',e,b⟩
theorem zLe(o:zL)(h:o.kind=14∨o.kind=15∨o.kind=16)(q:Va.Sq):Va.yC o q=true:=by
 rcases h with h|h|h<;>simp[Va.yC,h]
theorem zOl(k:Int)(h:(rr k).ends=true):k=14∨k=15∨k=16:=by
 unfold rr at h
 have:k.toNat=14∨k.toNat=15∨k.toNat=16:=by
  unfold rrT at h
  split at h<;>first|omega|(exact absurd h aD)
 omega
theorem zGk(count bytes:Int)(n:Nat)(f:Nat→zL)(h:(yH count bytes n f).1=0):0 < n∧(rr (f (n - 1)).kind).ends=true:=by
 unfold yH at h
 by_cases e:2048 < n
 ·rw[if_pos e] at h;simp at h
 rw[if_neg e] at h
 by_cases e2:(0≤count∧count≤64)∧(0≤bytes∧bytes≤384)
 ·rw[if_pos e2] at h
  have:=(zDp count n f n 0 h).2
  unfold zFx at this
  by_cases e3:n=0
  ·rw[if_pos (by simp[e3])] at this;simp at this
  ·refine⟨by omega,?_⟩
   by_cases e4:(rr (f (n - 1)).kind).ends=true
   ·exact e4
   ·rw[if_pos (by simp[e4])] at this;simp at this
 ·rw[if_neg e2] at h;simp at h
theorem zIS(count bytes:Int)(n:Nat)(f:Nat→zL)(h:(yH count bytes n f).1=0)(hk:∀ v,v < n→(f v).k < 4294967296)(regs pc:Nat)(h3:3≤regs)(h16:regs≤16)(c:Nat→Nat)(s:Va.MS) :
  ∃ j e h',j < n∧(Va.zBx f n 0 ⟨c,s,fun _=>0⟩).2.2=(j:Int)∧uF yY (zAY f n regs count pc n) ⟨fun _=>none,fun _=>none,c,s⟩=.out e h'∧h'.c=(Va.zBx f n 0 ⟨c,s,fun _=>0⟩).1.c∧h'.m=(Va.zBx f n 0 ⟨c,s,fun _=>0⟩).1.s∧ExM e (Va.zBx f n 0 ⟨c,s,fun _=>0⟩).2.1 (f j).kind:=by
 obtain⟨hB,hW,-,-⟩:=zGZ count bytes n f h hk
 have hgv:=(zGq count bytes n f h).1
 obtain⟨n0,he⟩:=zGk count bytes n f h
 have hg:=(Va.zEI count bytes n f h).2.2
 rcases zIw hg c s n 0 ⟨c,s,fun _=>0⟩ aO rfl with hno|⟨j,t,t',e,hj,b1,b2,b3,b4,b5,b6⟩
 ·obtain⟨q',hq⟩:=hno (n - 1) aO aO
  rw[zLe _ (zOl _ he) q'] at hq;cases hq
 ·obtain⟨h',e1,e2,e3⟩:=zMp yY zQV hB hW hgv regs count pc h3 h16 (fun _=>0) c s j hj t t' e b2 b3
  exact⟨j,e,h',hj,b1,e1,e2.trans b4,e3.trans b5,b6⟩
end Go.Proofs.Ytkmjenjahbicpaa.Ho
