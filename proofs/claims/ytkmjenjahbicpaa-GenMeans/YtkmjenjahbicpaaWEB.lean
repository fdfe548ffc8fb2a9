import Derived.Test.YtkmjenjahbicpaaVJ07
set_option linter.unusedVariables false
set_option linter.unusedSimpArgs false
set_option maxHeartbeats 1000000
namespace Go.Proofs.Ytkmjenjahbicpaa.Va
open Go.RowKit
set_option maxRecDepth 100000
def zRg(w:Int):Int:=if w=0 then 0 else if w=1 then 2 else if w=2 then 4 else if w=3 then 5 else if w=4 then 6 else if w=5 then 9 else if w=6 then 10 else if w=7 then 11 else if w=8 then 12 else if w=9 then 13 else 0
def zBv(w:Int)(a b:Nat):Int:=
 if w < 10 then Fl.uG (zRg w) a b 0 else if w=10 then((a*b / 4294967296:Nat):Int) else if w=11 then(if b=0 then 4294967295 else((a / b:Nat):Int))
 else if w=12 then(if b=0 then(a:Int) else((a%b:Nat):Int)) else if w=13 then Fl.isF ((a:Int)==(b:Int)) 1 else if w=14 then Fl.isF (decide (a < b)) 1 else Fl.isF (decide (Fl.sgn a < Fl.sgn b)) 1
theorem zKx(a b:Nat)(ha:a < 4294967296)(hb:b < 4294967296):a*b < 18446744073709551616:=by
 have:a*b≤4294967295*4294967295:=Nat.mul_le_mul aO aO
 omega
theorem zSD(a b:Nat)(w:World)(ha:a < 4294967296)(hb:b < 4294967296):Calls Try.prog 58 #[.int .i64 0,.int .u32 a,.int .u32 b] w fun e w'=>e=.returned (.int .u32 (zBv 0 a b))∧Below w.heap.size w w':=by
 have HA:Hid _:=ha
 have HB:Hid _:=hb
 clear ha hb
 go_enter Try.func58,Try.ntmps58
 go_wp2_with (go_at_call 84;refine(Fl.zAB 0 a b 0 _ HA.out HB.out aD).mono ?_;rintro e w1 ⟨rfl,rfl⟩)
 go_ret
 exact⟨rfl,yS w _⟩
theorem zSE(a b:Nat)(w:World)(ha:a < 4294967296)(hb:b < 4294967296):Calls Try.prog 58 #[.int .i64 1,.int .u32 a,.int .u32 b] w fun e w'=>e=.returned (.int .u32 (zBv 1 a b))∧Below w.heap.size w w':=by
 have HA:Hid _:=ha
 have HB:Hid _:=hb
 clear ha hb
 go_enter Try.func58,Try.ntmps58
 go_wp2_with (go_at_call 84;refine(Fl.zAB 2 a b 0 _ HA.out HB.out aD).mono ?_;rintro e w1 ⟨rfl,rfl⟩)
 go_ret
 exact⟨rfl,yS w _⟩
theorem zSF(a b:Nat)(w:World)(ha:a < 4294967296)(hb:b < 4294967296):Calls Try.prog 58 #[.int .i64 2,.int .u32 a,.int .u32 b] w fun e w'=>e=.returned (.int .u32 (zBv 2 a b))∧Below w.heap.size w w':=by
 have HA:Hid _:=ha
 have HB:Hid _:=hb
 clear ha hb
 go_enter Try.func58,Try.ntmps58
 go_wp2_with (go_at_call 84;refine(Fl.zAB 4 a b 0 _ HA.out HB.out aD).mono ?_;rintro e w1 ⟨rfl,rfl⟩)
 go_ret
 exact⟨rfl,yS w _⟩
theorem zSG(a b:Nat)(w:World)(ha:a < 4294967296)(hb:b < 4294967296):Calls Try.prog 58 #[.int .i64 3,.int .u32 a,.int .u32 b] w fun e w'=>e=.returned (.int .u32 (zBv 3 a b))∧Below w.heap.size w w':=by
 have HA:Hid _:=ha
 have HB:Hid _:=hb
 clear ha hb
 go_enter Try.func58,Try.ntmps58
 go_wp2_with (go_at_call 84;refine(Fl.zAB 5 a b 0 _ HA.out HB.out aD).mono ?_;rintro e w1 ⟨rfl,rfl⟩)
 go_ret
 exact⟨rfl,yS w _⟩
theorem zSH(a b:Nat)(w:World)(ha:a < 4294967296)(hb:b < 4294967296):Calls Try.prog 58 #[.int .i64 4,.int .u32 a,.int .u32 b] w fun e w'=>e=.returned (.int .u32 (zBv 4 a b))∧Below w.heap.size w w':=by
 have HA:Hid _:=ha
 have HB:Hid _:=hb
 clear ha hb
 go_enter Try.func58,Try.ntmps58
 go_wp2_with (go_at_call 84;refine(Fl.zAB 6 a b 0 _ HA.out HB.out aD).mono ?_;rintro e w1 ⟨rfl,rfl⟩)
 go_ret
 exact⟨rfl,yS w _⟩
theorem zSI(a b:Nat)(w:World)(ha:a < 4294967296)(hb:b < 4294967296):Calls Try.prog 58 #[.int .i64 5,.int .u32 a,.int .u32 b] w fun e w'=>e=.returned (.int .u32 (zBv 5 a b))∧Below w.heap.size w w':=by
 have HA:Hid _:=ha
 have HB:Hid _:=hb
 clear ha hb
 go_enter Try.func58,Try.ntmps58
 go_wp2_with (go_at_call 84;refine(Fl.zAB 9 a b 0 _ HA.out HB.out aD).mono ?_;rintro e w1 ⟨rfl,rfl⟩)
 go_ret
 exact⟨rfl,yS w _⟩
theorem zSJ(a b:Nat)(w:World)(ha:a < 4294967296)(hb:b < 4294967296):Calls Try.prog 58 #[.int .i64 6,.int .u32 a,.int .u32 b] w fun e w'=>e=.returned (.int .u32 (zBv 6 a b))∧Below w.heap.size w w':=by
 have HA:Hid _:=ha
 have HB:Hid _:=hb
 clear ha hb
 go_enter Try.func58,Try.ntmps58
 go_wp2_with (go_at_call 84;refine(Fl.zAB 10 a b 0 _ HA.out HB.out aD).mono ?_;rintro e w1 ⟨rfl,rfl⟩)
 go_ret
 exact⟨rfl,yS w _⟩
theorem zSK(a b:Nat)(w:World)(ha:a < 4294967296)(hb:b < 4294967296):Calls Try.prog 58 #[.int .i64 7,.int .u32 a,.int .u32 b] w fun e w'=>e=.returned (.int .u32 (zBv 7 a b))∧Below w.heap.size w w':=by
 have HA:Hid _:=ha
 have HB:Hid _:=hb
 clear ha hb
 go_enter Try.func58,Try.ntmps58
 go_wp2_with (go_at_call 84;refine(Fl.zAB 11 a b 0 _ HA.out HB.out aD).mono ?_;rintro e w1 ⟨rfl,rfl⟩)
 go_ret
 exact⟨rfl,yS w _⟩
theorem zSL(a b:Nat)(w:World)(ha:a < 4294967296)(hb:b < 4294967296):Calls Try.prog 58 #[.int .i64 8,.int .u32 a,.int .u32 b] w fun e w'=>e=.returned (.int .u32 (zBv 8 a b))∧Below w.heap.size w w':=by
 have HA:Hid _:=ha
 have HB:Hid _:=hb
 clear ha hb
 go_enter Try.func58,Try.ntmps58
 go_wp2_with (go_at_call 84;refine(Fl.zAB 12 a b 0 _ HA.out HB.out aD).mono ?_;rintro e w1 ⟨rfl,rfl⟩)
 go_ret
 exact⟨rfl,yS w _⟩
theorem zSM(a b:Nat)(w:World)(ha:a < 4294967296)(hb:b < 4294967296):Calls Try.prog 58 #[.int .i64 9,.int .u32 a,.int .u32 b] w fun e w'=>e=.returned (.int .u32 (zBv 9 a b))∧Below w.heap.size w w':=by
 have HA:Hid _:=ha
 have HB:Hid _:=hb
 clear ha hb
 go_enter Try.func58,Try.ntmps58
 go_wp2_with (go_at_call 84;refine(Fl.zAB 13 a b 0 _ HA.out HB.out aD).mono ?_;rintro e w1 ⟨rfl,rfl⟩)
 go_ret
 exact⟨rfl,yS w _⟩
theorem zQH(a b:Nat)(w:World)(ha:a < 4294967296)(hb:b < 4294967296):Calls Try.prog 58 #[.int .i64 10,.int .u32 a,.int .u32 b] w fun e w'=>e=.returned (.int .u32 (zBv 10 a b))∧Below w.heap.size w w':=by
 obtain⟨p,hp⟩:∃ p:Nat,a*b=p:=⟨_,rfl⟩
 have hpl:p < 18446744073709551616:=hp▸zKx a b ha hb
 have hpi:(a:Int)*(b:Int)=(p:Int):=by rw[← Int.natCast_mul,hp]
 have p0:(0:Int)≤(p:Int):=aO
 have p1:(p:Int) < 18446744073709551616:=aO
 have a0:(0:Int)≤(a:Int):=aO
 have a1:(a:Int) < 4294967296:=aO
 have b0:(0:Int)≤(b:Int):=aO
 have b1:(b:Int) < 4294967296:=aO
 have HP:Hid _:=hp
 clear hp ha hb
 go_enter Try.func58,Try.ntmps58
 go_wp2
 go_ret
 exact⟨zC4 (by show _=((a*b / 4294967296:Nat):Int);rw[HP.out];omega),yS w _⟩
theorem zQI(a b:Nat)(w:World)(ha:a < 4294967296)(hb:b < 4294967296):Calls Try.prog 58 #[.int .i64 11,.int .u32 a,.int .u32 b] w fun e w'=>e=.returned (.int .u32 (zBv 11 a b))∧Below w.heap.size w w':=by
 by_cases h:b=0
 ·subst h
  go_enter Try.func58,Try.ntmps58
  go_wp2
  go_ret
  exact⟨rfl,yS w _⟩
 ·have d:((b:Int)==0)=false:=by simp;omega
  have a0:(0:Int)≤(a:Int):=aO
  have b0:(1:Int)≤(b:Int):=aO
  go_enter Try.func58,Try.ntmps58
  go_wp2
  go_ret
  exact⟨zC4 (by
   have e:((a:Int) / (b:Int))%4294967296=((a / b:Nat):Int):=by(have hq:=Nat.div_le_self a b;rw[← Int.natCast_ediv];generalize a / b=q at hq ⊢;omega)
   simp only[zBv,h];simpa using e),yS w _⟩
theorem zQJ(a b:Nat)(w:World)(ha:a < 4294967296)(hb:b < 4294967296):Calls Try.prog 58 #[.int .i64 12,.int .u32 a,.int .u32 b] w fun e w'=>e=.returned (.int .u32 (zBv 12 a b))∧Below w.heap.size w w':=by
 by_cases h:b=0
 ·subst h
  go_enter Try.func58,Try.ntmps58
  go_wp2
  go_ret
  exact⟨rfl,yS w _⟩
 ·have d:((b:Int)==0)=false:=by simp;omega
  have a0:(0:Int)≤(a:Int):=aO
  have b0:(1:Int)≤(b:Int):=aO
  go_enter Try.func58,Try.ntmps58
  go_wp2
  go_ret
  exact⟨zC4 (by simp[zBv,h]),yS w _⟩
theorem zQK(a b:Nat)(w:World)(ha:a < 4294967296)(hb:b < 4294967296):Calls Try.prog 58 #[.int .i64 13,.int .u32 a,.int .u32 b] w fun e w'=>e=.returned (.int .u32 (zBv 13 a b))∧Below w.heap.size w w':=by
 go_enter Try.func58,Try.ntmps58
 go_wp2_with (go_at_call 59;refine(zDb _ _).mono ?_;rintro e w1 ⟨rfl,rfl⟩)
 go_ret
 exact⟨rfl,yS w _⟩
theorem zQL(a b:Nat)(w:World)(ha:a < 4294967296)(hb:b < 4294967296):Calls Try.prog 58 #[.int .i64 14,.int .u32 a,.int .u32 b] w fun e w'=>e=.returned (.int .u32 (zBv 14 a b))∧Below w.heap.size w w':=by
 go_enter Try.func58,Try.ntmps58
 go_wp2_with (go_at_call 59;refine(zDb _ _).mono ?_;rintro e w1 ⟨rfl,rfl⟩)
 go_ret
 exact⟨rfl,yS w _⟩
theorem zQM(a b:Nat)(w:World)(ha:a < 4294967296)(hb:b < 4294967296):Calls Try.prog 58 #[.int .i64 15,.int .u32 a,.int .u32 b] w fun e w'=>e=.returned (.int .u32 (zBv 15 a b))∧Below w.heap.size w w':=by
 have a0:(0:Int)≤(a:Int):=aO
 have a1:(a:Int) < 4294967296:=aO
 have b0:(0:Int)≤(b:Int):=aO
 have b1:(b:Int) < 4294967296:=aO
 go_enter Try.func58,Try.ntmps58
 go_wp2_with (first
  | (go_at_call 85;have HZ:=HQ1;refine(zGE b _ b0 b1).mono ?_;rintro e w1 ⟨rfl,rfl⟩)
  | (go_at_call 85;refine(zGE a _ a0 a1).mono ?_;rintro e w1 ⟨rfl,rfl⟩;have HQ1:Hid True:=trivial)
  | (go_at_call 59;refine(zDb _ _).mono ?_;rintro e w1 ⟨rfl,rfl⟩))
 go_ret
 exact⟨rfl,yS w _⟩
theorem zMa(k:Int)(a b:Nat)(w:World)(ha:a < 4294967296)(hb:b < 4294967296)(hk:0≤k∧k≤15):Calls Try.prog 58 #[.int .i64 k,.int .u32 a,.int .u32 b] w fun e w'=>e=.returned (.int .u32 (zBv k a b))∧Below w.heap.size w w':=by
 rcases(by omega:k=0∨k=1∨k=2∨k=3∨k=4∨k=5∨k=6∨k=7∨k=8∨k=9∨k=10∨k=11∨k=12∨k=13∨k=14∨k=15) with rfl|rfl|rfl|rfl|rfl|rfl|rfl|rfl|rfl|rfl|rfl|rfl|rfl|rfl|rfl|rfl
 ·exact zSD a b w ha hb
 ·exact zSE a b w ha hb
 ·exact zSF a b w ha hb
 ·exact zSG a b w ha hb
 ·exact zSH a b w ha hb
 ·exact zSI a b w ha hb
 ·exact zSJ a b w ha hb
 ·exact zSK a b w ha hb
 ·exact zSL a b w ha hb
 ·exact zSM a b w ha hb
 ·exact zQH a b w ha hb
 ·exact zQI a b w ha hb
 ·exact zQJ a b w ha hb
 ·exact zQK a b w ha hb
 ·exact zQL a b w ha hb
 ·exact zQM a b w ha hb
end Go.Proofs.Ytkmjenjahbicpaa.Va
