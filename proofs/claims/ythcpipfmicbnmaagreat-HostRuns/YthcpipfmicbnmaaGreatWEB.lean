import Derived.Test.YthcpipfmicbnmaaGreatWEA
set_option linter.unusedVariables false
set_option linter.unusedSimpArgs false
set_option maxHeartbeats 1000000
namespace Go.Proofs.YthcpipfmicbnmaaGreat.Va
open Go.RowKit
set_option maxRecDepth 100000
def zBk(w:Int):Int:=if w=0 then 0 else if w=1 then 2 else if w=2 then 4 else if w=3 then 5 else if w=4 then 6 else if w=5 then 9 else if w=6 then 10 else if w=7 then 11 else if w=8 then 12 else if w=9 then 13 else 0
def yX(w:Int)(a b:Nat):Int:=
 if w < 10 then Fl.vG (zBk w) a b 0 else if w=10 then((a*b / 4294967296:Nat):Int) else if w=11 then(if b=0 then 4294967295 else((a / b:Nat):Int))
 else if w=12 then(if b=0 then(a:Int) else((a%b:Nat):Int)) else if w=13 then Fl.uH ((a:Int)==(b:Int)) 1 else if w=14 then Fl.uH (decide (a < b)) 1 else Fl.uH (decide (Fl.vP a < Fl.vP b)) 1
theorem zIx(a b:Nat)(ha:a < 4294967296)(hb:b < 4294967296):a*b < 18446744073709551616:=by
 have:a*b≤4294967295*4294967295:=Nat.mul_le_mul aO aO
 omega
theorem zOX(a b:Nat)(w:World)(ha:a < 4294967296)(hb:b < 4294967296):Calls Tryz.prog 75 #[.int .i64 0,.int .u32 a,.int .u32 b] w fun e w'=>e=.returned (.int .u32 (yX 0 a b))∧Below w.heap.size w w':=by
 have HA:Hid _:=ha
 have HB:Hid _:=hb
 clear ha hb
 go_enter Tryz.func75,Tryz.ntmps75
 go_wp2_with (go_at_call 94;refine(Fl.uZ 0 a b 0 _ HA.out HB.out aD).mono ?_;rintro e w1 ⟨rfl,rfl⟩)
 go_ret
 exact⟨rfl,yF w _⟩
theorem zOY(a b:Nat)(w:World)(ha:a < 4294967296)(hb:b < 4294967296):Calls Tryz.prog 75 #[.int .i64 1,.int .u32 a,.int .u32 b] w fun e w'=>e=.returned (.int .u32 (yX 1 a b))∧Below w.heap.size w w':=by
 have HA:Hid _:=ha
 have HB:Hid _:=hb
 clear ha hb
 go_enter Tryz.func75,Tryz.ntmps75
 go_wp2_with (go_at_call 94;refine(Fl.uZ 2 a b 0 _ HA.out HB.out aD).mono ?_;rintro e w1 ⟨rfl,rfl⟩)
 go_ret
 exact⟨rfl,yF w _⟩
theorem zOZ(a b:Nat)(w:World)(ha:a < 4294967296)(hb:b < 4294967296):Calls Tryz.prog 75 #[.int .i64 2,.int .u32 a,.int .u32 b] w fun e w'=>e=.returned (.int .u32 (yX 2 a b))∧Below w.heap.size w w':=by
 have HA:Hid _:=ha
 have HB:Hid _:=hb
 clear ha hb
 go_enter Tryz.func75,Tryz.ntmps75
 go_wp2_with (go_at_call 94;refine(Fl.uZ 4 a b 0 _ HA.out HB.out aD).mono ?_;rintro e w1 ⟨rfl,rfl⟩)
 go_ret
 exact⟨rfl,yF w _⟩
theorem zO0(a b:Nat)(w:World)(ha:a < 4294967296)(hb:b < 4294967296):Calls Tryz.prog 75 #[.int .i64 3,.int .u32 a,.int .u32 b] w fun e w'=>e=.returned (.int .u32 (yX 3 a b))∧Below w.heap.size w w':=by
 have HA:Hid _:=ha
 have HB:Hid _:=hb
 clear ha hb
 go_enter Tryz.func75,Tryz.ntmps75
 go_wp2_with (go_at_call 94;refine(Fl.uZ 5 a b 0 _ HA.out HB.out aD).mono ?_;rintro e w1 ⟨rfl,rfl⟩)
 go_ret
 exact⟨rfl,yF w _⟩
theorem zO1(a b:Nat)(w:World)(ha:a < 4294967296)(hb:b < 4294967296):Calls Tryz.prog 75 #[.int .i64 4,.int .u32 a,.int .u32 b] w fun e w'=>e=.returned (.int .u32 (yX 4 a b))∧Below w.heap.size w w':=by
 have HA:Hid _:=ha
 have HB:Hid _:=hb
 clear ha hb
 go_enter Tryz.func75,Tryz.ntmps75
 go_wp2_with (go_at_call 94;refine(Fl.uZ 6 a b 0 _ HA.out HB.out aD).mono ?_;rintro e w1 ⟨rfl,rfl⟩)
 go_ret
 exact⟨rfl,yF w _⟩
theorem zO2(a b:Nat)(w:World)(ha:a < 4294967296)(hb:b < 4294967296):Calls Tryz.prog 75 #[.int .i64 5,.int .u32 a,.int .u32 b] w fun e w'=>e=.returned (.int .u32 (yX 5 a b))∧Below w.heap.size w w':=by
 have HA:Hid _:=ha
 have HB:Hid _:=hb
 clear ha hb
 go_enter Tryz.func75,Tryz.ntmps75
 go_wp2_with (go_at_call 94;refine(Fl.uZ 9 a b 0 _ HA.out HB.out aD).mono ?_;rintro e w1 ⟨rfl,rfl⟩)
 go_ret
 exact⟨rfl,yF w _⟩
theorem zO3(a b:Nat)(w:World)(ha:a < 4294967296)(hb:b < 4294967296):Calls Tryz.prog 75 #[.int .i64 6,.int .u32 a,.int .u32 b] w fun e w'=>e=.returned (.int .u32 (yX 6 a b))∧Below w.heap.size w w':=by
 have HA:Hid _:=ha
 have HB:Hid _:=hb
 clear ha hb
 go_enter Tryz.func75,Tryz.ntmps75
 go_wp2_with (go_at_call 94;refine(Fl.uZ 10 a b 0 _ HA.out HB.out aD).mono ?_;rintro e w1 ⟨rfl,rfl⟩)
 go_ret
 exact⟨rfl,yF w _⟩
theorem zO4(a b:Nat)(w:World)(ha:a < 4294967296)(hb:b < 4294967296):Calls Tryz.prog 75 #[.int .i64 7,.int .u32 a,.int .u32 b] w fun e w'=>e=.returned (.int .u32 (yX 7 a b))∧Below w.heap.size w w':=by
 have HA:Hid _:=ha
 have HB:Hid _:=hb
 clear ha hb
 go_enter Tryz.func75,Tryz.ntmps75
 go_wp2_with (go_at_call 94;refine(Fl.uZ 11 a b 0 _ HA.out HB.out aD).mono ?_;rintro e w1 ⟨rfl,rfl⟩)
 go_ret
 exact⟨rfl,yF w _⟩
theorem zO5(a b:Nat)(w:World)(ha:a < 4294967296)(hb:b < 4294967296):Calls Tryz.prog 75 #[.int .i64 8,.int .u32 a,.int .u32 b] w fun e w'=>e=.returned (.int .u32 (yX 8 a b))∧Below w.heap.size w w':=by
 have HA:Hid _:=ha
 have HB:Hid _:=hb
 clear ha hb
 go_enter Tryz.func75,Tryz.ntmps75
 go_wp2_with (go_at_call 94;refine(Fl.uZ 12 a b 0 _ HA.out HB.out aD).mono ?_;rintro e w1 ⟨rfl,rfl⟩)
 go_ret
 exact⟨rfl,yF w _⟩
theorem zO6(a b:Nat)(w:World)(ha:a < 4294967296)(hb:b < 4294967296):Calls Tryz.prog 75 #[.int .i64 9,.int .u32 a,.int .u32 b] w fun e w'=>e=.returned (.int .u32 (yX 9 a b))∧Below w.heap.size w w':=by
 have HA:Hid _:=ha
 have HB:Hid _:=hb
 clear ha hb
 go_enter Tryz.func75,Tryz.ntmps75
 go_wp2_with (go_at_call 94;refine(Fl.uZ 13 a b 0 _ HA.out HB.out aD).mono ?_;rintro e w1 ⟨rfl,rfl⟩)
 go_ret
 exact⟨rfl,yF w _⟩
theorem zNf(a b:Nat)(w:World)(ha:a < 4294967296)(hb:b < 4294967296):Calls Tryz.prog 75 #[.int .i64 10,.int .u32 a,.int .u32 b] w fun e w'=>e=.returned (.int .u32 (yX 10 a b))∧Below w.heap.size w w':=by
 obtain⟨p,hp⟩:∃ p:Nat,a*b=p:=⟨_,rfl⟩
 have hpl:p < 18446744073709551616:=hp▸zIx a b ha hb
 have hpi:(a:Int)*(b:Int)=(p:Int):=by rw[← Int.natCast_mul,hp]
 have p0:(0:Int)≤(p:Int):=aO
 have p1:(p:Int) < 18446744073709551616:=aO
 have a0:(0:Int)≤(a:Int):=aO
 have a1:(a:Int) < 4294967296:=aO
 have b0:(0:Int)≤(b:Int):=aO
 have b1:(b:Int) < 4294967296:=aO
 have HP:Hid _:=hp
 clear hp ha hb
 go_enter Tryz.func75,Tryz.ntmps75
 go_wp2
 go_ret
 exact⟨uQ (by show _=((a*b / 4294967296:Nat):Int);rw[HP.out];omega),yF w _⟩
theorem zNg(a b:Nat)(w:World)(ha:a < 4294967296)(hb:b < 4294967296):Calls Tryz.prog 75 #[.int .i64 11,.int .u32 a,.int .u32 b] w fun e w'=>e=.returned (.int .u32 (yX 11 a b))∧Below w.heap.size w w':=by
 by_cases h:b=0
 ·subst h
  go_enter Tryz.func75,Tryz.ntmps75
  go_wp2
  go_ret
  exact⟨rfl,yF w _⟩
 ·have d:((b:Int)==0)=false:=by simp;omega
  have a0:(0:Int)≤(a:Int):=aO
  have b0:(1:Int)≤(b:Int):=aO
  go_enter Tryz.func75,Tryz.ntmps75
  go_wp2
  go_ret
  exact⟨uQ (by
   have e:((a:Int) / (b:Int))%4294967296=((a / b:Nat):Int):=by(have hq:=Nat.div_le_self a b;rw[← Int.natCast_ediv];generalize a / b=q at hq ⊢;omega)
   simp only[yX,h];simpa using e),yF w _⟩
theorem zNh(a b:Nat)(w:World)(ha:a < 4294967296)(hb:b < 4294967296):Calls Tryz.prog 75 #[.int .i64 12,.int .u32 a,.int .u32 b] w fun e w'=>e=.returned (.int .u32 (yX 12 a b))∧Below w.heap.size w w':=by
 by_cases h:b=0
 ·subst h
  go_enter Tryz.func75,Tryz.ntmps75
  go_wp2
  go_ret
  exact⟨rfl,yF w _⟩
 ·have d:((b:Int)==0)=false:=by simp;omega
  have a0:(0:Int)≤(a:Int):=aO
  have b0:(1:Int)≤(b:Int):=aO
  go_enter Tryz.func75,Tryz.ntmps75
  go_wp2
  go_ret
  exact⟨uQ (by simp[yX,h]),yF w _⟩
theorem zNi(a b:Nat)(w:World)(ha:a < 4294967296)(hb:b < 4294967296):Calls Tryz.prog 75 #[.int .i64 13,.int .u32 a,.int .u32 b] w fun e w'=>e=.returned (.int .u32 (yX 13 a b))∧Below w.heap.size w w':=by
 go_enter Tryz.func75,Tryz.ntmps75
 go_wp2_with (go_at_call 76;refine(zBW _ _).mono ?_;rintro e w1 ⟨rfl,rfl⟩)
 go_ret
 exact⟨rfl,yF w _⟩
theorem zNj(a b:Nat)(w:World)(ha:a < 4294967296)(hb:b < 4294967296):Calls Tryz.prog 75 #[.int .i64 14,.int .u32 a,.int .u32 b] w fun e w'=>e=.returned (.int .u32 (yX 14 a b))∧Below w.heap.size w w':=by
 go_enter Tryz.func75,Tryz.ntmps75
 go_wp2_with (go_at_call 76;refine(zBW _ _).mono ?_;rintro e w1 ⟨rfl,rfl⟩)
 go_ret
 exact⟨rfl,yF w _⟩
theorem zNk(a b:Nat)(w:World)(ha:a < 4294967296)(hb:b < 4294967296):Calls Tryz.prog 75 #[.int .i64 15,.int .u32 a,.int .u32 b] w fun e w'=>e=.returned (.int .u32 (yX 15 a b))∧Below w.heap.size w w':=by
 have a0:(0:Int)≤(a:Int):=aO
 have a1:(a:Int) < 4294967296:=aO
 have b0:(0:Int)≤(b:Int):=aO
 have b1:(b:Int) < 4294967296:=aO
 go_enter Tryz.func75,Tryz.ntmps75
 go_wp2_with (first
  | (go_at_call 95;have HZ:=HQ1;refine(zFh b _ b0 b1).mono ?_;rintro e w1 ⟨rfl,rfl⟩)
  | (go_at_call 95;refine(zFh a _ a0 a1).mono ?_;rintro e w1 ⟨rfl,rfl⟩;have HQ1:Hid True:=trivial)
  | (go_at_call 76;refine(zBW _ _).mono ?_;rintro e w1 ⟨rfl,rfl⟩))
 go_ret
 exact⟨rfl,yF w _⟩
theorem zJJ(k:Int)(a b:Nat)(w:World)(ha:a < 4294967296)(hb:b < 4294967296)(hk:0≤k∧k≤15):Calls Tryz.prog 75 #[.int .i64 k,.int .u32 a,.int .u32 b] w fun e w'=>e=.returned (.int .u32 (yX k a b))∧Below w.heap.size w w':=by
 rcases(by omega:k=0∨k=1∨k=2∨k=3∨k=4∨k=5∨k=6∨k=7∨k=8∨k=9∨k=10∨k=11∨k=12∨k=13∨k=14∨k=15) with rfl|rfl|rfl|rfl|rfl|rfl|rfl|rfl|rfl|rfl|rfl|rfl|rfl|rfl|rfl|rfl
 ·exact zOX a b w ha hb
 ·exact zOY a b w ha hb
 ·exact zOZ a b w ha hb
 ·exact zO0 a b w ha hb
 ·exact zO1 a b w ha hb
 ·exact zO2 a b w ha hb
 ·exact zO3 a b w ha hb
 ·exact zO4 a b w ha hb
 ·exact zO5 a b w ha hb
 ·exact zO6 a b w ha hb
 ·exact zNf a b w ha hb
 ·exact zNg a b w ha hb
 ·exact zNh a b w ha hb
 ·exact zNi a b w ha hb
 ·exact zNj a b w ha hb
 ·exact zNk a b w ha hb
end Go.Proofs.YthcpipfmicbnmaaGreat.Va
