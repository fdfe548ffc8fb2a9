import Derived.Test.YtfokgedjocnnmaaGreatJ29
set_option linter.unusedVariables false
set_option linter.unusedSimpArgs false
set_option maxHeartbeats 1000000
namespace Go.Proofs.YtfokgedjocnnmaaGreat
open Go.RowKit
set_option maxRecDepth 100000
def aluOf(w:Int):Int:=if w=0 then 0 else if w=1 then 2 else if w=2 then 4 else if w=3 then 5 else if w=4 then 6 else if w=5 then 9 else if w=6 then 10 else if w=7 then 11 else if w=8 then 12 else if w=9 then 13 else 0
def binF(w:Int)(a b:Nat):Int:=
 if w < 10 then Fl.recX (aluOf w) a b 0 else if w=10 then((a*b / 4294967296:Nat):Int) else if w=11 then(if b=0 then 4294967295 else((a / b:Nat):Int))
 else if w=12 then(if b=0 then(a:Int) else((a%b:Nat):Int)) else if w=13 then Fl.isF ((a:Int)==(b:Int)) 1 else if w=14 then Fl.isF (decide (a < b)) 1 else Fl.isF (decide (Fl.sgn a < Fl.sgn b)) 1
theorem mul_bd(a b:Nat)(ha:a < 4294967296)(hb:b < 4294967296):a*b < 18446744073709551616:=by
 have:a*b≤4294967295*4294967295:=Nat.mul_le_mul zo zo
 omega
theorem rbin0(a b:Nat)(w:World)(ha:a < 4294967296)(hb:b < 4294967296):Calls Tryz.prog 105 #[.int .i64 0,.int .u32 a,.int .u32 b] w fun e w'=>e=.returned (.int .u32 (binF 0 a b))∧Below w.heap.size w w':=by
 have HA:Hid _:=ha
 have HB:Hid _:=hb
 clear ha hb
 go_enter Tryz.func105,Tryz.ntmps105
 go_wp2_with (go_at_call 65;refine(Fl.reck_any 0 a b 0 _ HA.out HB.out (by decide)).mono ?_;rintro e w1 ⟨rfl,rfl⟩)
 go_ret
 exact⟨rfl,wk_bel1 w _⟩
theorem rbin1(a b:Nat)(w:World)(ha:a < 4294967296)(hb:b < 4294967296):Calls Tryz.prog 105 #[.int .i64 1,.int .u32 a,.int .u32 b] w fun e w'=>e=.returned (.int .u32 (binF 1 a b))∧Below w.heap.size w w':=by
 have HA:Hid _:=ha
 have HB:Hid _:=hb
 clear ha hb
 go_enter Tryz.func105,Tryz.ntmps105
 go_wp2_with (go_at_call 65;refine(Fl.reck_any 2 a b 0 _ HA.out HB.out (by decide)).mono ?_;rintro e w1 ⟨rfl,rfl⟩)
 go_ret
 exact⟨rfl,wk_bel1 w _⟩
theorem rbin2(a b:Nat)(w:World)(ha:a < 4294967296)(hb:b < 4294967296):Calls Tryz.prog 105 #[.int .i64 2,.int .u32 a,.int .u32 b] w fun e w'=>e=.returned (.int .u32 (binF 2 a b))∧Below w.heap.size w w':=by
 have HA:Hid _:=ha
 have HB:Hid _:=hb
 clear ha hb
 go_enter Tryz.func105,Tryz.ntmps105
 go_wp2_with (go_at_call 65;refine(Fl.reck_any 4 a b 0 _ HA.out HB.out (by decide)).mono ?_;rintro e w1 ⟨rfl,rfl⟩)
 go_ret
 exact⟨rfl,wk_bel1 w _⟩
theorem rbin3(a b:Nat)(w:World)(ha:a < 4294967296)(hb:b < 4294967296):Calls Tryz.prog 105 #[.int .i64 3,.int .u32 a,.int .u32 b] w fun e w'=>e=.returned (.int .u32 (binF 3 a b))∧Below w.heap.size w w':=by
 have HA:Hid _:=ha
 have HB:Hid _:=hb
 clear ha hb
 go_enter Tryz.func105,Tryz.ntmps105
 go_wp2_with (go_at_call 65;refine(Fl.reck_any 5 a b 0 _ HA.out HB.out (by decide)).mono ?_;rintro e w1 ⟨rfl,rfl⟩)
 go_ret
 exact⟨rfl,wk_bel1 w _⟩
theorem rbin4(a b:Nat)(w:World)(ha:a < 4294967296)(hb:b < 4294967296):Calls Tryz.prog 105 #[.int .i64 4,.int .u32 a,.int .u32 b] w fun e w'=>e=.returned (.int .u32 (binF 4 a b))∧Below w.heap.size w w':=by
 have HA:Hid _:=ha
 have HB:Hid _:=hb
 clear ha hb
 go_enter Tryz.func105,Tryz.ntmps105
 go_wp2_with (go_at_call 65;refine(Fl.reck_any 6 a b 0 _ HA.out HB.out (by decide)).mono ?_;rintro e w1 ⟨rfl,rfl⟩)
 go_ret
 exact⟨rfl,wk_bel1 w _⟩
theorem rbin5(a b:Nat)(w:World)(ha:a < 4294967296)(hb:b < 4294967296):Calls Tryz.prog 105 #[.int .i64 5,.int .u32 a,.int .u32 b] w fun e w'=>e=.returned (.int .u32 (binF 5 a b))∧Below w.heap.size w w':=by
 have HA:Hid _:=ha
 have HB:Hid _:=hb
 clear ha hb
 go_enter Tryz.func105,Tryz.ntmps105
 go_wp2_with (go_at_call 65;refine(Fl.reck_any 9 a b 0 _ HA.out HB.out (by decide)).mono ?_;rintro e w1 ⟨rfl,rfl⟩)
 go_ret
 exact⟨rfl,wk_bel1 w _⟩
theorem rbin6(a b:Nat)(w:World)(ha:a < 4294967296)(hb:b < 4294967296):Calls Tryz.prog 105 #[.int .i64 6,.int .u32 a,.int .u32 b] w fun e w'=>e=.returned (.int .u32 (binF 6 a b))∧Below w.heap.size w w':=by
 have HA:Hid _:=ha
 have HB:Hid _:=hb
 clear ha hb
 go_enter Tryz.func105,Tryz.ntmps105
 go_wp2_with (go_at_call 65;refine(Fl.reck_any 10 a b 0 _ HA.out HB.out (by decide)).mono ?_;rintro e w1 ⟨rfl,rfl⟩)
 go_ret
 exact⟨rfl,wk_bel1 w _⟩
theorem rbin7(a b:Nat)(w:World)(ha:a < 4294967296)(hb:b < 4294967296):Calls Tryz.prog 105 #[.int .i64 7,.int .u32 a,.int .u32 b] w fun e w'=>e=.returned (.int .u32 (binF 7 a b))∧Below w.heap.size w w':=by
 have HA:Hid _:=ha
 have HB:Hid _:=hb
 clear ha hb
 go_enter Tryz.func105,Tryz.ntmps105
 go_wp2_with (go_at_call 65;refine(Fl.reck_any 11 a b 0 _ HA.out HB.out (by decide)).mono ?_;rintro e w1 ⟨rfl,rfl⟩)
 go_ret
 exact⟨rfl,wk_bel1 w _⟩
theorem rbin8(a b:Nat)(w:World)(ha:a < 4294967296)(hb:b < 4294967296):Calls Tryz.prog 105 #[.int .i64 8,.int .u32 a,.int .u32 b] w fun e w'=>e=.returned (.int .u32 (binF 8 a b))∧Below w.heap.size w w':=by
 have HA:Hid _:=ha
 have HB:Hid _:=hb
 clear ha hb
 go_enter Tryz.func105,Tryz.ntmps105
 go_wp2_with (go_at_call 65;refine(Fl.reck_any 12 a b 0 _ HA.out HB.out (by decide)).mono ?_;rintro e w1 ⟨rfl,rfl⟩)
 go_ret
 exact⟨rfl,wk_bel1 w _⟩
theorem rbin9(a b:Nat)(w:World)(ha:a < 4294967296)(hb:b < 4294967296):Calls Tryz.prog 105 #[.int .i64 9,.int .u32 a,.int .u32 b] w fun e w'=>e=.returned (.int .u32 (binF 9 a b))∧Below w.heap.size w w':=by
 have HA:Hid _:=ha
 have HB:Hid _:=hb
 clear ha hb
 go_enter Tryz.func105,Tryz.ntmps105
 go_wp2_with (go_at_call 65;refine(Fl.reck_any 13 a b 0 _ HA.out HB.out (by decide)).mono ?_;rintro e w1 ⟨rfl,rfl⟩)
 go_ret
 exact⟨rfl,wk_bel1 w _⟩
theorem rbin10(a b:Nat)(w:World)(ha:a < 4294967296)(hb:b < 4294967296):Calls Tryz.prog 105 #[.int .i64 10,.int .u32 a,.int .u32 b] w fun e w'=>e=.returned (.int .u32 (binF 10 a b))∧Below w.heap.size w w':=by
 obtain⟨p,hp⟩:∃ p:Nat,a*b=p:=⟨_,rfl⟩
 have hpl:p < 18446744073709551616:=hp▸mul_bd a b ha hb
 have hpi:(a:Int)*(b:Int)=(p:Int):=by rw[← Int.natCast_mul,hp]
 have p0:(0:Int)≤(p:Int):=zo
 have p1:(p:Int) < 18446744073709551616:=zo
 have a0:(0:Int)≤(a:Int):=zo
 have a1:(a:Int) < 4294967296:=zo
 have b0:(0:Int)≤(b:Int):=zo
 have b1:(b:Int) < 4294967296:=zo
 have HP:Hid _:=hp
 clear hp ha hb
 go_enter Tryz.func105,Tryz.ntmps105
 go_wp2
 go_ret
 exact⟨retu (by show _=((a*b / 4294967296:Nat):Int);rw[HP.out];omega),wk_bel1 w _⟩
theorem rbin11(a b:Nat)(w:World)(ha:a < 4294967296)(hb:b < 4294967296):Calls Tryz.prog 105 #[.int .i64 11,.int .u32 a,.int .u32 b] w fun e w'=>e=.returned (.int .u32 (binF 11 a b))∧Below w.heap.size w w':=by
 by_cases h:b=0
 ·subst h
  go_enter Tryz.func105,Tryz.ntmps105
  go_wp2
  go_ret
  exact⟨rfl,wk_bel1 w _⟩
 ·have d:((b:Int)==0)=false:=by simp;omega
  have a0:(0:Int)≤(a:Int):=zo
  have b0:(1:Int)≤(b:Int):=zo
  go_enter Tryz.func105,Tryz.ntmps105
  go_wp2
  go_ret
  exact⟨retu (by
   have e:((a:Int) / (b:Int))%4294967296=((a / b:Nat):Int):=by(have hq:=Nat.div_le_self a b;rw[← Int.natCast_ediv];generalize a / b=q at hq ⊢;omega)
   simp only[binF,h];simpa using e),wk_bel1 w _⟩
theorem rbin12(a b:Nat)(w:World)(ha:a < 4294967296)(hb:b < 4294967296):Calls Tryz.prog 105 #[.int .i64 12,.int .u32 a,.int .u32 b] w fun e w'=>e=.returned (.int .u32 (binF 12 a b))∧Below w.heap.size w w':=by
 by_cases h:b=0
 ·subst h
  go_enter Tryz.func105,Tryz.ntmps105
  go_wp2
  go_ret
  exact⟨rfl,wk_bel1 w _⟩
 ·have d:((b:Int)==0)=false:=by simp;omega
  have a0:(0:Int)≤(a:Int):=zo
  have b0:(1:Int)≤(b:Int):=zo
  go_enter Tryz.func105,Tryz.ntmps105
  go_wp2
  go_ret
  exact⟨retu (by simp[binF,h]),wk_bel1 w _⟩
theorem rbin13(a b:Nat)(w:World)(ha:a < 4294967296)(hb:b < 4294967296):Calls Tryz.prog 105 #[.int .i64 13,.int .u32 a,.int .u32 b] w fun e w'=>e=.returned (.int .u32 (binF 13 a b))∧Below w.heap.size w w':=by
 go_enter Tryz.func105,Tryz.ntmps105
 go_wp2_with (go_at_call 106;refine(is3_any _ _).mono ?_;rintro e w1 ⟨rfl,rfl⟩)
 go_ret
 exact⟨rfl,wk_bel1 w _⟩
theorem rbin14(a b:Nat)(w:World)(ha:a < 4294967296)(hb:b < 4294967296):Calls Tryz.prog 105 #[.int .i64 14,.int .u32 a,.int .u32 b] w fun e w'=>e=.returned (.int .u32 (binF 14 a b))∧Below w.heap.size w w':=by
 go_enter Tryz.func105,Tryz.ntmps105
 go_wp2_with (go_at_call 106;refine(is3_any _ _).mono ?_;rintro e w1 ⟨rfl,rfl⟩)
 go_ret
 exact⟨rfl,wk_bel1 w _⟩
theorem rbin15(a b:Nat)(w:World)(ha:a < 4294967296)(hb:b < 4294967296):Calls Tryz.prog 105 #[.int .i64 15,.int .u32 a,.int .u32 b] w fun e w'=>e=.returned (.int .u32 (binF 15 a b))∧Below w.heap.size w w':=by
 have a0:(0:Int)≤(a:Int):=zo
 have a1:(a:Int) < 4294967296:=zo
 have b0:(0:Int)≤(b:Int):=zo
 have b1:(b:Int) < 4294967296:=zo
 go_enter Tryz.func105,Tryz.ntmps105
 go_wp2_with (first
  | (go_at_call 107;have HZ:=HQ1;refine(sgn3_any b _ b0 b1).mono ?_;rintro e w1 ⟨rfl,rfl⟩)
  | (go_at_call 107;refine(sgn3_any a _ a0 a1).mono ?_;rintro e w1 ⟨rfl,rfl⟩;have HQ1:Hid True:=trivial)
  | (go_at_call 106;refine(is3_any _ _).mono ?_;rintro e w1 ⟨rfl,rfl⟩))
 go_ret
 exact⟨rfl,wk_bel1 w _⟩
theorem rbin_any(k:Int)(a b:Nat)(w:World)(ha:a < 4294967296)(hb:b < 4294967296)(hk:0≤k∧k≤15):Calls Tryz.prog 105 #[.int .i64 k,.int .u32 a,.int .u32 b] w fun e w'=>e=.returned (.int .u32 (binF k a b))∧Below w.heap.size w w':=by
 rcases(by omega:k=0∨k=1∨k=2∨k=3∨k=4∨k=5∨k=6∨k=7∨k=8∨k=9∨k=10∨k=11∨k=12∨k=13∨k=14∨k=15) with rfl|rfl|rfl|rfl|rfl|rfl|rfl|rfl|rfl|rfl|rfl|rfl|rfl|rfl|rfl|rfl
 ·exact rbin0 a b w ha hb
 ·exact rbin1 a b w ha hb
 ·exact rbin2 a b w ha hb
 ·exact rbin3 a b w ha hb
 ·exact rbin4 a b w ha hb
 ·exact rbin5 a b w ha hb
 ·exact rbin6 a b w ha hb
 ·exact rbin7 a b w ha hb
 ·exact rbin8 a b w ha hb
 ·exact rbin9 a b w ha hb
 ·exact rbin10 a b w ha hb
 ·exact rbin11 a b w ha hb
 ·exact rbin12 a b w ha hb
 ·exact rbin13 a b w ha hb
 ·exact rbin14 a b w ha hb
 ·exact rbin15 a b w ha hb
end Go.Proofs.YtfokgedjocnnmaaGreat
