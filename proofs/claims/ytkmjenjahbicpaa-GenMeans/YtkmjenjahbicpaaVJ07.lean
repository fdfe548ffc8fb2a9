import Derived.Test.YtkmjenjahbicpaaVJ05
import Derived.Test.YtkmjenjahbicpaaVJ06
import Derived.Test.YtkmjenjahbicpaaVJ04
import Derived.OwnWalk
import Derived.Below
import Derived.Test.YtkmjenjahbicpaaC1
import Derived.Test.YtkmjenjahbicpaaWJ01
import Derived.ChangeKeysEq
import Derived.Deep.RegionHeld3
import Derived.Deep.CutBlock
set_option maxRecDepth 100000
set_option linter.unusedVariables false
set_option linter.unusedSimpArgs false
set_option maxHeartbeats 2000000
namespace Go.Proofs.Ytkmjenjahbicpaa.Va.Fl
open Go.RowKit
theorem zJt(c:Int)(f:Nat)(w:World)(hf:f < 4294967296):Calls Try.prog 60 #[.int .i64 c,.int .u32 f] w fun e w'=>e=.returned (.bool (zZ c f))∧Below w.heap.size w w':=by
 by_cases hc:c < 0∨15 < c
 ·exact zLK c f w hc
 ·have hcc:c=0∨c=1∨c=2∨c=3∨c=4∨c=5∨c=6∨c=7∨c=8∨c=9∨c=10∨c=11∨c=12∨c=13∨c=14∨c=15:=aO
  rcases hcc with rfl|rfl|rfl|rfl|rfl|rfl|rfl|rfl|rfl|rfl|rfl|rfl|rfl|rfl|rfl|rfl
  ·exact holds0 f w hf
  ·exact zP2 f w hf
  ·exact zP3 f w hf
  ·exact zP4 f w hf
  ·exact zP5 f w hf
  ·exact zP6 f w hf
  ·exact zP7 f w hf
  ·exact zP8 f w hf
  ·exact zP9 f w hf
  ·exact zQa f w hf
  ·exact zNB f w hf
  ·exact holds11 f w hf
  ·exact zNC f w hf
  ·exact zND f w hf
  ·exact zNE f w hf
  ·exact zNF f w hf
theorem zCH(x f:Nat)(w:World)(hx:x < 4294967296)(hf:f < 4294967296):Calls Try.prog 54 #[.int .i64 5,.int .u32 x,.int .u32 0,.int .u32 f] w fun e w'=>e=.returned (.int .u32 (yM x))∧w=w':=zG1 x 0 f w hx aO hf
theorem zDZ(o:Int)(a b x:Nat)(w:World)(hx:uB o a b=x)(ha:a < 4294967296)(hb:b < 4294967296):Calls Try.prog 93 #[.int .i64 o,.int .u32 a,.int .u32 b] w fun e w'=>e=.returned (.int .u32 x)∧w=w':=by
 subst hx;exact zKS o a b w ha hb
theorem zH7(f:Nat):(f:Int) / 4%2=zAH f:=by unfold zAH;omega
theorem zSN(a b f:Nat)(w:World)(ha:a < 4294967296)(hb:b < 4294967296)(hf:f < 4294967296):Calls Try.prog 84 #[.int .i64 0,.int .u32 a,.int .u32 b,.int .u32 f] w fun e w'=>e=.returned (.tuple #[.int .u32 (((a:Int)+b)%4294967296),.int .u32 (zV 1 a b f),.bool true])∧w=w':=by
 have ha0:(0:Int)≤a:=aO
 have ha1:(a:Int) < 4294967296:=aO
 have hb0:(0:Int)≤b:=aO
 have hb1:(b:Int) < 4294967296:=aO
 have hf0:(0:Int)≤f:=aO
 have hf1:(f:Int) < 4294967296:=aO
 go_enter Try.func84,Try.ntmps84
 go_wp2_with first
  | (go_at_call 76;refine(vH _ _ aO aO).mono ?_;rintro e w' ⟨rfl,rfl⟩)
  | (go_at_call 54;refine(uC 1 a b f _ aO aO hf).mono ?_;rintro e w' ⟨rfl,rfl⟩)
 go_ret3
 exact⟨rfl,rfl⟩
theorem zSO(a b f:Nat)(w:World)(ha:a < 4294967296)(hb:b < 4294967296)(hf:f < 4294967296):Calls Try.prog 84 #[.int .i64 1,.int .u32 a,.int .u32 b,.int .u32 f] w fun e w'=>e=.returned (.tuple #[.int .u32 (((a:Int)+b+zAH f)%4294967296),.int .u32 (zV 2 a b f),.bool true])∧w=w':=by
 have ha0:(0:Int)≤a:=aO
 have ha1:(a:Int) < 4294967296:=aO
 have hb0:(0:Int)≤b:=aO
 have hb1:(b:Int) < 4294967296:=aO
 have hf0:(0:Int)≤f:=aO
 have hf1:(f:Int) < 4294967296:=aO
 have hc:=zH7 f
 have hc0:=zBy f
 obtain⟨c,hcc⟩:∃ c,zAH f=c:=⟨_,rfl⟩
 rw[hcc] at hc hc0
 rw[hcc]
 obtain⟨hc1,hc2⟩:=hc0
 clear hcc
 go_enter Try.func84,Try.ntmps84
 go_wp2_with first
  | (go_at_call 76;refine(vH _ _ aO aO).mono ?_;rintro e w' ⟨rfl,rfl⟩)
  | (go_at_call 54;refine(uC 2 a b f _ aO aO hf).mono ?_;rintro e w' ⟨rfl,rfl⟩)
 go_ret3
 exact⟨rfl,rfl⟩
theorem zSP(a b f:Nat)(w:World)(ha:a < 4294967296)(hb:b < 4294967296)(hf:f < 4294967296):Calls Try.prog 84 #[.int .i64 2,.int .u32 a,.int .u32 b,.int .u32 f] w fun e w'=>e=.returned (.tuple #[.int .u32 (((a:Int) - b)%4294967296),.int .u32 (zV 3 a b f),.bool true])∧w=w':=by
 have ha0:(0:Int)≤a:=aO
 have ha1:(a:Int) < 4294967296:=aO
 have hb0:(0:Int)≤b:=aO
 have hb1:(b:Int) < 4294967296:=aO
 have hf0:(0:Int)≤f:=aO
 have hf1:(f:Int) < 4294967296:=aO
 go_enter Try.func84,Try.ntmps84
 go_wp2_with first
  | (go_at_call 76;refine(vH _ _ aO aO).mono ?_;rintro e w' ⟨rfl,rfl⟩)
  | (go_at_call 54;refine(uC 3 a b f _ aO aO hf).mono ?_;rintro e w' ⟨rfl,rfl⟩)
 go_ret3
 exact⟨rfl,rfl⟩
theorem zSQ(a b f:Nat)(w:World)(ha:a < 4294967296)(hb:b < 4294967296)(hf:f < 4294967296):Calls Try.prog 84 #[.int .i64 3,.int .u32 a,.int .u32 b,.int .u32 f] w fun e w'=>e=.returned (.tuple #[.int .u32 (((a:Int) - b - zAH f)%4294967296),.int .u32 (zV 4 a b f),.bool true])∧w=w':=by
 have ha0:(0:Int)≤a:=aO
 have ha1:(a:Int) < 4294967296:=aO
 have hb0:(0:Int)≤b:=aO
 have hb1:(b:Int) < 4294967296:=aO
 have hf0:(0:Int)≤f:=aO
 have hf1:(f:Int) < 4294967296:=aO
 have hc:=zH7 f
 have hc0:=zBy f
 obtain⟨c,hcc⟩:∃ c,zAH f=c:=⟨_,rfl⟩
 rw[hcc] at hc hc0
 rw[hcc]
 obtain⟨hc1,hc2⟩:=hc0
 clear hcc
 go_enter Try.func84,Try.ntmps84
 go_wp2_with first
  | (go_at_call 76;refine(vH _ _ aO aO).mono ?_;rintro e w' ⟨rfl,rfl⟩)
  | (go_at_call 54;refine(uC 4 a b f _ aO aO hf).mono ?_;rintro e w' ⟨rfl,rfl⟩)
 go_ret3
 exact⟨rfl,rfl⟩
theorem zSR(a b f:Nat)(w:World)(ha:a < 4294967296)(hb:b < 4294967296)(hf:f < 4294967296):Calls Try.prog 84 #[.int .i64 4,.int .u32 a,.int .u32 b,.int .u32 f] w fun e w'=>e=.returned (.tuple #[.int .u32 ((uB 4 a b:Int)),.int .u32 (yM (uB 4 a b)),.bool true])∧w=w':=by
 have ha0:(0:Int)≤a:=aO
 have ha1:(a:Int) < 4294967296:=aO
 have hb0:(0:Int)≤b:=aO
 have hb1:(b:Int) < 4294967296:=aO
 have hf0:(0:Int)≤f:=aO
 have hf1:(f:Int) < 4294967296:=aO
 obtain⟨x,hx0⟩:∃ x,uB 4 a b=x:=⟨_,rfl⟩
 have hx:x < 4294967296:=by rw[← hx0];exact zCG 4 a b ha hb
 have HX:Hid (uB 4 a b=x):=hx0
 rw[hx0]
 clear hx0
 go_enter Try.func84,Try.ntmps84
 go_wp2_with first
  | (go_at_call 93;refine(zDZ 4 a b x _ HX.out ha hb).mono ?_;rintro e w' ⟨rfl,rfl⟩)
  | (go_at_call 54;refine(zCH x f _ hx hf).mono ?_;rintro e w' ⟨rfl,rfl⟩)
 go_ret3
 exact⟨rfl,rfl⟩
theorem zSS(a b f:Nat)(w:World)(ha:a < 4294967296)(hb:b < 4294967296)(hf:f < 4294967296):Calls Try.prog 84 #[.int .i64 5,.int .u32 a,.int .u32 b,.int .u32 f] w fun e w'=>e=.returned (.tuple #[.int .u32 ((uB 5 a b:Int)),.int .u32 (yM (uB 5 a b)),.bool true])∧w=w':=by
 have ha0:(0:Int)≤a:=aO
 have ha1:(a:Int) < 4294967296:=aO
 have hb0:(0:Int)≤b:=aO
 have hb1:(b:Int) < 4294967296:=aO
 have hf0:(0:Int)≤f:=aO
 have hf1:(f:Int) < 4294967296:=aO
 obtain⟨x,hx0⟩:∃ x,uB 5 a b=x:=⟨_,rfl⟩
 have hx:x < 4294967296:=by rw[← hx0];exact zCG 5 a b ha hb
 have HX:Hid (uB 5 a b=x):=hx0
 rw[hx0]
 clear hx0
 go_enter Try.func84,Try.ntmps84
 go_wp2_with first
  | (go_at_call 93;refine(zDZ 5 a b x _ HX.out ha hb).mono ?_;rintro e w' ⟨rfl,rfl⟩)
  | (go_at_call 54;refine(zCH x f _ hx hf).mono ?_;rintro e w' ⟨rfl,rfl⟩)
 go_ret3
 exact⟨rfl,rfl⟩
theorem zST(a b f:Nat)(w:World)(ha:a < 4294967296)(hb:b < 4294967296)(hf:f < 4294967296):Calls Try.prog 84 #[.int .i64 6,.int .u32 a,.int .u32 b,.int .u32 f] w fun e w'=>e=.returned (.tuple #[.int .u32 ((uB 6 a b:Int)),.int .u32 (yM (uB 6 a b)),.bool true])∧w=w':=by
 have ha0:(0:Int)≤a:=aO
 have ha1:(a:Int) < 4294967296:=aO
 have hb0:(0:Int)≤b:=aO
 have hb1:(b:Int) < 4294967296:=aO
 have hf0:(0:Int)≤f:=aO
 have hf1:(f:Int) < 4294967296:=aO
 obtain⟨x,hx0⟩:∃ x,uB 6 a b=x:=⟨_,rfl⟩
 have hx:x < 4294967296:=by rw[← hx0];exact zCG 6 a b ha hb
 have HX:Hid (uB 6 a b=x):=hx0
 rw[hx0]
 clear hx0
 go_enter Try.func84,Try.ntmps84
 go_wp2_with first
  | (go_at_call 93;refine(zDZ 6 a b x _ HX.out ha hb).mono ?_;rintro e w' ⟨rfl,rfl⟩)
  | (go_at_call 54;refine(zCH x f _ hx hf).mono ?_;rintro e w' ⟨rfl,rfl⟩)
 go_ret3
 exact⟨rfl,rfl⟩
theorem zSU(a b f:Nat)(w:World)(ha:a < 4294967296)(hb:b < 4294967296)(hf:f < 4294967296):Calls Try.prog 84 #[.int .i64 7,.int .u32 a,.int .u32 b,.int .u32 f] w fun e w'=>e=.returned (.tuple #[.int .u32 ((a:Int)),.int .u32 (zV 3 a b f),.bool true])∧w=w':=by
 have ha0:(0:Int)≤a:=aO
 have ha1:(a:Int) < 4294967296:=aO
 have hb0:(0:Int)≤b:=aO
 have hb1:(b:Int) < 4294967296:=aO
 have hf0:(0:Int)≤f:=aO
 have hf1:(f:Int) < 4294967296:=aO
 go_enter Try.func84,Try.ntmps84
 go_wp2_with first
  | (go_at_call 54;refine(uC 3 a b f _ aO aO hf).mono ?_;rintro e w' ⟨rfl,rfl⟩)
 go_ret3
 exact⟨rfl,rfl⟩
theorem zSV(a b f:Nat)(w:World)(ha:a < 4294967296)(hb:b < 4294967296)(hf:f < 4294967296):Calls Try.prog 84 #[.int .i64 8,.int .u32 a,.int .u32 b,.int .u32 f] w fun e w'=>e=.returned (.tuple #[.int .u32 ((a:Int)),.int .u32 (yM (uB 4 a b)),.bool true])∧w=w':=by
 have ha0:(0:Int)≤a:=aO
 have ha1:(a:Int) < 4294967296:=aO
 have hb0:(0:Int)≤b:=aO
 have hb1:(b:Int) < 4294967296:=aO
 have hf0:(0:Int)≤f:=aO
 have hf1:(f:Int) < 4294967296:=aO
 obtain⟨x,hx0⟩:∃ x,uB 4 a b=x:=⟨_,rfl⟩
 have hx:x < 4294967296:=by rw[← hx0];exact zCG 4 a b ha hb
 have HX:Hid (uB 4 a b=x):=hx0
 rw[hx0]
 clear hx0
 go_enter Try.func84,Try.ntmps84
 go_wp2_with first
  | (go_at_call 93;refine(zDZ 4 a b x _ HX.out ha hb).mono ?_;rintro e w' ⟨rfl,rfl⟩)
  | (go_at_call 54;refine(zCH x f _ hx hf).mono ?_;rintro e w' ⟨rfl,rfl⟩)
 go_ret3
 exact⟨rfl,rfl⟩
theorem zSW(a b f:Nat)(w:World)(ha:a < 4294967296)(hb:b < 4294967296)(hf:f < 4294967296):Calls Try.prog 84 #[.int .i64 9,.int .u32 a,.int .u32 b,.int .u32 f] w fun e w'=>e=.returned (.tuple #[.int .u32 (((a*2 ^ (b%32)%4294967296:Nat):Int)),.int .u32 (zV 6 a b f),.bool true])∧w=w':=by
 have ha0:(0:Int)≤a:=aO
 have ha1:(a:Int) < 4294967296:=aO
 have hb0:(0:Int)≤b:=aO
 have hb1:(b:Int) < 4294967296:=aO
 have hf0:(0:Int)≤f:=aO
 have hf1:(f:Int) < 4294967296:=aO
 obtain⟨n,hn⟩:∃ n,b%32=n:=⟨_,rfl⟩
 have hnb:n≤31:=aO
 rw[hn]
 have hni:(b:Int)%32=(n:Int):=aO
 have hn0:(0:Int)≤n:=aO
 have hn1:(n:Int)≤31:=aO
 clear hn
 obtain⟨d,hd⟩:∃ d,a*2 ^ n=d:=⟨_,rfl⟩
 have HD:Hid (a*2 ^ n=d):=hd
 have hdb:d < 18446744073709551616:=by
  rw[← hd]
  have:2 ^ n≤2 ^ 31:=Nat.pow_le_pow_right aD hnb
  exact Nat.lt_of_le_of_lt (Nat.mul_le_mul (Nat.le_of_lt_succ (m:=a) (n:=4294967295) ha) this) aD
 have hd0:(0:Int)≤d:=aO
 have hd1:(d:Int) < 18446744073709551616:=aO
 have e:((a*2 ^ n%4294967296:Nat):Int)=(d:Int)%4294967296:=by rw[hd];simp
 rw[e]
 clear hd e hdb
 go_enter Try.func84,Try.ntmps84
 go_wp2_with first
  | (go_at_call 80;refine(zFe a n d _ HD.out ha hnb).mono ?_;rintro e w' ⟨rfl,rfl⟩)
  | (go_at_call 54;refine(uC 6 a b f _ aO aO hf).mono ?_;rintro e w' ⟨rfl,rfl⟩)
 go_ret3
 exact⟨rfl,rfl⟩
theorem zQO(a b f:Nat)(w:World)(ha:a < 4294967296)(hb:b < 4294967296)(hf:f < 4294967296):Calls Try.prog 84 #[.int .i64 10,.int .u32 a,.int .u32 b,.int .u32 f] w fun e w'=>e=.returned (.tuple #[.int .u32 ((a:Int) / 2 ^ (b%32)),.int .u32 (zV 7 a b f),.bool true])∧w=w':=by
 have ha0:(0:Int)≤a:=aO
 have ha1:(a:Int) < 4294967296:=aO
 have hb0:(0:Int)≤b:=aO
 have hb1:(b:Int) < 4294967296:=aO
 have hf0:(0:Int)≤f:=aO
 have hf1:(f:Int) < 4294967296:=aO
 obtain⟨n,hn⟩:∃ n,b%32=n:=⟨_,rfl⟩
 have hnb:n≤31:=aO
 rw[hn]
 have hni:(b:Int)%32=(n:Int):=aO
 have hn0:(0:Int)≤n:=aO
 have hn1:(n:Int)≤31:=aO
 clear hn
 obtain⟨R1,hR1⟩:∃ R,(a:Int) / 2 ^ n=R:=⟨_,rfl⟩
 have b1:=zD0 a n ha0
 rw[hR1] at b1
 rw[hR1]
 obtain⟨b10,b11⟩:=b1
 go_enter Try.func84,Try.ntmps84
 go_wp2_with first
  | (go_at_call 81;refine(zCA _ _ _ aO aO aO).mono ?_;rintro e w' ⟨rfl,rfl⟩;simp only[hR1])
  | (go_at_call 54;refine(uC 7 a b f _ aO aO hf).mono ?_;rintro e w' ⟨rfl,rfl⟩)
 go_ret3
 exact⟨rfl,rfl⟩
theorem zQP(a b f:Nat)(w:World)(ha:a < 4294967296)(hb:b < 4294967296)(hf:f < 4294967296):Calls Try.prog 84 #[.int .i64 11,.int .u32 a,.int .u32 b,.int .u32 f] w fun e w'=>e=.returned (.tuple #[.int .u32 (sgn a / 2 ^ (b%32)%4294967296),.int .u32 (zV 8 a b f),.bool true])∧w=w':=by
 have ha0:(0:Int)≤a:=aO
 have ha1:(a:Int) < 4294967296:=aO
 have hb0:(0:Int)≤b:=aO
 have hb1:(b:Int) < 4294967296:=aO
 have hf0:(0:Int)≤f:=aO
 have hf1:(f:Int) < 4294967296:=aO
 obtain⟨n,hn⟩:∃ n,b%32=n:=⟨_,rfl⟩
 have hnb:n≤31:=aO
 rw[hn]
 have hni:(b:Int)%32=(n:Int):=aO
 have hn0:(0:Int)≤n:=aO
 have hn1:(n:Int)≤31:=aO
 clear hn
 obtain⟨s1,s2⟩:=vT a ha0 ha1
 obtain⟨R1,hR1⟩:∃ R,sgn a / 2 ^ n=R:=⟨_,rfl⟩
 have b1:=zEi (sgn a) n s1 s2
 rw[hR1] at b1
 rw[hR1]
 obtain⟨b10,b11⟩:=b1
 go_enter Try.func84,Try.ntmps84
 go_wp2_with first
  | (go_at_call 81;refine(zCA _ _ _ aO aO aO).mono ?_;rintro e w' ⟨rfl,rfl⟩;simp only[hR1])
  | (go_at_call 79;refine(vL _ _ aO aO).mono ?_;rintro e w' ⟨rfl,rfl⟩)
  | (go_at_call 76;refine(vH _ _ aO aO).mono ?_;rintro e w' ⟨rfl,rfl⟩)
  | (go_at_call 54;refine(uC 8 a b f _ aO aO hf).mono ?_;rintro e w' ⟨rfl,rfl⟩)
 go_ret3
 exact⟨rfl,rfl⟩
theorem zQQ(a b f:Nat)(w:World)(ha:a < 4294967296)(hb:b < 4294967296)(hf:f < 4294967296):Calls Try.prog 84 #[.int .i64 12,.int .u32 a,.int .u32 b,.int .u32 f] w fun e w'=>e=.returned (.tuple #[.int .u32 (zB6 (b%32) a),.int .u32 (zV 9 a b f),.bool true])∧w=w':=by
 have ha0:(0:Int)≤a:=aO
 have ha1:(a:Int) < 4294967296:=aO
 have hb0:(0:Int)≤b:=aO
 have hb1:(b:Int) < 4294967296:=aO
 have hf0:(0:Int)≤f:=aO
 have hf1:(f:Int) < 4294967296:=aO
 obtain⟨n,hn⟩:∃ n,b%32=n:=⟨_,rfl⟩
 have hnb:n≤31:=aO
 rw[hn]
 have hni:(b:Int)%32=(n:Int):=aO
 have hn0:(0:Int)≤n:=aO
 have hn1:(n:Int)≤31:=aO
 clear hn
 go_enter Try.func84,Try.ntmps84
 go_wp2_with first
  | (go_at_call 82;refine(zET _ n _ ha0 ha1 aO).mono ?_;rintro e w' ⟨rfl,rfl⟩)
  | (go_at_call 54;refine(uC 9 a b f _ aO aO hf).mono ?_;rintro e w' ⟨rfl,rfl⟩)
 go_ret3
 exact⟨rfl,rfl⟩
theorem zQR(a b f:Nat)(w:World)(ha:a < 4294967296)(hb:b < 4294967296)(hf:f < 4294967296):Calls Try.prog 84 #[.int .i64 13,.int .u32 a,.int .u32 b,.int .u32 f] w fun e w'=>e=.returned (.tuple #[.int .u32 (((a*b%4294967296:Nat):Int)),.int .u32 (zV 10 a b f),.bool true])∧w=w':=by
 have ha0:(0:Int)≤a:=aO
 have ha1:(a:Int) < 4294967296:=aO
 have hb0:(0:Int)≤b:=aO
 have hb1:(b:Int) < 4294967296:=aO
 have hf0:(0:Int)≤f:=aO
 have hf1:(f:Int) < 4294967296:=aO
 obtain⟨p,hp⟩:∃ p,a*b=p:=⟨_,rfl⟩
 have hpb:p < 18446744073709551616:=by
  rw[← hp]
  exact Nat.lt_of_le_of_lt (Nat.mul_le_mul (Nat.le_of_lt_succ (m:=a) (n:=4294967295) ha) (Nat.le_of_lt_succ (m:=b) (n:=4294967295) hb)) aD
 have hpi:(a:Int)*(b:Int)=(p:Int):=by rw[← hp];simp
 have hp0:(0:Int)≤p:=aO
 have hp1:(p:Int) < 18446744073709551616:=aO
 have e:((a*b%4294967296:Nat):Int)=(p:Int)%4294967296:=by rw[hp];simp
 rw[e]
 clear hp e hpb
 go_enter Try.func84,Try.ntmps84
 go_wp2_with first
  | (go_at_call 54;refine(uC 10 a b f _ aO aO hf).mono ?_;rintro e w' ⟨rfl,rfl⟩)
 go_ret3
 exact⟨rfl,rfl⟩
theorem zQS(a b f:Nat)(w:World)(ha:a < 4294967296)(hb:b < 4294967296)(hf:f < 4294967296)(hz:0 < b):Calls Try.prog 84 #[.int .i64 14,.int .u32 a,.int .u32 b,.int .u32 f] w fun e w'=>e=.returned (.tuple #[.int .u32 (((a / b:Nat):Int)),.int .u32 (yM ((a / b:Nat):Int)),.bool true])∧w=w':=by
 have ha0:(0:Int)≤a:=aO
 have ha1:(a:Int) < 4294967296:=aO
 have hb0:(0:Int)≤b:=aO
 have hb1:(b:Int) < 4294967296:=aO
 have hf0:(0:Int)≤f:=aO
 have hf1:(f:Int) < 4294967296:=aO
 have hbz:((b:Int)==0)=false:=by simp;omega
 have hbz':(b==0)=false:=by simp;omega
 have hbp:(0:Int) < b:=aO
 obtain⟨x,hx0⟩:∃ x,a / b=x:=⟨_,rfl⟩
 have hx:x < 4294967296:=by rw[← hx0];exact Nat.lt_of_le_of_lt (Nat.div_le_self _ _) ha
 have hxi:(a:Int) / (b:Int)=(x:Int):=by rw[← hx0];simp
 have hxp:(0:Int)≤x:=aO
 have hx1:(x:Int) < 4294967296:=aO
 obtain⟨x2,hx20⟩:∃ x,a / b=x:=⟨_,rfl⟩
 have hx2:x2 < 4294967296:=by rw[← hx20];exact Nat.lt_of_le_of_lt (Nat.div_le_self _ _) ha
 have hx2i:(a:Int) / (b:Int)=(x2:Int):=by rw[← hx20];simp
 have hx21:(x2:Int) < 4294967296:=aO
 rw[hx0]
 clear hx0 hx20
 go_enter Try.func84,Try.ntmps84
 go_wp2_with first
  | (go_at_call 54;refine(zCH x f _ hx hf).mono ?_;rintro e w' ⟨rfl,rfl⟩)
 go_ret3
 exact⟨rfl,rfl⟩
theorem zQT(a b f:Nat)(w:World)(ha:a < 4294967296)(hb:b < 4294967296)(hf:f < 4294967296)(hz:0 < b):Calls Try.prog 84 #[.int .i64 15,.int .u32 a,.int .u32 b,.int .u32 f] w fun e w'=>e=.returned (.tuple #[.int .u32 (((a%b:Nat):Int)),.int .u32 (yM ((a%b:Nat):Int)),.bool true])∧w=w':=by
 have ha0:(0:Int)≤a:=aO
 have ha1:(a:Int) < 4294967296:=aO
 have hb0:(0:Int)≤b:=aO
 have hb1:(b:Int) < 4294967296:=aO
 have hf0:(0:Int)≤f:=aO
 have hf1:(f:Int) < 4294967296:=aO
 have hbz:((b:Int)==0)=false:=by simp;omega
 have hbz':(b==0)=false:=by simp;omega
 have hbp:(0:Int) < b:=aO
 obtain⟨x,hx0⟩:∃ x,a%b=x:=⟨_,rfl⟩
 have hx:x < 4294967296:=by rw[← hx0];exact Nat.lt_of_le_of_lt (Nat.mod_le _ _) ha
 have hxi:(a:Int)%(b:Int)=(x:Int):=by rw[← hx0];simp
 have hxp:(0:Int)≤x:=aO
 have hx1:(x:Int) < 4294967296:=aO
 obtain⟨x2,hx20⟩:∃ x,a / b=x:=⟨_,rfl⟩
 have hx2:x2 < 4294967296:=by rw[← hx20];exact Nat.lt_of_le_of_lt (Nat.div_le_self _ _) ha
 have hx2i:(a:Int) / (b:Int)=(x2:Int):=by rw[← hx20];simp
 have hx21:(x2:Int) < 4294967296:=aO
 rw[hx0]
 clear hx0 hx20
 go_enter Try.func84,Try.ntmps84
 go_wp2_with first
  | (go_at_call 54;refine(zCH x f _ hx hf).mono ?_;rintro e w' ⟨rfl,rfl⟩)
 go_ret3
 exact⟨rfl,rfl⟩
theorem zOh(o:Int)(a b f:Nat)(w:World)(ha:a < 4294967296)(hb:b < 4294967296)(hf:f < 4294967296)(ho:o < 0∨15 < o):Calls Try.prog 84 #[.int .i64 o,.int .u32 a,.int .u32 b,.int .u32 f] w fun e w'=>e=.returned (.tuple #[.int .u32 0,.int .u32 0,.bool false])∧w=w':=by
 have ha0:(0:Int)≤a:=aO
 have ha1:(a:Int) < 4294967296:=aO
 have hb0:(0:Int)≤b:=aO
 have hb1:(b:Int) < 4294967296:=aO
 have hf0:(0:Int)≤f:=aO
 have hf1:(f:Int) < 4294967296:=aO
 have e0:(o==0)=false:=by simp;omega
 have e1:(o==1)=false:=by simp;omega
 have e2:(o==2)=false:=by simp;omega
 have e3:(o==3)=false:=by simp;omega
 have e4:(o==4)=false:=by simp;omega
 have e5:(o==5)=false:=by simp;omega
 have e6:(o==6)=false:=by simp;omega
 have e7:(o==7)=false:=by simp;omega
 have e8:(o==8)=false:=by simp;omega
 have e9:(o==9)=false:=by simp;omega
 have e10:(o==10)=false:=by simp;omega
 have e11:(o==11)=false:=by simp;omega
 have e12:(o==12)=false:=by simp;omega
 have e13:(o==13)=false:=by simp;omega
 have e14:(o==14)=false:=by simp;omega
 have e15:(o==15)=false:=by simp;omega
 have g14:(o !=14)=true:=by simp[bne,e14]
 have g15:(o !=15)=true:=by simp[bne,e15]
 clear ho
 go_enter Try.func84,Try.ntmps84
 go_wp2
 go_ret3
 exact⟨rfl,rfl⟩
theorem zFo(o:Int)(a f:Nat)(w:World)(ha:a < 4294967296)(hf:f < 4294967296)(ho:o=14∨o=15):Calls Try.prog 84 #[.int .i64 o,.int .u32 a,.int .u32 0,.int .u32 f] w fun e w'=>e=.returned (.tuple #[.int .u32 0,.int .u32 0,.bool false])∧w=w':=by
 have ha0:(0:Int)≤a:=aO
 have hf0:(0:Int)≤f:=aO
 rcases ho with rfl|rfl
 all_goals
  go_enter Try.func84,Try.ntmps84
  go_wp2
  go_ret3
  exact⟨rfl,rfl⟩
def uG(o:Int)(a b f:Nat):Int:=
 if o=0 then((a:Int)+b)%4294967296 else if o=1 then((a:Int)+b+zAH f)%4294967296 else if o=2 then((a:Int) - b)%4294967296 else if o=3 then((a:Int) - b - zAH f)%4294967296
 else if o=4∨o=5∨o=6 then(uB o a b:Int) else if o=7∨o=8 then(a:Int) else if o=9 then((a*2 ^ (b%32)%4294967296:Nat):Int) else if o=10 then(a:Int) / 2 ^ (b%32)
 else if o=11 then sgn a / 2 ^ (b%32)%4294967296 else if o=12 then zB6 (b%32) a else if o=13 then((a*b%4294967296:Nat):Int)
 else if o=14∧0 < b then((a / b:Nat):Int) else if o=15∧0 < b then((a%b:Nat):Int) else 0
def vB(o:Int)(a b f:Nat):Int:=
 if o=0 then zV 1 a b f else if o=1 then zV 2 a b f else if o=2 then zV 3 a b f else if o=3 then zV 4 a b f
 else if o=4∨o=5∨o=6 then yM (uB o a b) else if o=7 then zV 3 a b f else if o=8 then yM (uB 4 a b) else if o=9 then zV 6 a b f else if o=10 then zV 7 a b f
 else if o=11 then zV 8 a b f else if o=12 then zV 9 a b f else if o=13 then zV 10 a b f
 else if o=14∧0 < b then yM ((a / b:Nat):Int) else if o=15∧0 < b then yM ((a%b:Nat):Int) else 0
def zAO(o:Int)(b:Nat):Bool:=decide ((0≤o∧o≤13)∨((o=14∨o=15)∧0 < b))
theorem zAB(o:Int)(a b f:Nat)(w:World)(ha:a < 4294967296)(hb:b < 4294967296)(hf:f < 4294967296):Calls Try.prog 84 #[.int .i64 o,.int .u32 a,.int .u32 b,.int .u32 f] w fun e w'=>e=.returned (.tuple #[.int .u32 (uG o a b f),.int .u32 (vB o a b f),.bool (zAO o b)])∧w=w':=by
 by_cases ho:o < 0∨15 < o
 ·have e1:uG o a b f=0:=by unfold uG;repeat rw[if_neg aO]
  have e2:vB o a b f=0:=by unfold vB;repeat rw[if_neg aO]
  have e3:zAO o b=false:=aF
  rw[e1,e2,e3];exact zOh o a b f w ha hb hf ho
 ·have hc:o=0∨o=1∨o=2∨o=3∨o=4∨o=5∨o=6∨o=7∨o=8∨o=9∨o=10∨o=11∨o=12∨o=13∨o=14∨o=15:=aO
  rcases hc with rfl|rfl|rfl|rfl|rfl|rfl|rfl|rfl|rfl|rfl|rfl|rfl|rfl|rfl|rfl|rfl
  ·have e1:uG 0 a b f=((a:Int)+b)%4294967296:=by simp[uG]
   have e2:vB 0 a b f=zV 1 a b f:=by simp[vB]
   have e3:zAO 0 b=true:=aT
   rw[e1,e2,e3];exact zSN a b f w ha hb hf
  ·have e1:uG 1 a b f=((a:Int)+b+zAH f)%4294967296:=by simp[uG]
   have e2:vB 1 a b f=zV 2 a b f:=by simp[vB]
   have e3:zAO 1 b=true:=aT
   rw[e1,e2,e3];exact zSO a b f w ha hb hf
  ·have e1:uG 2 a b f=((a:Int) - b)%4294967296:=by simp[uG]
   have e2:vB 2 a b f=zV 3 a b f:=by simp[vB]
   have e3:zAO 2 b=true:=aT
   rw[e1,e2,e3];exact zSP a b f w ha hb hf
  ·have e1:uG 3 a b f=((a:Int) - b - zAH f)%4294967296:=by simp[uG]
   have e2:vB 3 a b f=zV 4 a b f:=by simp[vB]
   have e3:zAO 3 b=true:=aT
   rw[e1,e2,e3];exact zSQ a b f w ha hb hf
  ·have e1:uG 4 a b f=(uB 4 a b:Int):=by simp[uG]
   have e2:vB 4 a b f=yM (uB 4 a b):=by simp[vB]
   have e3:zAO 4 b=true:=aT
   rw[e1,e2,e3];exact zSR a b f w ha hb hf
  ·have e1:uG 5 a b f=(uB 5 a b:Int):=by simp[uG]
   have e2:vB 5 a b f=yM (uB 5 a b):=by simp[vB]
   have e3:zAO 5 b=true:=aT
   rw[e1,e2,e3];exact zSS a b f w ha hb hf
  ·have e1:uG 6 a b f=(uB 6 a b:Int):=by simp[uG]
   have e2:vB 6 a b f=yM (uB 6 a b):=by simp[vB]
   have e3:zAO 6 b=true:=aT
   rw[e1,e2,e3];exact zST a b f w ha hb hf
  ·have e1:uG 7 a b f=(a:Int):=by simp[uG]
   have e2:vB 7 a b f=zV 3 a b f:=by simp[vB]
   have e3:zAO 7 b=true:=aT
   rw[e1,e2,e3];exact zSU a b f w ha hb hf
  ·have e1:uG 8 a b f=(a:Int):=by simp[uG]
   have e2:vB 8 a b f=yM (uB 4 a b):=by simp[vB]
   have e3:zAO 8 b=true:=aT
   rw[e1,e2,e3];exact zSV a b f w ha hb hf
  ·have e1:uG 9 a b f=((a*2 ^ (b%32)%4294967296:Nat):Int):=by simp[uG]
   have e2:vB 9 a b f=zV 6 a b f:=by simp[vB]
   have e3:zAO 9 b=true:=aT
   rw[e1,e2,e3];exact zSW a b f w ha hb hf
  ·have e1:uG 10 a b f=(a:Int) / 2 ^ (b%32):=by simp[uG]
   have e2:vB 10 a b f=zV 7 a b f:=by simp[vB]
   have e3:zAO 10 b=true:=aT
   rw[e1,e2,e3];exact zQO a b f w ha hb hf
  ·have e1:uG 11 a b f=sgn a / 2 ^ (b%32)%4294967296:=by simp[uG]
   have e2:vB 11 a b f=zV 8 a b f:=by simp[vB]
   have e3:zAO 11 b=true:=aT
   rw[e1,e2,e3];exact zQP a b f w ha hb hf
  ·have e1:uG 12 a b f=zB6 (b%32) a:=by simp[uG]
   have e2:vB 12 a b f=zV 9 a b f:=by simp[vB]
   have e3:zAO 12 b=true:=aT
   rw[e1,e2,e3];exact zQQ a b f w ha hb hf
  ·have e1:uG 13 a b f=((a*b%4294967296:Nat):Int):=by simp[uG]
   have e2:vB 13 a b f=zV 10 a b f:=by simp[vB]
   have e3:zAO 13 b=true:=aT
   rw[e1,e2,e3];exact zQR a b f w ha hb hf
  ·by_cases hz:0 < b
   ·have e1:uG 14 a b f=((a / b:Nat):Int):=by simp[uG,hz]
    have e2:vB 14 a b f=yM ((a / b:Nat):Int):=by simp[vB,hz]
    have e3:zAO 14 b=true:=aT
    rw[e1,e2,e3];exact zQS a b f w ha hb hf hz
   ·have e0:b=0:=aO
    have e1:uG 14 a b f=0:=by simp[uG,e0]
    have e2:vB 14 a b f=0:=by simp[vB,e0]
    have e3:zAO 14 b=false:=aF
    rw[e1,e2,e3,e0];exact zFo 14 a f w ha hf (.inl rfl)
  ·by_cases hz:0 < b
   ·have e1:uG 15 a b f=((a%b:Nat):Int):=by simp[uG,hz]
    have e2:vB 15 a b f=yM ((a%b:Nat):Int):=by simp[vB,hz]
    have e3:zAO 15 b=true:=aT
    rw[e1,e2,e3];exact zQT a b f w ha hb hf hz
   ·have e0:b=0:=aO
    have e1:uG 15 a b f=0:=by simp[uG,e0]
    have e2:vB 15 a b f=0:=by simp[vB,e0]
    have e3:zAO 15 b=false:=aF
    rw[e1,e2,e3,e0];exact zFo 15 a f w ha hf (.inr rfl)
end Go.Proofs.Ytkmjenjahbicpaa.Va.Fl
namespace Go.Proofs.Ytkmjenjahbicpaa.Va
open Go.RowKit
theorem zFO(w:World)(o1 o2:Obj):Below w.heap.size w ((w.alloc o1).alloc o2):=(aB.alloc aL _).alloc aS _
theorem yS(w:World)(o1:Obj):Below w.heap.size w (w.alloc o1):=aB.alloc aL _
theorem zF1{w w1:World}{o1 o2:Obj}(h:Below ((w.alloc o1).alloc o2).heap.size ((w.alloc o1).alloc o2) w1):Below w.heap.size w w1:=(zFO w o1 o2).trans (h.mono zq19)
abbrev cxA(c:Nat→Nat):Array Value:=#[.int .u32 (c 0),.int .u32 (c 1),.int .u32 (c 2),.int .u32 (c 3),.int .u32 (c 4),.int .u32 (c 5),.int .u32 (c 6),.int .u32 (c 7),.int .u32 (c 8),.int .u32 (c 9),.int .u32 (c 10),.int .u32 (c 11)]
abbrev cxV(c:Nat→Nat):Value:=.agg (cxA c)
abbrev sxA(r:Nat→Nat)(pc:Nat)(f:Int):Array Value:=#[.int .u32 (r 0),.int .u32 (r 1),.int .u32 (r 2),.int .u32 (r 3),.int .u32 (r 4),.int .u32 (r 5),.int .u32 (r 6),.int .u32 (r 7),.int .u32 pc,.int .u32 f]
abbrev sxV(r:Nat→Nat)(pc:Nat)(f:Int):Value:=.agg (sxA r pc f)
theorem zFN:(Try.prog.info? 22).map (·.size)=some 1:=by kernel_rfl
def zC3(c:Nat→Nat):Prop:=∀ i,c i < 4294967296
abbrev cxF(c:Nat→Nat):Int:=Fl.zV (c 8) (c 9) (c 10) (c 11)
theorem zDH{w w1:World}{o1 o2:Obj}(h:Below ((w.alloc o1).alloc o2).heap.size ((w.alloc o1).alloc o2) w1):w1.heap[w.heap.size]?=some o1∧w1.heap[w.heap.size+1]?=some o2∧Below w.heap.size w w1:=by
 refine⟨(h.block _ zq19).trans (al2 w o1 o2).1,(h.block _ aS).trans (al2 w o1 o2).2,zF1 h⟩
theorem zEQ(c:Nat→Nat)(pc:Nat)(w:World)(hc:zC3 c) :
  Calls Try.prog 27 #[cxV c,.int .u32 pc] w fun e w'=>e=.returned (sxV c pc (cxF c))∧Below w.heap.size w w':=by
 have h8:(c 8:Int) < 4294967296:=by have:=hc 8;omega
 have h80:(0:Int)≤(c 8:Int):=aO
 have HC:Hid (zC3 c):=hc
 obtain⟨F,HF⟩:∃ F:Int,Hid (cxF c=F):=⟨_,rfl⟩
 clear hc
 go_enter Try.func27,Try.ntmps27
 go_wp2_with (go_at_call 54;refine(Fl.uC (c 8) (c 9) (c 10) (c 11) _ (HC.out 9) (HC.out 10) (HC.out 11)).mono ?_;rintro e w1 ⟨rfl,rfl⟩;rw[show Fl.zV (c 8) (c 9) (c 10) (c 11)=F from HF.out])
 refine wp_loop_rounds 9 ?_
 iterate 9 (rw[rounds_succ];go_wp2)
 exact bodyPost_ret (v:=sxV c pc (cxF c)) (by rw[HF.out];simp[results,Try.results27,go_sem]) rfl ⟨rfl,by(repeat first|with_reducible exact Below.refl _ _|with_reducible exact hB|with_reducible refine Below.drew ?_|with_reducible refine Below.alloc ?_ zq8 _|with_reducible refine Below.setCell ?_ zq8 _)⟩
def unF(w:Int)(a:Nat):Nat:=
 if w=0 then 4294967295 - a else if w=1 then(4294967296 - a)%4294967296 else if w=2 then(if 128≤a%256 then a%256+4294967040 else a%256)
 else if w=3 then(if 32768≤a%65536 then a%65536+4294901760 else a%65536) else if w=4 then a%256 else if w=5 then a%65536 else if a=0 then 1 else 0
theorem zDb(b:Bool)(w:World):Calls Try.prog 59 #[.bool b] w fun e w'=>e=.returned (.int .u32 (Fl.isF b 1))∧w=w':=by
 cases b<;>(go_enter Try.func59,Try.ntmps59;go_wp2;go_ret;exact⟨rfl,rfl⟩)
theorem zGE(x:Int)(w:World)(h0:0≤x)(h1:x < 4294967296):Calls Try.prog 85 #[.int .u32 x] w fun e w'=>e=.returned (.int .i64 (Fl.sgn x))∧w=w':=by
 by_cases h:2147483648≤x
 ·rw[Fl.sgn,if_pos h]
  go_enter Try.func85,Try.ntmps85;go_wp2;go_ret;exact⟨rfl,rfl⟩
 ·rw[Fl.sgn,if_neg h]
  go_enter Try.func85,Try.ntmps85;go_wp2;go_ret;exact⟨rfl,rfl⟩
theorem zC4{a b:Int}(h:a=b):Ending.returned (.int .u32 a)=.returned (.int .u32 b):=by rw[h]
theorem zDd(k:Int)(a:Nat)(w:World)(ha:a < 4294967296)(hk:0≤k∧k≤6):Calls Try.prog 56 #[.int .i64 k,.int .u32 a] w fun e w'=>e=.returned (.int .u32 (unF k a))∧w=w':=by
 have a0:(0:Int)≤(a:Int):=aO
 have a1:(a:Int) < 4294967296:=aO
 rcases(by omega:k=0∨k=1∨k=2∨k=3∨k=4∨k=5∨k=6) with rfl|rfl|rfl|rfl|rfl|rfl|rfl
 ·go_enter Try.func56,Try.ntmps56;go_wp2;go_ret;exact⟨zC4 (by simp[unF]<;>omega),rfl⟩
 ·go_enter Try.func56,Try.ntmps56;go_wp2;go_ret;exact⟨zC4 (by simp[unF]<;>omega),rfl⟩
 ·by_cases h:128≤a%256
  ·have d:decide (128≤(a:Int)%256)=true:=aT
   go_enter Try.func56,Try.ntmps56;go_wp2;go_ret;exact⟨zC4 (by simp[unF,h]<;>omega),rfl⟩
  ·have d:decide (128≤(a:Int)%256)=false:=aF
   go_enter Try.func56,Try.ntmps56;go_wp2;go_ret;exact⟨zC4 (by simp[unF,h]),rfl⟩
 ·by_cases h:32768≤a%65536
  ·have d:decide (32768≤(a:Int)%65536)=true:=aT
   go_enter Try.func56,Try.ntmps56;go_wp2;go_ret;exact⟨zC4 (by simp[unF,h]<;>omega),rfl⟩
  ·have d:decide (32768≤(a:Int)%65536)=false:=aF
   go_enter Try.func56,Try.ntmps56;go_wp2;go_ret;exact⟨zC4 (by simp[unF,h]),rfl⟩
 ·go_enter Try.func56,Try.ntmps56;go_wp2;go_ret;exact⟨zC4 (by simp[unF]),rfl⟩
 ·go_enter Try.func56,Try.ntmps56;go_wp2;go_ret;exact⟨zC4 (by simp[unF]),rfl⟩
 ·go_enter Try.func56,Try.ntmps56
  go_wp2_with (go_at_call 59;refine(zDb _ _).mono ?_;rintro e w1 ⟨rfl,rfl⟩)
  go_ret
  exact⟨zC4 (by by_cases h:a=0<;>simp[unF,Fl.isF,h]),rfl⟩
end Go.Proofs.Ytkmjenjahbicpaa.Va
