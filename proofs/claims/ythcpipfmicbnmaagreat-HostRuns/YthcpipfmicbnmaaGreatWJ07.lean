import Derived.Test.YthcpipfmicbnmaaGreatWJ05
import Derived.Test.YthcpipfmicbnmaaGreatWJ06
import Derived.Test.YthcpipfmicbnmaaGreatWJ04
import Derived.OwnWalk
set_option maxRecDepth 100000
set_option linter.unusedVariables false
set_option linter.unusedSimpArgs false
set_option maxHeartbeats 1000000
namespace Go.Proofs.YthcpipfmicbnmaaGreat.Va.Fl
open Go.RowKit
theorem zHC(c:Int)(f:Nat)(w:World)(hf:f < 4294967296):Calls Tryz.prog 77 #[.int .i64 c,.int .u32 f] w fun e w'=>e=.returned (.bool (zO c f))∧Below w.heap.size w w':=by
 by_cases hc:c < 0∨15 < c
 ·exact zJk c f w hc
 ·have hcc:c=0∨c=1∨c=2∨c=3∨c=4∨c=5∨c=6∨c=7∨c=8∨c=9∨c=10∨c=11∨c=12∨c=13∨c=14∨c=15:=aO
  rcases hcc with rfl|rfl|rfl|rfl|rfl|rfl|rfl|rfl|rfl|rfl|rfl|rfl|rfl|rfl|rfl|rfl
  ·exact holds0 f w hf
  ·exact zMw f w hf
  ·exact zMx f w hf
  ·exact zMy f w hf
  ·exact zMz f w hf
  ·exact zMA f w hf
  ·exact zMB f w hf
  ·exact zMC f w hf
  ·exact zMD f w hf
  ·exact zME f w hf
  ·exact zKT f w hf
  ·exact holds11 f w hf
  ·exact zKU f w hf
  ·exact zKV f w hf
  ·exact zKW f w hf
  ·exact zKX f w hf
theorem zBx(x f:Nat)(w:World)(hx:x < 4294967296)(hf:f < 4294967296):Calls Tryz.prog 74 #[.int .i64 5,.int .u32 x,.int .u32 0,.int .u32 f] w fun e w'=>e=.returned (.int .u32 (yC x))∧w=w':=zFX x 0 f w hx aO hf
theorem zCY(o:Int)(a b x:Nat)(w:World)(hx:vQ o a b=x)(ha:a < 4294967296)(hb:b < 4294967296):Calls Tryz.prog 101 #[.int .i64 o,.int .u32 a,.int .u32 b] w fun e w'=>e=.returned (.int .u32 x)∧w=w':=by
 subst hx;exact zII o a b w ha hb
theorem zGU(f:Nat):(f:Int) / 4%2=vM f:=by unfold vM;omega
theorem zO7(a b f:Nat)(w:World)(ha:a < 4294967296)(hb:b < 4294967296)(hf:f < 4294967296):Calls Tryz.prog 94 #[.int .i64 0,.int .u32 a,.int .u32 b,.int .u32 f] w fun e w'=>e=.returned (.tuple #[.int .u32 (((a:Int)+b)%4294967296),.int .u32 (zN 1 a b f),.bool true])∧w=w':=by
 have ha0:(0:Int)≤a:=aO
 have ha1:(a:Int) < 4294967296:=aO
 have hb0:(0:Int)≤b:=aO
 have hb1:(b:Int) < 4294967296:=aO
 have hf0:(0:Int)≤f:=aO
 have hf1:(f:Int) < 4294967296:=aO
 go_enter Tryz.func94,Tryz.ntmps94
 go_wp2_with first
  | (go_at_call 87;refine(vA _ _ aO aO).mono ?_;rintro e w' ⟨rfl,rfl⟩)
  | (go_at_call 74;refine(vV 1 a b f _ aO aO hf).mono ?_;rintro e w' ⟨rfl,rfl⟩)
 go_ret3
 exact⟨rfl,rfl⟩
theorem zO8(a b f:Nat)(w:World)(ha:a < 4294967296)(hb:b < 4294967296)(hf:f < 4294967296):Calls Tryz.prog 94 #[.int .i64 1,.int .u32 a,.int .u32 b,.int .u32 f] w fun e w'=>e=.returned (.tuple #[.int .u32 (((a:Int)+b+vM f)%4294967296),.int .u32 (zN 2 a b f),.bool true])∧w=w':=by
 have ha0:(0:Int)≤a:=aO
 have ha1:(a:Int) < 4294967296:=aO
 have hb0:(0:Int)≤b:=aO
 have hb1:(b:Int) < 4294967296:=aO
 have hf0:(0:Int)≤f:=aO
 have hf1:(f:Int) < 4294967296:=aO
 have hc:=zGU f
 have hc0:=zAM f
 obtain⟨c,hcc⟩:∃ c,vM f=c:=⟨_,rfl⟩
 rw[hcc] at hc hc0
 rw[hcc]
 obtain⟨hc1,hc2⟩:=hc0
 clear hcc
 go_enter Tryz.func94,Tryz.ntmps94
 go_wp2_with first
  | (go_at_call 87;refine(vA _ _ aO aO).mono ?_;rintro e w' ⟨rfl,rfl⟩)
  | (go_at_call 74;refine(vV 2 a b f _ aO aO hf).mono ?_;rintro e w' ⟨rfl,rfl⟩)
 go_ret3
 exact⟨rfl,rfl⟩
theorem zO9(a b f:Nat)(w:World)(ha:a < 4294967296)(hb:b < 4294967296)(hf:f < 4294967296):Calls Tryz.prog 94 #[.int .i64 2,.int .u32 a,.int .u32 b,.int .u32 f] w fun e w'=>e=.returned (.tuple #[.int .u32 (((a:Int) - b)%4294967296),.int .u32 (zN 3 a b f),.bool true])∧w=w':=by
 have ha0:(0:Int)≤a:=aO
 have ha1:(a:Int) < 4294967296:=aO
 have hb0:(0:Int)≤b:=aO
 have hb1:(b:Int) < 4294967296:=aO
 have hf0:(0:Int)≤f:=aO
 have hf1:(f:Int) < 4294967296:=aO
 go_enter Tryz.func94,Tryz.ntmps94
 go_wp2_with first
  | (go_at_call 87;refine(vA _ _ aO aO).mono ?_;rintro e w' ⟨rfl,rfl⟩)
  | (go_at_call 74;refine(vV 3 a b f _ aO aO hf).mono ?_;rintro e w' ⟨rfl,rfl⟩)
 go_ret3
 exact⟨rfl,rfl⟩
theorem zPa(a b f:Nat)(w:World)(ha:a < 4294967296)(hb:b < 4294967296)(hf:f < 4294967296):Calls Tryz.prog 94 #[.int .i64 3,.int .u32 a,.int .u32 b,.int .u32 f] w fun e w'=>e=.returned (.tuple #[.int .u32 (((a:Int) - b - vM f)%4294967296),.int .u32 (zN 4 a b f),.bool true])∧w=w':=by
 have ha0:(0:Int)≤a:=aO
 have ha1:(a:Int) < 4294967296:=aO
 have hb0:(0:Int)≤b:=aO
 have hb1:(b:Int) < 4294967296:=aO
 have hf0:(0:Int)≤f:=aO
 have hf1:(f:Int) < 4294967296:=aO
 have hc:=zGU f
 have hc0:=zAM f
 obtain⟨c,hcc⟩:∃ c,vM f=c:=⟨_,rfl⟩
 rw[hcc] at hc hc0
 rw[hcc]
 obtain⟨hc1,hc2⟩:=hc0
 clear hcc
 go_enter Tryz.func94,Tryz.ntmps94
 go_wp2_with first
  | (go_at_call 87;refine(vA _ _ aO aO).mono ?_;rintro e w' ⟨rfl,rfl⟩)
  | (go_at_call 74;refine(vV 4 a b f _ aO aO hf).mono ?_;rintro e w' ⟨rfl,rfl⟩)
 go_ret3
 exact⟨rfl,rfl⟩
theorem zPb(a b f:Nat)(w:World)(ha:a < 4294967296)(hb:b < 4294967296)(hf:f < 4294967296):Calls Tryz.prog 94 #[.int .i64 4,.int .u32 a,.int .u32 b,.int .u32 f] w fun e w'=>e=.returned (.tuple #[.int .u32 ((vQ 4 a b:Int)),.int .u32 (yC (vQ 4 a b)),.bool true])∧w=w':=by
 have ha0:(0:Int)≤a:=aO
 have ha1:(a:Int) < 4294967296:=aO
 have hb0:(0:Int)≤b:=aO
 have hb1:(b:Int) < 4294967296:=aO
 have hf0:(0:Int)≤f:=aO
 have hf1:(f:Int) < 4294967296:=aO
 obtain⟨x,hx0⟩:∃ x,vQ 4 a b=x:=⟨_,rfl⟩
 have hx:x < 4294967296:=by rw[← hx0];exact zBw 4 a b ha hb
 have HX:Hid (vQ 4 a b=x):=hx0
 rw[hx0]
 clear hx0
 go_enter Tryz.func94,Tryz.ntmps94
 go_wp2_with first
  | (go_at_call 101;refine(zCY 4 a b x _ HX.out ha hb).mono ?_;rintro e w' ⟨rfl,rfl⟩)
  | (go_at_call 74;refine(zBx x f _ hx hf).mono ?_;rintro e w' ⟨rfl,rfl⟩)
 go_ret3
 exact⟨rfl,rfl⟩
theorem zPc(a b f:Nat)(w:World)(ha:a < 4294967296)(hb:b < 4294967296)(hf:f < 4294967296):Calls Tryz.prog 94 #[.int .i64 5,.int .u32 a,.int .u32 b,.int .u32 f] w fun e w'=>e=.returned (.tuple #[.int .u32 ((vQ 5 a b:Int)),.int .u32 (yC (vQ 5 a b)),.bool true])∧w=w':=by
 have ha0:(0:Int)≤a:=aO
 have ha1:(a:Int) < 4294967296:=aO
 have hb0:(0:Int)≤b:=aO
 have hb1:(b:Int) < 4294967296:=aO
 have hf0:(0:Int)≤f:=aO
 have hf1:(f:Int) < 4294967296:=aO
 obtain⟨x,hx0⟩:∃ x,vQ 5 a b=x:=⟨_,rfl⟩
 have hx:x < 4294967296:=by rw[← hx0];exact zBw 5 a b ha hb
 have HX:Hid (vQ 5 a b=x):=hx0
 rw[hx0]
 clear hx0
 go_enter Tryz.func94,Tryz.ntmps94
 go_wp2_with first
  | (go_at_call 101;refine(zCY 5 a b x _ HX.out ha hb).mono ?_;rintro e w' ⟨rfl,rfl⟩)
  | (go_at_call 74;refine(zBx x f _ hx hf).mono ?_;rintro e w' ⟨rfl,rfl⟩)
 go_ret3
 exact⟨rfl,rfl⟩
theorem zPd(a b f:Nat)(w:World)(ha:a < 4294967296)(hb:b < 4294967296)(hf:f < 4294967296):Calls Tryz.prog 94 #[.int .i64 6,.int .u32 a,.int .u32 b,.int .u32 f] w fun e w'=>e=.returned (.tuple #[.int .u32 ((vQ 6 a b:Int)),.int .u32 (yC (vQ 6 a b)),.bool true])∧w=w':=by
 have ha0:(0:Int)≤a:=aO
 have ha1:(a:Int) < 4294967296:=aO
 have hb0:(0:Int)≤b:=aO
 have hb1:(b:Int) < 4294967296:=aO
 have hf0:(0:Int)≤f:=aO
 have hf1:(f:Int) < 4294967296:=aO
 obtain⟨x,hx0⟩:∃ x,vQ 6 a b=x:=⟨_,rfl⟩
 have hx:x < 4294967296:=by rw[← hx0];exact zBw 6 a b ha hb
 have HX:Hid (vQ 6 a b=x):=hx0
 rw[hx0]
 clear hx0
 go_enter Tryz.func94,Tryz.ntmps94
 go_wp2_with first
  | (go_at_call 101;refine(zCY 6 a b x _ HX.out ha hb).mono ?_;rintro e w' ⟨rfl,rfl⟩)
  | (go_at_call 74;refine(zBx x f _ hx hf).mono ?_;rintro e w' ⟨rfl,rfl⟩)
 go_ret3
 exact⟨rfl,rfl⟩
theorem zPe(a b f:Nat)(w:World)(ha:a < 4294967296)(hb:b < 4294967296)(hf:f < 4294967296):Calls Tryz.prog 94 #[.int .i64 7,.int .u32 a,.int .u32 b,.int .u32 f] w fun e w'=>e=.returned (.tuple #[.int .u32 ((a:Int)),.int .u32 (zN 3 a b f),.bool true])∧w=w':=by
 have ha0:(0:Int)≤a:=aO
 have ha1:(a:Int) < 4294967296:=aO
 have hb0:(0:Int)≤b:=aO
 have hb1:(b:Int) < 4294967296:=aO
 have hf0:(0:Int)≤f:=aO
 have hf1:(f:Int) < 4294967296:=aO
 go_enter Tryz.func94,Tryz.ntmps94
 go_wp2_with first
  | (go_at_call 74;refine(vV 3 a b f _ aO aO hf).mono ?_;rintro e w' ⟨rfl,rfl⟩)
 go_ret3
 exact⟨rfl,rfl⟩
theorem zPf(a b f:Nat)(w:World)(ha:a < 4294967296)(hb:b < 4294967296)(hf:f < 4294967296):Calls Tryz.prog 94 #[.int .i64 8,.int .u32 a,.int .u32 b,.int .u32 f] w fun e w'=>e=.returned (.tuple #[.int .u32 ((a:Int)),.int .u32 (yC (vQ 4 a b)),.bool true])∧w=w':=by
 have ha0:(0:Int)≤a:=aO
 have ha1:(a:Int) < 4294967296:=aO
 have hb0:(0:Int)≤b:=aO
 have hb1:(b:Int) < 4294967296:=aO
 have hf0:(0:Int)≤f:=aO
 have hf1:(f:Int) < 4294967296:=aO
 obtain⟨x,hx0⟩:∃ x,vQ 4 a b=x:=⟨_,rfl⟩
 have hx:x < 4294967296:=by rw[← hx0];exact zBw 4 a b ha hb
 have HX:Hid (vQ 4 a b=x):=hx0
 rw[hx0]
 clear hx0
 go_enter Tryz.func94,Tryz.ntmps94
 go_wp2_with first
  | (go_at_call 101;refine(zCY 4 a b x _ HX.out ha hb).mono ?_;rintro e w' ⟨rfl,rfl⟩)
  | (go_at_call 74;refine(zBx x f _ hx hf).mono ?_;rintro e w' ⟨rfl,rfl⟩)
 go_ret3
 exact⟨rfl,rfl⟩
theorem zPg(a b f:Nat)(w:World)(ha:a < 4294967296)(hb:b < 4294967296)(hf:f < 4294967296):Calls Tryz.prog 94 #[.int .i64 9,.int .u32 a,.int .u32 b,.int .u32 f] w fun e w'=>e=.returned (.tuple #[.int .u32 (((a*2 ^ (b%32)%4294967296:Nat):Int)),.int .u32 (zN 6 a b f),.bool true])∧w=w':=by
 have ha0:(0:Int)≤a:=aO
 have ha1:(a:Int) < 4294967296:=aO
 have hb0:(0:Int)≤b:=aO
 have hb1:(b:Int) < 4294967296:=aO
 have hf0:(0:Int)≤f:=aO
 have hf1:(f:Int) < 4294967296:=aO
 obtain⟨n,hn⟩:∃ n,b%32=n:=⟨_,rfl⟩
 have hnb:n≤31:=aO
 rw[hn]
 have hni:(b:Int)%32=(n:Int):=aO
 have hn0:(0:Int)≤n:=aO
 have hn1:(n:Int)≤31:=aO
 clear hn
 obtain⟨d,hd⟩:∃ d,a*2 ^ n=d:=⟨_,rfl⟩
 have HD:Hid (a*2 ^ n=d):=hd
 have hdb:d < 18446744073709551616:=by
  rw[← hd]
  have:2 ^ n≤2 ^ 31:=Nat.pow_le_pow_right aD hnb
  exact Nat.lt_of_le_of_lt (Nat.mul_le_mul (Nat.le_of_lt_succ (m:=a) (n:=4294967295) ha) this) aD
 have hd0:(0:Int)≤d:=aO
 have hd1:(d:Int) < 18446744073709551616:=aO
 have e:((a*2 ^ n%4294967296:Nat):Int)=(d:Int)%4294967296:=by rw[hd];simp
 rw[e]
 clear hd e hdb
 go_enter Tryz.func94,Tryz.ntmps94
 go_wp2_with first
  | (go_at_call 91;refine(zDW a n d _ HD.out ha hnb).mono ?_;rintro e w' ⟨rfl,rfl⟩)
  | (go_at_call 74;refine(vV 6 a b f _ aO aO hf).mono ?_;rintro e w' ⟨rfl,rfl⟩)
 go_ret3
 exact⟨rfl,rfl⟩
theorem zNl(a b f:Nat)(w:World)(ha:a < 4294967296)(hb:b < 4294967296)(hf:f < 4294967296):Calls Tryz.prog 94 #[.int .i64 10,.int .u32 a,.int .u32 b,.int .u32 f] w fun e w'=>e=.returned (.tuple #[.int .u32 ((a:Int) / 2 ^ (b%32)),.int .u32 (zN 7 a b f),.bool true])∧w=w':=by
 have ha0:(0:Int)≤a:=aO
 have ha1:(a:Int) < 4294967296:=aO
 have hb0:(0:Int)≤b:=aO
 have hb1:(b:Int) < 4294967296:=aO
 have hf0:(0:Int)≤f:=aO
 have hf1:(f:Int) < 4294967296:=aO
 obtain⟨n,hn⟩:∃ n,b%32=n:=⟨_,rfl⟩
 have hnb:n≤31:=aO
 rw[hn]
 have hni:(b:Int)%32=(n:Int):=aO
 have hn0:(0:Int)≤n:=aO
 have hn1:(n:Int)≤31:=aO
 clear hn
 obtain⟨R1,hR1⟩:∃ R,(a:Int) / 2 ^ n=R:=⟨_,rfl⟩
 have b1:=zAN a n ha0
 rw[hR1] at b1
 rw[hR1]
 obtain⟨b10,b11⟩:=b1
 go_enter Tryz.func94,Tryz.ntmps94
 go_wp2_with first
  | (go_at_call 92;refine(zBp _ _ _ aO aO aO).mono ?_;rintro e w' ⟨rfl,rfl⟩;simp only[hR1])
  | (go_at_call 74;refine(vV 7 a b f _ aO aO hf).mono ?_;rintro e w' ⟨rfl,rfl⟩)
 go_ret3
 exact⟨rfl,rfl⟩
theorem zNm(a b f:Nat)(w:World)(ha:a < 4294967296)(hb:b < 4294967296)(hf:f < 4294967296):Calls Tryz.prog 94 #[.int .i64 11,.int .u32 a,.int .u32 b,.int .u32 f] w fun e w'=>e=.returned (.tuple #[.int .u32 (vP a / 2 ^ (b%32)%4294967296),.int .u32 (zN 8 a b f),.bool true])∧w=w':=by
 have ha0:(0:Int)≤a:=aO
 have ha1:(a:Int) < 4294967296:=aO
 have hb0:(0:Int)≤b:=aO
 have hb1:(b:Int) < 4294967296:=aO
 have hf0:(0:Int)≤f:=aO
 have hf1:(f:Int) < 4294967296:=aO
 obtain⟨n,hn⟩:∃ n,b%32=n:=⟨_,rfl⟩
 have hnb:n≤31:=aO
 rw[hn]
 have hni:(b:Int)%32=(n:Int):=aO
 have hn0:(0:Int)≤n:=aO
 have hn1:(n:Int)≤31:=aO
 clear hn
 obtain⟨s1,s2⟩:=vJ a ha0 ha1
 obtain⟨R1,hR1⟩:∃ R,vP a / 2 ^ n=R:=⟨_,rfl⟩
 have b1:=zDc (vP a) n s1 s2
 rw[hR1] at b1
 rw[hR1]
 obtain⟨b10,b11⟩:=b1
 go_enter Tryz.func94,Tryz.ntmps94
 go_wp2_with first
  | (go_at_call 92;refine(zBp _ _ _ aO aO aO).mono ?_;rintro e w' ⟨rfl,rfl⟩;simp only[hR1])
  | (go_at_call 90;refine(vD _ _ aO aO).mono ?_;rintro e w' ⟨rfl,rfl⟩)
  | (go_at_call 87;refine(vA _ _ aO aO).mono ?_;rintro e w' ⟨rfl,rfl⟩)
  | (go_at_call 74;refine(vV 8 a b f _ aO aO hf).mono ?_;rintro e w' ⟨rfl,rfl⟩)
 go_ret3
 exact⟨rfl,rfl⟩
theorem zNn(a b f:Nat)(w:World)(ha:a < 4294967296)(hb:b < 4294967296)(hf:f < 4294967296):Calls Tryz.prog 94 #[.int .i64 12,.int .u32 a,.int .u32 b,.int .u32 f] w fun e w'=>e=.returned (.tuple #[.int .u32 (vT (b%32) a),.int .u32 (zN 9 a b f),.bool true])∧w=w':=by
 have ha0:(0:Int)≤a:=aO
 have ha1:(a:Int) < 4294967296:=aO
 have hb0:(0:Int)≤b:=aO
 have hb1:(b:Int) < 4294967296:=aO
 have hf0:(0:Int)≤f:=aO
 have hf1:(f:Int) < 4294967296:=aO
 obtain⟨n,hn⟩:∃ n,b%32=n:=⟨_,rfl⟩
 have hnb:n≤31:=aO
 rw[hn]
 have hni:(b:Int)%32=(n:Int):=aO
 have hn0:(0:Int)≤n:=aO
 have hn1:(n:Int)≤31:=aO
 clear hn
 go_enter Tryz.func94,Tryz.ntmps94
 go_wp2_with first
  | (go_at_call 93;refine(zDy _ n _ ha0 ha1 aO).mono ?_;rintro e w' ⟨rfl,rfl⟩)
  | (go_at_call 74;refine(vV 9 a b f _ aO aO hf).mono ?_;rintro e w' ⟨rfl,rfl⟩)
 go_ret3
 exact⟨rfl,rfl⟩
theorem zNo(a b f:Nat)(w:World)(ha:a < 4294967296)(hb:b < 4294967296)(hf:f < 4294967296):Calls Tryz.prog 94 #[.int .i64 13,.int .u32 a,.int .u32 b,.int .u32 f] w fun e w'=>e=.returned (.tuple #[.int .u32 (((a*b%4294967296:Nat):Int)),.int .u32 (zN 10 a b f),.bool true])∧w=w':=by
 have ha0:(0:Int)≤a:=aO
 have ha1:(a:Int) < 4294967296:=aO
 have hb0:(0:Int)≤b:=aO
 have hb1:(b:Int) < 4294967296:=aO
 have hf0:(0:Int)≤f:=aO
 have hf1:(f:Int) < 4294967296:=aO
 obtain⟨p,hp⟩:∃ p,a*b=p:=⟨_,rfl⟩
 have hpb:p < 18446744073709551616:=by
  rw[← hp]
  exact Nat.lt_of_le_of_lt (Nat.mul_le_mul (Nat.le_of_lt_succ (m:=a) (n:=4294967295) ha) (Nat.le_of_lt_succ (m:=b) (n:=4294967295) hb)) aD
 have hpi:(a:Int)*(b:Int)=(p:Int):=by rw[← hp];simp
 have hp0:(0:Int)≤p:=aO
 have hp1:(p:Int) < 18446744073709551616:=aO
 have e:((a*b%4294967296:Nat):Int)=(p:Int)%4294967296:=by rw[hp];simp
 rw[e]
 clear hp e hpb
 go_enter Tryz.func94,Tryz.ntmps94
 go_wp2_with first
  | (go_at_call 74;refine(vV 10 a b f _ aO aO hf).mono ?_;rintro e w' ⟨rfl,rfl⟩)
 go_ret3
 exact⟨rfl,rfl⟩
theorem zNp(a b f:Nat)(w:World)(ha:a < 4294967296)(hb:b < 4294967296)(hf:f < 4294967296)(hz:0 < b):Calls Tryz.prog 94 #[.int .i64 14,.int .u32 a,.int .u32 b,.int .u32 f] w fun e w'=>e=.returned (.tuple #[.int .u32 (((a / b:Nat):Int)),.int .u32 (yC ((a / b:Nat):Int)),.bool true])∧w=w':=by
 have ha0:(0:Int)≤a:=aO
 have ha1:(a:Int) < 4294967296:=aO
 have hb0:(0:Int)≤b:=aO
 have hb1:(b:Int) < 4294967296:=aO
 have hf0:(0:Int)≤f:=aO
 have hf1:(f:Int) < 4294967296:=aO
 have hbz:((b:Int)==0)=false:=by simp;omega
 have hbz':(b==0)=false:=by simp;omega
 have hbp:(0:Int) < b:=aO
 obtain⟨x,hx0⟩:∃ x,a / b=x:=⟨_,rfl⟩
 have hx:x < 4294967296:=by rw[← hx0];exact Nat.lt_of_le_of_lt (Nat.div_le_self _ _) ha
 have hxi:(a:Int) / (b:Int)=(x:Int):=by rw[← hx0];simp
 have hxp:(0:Int)≤x:=aO
 have hx1:(x:Int) < 4294967296:=aO
 obtain⟨x2,hx20⟩:∃ x,a / b=x:=⟨_,rfl⟩
 have hx2:x2 < 4294967296:=by rw[← hx20];exact Nat.lt_of_le_of_lt (Nat.div_le_self _ _) ha
 have hx2i:(a:Int) / (b:Int)=(x2:Int):=by rw[← hx20];simp
 have hx21:(x2:Int) < 4294967296:=aO
 rw[hx0]
 clear hx0 hx20
 go_enter Tryz.func94,Tryz.ntmps94
 go_wp2_with first
  | (go_at_call 74;refine(zBx x f _ hx hf).mono ?_;rintro e w' ⟨rfl,rfl⟩)
 go_ret3
 exact⟨rfl,rfl⟩
theorem zNq(a b f:Nat)(w:World)(ha:a < 4294967296)(hb:b < 4294967296)(hf:f < 4294967296)(hz:0 < b):Calls Tryz.prog 94 #[.int .i64 15,.int .u32 a,.int .u32 b,.int .u32 f] w fun e w'=>e=.returned (.tuple #[.int .u32 (((a%b:Nat):Int)),.int .u32 (yC ((a%b:Nat):Int)),.bool true])∧w=w':=by
 have ha0:(0:Int)≤a:=aO
 have ha1:(a:Int) < 4294967296:=aO
 have hb0:(0:Int)≤b:=aO
 have hb1:(b:Int) < 4294967296:=aO
 have hf0:(0:Int)≤f:=aO
 have hf1:(f:Int) < 4294967296:=aO
 have hbz:((b:Int)==0)=false:=by simp;omega
 have hbz':(b==0)=false:=by simp;omega
 have hbp:(0:Int) < b:=aO
 obtain⟨x,hx0⟩:∃ x,a%b=x:=⟨_,rfl⟩
 have hx:x < 4294967296:=by rw[← hx0];exact Nat.lt_of_le_of_lt (Nat.mod_le _ _) ha
 have hxi:(a:Int)%(b:Int)=(x:Int):=by rw[← hx0];simp
 have hxp:(0:Int)≤x:=aO
 have hx1:(x:Int) < 4294967296:=aO
 obtain⟨x2,hx20⟩:∃ x,a / b=x:=⟨_,rfl⟩
 have hx2:x2 < 4294967296:=by rw[← hx20];exact Nat.lt_of_le_of_lt (Nat.div_le_self _ _) ha
 have hx2i:(a:Int) / (b:Int)=(x2:Int):=by rw[← hx20];simp
 have hx21:(x2:Int) < 4294967296:=aO
 rw[hx0]
 clear hx0 hx20
 go_enter Tryz.func94,Tryz.ntmps94
 go_wp2_with first
  | (go_at_call 74;refine(zBx x f _ hx hf).mono ?_;rintro e w' ⟨rfl,rfl⟩)
 go_ret3
 exact⟨rfl,rfl⟩
theorem zLp(o:Int)(a b f:Nat)(w:World)(ha:a < 4294967296)(hb:b < 4294967296)(hf:f < 4294967296)(ho:o < 0∨15 < o):Calls Tryz.prog 94 #[.int .i64 o,.int .u32 a,.int .u32 b,.int .u32 f] w fun e w'=>e=.returned (.tuple #[.int .u32 0,.int .u32 0,.bool false])∧w=w':=by
 have ha0:(0:Int)≤a:=aO
 have ha1:(a:Int) < 4294967296:=aO
 have hb0:(0:Int)≤b:=aO
 have hb1:(b:Int) < 4294967296:=aO
 have hf0:(0:Int)≤f:=aO
 have hf1:(f:Int) < 4294967296:=aO
 have e0:(o==0)=false:=by simp;omega
 have e1:(o==1)=false:=by simp;omega
 have e2:(o==2)=false:=by simp;omega
 have e3:(o==3)=false:=by simp;omega
 have e4:(o==4)=false:=by simp;omega
 have e5:(o==5)=false:=by simp;omega
 have e6:(o==6)=false:=by simp;omega
 have e7:(o==7)=false:=by simp;omega
 have e8:(o==8)=false:=by simp;omega
 have e9:(o==9)=false:=by simp;omega
 have e10:(o==10)=false:=by simp;omega
 have e11:(o==11)=false:=by simp;omega
 have e12:(o==12)=false:=by simp;omega
 have e13:(o==13)=false:=by simp;omega
 have e14:(o==14)=false:=by simp;omega
 have e15:(o==15)=false:=by simp;omega
 have g14:(o !=14)=true:=by simp[bne,e14]
 have g15:(o !=15)=true:=by simp[bne,e15]
 clear ho
 go_enter Tryz.func94,Tryz.ntmps94
 go_wp2
 go_ret3
 exact⟨rfl,rfl⟩
theorem zD2(o:Int)(a f:Nat)(w:World)(ha:a < 4294967296)(hf:f < 4294967296)(ho:o=14∨o=15):Calls Tryz.prog 94 #[.int .i64 o,.int .u32 a,.int .u32 0,.int .u32 f] w fun e w'=>e=.returned (.tuple #[.int .u32 0,.int .u32 0,.bool false])∧w=w':=by
 have ha0:(0:Int)≤a:=aO
 have hf0:(0:Int)≤f:=aO
 rcases ho with rfl|rfl
 all_goals
  go_enter Tryz.func94,Tryz.ntmps94
  go_wp2
  go_ret3
  exact⟨rfl,rfl⟩
def vG(o:Int)(a b f:Nat):Int:=
 if o=0 then((a:Int)+b)%4294967296 else if o=1 then((a:Int)+b+vM f)%4294967296 else if o=2 then((a:Int) - b)%4294967296 else if o=3 then((a:Int) - b - vM f)%4294967296
 else if o=4∨o=5∨o=6 then(vQ o a b:Int) else if o=7∨o=8 then(a:Int) else if o=9 then((a*2 ^ (b%32)%4294967296:Nat):Int) else if o=10 then(a:Int) / 2 ^ (b%32)
 else if o=11 then vP a / 2 ^ (b%32)%4294967296 else if o=12 then vT (b%32) a else if o=13 then((a*b%4294967296:Nat):Int)
 else if o=14∧0 < b then((a / b:Nat):Int) else if o=15∧0 < b then((a%b:Nat):Int) else 0
def yU(o:Int)(a b f:Nat):Int:=
 if o=0 then zN 1 a b f else if o=1 then zN 2 a b f else if o=2 then zN 3 a b f else if o=3 then zN 4 a b f
 else if o=4∨o=5∨o=6 then yC (vQ o a b) else if o=7 then zN 3 a b f else if o=8 then yC (vQ 4 a b) else if o=9 then zN 6 a b f else if o=10 then zN 7 a b f
 else if o=11 then zN 8 a b f else if o=12 then zN 9 a b f else if o=13 then zN 10 a b f
 else if o=14∧0 < b then yC ((a / b:Nat):Int) else if o=15∧0 < b then yC ((a%b:Nat):Int) else 0
def zAe(o:Int)(b:Nat):Bool:=decide ((0≤o∧o≤13)∨((o=14∨o=15)∧0 < b))
theorem uZ(o:Int)(a b f:Nat)(w:World)(ha:a < 4294967296)(hb:b < 4294967296)(hf:f < 4294967296):Calls Tryz.prog 94 #[.int .i64 o,.int .u32 a,.int .u32 b,.int .u32 f] w fun e w'=>e=.returned (.tuple #[.int .u32 (vG o a b f),.int .u32 (yU o a b f),.bool (zAe o b)])∧w=w':=by
 by_cases ho:o < 0∨15 < o
 ·have e1:vG o a b f=0:=by unfold vG;repeat rw[if_neg aO]
  have e2:yU o a b f=0:=by unfold yU;repeat rw[if_neg aO]
  have e3:zAe o b=false:=aF
  rw[e1,e2,e3];exact zLp o a b f w ha hb hf ho
 ·have hc:o=0∨o=1∨o=2∨o=3∨o=4∨o=5∨o=6∨o=7∨o=8∨o=9∨o=10∨o=11∨o=12∨o=13∨o=14∨o=15:=aO
  rcases hc with rfl|rfl|rfl|rfl|rfl|rfl|rfl|rfl|rfl|rfl|rfl|rfl|rfl|rfl|rfl|rfl
  ·have e1:vG 0 a b f=((a:Int)+b)%4294967296:=by simp[vG]
   have e2:yU 0 a b f=zN 1 a b f:=by simp[yU]
   have e3:zAe 0 b=true:=aT
   rw[e1,e2,e3];exact zO7 a b f w ha hb hf
  ·have e1:vG 1 a b f=((a:Int)+b+vM f)%4294967296:=by simp[vG]
   have e2:yU 1 a b f=zN 2 a b f:=by simp[yU]
   have e3:zAe 1 b=true:=aT
   rw[e1,e2,e3];exact zO8 a b f w ha hb hf
  ·have e1:vG 2 a b f=((a:Int) - b)%4294967296:=by simp[vG]
   have e2:yU 2 a b f=zN 3 a b f:=by simp[yU]
   have e3:zAe 2 b=true:=aT
   rw[e1,e2,e3];exact zO9 a b f w ha hb hf
  ·have e1:vG 3 a b f=((a:Int) - b - vM f)%4294967296:=by simp[vG]
   have e2:yU 3 a b f=zN 4 a b f:=by simp[yU]
   have e3:zAe 3 b=true:=aT
   rw[e1,e2,e3];exact zPa a b f w ha hb hf
  ·have e1:vG 4 a b f=(vQ 4 a b:Int):=by simp[vG]
   have e2:yU 4 a b f=yC (vQ 4 a b):=by simp[yU]
   have e3:zAe 4 b=true:=aT
   rw[e1,e2,e3];exact zPb a b f w ha hb hf
  ·have e1:vG 5 a b f=(vQ 5 a b:Int):=by simp[vG]
   have e2:yU 5 a b f=yC (vQ 5 a b):=by simp[yU]
   have e3:zAe 5 b=true:=aT
   rw[e1,e2,e3];exact zPc a b f w ha hb hf
  ·have e1:vG 6 a b f=(vQ 6 a b:Int):=by simp[vG]
   have e2:yU 6 a b f=yC (vQ 6 a b):=by simp[yU]
   have e3:zAe 6 b=true:=aT
   rw[e1,e2,e3];exact zPd a b f w ha hb hf
  ·have e1:vG 7 a b f=(a:Int):=by simp[vG]
   have e2:yU 7 a b f=zN 3 a b f:=by simp[yU]
   have e3:zAe 7 b=true:=aT
   rw[e1,e2,e3];exact zPe a b f w ha hb hf
  ·have e1:vG 8 a b f=(a:Int):=by simp[vG]
   have e2:yU 8 a b f=yC (vQ 4 a b):=by simp[yU]
   have e3:zAe 8 b=true:=aT
   rw[e1,e2,e3];exact zPf a b f w ha hb hf
  ·have e1:vG 9 a b f=((a*2 ^ (b%32)%4294967296:Nat):Int):=by simp[vG]
   have e2:yU 9 a b f=zN 6 a b f:=by simp[yU]
   have e3:zAe 9 b=true:=aT
   rw[e1,e2,e3];exact zPg a b f w ha hb hf
  ·have e1:vG 10 a b f=(a:Int) / 2 ^ (b%32):=by simp[vG]
   have e2:yU 10 a b f=zN 7 a b f:=by simp[yU]
   have e3:zAe 10 b=true:=aT
   rw[e1,e2,e3];exact zNl a b f w ha hb hf
  ·have e1:vG 11 a b f=vP a / 2 ^ (b%32)%4294967296:=by simp[vG]
   have e2:yU 11 a b f=zN 8 a b f:=by simp[yU]
   have e3:zAe 11 b=true:=aT
   rw[e1,e2,e3];exact zNm a b f w ha hb hf
  ·have e1:vG 12 a b f=vT (b%32) a:=by simp[vG]
   have e2:yU 12 a b f=zN 9 a b f:=by simp[yU]
   have e3:zAe 12 b=true:=aT
   rw[e1,e2,e3];exact zNn a b f w ha hb hf
  ·have e1:vG 13 a b f=((a*b%4294967296:Nat):Int):=by simp[vG]
   have e2:yU 13 a b f=zN 10 a b f:=by simp[yU]
   have e3:zAe 13 b=true:=aT
   rw[e1,e2,e3];exact zNo a b f w ha hb hf
  ·by_cases hz:0 < b
   ·have e1:vG 14 a b f=((a / b:Nat):Int):=by simp[vG,hz]
    have e2:yU 14 a b f=yC ((a / b:Nat):Int):=by simp[yU,hz]
    have e3:zAe 14 b=true:=aT
    rw[e1,e2,e3];exact zNp a b f w ha hb hf hz
   ·have e0:b=0:=aO
    have e1:vG 14 a b f=0:=by simp[vG,e0]
    have e2:yU 14 a b f=0:=by simp[yU,e0]
    have e3:zAe 14 b=false:=aF
    rw[e1,e2,e3,e0];exact zD2 14 a f w ha hf (.inl rfl)
  ·by_cases hz:0 < b
   ·have e1:vG 15 a b f=((a%b:Nat):Int):=by simp[vG,hz]
    have e2:yU 15 a b f=yC ((a%b:Nat):Int):=by simp[yU,hz]
    have e3:zAe 15 b=true:=aT
    rw[e1,e2,e3];exact zNq a b f w ha hb hf hz
   ·have e0:b=0:=aO
    have e1:vG 15 a b f=0:=by simp[vG,e0]
    have e2:yU 15 a b f=0:=by simp[yU,e0]
    have e3:zAe 15 b=false:=aF
    rw[e1,e2,e3,e0];exact zD2 15 a f w ha hf (.inr rfl)
end Go.Proofs.YthcpipfmicbnmaaGreat.Va.Fl
