import Derived.Test.YtfokgedjocnnmaaGreatJ05
import Derived.Test.YtfokgedjocnnmaaGreatJ06
import Derived.Test.YtfokgedjocnnmaaGreatJ04
import Derived.OwnWalk
set_option maxRecDepth 100000
set_option linter.unusedVariables false
set_option linter.unusedSimpArgs false
set_option maxHeartbeats 1000000
namespace Go.Proofs.YtfokgedjocnnmaaGreat.Fl
open Go.RowKit
theorem holds_any(c:Int)(f:Nat)(w:World)(hf:f < 4294967296):Calls Tryz.prog 63 #[.int .i64 c,.int .u32 f] w fun e w'=>e=.returned (.bool (holdsF c f))∧Below w.heap.size w w':=by
 by_cases hc:c < 0∨15 < c
 ·exact holds_no c f w hc
 ·have hcc:c=0∨c=1∨c=2∨c=3∨c=4∨c=5∨c=6∨c=7∨c=8∨c=9∨c=10∨c=11∨c=12∨c=13∨c=14∨c=15:=zo
  rcases hcc with rfl|rfl|rfl|rfl|rfl|rfl|rfl|rfl|rfl|rfl|rfl|rfl|rfl|rfl|rfl|rfl
  ·exact holds0 f w hf
  ·exact holds1 f w hf
  ·exact holds2 f w hf
  ·exact holds3 f w hf
  ·exact holds4 f w hf
  ·exact holds5 f w hf
  ·exact holds6 f w hf
  ·exact holds7 f w hf
  ·exact holds8 f w hf
  ·exact holds9 f w hf
  ·exact holds10 f w hf
  ·exact holds11 f w hf
  ·exact holds12 f w hf
  ·exact holds13 f w hf
  ·exact holds14 f w hf
  ·exact holds15 f w hf
theorem flags5z(x f:Nat)(w:World)(hx:x < 4294967296)(hf:f < 4294967296):Calls Tryz.prog 62 #[.int .i64 5,.int .u32 x,.int .u32 0,.int .u32 f] w fun e w'=>e=.returned (.int .u32 (valF x))∧w=w':=flags5 x 0 f w hx zo hf
theorem bits_me(o:Int)(a b x:Nat)(w:World)(hx:bitN o a b=x)(ha:a < 4294967296)(hb:b < 4294967296):Calls Tryz.prog 96 #[.int .i64 o,.int .u32 a,.int .u32 b] w fun e w'=>e=.returned (.int .u32 x)∧w=w':=by
 subst hx;exact bits_any o a b w ha hb
theorem carF_eq(f:Nat):(f:Int) / 4%2=carF f:=by unfold carF;omega
theorem reck0(a b f:Nat)(w:World)(ha:a < 4294967296)(hb:b < 4294967296)(hf:f < 4294967296):Calls Tryz.prog 65 #[.int .i64 0,.int .u32 a,.int .u32 b,.int .u32 f] w fun e w'=>e=.returned (.tuple #[.int .u32 (((a:Int)+b)%4294967296),.int .u32 (flagsF 1 a b f),.bool true])∧w=w':=by
 have ha0:(0:Int)≤a:=zo
 have ha1:(a:Int) < 4294967296:=zo
 have hb0:(0:Int)≤b:=zo
 have hb1:(b:Int) < 4294967296:=zo
 have hf0:(0:Int)≤f:=zo
 have hf1:(f:Int) < 4294967296:=zo
 go_enter Tryz.func65,Tryz.ntmps65
 go_wp2_with first
  | (go_at_call 90;refine(word_any _ _ zo zo).mono ?_;rintro e w' ⟨rfl,rfl⟩)
  | (go_at_call 62;refine(flags_any 1 a b f _ zo zo hf).mono ?_;rintro e w' ⟨rfl,rfl⟩)
 go_ret3
 exact⟨rfl,rfl⟩
theorem reck1(a b f:Nat)(w:World)(ha:a < 4294967296)(hb:b < 4294967296)(hf:f < 4294967296):Calls Tryz.prog 65 #[.int .i64 1,.int .u32 a,.int .u32 b,.int .u32 f] w fun e w'=>e=.returned (.tuple #[.int .u32 (((a:Int)+b+carF f)%4294967296),.int .u32 (flagsF 2 a b f),.bool true])∧w=w':=by
 have ha0:(0:Int)≤a:=zo
 have ha1:(a:Int) < 4294967296:=zo
 have hb0:(0:Int)≤b:=zo
 have hb1:(b:Int) < 4294967296:=zo
 have hf0:(0:Int)≤f:=zo
 have hf1:(f:Int) < 4294967296:=zo
 have hc:=carF_eq f
 have hc0:=carF_bd f
 obtain⟨c,hcc⟩:∃ c,carF f=c:=⟨_,rfl⟩
 rw[hcc] at hc hc0
 rw[hcc]
 obtain⟨hc1,hc2⟩:=hc0
 clear hcc
 go_enter Tryz.func65,Tryz.ntmps65
 go_wp2_with first
  | (go_at_call 90;refine(word_any _ _ zo zo).mono ?_;rintro e w' ⟨rfl,rfl⟩)
  | (go_at_call 62;refine(flags_any 2 a b f _ zo zo hf).mono ?_;rintro e w' ⟨rfl,rfl⟩)
 go_ret3
 exact⟨rfl,rfl⟩
theorem reck2(a b f:Nat)(w:World)(ha:a < 4294967296)(hb:b < 4294967296)(hf:f < 4294967296):Calls Tryz.prog 65 #[.int .i64 2,.int .u32 a,.int .u32 b,.int .u32 f] w fun e w'=>e=.returned (.tuple #[.int .u32 (((a:Int) - b)%4294967296),.int .u32 (flagsF 3 a b f),.bool true])∧w=w':=by
 have ha0:(0:Int)≤a:=zo
 have ha1:(a:Int) < 4294967296:=zo
 have hb0:(0:Int)≤b:=zo
 have hb1:(b:Int) < 4294967296:=zo
 have hf0:(0:Int)≤f:=zo
 have hf1:(f:Int) < 4294967296:=zo
 go_enter Tryz.func65,Tryz.ntmps65
 go_wp2_with first
  | (go_at_call 90;refine(word_any _ _ zo zo).mono ?_;rintro e w' ⟨rfl,rfl⟩)
  | (go_at_call 62;refine(flags_any 3 a b f _ zo zo hf).mono ?_;rintro e w' ⟨rfl,rfl⟩)
 go_ret3
 exact⟨rfl,rfl⟩
theorem reck3(a b f:Nat)(w:World)(ha:a < 4294967296)(hb:b < 4294967296)(hf:f < 4294967296):Calls Tryz.prog 65 #[.int .i64 3,.int .u32 a,.int .u32 b,.int .u32 f] w fun e w'=>e=.returned (.tuple #[.int .u32 (((a:Int) - b - carF f)%4294967296),.int .u32 (flagsF 4 a b f),.bool true])∧w=w':=by
 have ha0:(0:Int)≤a:=zo
 have ha1:(a:Int) < 4294967296:=zo
 have hb0:(0:Int)≤b:=zo
 have hb1:(b:Int) < 4294967296:=zo
 have hf0:(0:Int)≤f:=zo
 have hf1:(f:Int) < 4294967296:=zo
 have hc:=carF_eq f
 have hc0:=carF_bd f
 obtain⟨c,hcc⟩:∃ c,carF f=c:=⟨_,rfl⟩
 rw[hcc] at hc hc0
 rw[hcc]
 obtain⟨hc1,hc2⟩:=hc0
 clear hcc
 go_enter Tryz.func65,Tryz.ntmps65
 go_wp2_with first
  | (go_at_call 90;refine(word_any _ _ zo zo).mono ?_;rintro e w' ⟨rfl,rfl⟩)
  | (go_at_call 62;refine(flags_any 4 a b f _ zo zo hf).mono ?_;rintro e w' ⟨rfl,rfl⟩)
 go_ret3
 exact⟨rfl,rfl⟩
theorem reck4(a b f:Nat)(w:World)(ha:a < 4294967296)(hb:b < 4294967296)(hf:f < 4294967296):Calls Tryz.prog 65 #[.int .i64 4,.int .u32 a,.int .u32 b,.int .u32 f] w fun e w'=>e=.returned (.tuple #[.int .u32 ((bitN 4 a b:Int)),.int .u32 (valF (bitN 4 a b)),.bool true])∧w=w':=by
 have ha0:(0:Int)≤a:=zo
 have ha1:(a:Int) < 4294967296:=zo
 have hb0:(0:Int)≤b:=zo
 have hb1:(b:Int) < 4294967296:=zo
 have hf0:(0:Int)≤f:=zo
 have hf1:(f:Int) < 4294967296:=zo
 obtain⟨x,hx0⟩:∃ x,bitN 4 a b=x:=⟨_,rfl⟩
 have hx:x < 4294967296:=by rw[← hx0];exact bitN_lt 4 a b ha hb
 have HX:Hid (bitN 4 a b=x):=hx0
 rw[hx0]
 clear hx0
 go_enter Tryz.func65,Tryz.ntmps65
 go_wp2_with first
  | (go_at_call 96;refine(bits_me 4 a b x _ HX.out ha hb).mono ?_;rintro e w' ⟨rfl,rfl⟩)
  | (go_at_call 62;refine(flags5z x f _ hx hf).mono ?_;rintro e w' ⟨rfl,rfl⟩)
 go_ret3
 exact⟨rfl,rfl⟩
theorem reck5(a b f:Nat)(w:World)(ha:a < 4294967296)(hb:b < 4294967296)(hf:f < 4294967296):Calls Tryz.prog 65 #[.int .i64 5,.int .u32 a,.int .u32 b,.int .u32 f] w fun e w'=>e=.returned (.tuple #[.int .u32 ((bitN 5 a b:Int)),.int .u32 (valF (bitN 5 a b)),.bool true])∧w=w':=by
 have ha0:(0:Int)≤a:=zo
 have ha1:(a:Int) < 4294967296:=zo
 have hb0:(0:Int)≤b:=zo
 have hb1:(b:Int) < 4294967296:=zo
 have hf0:(0:Int)≤f:=zo
 have hf1:(f:Int) < 4294967296:=zo
 obtain⟨x,hx0⟩:∃ x,bitN 5 a b=x:=⟨_,rfl⟩
 have hx:x < 4294967296:=by rw[← hx0];exact bitN_lt 5 a b ha hb
 have HX:Hid (bitN 5 a b=x):=hx0
 rw[hx0]
 clear hx0
 go_enter Tryz.func65,Tryz.ntmps65
 go_wp2_with first
  | (go_at_call 96;refine(bits_me 5 a b x _ HX.out ha hb).mono ?_;rintro e w' ⟨rfl,rfl⟩)
  | (go_at_call 62;refine(flags5z x f _ hx hf).mono ?_;rintro e w' ⟨rfl,rfl⟩)
 go_ret3
 exact⟨rfl,rfl⟩
theorem reck6(a b f:Nat)(w:World)(ha:a < 4294967296)(hb:b < 4294967296)(hf:f < 4294967296):Calls Tryz.prog 65 #[.int .i64 6,.int .u32 a,.int .u32 b,.int .u32 f] w fun e w'=>e=.returned (.tuple #[.int .u32 ((bitN 6 a b:Int)),.int .u32 (valF (bitN 6 a b)),.bool true])∧w=w':=by
 have ha0:(0:Int)≤a:=zo
 have ha1:(a:Int) < 4294967296:=zo
 have hb0:(0:Int)≤b:=zo
 have hb1:(b:Int) < 4294967296:=zo
 have hf0:(0:Int)≤f:=zo
 have hf1:(f:Int) < 4294967296:=zo
 obtain⟨x,hx0⟩:∃ x,bitN 6 a b=x:=⟨_,rfl⟩
 have hx:x < 4294967296:=by rw[← hx0];exact bitN_lt 6 a b ha hb
 have HX:Hid (bitN 6 a b=x):=hx0
 rw[hx0]
 clear hx0
 go_enter Tryz.func65,Tryz.ntmps65
 go_wp2_with first
  | (go_at_call 96;refine(bits_me 6 a b x _ HX.out ha hb).mono ?_;rintro e w' ⟨rfl,rfl⟩)
  | (go_at_call 62;refine(flags5z x f _ hx hf).mono ?_;rintro e w' ⟨rfl,rfl⟩)
 go_ret3
 exact⟨rfl,rfl⟩
theorem reck7(a b f:Nat)(w:World)(ha:a < 4294967296)(hb:b < 4294967296)(hf:f < 4294967296):Calls Tryz.prog 65 #[.int .i64 7,.int .u32 a,.int .u32 b,.int .u32 f] w fun e w'=>e=.returned (.tuple #[.int .u32 ((a:Int)),.int .u32 (flagsF 3 a b f),.bool true])∧w=w':=by
 have ha0:(0:Int)≤a:=zo
 have ha1:(a:Int) < 4294967296:=zo
 have hb0:(0:Int)≤b:=zo
 have hb1:(b:Int) < 4294967296:=zo
 have hf0:(0:Int)≤f:=zo
 have hf1:(f:Int) < 4294967296:=zo
 go_enter Tryz.func65,Tryz.ntmps65
 go_wp2_with first
  | (go_at_call 62;refine(flags_any 3 a b f _ zo zo hf).mono ?_;rintro e w' ⟨rfl,rfl⟩)
 go_ret3
 exact⟨rfl,rfl⟩
theorem reck8(a b f:Nat)(w:World)(ha:a < 4294967296)(hb:b < 4294967296)(hf:f < 4294967296):Calls Tryz.prog 65 #[.int .i64 8,.int .u32 a,.int .u32 b,.int .u32 f] w fun e w'=>e=.returned (.tuple #[.int .u32 ((a:Int)),.int .u32 (valF (bitN 4 a b)),.bool true])∧w=w':=by
 have ha0:(0:Int)≤a:=zo
 have ha1:(a:Int) < 4294967296:=zo
 have hb0:(0:Int)≤b:=zo
 have hb1:(b:Int) < 4294967296:=zo
 have hf0:(0:Int)≤f:=zo
 have hf1:(f:Int) < 4294967296:=zo
 obtain⟨x,hx0⟩:∃ x,bitN 4 a b=x:=⟨_,rfl⟩
 have hx:x < 4294967296:=by rw[← hx0];exact bitN_lt 4 a b ha hb
 have HX:Hid (bitN 4 a b=x):=hx0
 rw[hx0]
 clear hx0
 go_enter Tryz.func65,Tryz.ntmps65
 go_wp2_with first
  | (go_at_call 96;refine(bits_me 4 a b x _ HX.out ha hb).mono ?_;rintro e w' ⟨rfl,rfl⟩)
  | (go_at_call 62;refine(flags5z x f _ hx hf).mono ?_;rintro e w' ⟨rfl,rfl⟩)
 go_ret3
 exact⟨rfl,rfl⟩
theorem reck9(a b f:Nat)(w:World)(ha:a < 4294967296)(hb:b < 4294967296)(hf:f < 4294967296):Calls Tryz.prog 65 #[.int .i64 9,.int .u32 a,.int .u32 b,.int .u32 f] w fun e w'=>e=.returned (.tuple #[.int .u32 (((a*2 ^ (b%32)%4294967296:Nat):Int)),.int .u32 (flagsF 6 a b f),.bool true])∧w=w':=by
 have ha0:(0:Int)≤a:=zo
 have ha1:(a:Int) < 4294967296:=zo
 have hb0:(0:Int)≤b:=zo
 have hb1:(b:Int) < 4294967296:=zo
 have hf0:(0:Int)≤f:=zo
 have hf1:(f:Int) < 4294967296:=zo
 obtain⟨n,hn⟩:∃ n,b%32=n:=⟨_,rfl⟩
 have hnb:n≤31:=zo
 rw[hn]
 have hni:(b:Int)%32=(n:Int):=zo
 have hn0:(0:Int)≤n:=zo
 have hn1:(n:Int)≤31:=zo
 clear hn
 obtain⟨d,hd⟩:∃ d,a*2 ^ n=d:=⟨_,rfl⟩
 have HD:Hid (a*2 ^ n=d):=hd
 have hdb:d < 18446744073709551616:=by
  rw[← hd]
  have:2 ^ n≤2 ^ 31:=Nat.pow_le_pow_right (by decide) hnb
  exact Nat.lt_of_le_of_lt (Nat.mul_le_mul (Nat.le_of_lt_succ (m:=a) (n:=4294967295) ha) this) (by decide)
 have hd0:(0:Int)≤d:=zo
 have hd1:(d:Int) < 18446744073709551616:=zo
 have e:((a*2 ^ n%4294967296:Nat):Int)=(d:Int)%4294967296:=by rw[hd];simp
 rw[e]
 clear hd e hdb
 go_enter Tryz.func65,Tryz.ntmps65
 go_wp2_with first
  | (go_at_call 93;refine(double_me a n d _ HD.out ha hnb).mono ?_;rintro e w' ⟨rfl,rfl⟩)
  | (go_at_call 62;refine(flags_any 6 a b f _ zo zo hf).mono ?_;rintro e w' ⟨rfl,rfl⟩)
 go_ret3
 exact⟨rfl,rfl⟩
theorem reck10(a b f:Nat)(w:World)(ha:a < 4294967296)(hb:b < 4294967296)(hf:f < 4294967296):Calls Tryz.prog 65 #[.int .i64 10,.int .u32 a,.int .u32 b,.int .u32 f] w fun e w'=>e=.returned (.tuple #[.int .u32 ((a:Int) / 2 ^ (b%32)),.int .u32 (flagsF 7 a b f),.bool true])∧w=w':=by
 have ha0:(0:Int)≤a:=zo
 have ha1:(a:Int) < 4294967296:=zo
 have hb0:(0:Int)≤b:=zo
 have hb1:(b:Int) < 4294967296:=zo
 have hf0:(0:Int)≤f:=zo
 have hf1:(f:Int) < 4294967296:=zo
 obtain⟨n,hn⟩:∃ n,b%32=n:=⟨_,rfl⟩
 have hnb:n≤31:=zo
 rw[hn]
 have hni:(b:Int)%32=(n:Int):=zo
 have hn0:(0:Int)≤n:=zo
 have hn1:(n:Int)≤31:=zo
 clear hn
 obtain⟨R1,hR1⟩:∃ R,(a:Int) / 2 ^ n=R:=⟨_,rfl⟩
 have b1:=ediv_bd a n ha0
 rw[hR1] at b1
 rw[hR1]
 obtain⟨b10,b11⟩:=b1
 go_enter Tryz.func65,Tryz.ntmps65
 go_wp2_with first
  | (go_at_call 94;refine(half_any _ _ _ zo zo zo).mono ?_;rintro e w' ⟨rfl,rfl⟩;simp only[hR1])
  | (go_at_call 62;refine(flags_any 7 a b f _ zo zo hf).mono ?_;rintro e w' ⟨rfl,rfl⟩)
 go_ret3
 exact⟨rfl,rfl⟩
theorem reck11(a b f:Nat)(w:World)(ha:a < 4294967296)(hb:b < 4294967296)(hf:f < 4294967296):Calls Tryz.prog 65 #[.int .i64 11,.int .u32 a,.int .u32 b,.int .u32 f] w fun e w'=>e=.returned (.tuple #[.int .u32 (sgn a / 2 ^ (b%32)%4294967296),.int .u32 (flagsF 8 a b f),.bool true])∧w=w':=by
 have ha0:(0:Int)≤a:=zo
 have ha1:(a:Int) < 4294967296:=zo
 have hb0:(0:Int)≤b:=zo
 have hb1:(b:Int) < 4294967296:=zo
 have hf0:(0:Int)≤f:=zo
 have hf1:(f:Int) < 4294967296:=zo
 obtain⟨n,hn⟩:∃ n,b%32=n:=⟨_,rfl⟩
 have hnb:n≤31:=zo
 rw[hn]
 have hni:(b:Int)%32=(n:Int):=zo
 have hn0:(0:Int)≤n:=zo
 have hn1:(n:Int)≤31:=zo
 clear hn
 obtain⟨s1,s2⟩:=sgn_bd a ha0 ha1
 obtain⟨R1,hR1⟩:∃ R,sgn a / 2 ^ n=R:=⟨_,rfl⟩
 have b1:=ediv_bd2 (sgn a) n s1 s2
 rw[hR1] at b1
 rw[hR1]
 obtain⟨b10,b11⟩:=b1
 go_enter Tryz.func65,Tryz.ntmps65
 go_wp2_with first
  | (go_at_call 94;refine(half_any _ _ _ zo zo zo).mono ?_;rintro e w' ⟨rfl,rfl⟩;simp only[hR1])
  | (go_at_call 92;refine(signed_any _ _ zo zo).mono ?_;rintro e w' ⟨rfl,rfl⟩)
  | (go_at_call 90;refine(word_any _ _ zo zo).mono ?_;rintro e w' ⟨rfl,rfl⟩)
  | (go_at_call 62;refine(flags_any 8 a b f _ zo zo hf).mono ?_;rintro e w' ⟨rfl,rfl⟩)
 go_ret3
 exact⟨rfl,rfl⟩
theorem reck12(a b f:Nat)(w:World)(ha:a < 4294967296)(hb:b < 4294967296)(hf:f < 4294967296):Calls Tryz.prog 65 #[.int .i64 12,.int .u32 a,.int .u32 b,.int .u32 f] w fun e w'=>e=.returned (.tuple #[.int .u32 (turN (b%32) a),.int .u32 (flagsF 9 a b f),.bool true])∧w=w':=by
 have ha0:(0:Int)≤a:=zo
 have ha1:(a:Int) < 4294967296:=zo
 have hb0:(0:Int)≤b:=zo
 have hb1:(b:Int) < 4294967296:=zo
 have hf0:(0:Int)≤f:=zo
 have hf1:(f:Int) < 4294967296:=zo
 obtain⟨n,hn⟩:∃ n,b%32=n:=⟨_,rfl⟩
 have hnb:n≤31:=zo
 rw[hn]
 have hni:(b:Int)%32=(n:Int):=zo
 have hn0:(0:Int)≤n:=zo
 have hn1:(n:Int)≤31:=zo
 clear hn
 go_enter Tryz.func65,Tryz.ntmps65
 go_wp2_with first
  | (go_at_call 95;refine(turned_any _ n _ ha0 ha1 zo).mono ?_;rintro e w' ⟨rfl,rfl⟩)
  | (go_at_call 62;refine(flags_any 9 a b f _ zo zo hf).mono ?_;rintro e w' ⟨rfl,rfl⟩)
 go_ret3
 exact⟨rfl,rfl⟩
theorem reck13(a b f:Nat)(w:World)(ha:a < 4294967296)(hb:b < 4294967296)(hf:f < 4294967296):Calls Tryz.prog 65 #[.int .i64 13,.int .u32 a,.int .u32 b,.int .u32 f] w fun e w'=>e=.returned (.tuple #[.int .u32 (((a*b%4294967296:Nat):Int)),.int .u32 (flagsF 10 a b f),.bool true])∧w=w':=by
 have ha0:(0:Int)≤a:=zo
 have ha1:(a:Int) < 4294967296:=zo
 have hb0:(0:Int)≤b:=zo
 have hb1:(b:Int) < 4294967296:=zo
 have hf0:(0:Int)≤f:=zo
 have hf1:(f:Int) < 4294967296:=zo
 obtain⟨p,hp⟩:∃ p,a*b=p:=⟨_,rfl⟩
 have hpb:p < 18446744073709551616:=by
  rw[← hp]
  exact Nat.lt_of_le_of_lt (Nat.mul_le_mul (Nat.le_of_lt_succ (m:=a) (n:=4294967295) ha) (Nat.le_of_lt_succ (m:=b) (n:=4294967295) hb)) (by decide)
 have hpi:(a:Int)*(b:Int)=(p:Int):=by rw[← hp];simp
 have hp0:(0:Int)≤p:=zo
 have hp1:(p:Int) < 18446744073709551616:=zo
 have e:((a*b%4294967296:Nat):Int)=(p:Int)%4294967296:=by rw[hp];simp
 rw[e]
 clear hp e hpb
 go_enter Tryz.func65,Tryz.ntmps65
 go_wp2_with first
  | (go_at_call 62;refine(flags_any 10 a b f _ zo zo hf).mono ?_;rintro e w' ⟨rfl,rfl⟩)
 go_ret3
 exact⟨rfl,rfl⟩
theorem reck14(a b f:Nat)(w:World)(ha:a < 4294967296)(hb:b < 4294967296)(hf:f < 4294967296)(hz:0 < b):Calls Tryz.prog 65 #[.int .i64 14,.int .u32 a,.int .u32 b,.int .u32 f] w fun e w'=>e=.returned (.tuple #[.int .u32 (((a / b:Nat):Int)),.int .u32 (valF ((a / b:Nat):Int)),.bool true])∧w=w':=by
 have ha0:(0:Int)≤a:=zo
 have ha1:(a:Int) < 4294967296:=zo
 have hb0:(0:Int)≤b:=zo
 have hb1:(b:Int) < 4294967296:=zo
 have hf0:(0:Int)≤f:=zo
 have hf1:(f:Int) < 4294967296:=zo
 have hbz:((b:Int)==0)=false:=by simp;omega
 have hbz':(b==0)=false:=by simp;omega
 have hbp:(0:Int) < b:=zo
 obtain⟨x,hx0⟩:∃ x,a / b=x:=⟨_,rfl⟩
 have hx:x < 4294967296:=by rw[← hx0];exact Nat.lt_of_le_of_lt (Nat.div_le_self _ _) ha
 have hxi:(a:Int) / (b:Int)=(x:Int):=by rw[← hx0];simp
 have hxp:(0:Int)≤x:=zo
 have hx1:(x:Int) < 4294967296:=zo
 obtain⟨x2,hx20⟩:∃ x,a / b=x:=⟨_,rfl⟩
 have hx2:x2 < 4294967296:=by rw[← hx20];exact Nat.lt_of_le_of_lt (Nat.div_le_self _ _) ha
 have hx2i:(a:Int) / (b:Int)=(x2:Int):=by rw[← hx20];simp
 have hx21:(x2:Int) < 4294967296:=zo
 rw[hx0]
 clear hx0 hx20
 go_enter Tryz.func65,Tryz.ntmps65
 go_wp2_with first
  | (go_at_call 62;refine(flags5z x f _ hx hf).mono ?_;rintro e w' ⟨rfl,rfl⟩)
 go_ret3
 exact⟨rfl,rfl⟩
theorem reck15(a b f:Nat)(w:World)(ha:a < 4294967296)(hb:b < 4294967296)(hf:f < 4294967296)(hz:0 < b):Calls Tryz.prog 65 #[.int .i64 15,.int .u32 a,.int .u32 b,.int .u32 f] w fun e w'=>e=.returned (.tuple #[.int .u32 (((a%b:Nat):Int)),.int .u32 (valF ((a%b:Nat):Int)),.bool true])∧w=w':=by
 have ha0:(0:Int)≤a:=zo
 have ha1:(a:Int) < 4294967296:=zo
 have hb0:(0:Int)≤b:=zo
 have hb1:(b:Int) < 4294967296:=zo
 have hf0:(0:Int)≤f:=zo
 have hf1:(f:Int) < 4294967296:=zo
 have hbz:((b:Int)==0)=false:=by simp;omega
 have hbz':(b==0)=false:=by simp;omega
 have hbp:(0:Int) < b:=zo
 obtain⟨x,hx0⟩:∃ x,a%b=x:=⟨_,rfl⟩
 have hx:x < 4294967296:=by rw[← hx0];exact Nat.lt_of_le_of_lt (Nat.mod_le _ _) ha
 have hxi:(a:Int)%(b:Int)=(x:Int):=by rw[← hx0];simp
 have hxp:(0:Int)≤x:=zo
 have hx1:(x:Int) < 4294967296:=zo
 obtain⟨x2,hx20⟩:∃ x,a / b=x:=⟨_,rfl⟩
 have hx2:x2 < 4294967296:=by rw[← hx20];exact Nat.lt_of_le_of_lt (Nat.div_le_self _ _) ha
 have hx2i:(a:Int) / (b:Int)=(x2:Int):=by rw[← hx20];simp
 have hx21:(x2:Int) < 4294967296:=zo
 rw[hx0]
 clear hx0 hx20
 go_enter Tryz.func65,Tryz.ntmps65
 go_wp2_with first
  | (go_at_call 62;refine(flags5z x f _ hx hf).mono ?_;rintro e w' ⟨rfl,rfl⟩)
 go_ret3
 exact⟨rfl,rfl⟩
theorem reck_no(o:Int)(a b f:Nat)(w:World)(ha:a < 4294967296)(hb:b < 4294967296)(hf:f < 4294967296)(ho:o < 0∨15 < o):Calls Tryz.prog 65 #[.int .i64 o,.int .u32 a,.int .u32 b,.int .u32 f] w fun e w'=>e=.returned (.tuple #[.int .u32 0,.int .u32 0,.bool false])∧w=w':=by
 have ha0:(0:Int)≤a:=zo
 have ha1:(a:Int) < 4294967296:=zo
 have hb0:(0:Int)≤b:=zo
 have hb1:(b:Int) < 4294967296:=zo
 have hf0:(0:Int)≤f:=zo
 have hf1:(f:Int) < 4294967296:=zo
 have e0:(o==0)=false:=by simp;omega
 have e1:(o==1)=false:=by simp;omega
 have e2:(o==2)=false:=by simp;omega
 have e3:(o==3)=false:=by simp;omega
 have e4:(o==4)=false:=by simp;omega
 have e5:(o==5)=false:=by simp;omega
 have e6:(o==6)=false:=by simp;omega
 have e7:(o==7)=false:=by simp;omega
 have e8:(o==8)=false:=by simp;omega
 have e9:(o==9)=false:=by simp;omega
 have e10:(o==10)=false:=by simp;omega
 have e11:(o==11)=false:=by simp;omega
 have e12:(o==12)=false:=by simp;omega
 have e13:(o==13)=false:=by simp;omega
 have e14:(o==14)=false:=by simp;omega
 have e15:(o==15)=false:=by simp;omega
 have g14:(o !=14)=true:=by simp[bne,e14]
 have g15:(o !=15)=true:=by simp[bne,e15]
 clear ho
 go_enter Tryz.func65,Tryz.ntmps65
 go_wp2
 go_ret3
 exact⟨rfl,rfl⟩
theorem reck_zero(o:Int)(a f:Nat)(w:World)(ha:a < 4294967296)(hf:f < 4294967296)(ho:o=14∨o=15):Calls Tryz.prog 65 #[.int .i64 o,.int .u32 a,.int .u32 0,.int .u32 f] w fun e w'=>e=.returned (.tuple #[.int .u32 0,.int .u32 0,.bool false])∧w=w':=by
 have ha0:(0:Int)≤a:=zo
 have hf0:(0:Int)≤f:=zo
 rcases ho with rfl|rfl
 all_goals
  go_enter Tryz.func65,Tryz.ntmps65
  go_wp2
  go_ret3
  exact⟨rfl,rfl⟩
def recX(o:Int)(a b f:Nat):Int:=
 if o=0 then((a:Int)+b)%4294967296 else if o=1 then((a:Int)+b+carF f)%4294967296 else if o=2 then((a:Int) - b)%4294967296 else if o=3 then((a:Int) - b - carF f)%4294967296
 else if o=4∨o=5∨o=6 then(bitN o a b:Int) else if o=7∨o=8 then(a:Int) else if o=9 then((a*2 ^ (b%32)%4294967296:Nat):Int) else if o=10 then(a:Int) / 2 ^ (b%32)
 else if o=11 then sgn a / 2 ^ (b%32)%4294967296 else if o=12 then turN (b%32) a else if o=13 then((a*b%4294967296:Nat):Int)
 else if o=14∧0 < b then((a / b:Nat):Int) else if o=15∧0 < b then((a%b:Nat):Int) else 0
def recFl(o:Int)(a b f:Nat):Int:=
 if o=0 then flagsF 1 a b f else if o=1 then flagsF 2 a b f else if o=2 then flagsF 3 a b f else if o=3 then flagsF 4 a b f
 else if o=4∨o=5∨o=6 then valF (bitN o a b) else if o=7 then flagsF 3 a b f else if o=8 then valF (bitN 4 a b) else if o=9 then flagsF 6 a b f else if o=10 then flagsF 7 a b f
 else if o=11 then flagsF 8 a b f else if o=12 then flagsF 9 a b f else if o=13 then flagsF 10 a b f
 else if o=14∧0 < b then valF ((a / b:Nat):Int) else if o=15∧0 < b then valF ((a%b:Nat):Int) else 0
def recOk(o:Int)(b:Nat):Bool:=decide ((0≤o∧o≤13)∨((o=14∨o=15)∧0 < b))
theorem reck_any(o:Int)(a b f:Nat)(w:World)(ha:a < 4294967296)(hb:b < 4294967296)(hf:f < 4294967296):Calls Tryz.prog 65 #[.int .i64 o,.int .u32 a,.int .u32 b,.int .u32 f] w fun e w'=>e=.returned (.tuple #[.int .u32 (recX o a b f),.int .u32 (recFl o a b f),.bool (recOk o b)])∧w=w':=by
 by_cases ho:o < 0∨15 < o
 ·have e1:recX o a b f=0:=by unfold recX;repeat rw[if_neg zo]
  have e2:recFl o a b f=0:=by unfold recFl;repeat rw[if_neg zo]
  have e3:recOk o b=false:=decide_eq_false zo
  rw[e1,e2,e3];exact reck_no o a b f w ha hb hf ho
 ·have hc:o=0∨o=1∨o=2∨o=3∨o=4∨o=5∨o=6∨o=7∨o=8∨o=9∨o=10∨o=11∨o=12∨o=13∨o=14∨o=15:=zo
  rcases hc with rfl|rfl|rfl|rfl|rfl|rfl|rfl|rfl|rfl|rfl|rfl|rfl|rfl|rfl|rfl|rfl
  ·have e1:recX 0 a b f=((a:Int)+b)%4294967296:=by simp[recX]
   have e2:recFl 0 a b f=flagsF 1 a b f:=by simp[recFl]
   have e3:recOk 0 b=true:=decide_eq_true zo
   rw[e1,e2,e3];exact reck0 a b f w ha hb hf
  ·have e1:recX 1 a b f=((a:Int)+b+carF f)%4294967296:=by simp[recX]
   have e2:recFl 1 a b f=flagsF 2 a b f:=by simp[recFl]
   have e3:recOk 1 b=true:=decide_eq_true zo
   rw[e1,e2,e3];exact reck1 a b f w ha hb hf
  ·have e1:recX 2 a b f=((a:Int) - b)%4294967296:=by simp[recX]
   have e2:recFl 2 a b f=flagsF 3 a b f:=by simp[recFl]
   have e3:recOk 2 b=true:=decide_eq_true zo
   rw[e1,e2,e3];exact reck2 a b f w ha hb hf
  ·have e1:recX 3 a b f=((a:Int) - b - carF f)%4294967296:=by simp[recX]
   have e2:recFl 3 a b f=flagsF 4 a b f:=by simp[recFl]
   have e3:recOk 3 b=true:=decide_eq_true zo
   rw[e1,e2,e3];exact reck3 a b f w ha hb hf
  ·have e1:recX 4 a b f=(bitN 4 a b:Int):=by simp[recX]
   have e2:recFl 4 a b f=valF (bitN 4 a b):=by simp[recFl]
   have e3:recOk 4 b=true:=decide_eq_true zo
   rw[e1,e2,e3];exact reck4 a b f w ha hb hf
  ·have e1:recX 5 a b f=(bitN 5 a b:Int):=by simp[recX]
   have e2:recFl 5 a b f=valF (bitN 5 a b):=by simp[recFl]
   have e3:recOk 5 b=true:=decide_eq_true zo
   rw[e1,e2,e3];exact reck5 a b f w ha hb hf
  ·have e1:recX 6 a b f=(bitN 6 a b:Int):=by simp[recX]
   have e2:recFl 6 a b f=valF (bitN 6 a b):=by simp[recFl]
   have e3:recOk 6 b=true:=decide_eq_true zo
   rw[e1,e2,e3];exact reck6 a b f w ha hb hf
  ·have e1:recX 7 a b f=(a:Int):=by simp[recX]
   have e2:recFl 7 a b f=flagsF 3 a b f:=by simp[recFl]
   have e3:recOk 7 b=true:=decide_eq_true zo
   rw[e1,e2,e3];exact reck7 a b f w ha hb hf
  ·have e1:recX 8 a b f=(a:Int):=by simp[recX]
   have e2:recFl 8 a b f=valF (bitN 4 a b):=by simp[recFl]
   have e3:recOk 8 b=true:=decide_eq_true zo
   rw[e1,e2,e3];exact reck8 a b f w ha hb hf
  ·have e1:recX 9 a b f=((a*2 ^ (b%32)%4294967296:Nat):Int):=by simp[recX]
   have e2:recFl 9 a b f=flagsF 6 a b f:=by simp[recFl]
   have e3:recOk 9 b=true:=decide_eq_true zo
   rw[e1,e2,e3];exact reck9 a b f w ha hb hf
  ·have e1:recX 10 a b f=(a:Int) / 2 ^ (b%32):=by simp[recX]
   have e2:recFl 10 a b f=flagsF 7 a b f:=by simp[recFl]
   have e3:recOk 10 b=true:=decide_eq_true zo
   rw[e1,e2,e3];exact reck10 a b f w ha hb hf
  ·have e1:recX 11 a b f=sgn a / 2 ^ (b%32)%4294967296:=by simp[recX]
   have e2:recFl 11 a b f=flagsF 8 a b f:=by simp[recFl]
   have e3:recOk 11 b=true:=decide_eq_true zo
   rw[e1,e2,e3];exact reck11 a b f w ha hb hf
  ·have e1:recX 12 a b f=turN (b%32) a:=by simp[recX]
   have e2:recFl 12 a b f=flagsF 9 a b f:=by simp[recFl]
   have e3:recOk 12 b=true:=decide_eq_true zo
   rw[e1,e2,e3];exact reck12 a b f w ha hb hf
  ·have e1:recX 13 a b f=((a*b%4294967296:Nat):Int):=by simp[recX]
   have e2:recFl 13 a b f=flagsF 10 a b f:=by simp[recFl]
   have e3:recOk 13 b=true:=decide_eq_true zo
   rw[e1,e2,e3];exact reck13 a b f w ha hb hf
  ·by_cases hz:0 < b
   ·have e1:recX 14 a b f=((a / b:Nat):Int):=by simp[recX,hz]
    have e2:recFl 14 a b f=valF ((a / b:Nat):Int):=by simp[recFl,hz]
    have e3:recOk 14 b=true:=decide_eq_true zo
    rw[e1,e2,e3];exact reck14 a b f w ha hb hf hz
   ·have e0:b=0:=zo
    have e1:recX 14 a b f=0:=by simp[recX,e0]
    have e2:recFl 14 a b f=0:=by simp[recFl,e0]
    have e3:recOk 14 b=false:=decide_eq_false zo
    rw[e1,e2,e3,e0];exact reck_zero 14 a f w ha hf (.inl rfl)
  ·by_cases hz:0 < b
   ·have e1:recX 15 a b f=((a%b:Nat):Int):=by simp[recX,hz]
    have e2:recFl 15 a b f=valF ((a%b:Nat):Int):=by simp[recFl,hz]
    have e3:recOk 15 b=true:=decide_eq_true zo
    rw[e1,e2,e3];exact reck15 a b f w ha hb hf hz
   ·have e0:b=0:=zo
    have e1:recX 15 a b f=0:=by simp[recX,e0]
    have e2:recFl 15 a b f=0:=by simp[recFl,e0]
    have e3:recOk 15 b=false:=decide_eq_false zo
    rw[e1,e2,e3,e0];exact reck_zero 15 a f w ha hf (.inr rfl)
end Go.Proofs.YtfokgedjocnnmaaGreat.Fl
