import Derived.Test.YthcpipfmicbnmaaGreatWJ29
import Derived.Test.YthcpipfmicbnmaaGreatWJ07
set_option linter.unusedVariables false
set_option linter.unusedSimpArgs false
set_option maxHeartbeats 1000000
namespace Go.Proofs.YthcpipfmicbnmaaGreat.Va
open Go.RowKit
set_option maxRecDepth 100000
def unF(w:Int)(a:Nat):Nat:=
 if w=0 then 4294967295 - a else if w=1 then(4294967296 - a)%4294967296 else if w=2 then(if 128≤a%256 then a%256+4294967040 else a%256)
 else if w=3 then(if 32768≤a%65536 then a%65536+4294901760 else a%65536) else if w=4 then a%256 else if w=5 then a%65536 else if a=0 then 1 else 0
theorem zA9(b:Bool)(w:World):Calls Tryz.prog 64 #[.bool b] w fun e w'=>e=.returned (.int .u32 (Fl.uH b 1))∧w=w':=by
 cases b<;>(go_enter Tryz.func64,Tryz.ntmps64;go_wp2;go_ret;exact⟨rfl,rfl⟩)
theorem zBW(b:Bool)(w:World):Calls Tryz.prog 76 #[.bool b] w fun e w'=>e=.returned (.int .u32 (Fl.uH b 1))∧w=w':=by
 cases b<;>(go_enter Tryz.func76,Tryz.ntmps76;go_wp2;go_ret;exact⟨rfl,rfl⟩)
theorem zFh(x:Int)(w:World)(h0:0≤x)(h1:x < 4294967296):Calls Tryz.prog 95 #[.int .u32 x] w fun e w'=>e=.returned (.int .i64 (Fl.vP x))∧w=w':=by
 by_cases h:2147483648≤x
 ·rw[Fl.vP,if_pos h]
  go_enter Tryz.func95,Tryz.ntmps95;go_wp2;go_ret;exact⟨rfl,rfl⟩
 ·rw[Fl.vP,if_neg h]
  go_enter Tryz.func95,Tryz.ntmps95;go_wp2;go_ret;exact⟨rfl,rfl⟩
theorem uQ{a b:Int}(h:a=b):Ending.returned (.int .u32 a)=.returned (.int .u32 b):=by rw[h]
theorem zEq(k:Int)(a:Nat)(w:World)(ha:a < 4294967296)(hk:0≤k∧k≤6):Calls Tryz.prog 72 #[.int .i64 k,.int .u32 a] w fun e w'=>e=.returned (.int .u32 (unF k a))∧w=w':=by
 have a0:(0:Int)≤(a:Int):=aO
 have a1:(a:Int) < 4294967296:=aO
 rcases(by omega:k=0∨k=1∨k=2∨k=3∨k=4∨k=5∨k=6) with rfl|rfl|rfl|rfl|rfl|rfl|rfl
 ·go_enter Tryz.func72,Tryz.ntmps72;go_wp2;go_ret;exact⟨uQ (by simp[unF]<;>omega),rfl⟩
 ·go_enter Tryz.func72,Tryz.ntmps72;go_wp2;go_ret;exact⟨uQ (by simp[unF]<;>omega),rfl⟩
 ·by_cases h:128≤a%256
  ·have d:decide (128≤(a:Int)%256)=true:=aT
   go_enter Tryz.func72,Tryz.ntmps72;go_wp2;go_ret;exact⟨uQ (by simp[unF,h]<;>omega),rfl⟩
  ·have d:decide (128≤(a:Int)%256)=false:=aF
   go_enter Tryz.func72,Tryz.ntmps72;go_wp2;go_ret;exact⟨uQ (by simp[unF,h]),rfl⟩
 ·by_cases h:32768≤a%65536
  ·have d:decide (32768≤(a:Int)%65536)=true:=aT
   go_enter Tryz.func72,Tryz.ntmps72;go_wp2;go_ret;exact⟨uQ (by simp[unF,h]<;>omega),rfl⟩
  ·have d:decide (32768≤(a:Int)%65536)=false:=aF
   go_enter Tryz.func72,Tryz.ntmps72;go_wp2;go_ret;exact⟨uQ (by simp[unF,h]),rfl⟩
 ·go_enter Tryz.func72,Tryz.ntmps72;go_wp2;go_ret;exact⟨uQ (by simp[unF]),rfl⟩
 ·go_enter Tryz.func72,Tryz.ntmps72;go_wp2;go_ret;exact⟨uQ (by simp[unF]),rfl⟩
 ·go_enter Tryz.func72,Tryz.ntmps72
  go_wp2_with (go_at_call 76;refine(zBW _ _).mono ?_;rintro e w1 ⟨rfl,rfl⟩)
  go_ret
  exact⟨uQ (by by_cases h:a=0<;>simp[unF,Fl.uH,h]),rfl⟩
theorem zLi(a:Nat)(ha:a < 4294967296):4294967295 ^^^ a=4294967295 - a:=by
 apply Nat.eq_of_testBit_eq
 intro i
 rw[Nat.testBit_xor,show(4294967295:Nat) - a=2 ^ 32 - (a+1) by omega,Nat.testBit_two_pow_sub_succ (by simpa using ha),show(4294967295:Nat)=2 ^ 32 - 1 from rfl,Nat.testBit_two_pow_sub_one]
 by_cases hi:i < 32
 ·simp[hi]
 ·have:a.testBit i=false:=Nat.testBit_lt_two_pow (Nat.lt_of_lt_of_le (show a < 2 ^ 32 by simpa using ha) (Nat.pow_le_pow_right aD aO))
  simp[hi,this]
theorem zLh(a:Nat)(ha:a < 4294967296):bits .xor .u32 IntKind.u32.max (a:Int)=((4294967295 - a:Nat):Int):=by
 rw[show IntKind.u32.max=((4294967295:Nat):Int) from rfl,Go.u32_xor_nat _ _ aD ha,zLi a ha]
theorem zLZ(x:Nat)(hx:x < 4294967296):bits .and .u32 (x:Int) 255=((x%256:Nat):Int):=by
 rw[show(255:Int)=((255:Nat):Int) from rfl,Go.u32_and_nat _ _ hx aD]
 exact congrArg _ (Nat.and_two_pow_sub_one_eq_mod x 8)
theorem zIH(x:Nat)(hx:x < 4294967296):bits .and .u32 (x:Int) 65535=((x%65536:Nat):Int):=by
 rw[show(65535:Int)=((65535:Nat):Int) from rfl,Go.u32_and_nat _ _ hx aD]
 exact congrArg _ (Nat.and_two_pow_sub_one_eq_mod x 16)
theorem zHf(a n m y:Nat)(w:World)(ha:a < 4294967296)(hm:n+m=32)(h1:1≤n)(h0:1≤m)(hy:a*2 ^ m%4294967296=y):Calls Tryz.prog 80 #[.int .u32 a,.int .i64 n] w fun e w'=>e=.returned (.int .u32 (Fl.vP y / 2 ^ m%4294967296))∧w=w':=by
 have hsub:(32:Int) - (n:Int)=(m:Int):=aO
 have m0:(0:Int)≤(m:Int):=aO
 have n1:(n:Int)≤32:=aO
 have n0:(0:Int)≤(n:Int):=aO
 have hyl:y < 4294967296:=aO
 have hs:IntKind.u32.wrap ((a:Int)*2 ^ m)=(y:Int):=by rw[zDk,zCv,hy]
 have hw:wrap32 (y:Int)=Fl.vP y:=zAd y hyl
 clear hy hm
 go_enter Tryz.func80,Tryz.ntmps80
 go_wp2
 go_ret
 exact⟨rfl,rfl⟩
theorem zQw(a:Nat)(w:World)(ha:a < 4294967296):Calls Tryz.prog 80 #[.int .u32 a,.int .i64 8] w fun e w'=>e=.returned (.int .u32 (unF 2 a))∧w=w':=by
 have h:=zHf a 8 24 _ w ha rfl aD aD rfl
 have e:Fl.vP ((a*2 ^ 24%4294967296:Nat):Int) / 2 ^ 24%4294967296=((unF 2 a:Nat):Int):=by
  unfold Fl.vP unF
  simp only[show(2:Int)=0↔False by decide,show(2:Int)=1↔False by decide,if_false,if_true]
  split<;>split<;>omega
 rw[e] at h
 exact h
theorem zPq(a:Nat)(w:World)(ha:a < 4294967296):Calls Tryz.prog 80 #[.int .u32 a,.int .i64 16] w fun e w'=>e=.returned (.int .u32 (unF 3 a))∧w=w':=by
 have h:=zHf a 16 16 _ w ha rfl aD aD rfl
 have e:Fl.vP ((a*2 ^ 16%4294967296:Nat):Int) / 2 ^ 16%4294967296=((unF 3 a:Nat):Int):=by
  unfold Fl.vP unF
  simp only[show(3:Int)=0↔False by decide,show(3:Int)=1↔False by decide,show(3:Int)=2↔False by decide,if_false,if_true]
  split<;>split<;>omega
 rw[e] at h
 exact h
theorem zLn(k:Int)(a:Nat)(w:World)(ha:a < 4294967296)(hk:0≤k∧k≤6):Calls Tryz.prog 62 #[.int .i64 k,.int .u32 a] w fun e w'=>e=.returned (.int .u32 (unF k a))∧w=w':=by
 have a0:(0:Int)≤(a:Int):=aO
 have a1:(a:Int) < 4294967296:=aO
 rcases(by omega:k=0∨k=1∨k=2∨k=3∨k=4∨k=5∨k=6) with rfl|rfl|rfl|rfl|rfl|rfl|rfl
 ·have HX:Hid (bits .xor .u32 IntKind.u32.max (a:Int)=((unF 0 a:Nat):Int)):=zLh a ha
  clear a0 a1 hk
  go_enter Tryz.func62,Tryz.ntmps62;go_wp2;go_ret;exact⟨uQ HX.out,rfl⟩
 ·go_enter Tryz.func62,Tryz.ntmps62;go_wp2;go_ret;exact⟨uQ (by simp[unF]<;>omega),rfl⟩
 ·go_enter Tryz.func62,Tryz.ntmps62
  go_wp2_with (go_at_call 80;refine(zQw a _ ha).mono ?_;rintro e w1 ⟨rfl,rfl⟩)
  go_ret
  exact⟨rfl,rfl⟩
 ·go_enter Tryz.func62,Tryz.ntmps62
  go_wp2_with (go_at_call 80;refine(zPq a _ ha).mono ?_;rintro e w1 ⟨rfl,rfl⟩)
  go_ret
  exact⟨rfl,rfl⟩
 ·have h:=zLZ a ha
  go_enter Tryz.func62,Tryz.ntmps62;go_wp2;go_ret;exact⟨uQ (by simp[unF]),rfl⟩
 ·have h:=zIH a ha
  go_enter Tryz.func62,Tryz.ntmps62;go_wp2;go_ret;exact⟨uQ (by simp[unF]),rfl⟩
 ·go_enter Tryz.func62,Tryz.ntmps62
  go_wp2_with (go_at_call 64;refine(zA9 _ _).mono ?_;rintro e w1 ⟨rfl,rfl⟩)
  go_ret
  exact⟨uQ (by by_cases h:a=0<;>simp[unF,Fl.uH,h]),rfl⟩
end Go.Proofs.YthcpipfmicbnmaaGreat.Va
