import Derived.Test.YthcpipfmicbnmaaGreatWEB
import Derived.Test.YthcpipfmicbnmaaGreatWC1
import Derived.Deep.RegionHeld3
import Derived.Test.YthcpipfmicbnmaaGreatWJ33
import Derived.Test.YthcpipfmicbnmaaGreatWJ34
set_option linter.unusedVariables false
set_option linter.unusedSimpArgs false
set_option maxHeartbeats 1000000
namespace Go.Proofs.YthcpipfmicbnmaaGreat.Va
open Go.RowKit
set_option maxRecDepth 100000
theorem mv5(a n y:Nat)(w:World)(ha:a < 4294967296)(hn:n < 32)(hy:a*2 ^ n%4294967296=y):Calls Tryz.prog 78 #[.int .i64 5,.int .u32 a,.int .i64 n] w fun e w'=>e=.returned (.int .u32 y)∧w=w':=by
 have hs:IntKind.u32.wrap ((a:Int)*2 ^ n)=(y:Int):=by rw[zDk,zCv,hy]
 have n0:(0:Int)≤(n:Int):=aO
 clear hy
 go_enter Tryz.func78,Tryz.ntmps78;go_wp2;go_ret;exact⟨rfl,rfl⟩
theorem mv6(a n:Nat)(w:World)(ha:a < 4294967296)(hn:n < 32):Calls Tryz.prog 78 #[.int .i64 6,.int .u32 a,.int .i64 n] w fun e w'=>e=.returned (.int .u32 ((a:Int) / 2 ^ n))∧w=w':=by
 have n0:(0:Int)≤(n:Int):=aO
 have hb:=Fl.zAN a n aO
 go_enter Tryz.func78,Tryz.ntmps78;go_wp2;go_ret;exact⟨rfl,rfl⟩
theorem mv7(a n:Nat)(w:World)(ha:a < 4294967296)(hn:n < 32):Calls Tryz.prog 78 #[.int .i64 7,.int .u32 a,.int .i64 n] w fun e w'=>e=.returned (.int .u32 (Fl.vP a / 2 ^ n%4294967296))∧w=w':=by
 have n0:(0:Int)≤(n:Int):=aO
 have hw:wrap32 (a:Int)=Fl.vP a:=zAd a ha
 go_enter Tryz.func78,Tryz.ntmps78;go_wp2;go_ret;exact⟨rfl,rfl⟩
theorem mv8(a n t:Nat)(w:World)(ha:a < 4294967296)(hn:n < 32)(ht:Fl.vT n a=t):Calls Tryz.prog 78 #[.int .i64 8,.int .u32 a,.int .i64 n] w fun e w'=>e=.returned (.int .u32 t)∧w=w':=by
 have HT:Hid _:=ht
 clear ht
 go_enter Tryz.func78,Tryz.ntmps78
 go_wp2_with (go_at_call 96;refine(zBr a n t _ HT.out ha hn).mono ?_;rintro e w1 ⟨rfl,rfl⟩)
 go_ret
 exact⟨rfl,rfl⟩
theorem zOK(a b:Nat)(w:World)(ha:a < 4294967296)(hb:b < 4294967296):Calls Tryz.prog 61 #[.int .i64 0,.int .u32 a,.int .u32 b] w fun e w'=>e=.returned (.int .u32 (yX 0 a b))∧w=w':=by
 go_enter Tryz.func61,Tryz.ntmps61
 go_wp2
 go_ret
 exact⟨uQ (by simp[yX,zBk,Fl.vG]),rfl⟩
theorem zOL(a b:Nat)(w:World)(ha:a < 4294967296)(hb:b < 4294967296):Calls Tryz.prog 61 #[.int .i64 1,.int .u32 a,.int .u32 b] w fun e w'=>e=.returned (.int .u32 (yX 1 a b))∧w=w':=by
 go_enter Tryz.func61,Tryz.ntmps61
 go_wp2
 go_ret
 exact⟨uQ (by simp[yX,zBk,Fl.vG]),rfl⟩
theorem zOM(a b:Nat)(w:World)(ha:a < 4294967296)(hb:b < 4294967296):Calls Tryz.prog 61 #[.int .i64 2,.int .u32 a,.int .u32 b] w fun e w'=>e=.returned (.int .u32 (yX 2 a b))∧w=w':=by
 have h:bits .and .u32 (a:Int) (b:Int)=((a &&& b:Nat):Int):=Go.u32_and_nat _ _ ha hb
 go_enter Tryz.func61,Tryz.ntmps61
 go_wp2
 go_ret
 exact⟨uQ (by simp[yX,zBk,Fl.vG,Fl.vQ]),rfl⟩
theorem zON(a b:Nat)(w:World)(ha:a < 4294967296)(hb:b < 4294967296):Calls Tryz.prog 61 #[.int .i64 3,.int .u32 a,.int .u32 b] w fun e w'=>e=.returned (.int .u32 (yX 3 a b))∧w=w':=by
 have h:bits .or .u32 (a:Int) (b:Int)=((a ||| b:Nat):Int):=Go.u32_or_nat _ _ ha hb
 go_enter Tryz.func61,Tryz.ntmps61
 go_wp2
 go_ret
 exact⟨uQ (by simp[yX,zBk,Fl.vG,Fl.vQ]),rfl⟩
theorem zOO(a b:Nat)(w:World)(ha:a < 4294967296)(hb:b < 4294967296):Calls Tryz.prog 61 #[.int .i64 4,.int .u32 a,.int .u32 b] w fun e w'=>e=.returned (.int .u32 (yX 4 a b))∧w=w':=by
 have h:bits .xor .u32 (a:Int) (b:Int)=((a ^^^ b:Nat):Int):=Go.u32_xor_nat _ _ ha hb
 go_enter Tryz.func61,Tryz.ntmps61
 go_wp2
 go_ret
 exact⟨uQ (by simp[yX,zBk,Fl.vG,Fl.vQ]),rfl⟩
theorem zOP(a b:Nat)(w:World)(ha:a < 4294967296)(hb:b < 4294967296):Calls Tryz.prog 61 #[.int .i64 5,.int .u32 a,.int .u32 b] w fun e w'=>e=.returned (.int .u32 (yX 5 a b))∧w=w':=by
 obtain⟨n,hn⟩:∃ n:Nat,b%32=n:=⟨_,rfl⟩
 have h31:bits .and .u32 (b:Int) 31=(n:Int):=by rw[zBe b hb,hn]
 have hnl:n < 32:=aO
 have n0:(0:Int)≤(n:Int):=aO
 have n1:(n:Int) < 32:=aO
 have HN:Hid _:=hn
 clear hn
 go_enter Tryz.func61,Tryz.ntmps61
 go_wp2_with (go_at_call 78;refine(mv5 a n _ _ ha hnl rfl).mono ?_;rintro e w1 ⟨rfl,rfl⟩)
 go_ret
 exact⟨uQ (by simp[yX,zBk,Fl.vG,HN.out]),rfl⟩
theorem zOQ(a b:Nat)(w:World)(ha:a < 4294967296)(hb:b < 4294967296):Calls Tryz.prog 61 #[.int .i64 6,.int .u32 a,.int .u32 b] w fun e w'=>e=.returned (.int .u32 (yX 6 a b))∧w=w':=by
 obtain⟨n,hn⟩:∃ n:Nat,b%32=n:=⟨_,rfl⟩
 have h31:bits .and .u32 (b:Int) 31=(n:Int):=by rw[zBe b hb,hn]
 have hnl:n < 32:=aO
 have n0:(0:Int)≤(n:Int):=aO
 have n1:(n:Int) < 32:=aO
 have HN:Hid _:=hn
 clear hn
 go_enter Tryz.func61,Tryz.ntmps61
 go_wp2_with (go_at_call 78;refine(mv6 a n _ ha hnl).mono ?_;rintro e w1 ⟨rfl,rfl⟩)
 go_ret
 exact⟨uQ (by simp[yX,zBk,Fl.vG,HN.out]),rfl⟩
theorem zOR(a b:Nat)(w:World)(ha:a < 4294967296)(hb:b < 4294967296):Calls Tryz.prog 61 #[.int .i64 7,.int .u32 a,.int .u32 b] w fun e w'=>e=.returned (.int .u32 (yX 7 a b))∧w=w':=by
 obtain⟨n,hn⟩:∃ n:Nat,b%32=n:=⟨_,rfl⟩
 have h31:bits .and .u32 (b:Int) 31=(n:Int):=by rw[zBe b hb,hn]
 have hnl:n < 32:=aO
 have n0:(0:Int)≤(n:Int):=aO
 have n1:(n:Int) < 32:=aO
 have HN:Hid _:=hn
 clear hn
 go_enter Tryz.func61,Tryz.ntmps61
 go_wp2_with (go_at_call 78;refine(mv7 a n _ ha hnl).mono ?_;rintro e w1 ⟨rfl,rfl⟩)
 go_ret
 exact⟨uQ (by simp[yX,zBk,Fl.vG,HN.out]),rfl⟩
theorem zOS(a b:Nat)(w:World)(ha:a < 4294967296)(hb:b < 4294967296):Calls Tryz.prog 61 #[.int .i64 8,.int .u32 a,.int .u32 b] w fun e w'=>e=.returned (.int .u32 (yX 8 a b))∧w=w':=by
 obtain⟨n,hn⟩:∃ n:Nat,b%32=n:=⟨_,rfl⟩
 have h31:bits .and .u32 (b:Int) 31=(n:Int):=by rw[zBe b hb,hn]
 have hnl:n < 32:=aO
 have n0:(0:Int)≤(n:Int):=aO
 have n1:(n:Int) < 32:=aO
 have HN:Hid _:=hn
 obtain⟨t,HT⟩:∃ t:Nat,Hid (Fl.vT n a=t):=⟨(Fl.vT n a).toNat,by show _=_;have:=Fl.uO n a aO aO;omega⟩
 clear hn
 go_enter Tryz.func61,Tryz.ntmps61
 go_wp2_with (go_at_call 78;refine(mv8 a n t _ ha hnl HT.out).mono ?_;rintro e w1 ⟨rfl,rfl⟩)
 go_ret
 exact⟨uQ (by simp[yX,zBk,Fl.vG,HN.out,HT.out]),rfl⟩
theorem zOT(a b:Nat)(w:World)(ha:a < 4294967296)(hb:b < 4294967296):Calls Tryz.prog 61 #[.int .i64 9,.int .u32 a,.int .u32 b] w fun e w'=>e=.returned (.int .u32 (yX 9 a b))∧w=w':=by
 obtain⟨p,hp⟩:∃ p:Nat,a*b=p:=⟨_,rfl⟩
 have hpi:(a:Int)*(b:Int)=(p:Int):=by rw[← Int.natCast_mul,hp]
 have HP:Hid _:=hp
 clear hp
 go_enter Tryz.func61,Tryz.ntmps61
 go_wp2
 go_ret
 exact⟨uQ (by simp[yX,zBk,Fl.vG,HP.out]),rfl⟩
theorem zM9(a b:Nat)(w:World)(ha:a < 4294967296)(hb:b < 4294967296):Calls Tryz.prog 61 #[.int .i64 10,.int .u32 a,.int .u32 b] w fun e w'=>e=.returned (.int .u32 (yX 10 a b))∧w=w':=by
 go_enter Tryz.func61,Tryz.ntmps61
 go_wp2_with (go_at_call 79;refine(zIj a b _ ha hb).mono ?_;rintro e w1 ⟨rfl,rfl⟩)
 go_ret
 exact⟨uQ (by simp[yX]),rfl⟩
theorem zNa(a b:Nat)(w:World)(ha:a < 4294967296)(hb:b < 4294967296):Calls Tryz.prog 61 #[.int .i64 11,.int .u32 a,.int .u32 b] w fun e w'=>e=.returned (.int .u32 (yX 11 a b))∧w=w':=by
 by_cases h:b=0
 ·subst h
  go_enter Tryz.func61,Tryz.ntmps61;go_wp2;go_ret;exact⟨rfl,rfl⟩
 ·have d:((b:Int)==0)=false:=by simp;omega
  have a0:(0:Int)≤(a:Int):=aO
  have b0:(1:Int)≤(b:Int):=aO
  go_enter Tryz.func61,Tryz.ntmps61;go_wp2;go_ret
  exact⟨uQ (by
   have e:((a:Int) / (b:Int))%4294967296=((a / b:Nat):Int):=by(have hq:=Nat.div_le_self a b;rw[← Int.natCast_ediv];generalize a / b=q at hq ⊢;omega)
   simp only[yX,h];simpa using e),rfl⟩
theorem zNb(a b:Nat)(w:World)(ha:a < 4294967296)(hb:b < 4294967296):Calls Tryz.prog 61 #[.int .i64 12,.int .u32 a,.int .u32 b] w fun e w'=>e=.returned (.int .u32 (yX 12 a b))∧w=w':=by
 by_cases h:b=0
 ·subst h
  go_enter Tryz.func61,Tryz.ntmps61;go_wp2;go_ret;exact⟨rfl,rfl⟩
 ·have d:((b:Int)==0)=false:=by simp;omega
  have a0:(0:Int)≤(a:Int):=aO
  have b0:(1:Int)≤(b:Int):=aO
  go_enter Tryz.func61,Tryz.ntmps61;go_wp2;go_ret;exact⟨uQ (by simp[yX,h]),rfl⟩
theorem zNc(a b:Nat)(w:World)(ha:a < 4294967296)(hb:b < 4294967296):Calls Tryz.prog 61 #[.int .i64 13,.int .u32 a,.int .u32 b] w fun e w'=>e=.returned (.int .u32 (yX 13 a b))∧w=w':=by
 go_enter Tryz.func61,Tryz.ntmps61
 go_wp2_with (go_at_call 64;refine(zA9 _ _).mono ?_;rintro e w1 ⟨rfl,rfl⟩)
 go_ret
 exact⟨uQ (by simp[yX]),rfl⟩
theorem zNd(a b:Nat)(w:World)(ha:a < 4294967296)(hb:b < 4294967296):Calls Tryz.prog 61 #[.int .i64 14,.int .u32 a,.int .u32 b] w fun e w'=>e=.returned (.int .u32 (yX 14 a b))∧w=w':=by
 go_enter Tryz.func61,Tryz.ntmps61
 go_wp2_with (go_at_call 64;refine(zA9 _ _).mono ?_;rintro e w1 ⟨rfl,rfl⟩)
 go_ret
 exact⟨uQ (by simp[yX]),rfl⟩
theorem zNe(a b:Nat)(w:World)(ha:a < 4294967296)(hb:b < 4294967296):Calls Tryz.prog 61 #[.int .i64 15,.int .u32 a,.int .u32 b] w fun e w'=>e=.returned (.int .u32 (yX 15 a b))∧w=w':=by
 have hwa:wrap32 (a:Int)=Fl.vP a:=zAd a ha
 have hwb:wrap32 (b:Int)=Fl.vP b:=zAd b hb
 go_enter Tryz.func61,Tryz.ntmps61
 go_wp2_with (go_at_call 64;refine(zA9 _ _).mono ?_;rintro e w1 ⟨rfl,rfl⟩)
 go_ret
 exact⟨uQ (by simp[yX]),rfl⟩
theorem zJE(k:Int)(a b:Nat)(w:World)(ha:a < 4294967296)(hb:b < 4294967296)(hk:0≤k∧k≤15):Calls Tryz.prog 61 #[.int .i64 k,.int .u32 a,.int .u32 b] w fun e w'=>e=.returned (.int .u32 (yX k a b))∧w=w':=by
 rcases(by omega:k=0∨k=1∨k=2∨k=3∨k=4∨k=5∨k=6∨k=7∨k=8∨k=9∨k=10∨k=11∨k=12∨k=13∨k=14∨k=15) with rfl|rfl|rfl|rfl|rfl|rfl|rfl|rfl|rfl|rfl|rfl|rfl|rfl|rfl|rfl|rfl
 ·exact zOK a b w ha hb
 ·exact zOL a b w ha hb
 ·exact zOM a b w ha hb
 ·exact zON a b w ha hb
 ·exact zOO a b w ha hb
 ·exact zOP a b w ha hb
 ·exact zOQ a b w ha hb
 ·exact zOR a b w ha hb
 ·exact zOS a b w ha hb
 ·exact zOT a b w ha hb
 ·exact zM9 a b w ha hb
 ·exact zNa a b w ha hb
 ·exact zNb a b w ha hb
 ·exact zNc a b w ha hb
 ·exact zNd a b w ha hb
 ·exact zNe a b w ha hb
def yC(o:OpR)(a b c:Nat):Int:=
 if o.kind=1 then(o.k:Int) else if o.kind=4 then yX o.w a b else if o.kind=5 then(unF o.w a:Int) else if o.kind=6 then(if a=0 then(c:Int) else(b:Int))
 else if o.kind=7 then Fl.zN o.w a b c else Fl.uH (Fl.zO o.w a) 1
structure zBR(o:OpR):Prop where
 w4:o.kind=4→0≤o.w∧o.w≤15
 w5:o.kind=5→0≤o.w∧o.w≤6
theorem zPj(o:OpR)(a b c:Nat)(w:World)(ha:a < 4294967296)(hb:b < 4294967296)(hc:c < 4294967296)(hk:o.kind=1)(hw:zBR o) :
  Calls Tryz.prog 58 #[.agg #[.int .i64 o.kind,.int .i64 o.w,.int .i64 o.a,.int .i64 o.b,.int .i64 o.c,.int .u32 o.k,.int .i64 o.n],.int .u32 a,.int .u32 b,.int .u32 c] w fun e w'=>e=.returned (.int .u32 (yC o a b c))∧Below w.heap.size w w':=by
 have HF:Hid (yC o a b c=(o.k:Int)):=by show _=_;simp[yC,hk]
 have HW:Hid _:=hw
 have HK:Hid (o.kind=1):=hk
 clear hw
 go_enter Tryz.func58,Tryz.ntmps58
 go_wp2
 go_ret
 exact⟨by rw[HF.out];rfl,yF w _⟩
theorem zPk(o:OpR)(a b c:Nat)(w:World)(ha:a < 4294967296)(hb:b < 4294967296)(hc:c < 4294967296)(hk:o.kind=4)(hw:zBR o) :
  Calls Tryz.prog 58 #[.agg #[.int .i64 o.kind,.int .i64 o.w,.int .i64 o.a,.int .i64 o.b,.int .i64 o.c,.int .u32 o.k,.int .i64 o.n],.int .u32 a,.int .u32 b,.int .u32 c] w fun e w'=>e=.returned (.int .u32 (yC o a b c))∧Below w.heap.size w w':=by
 have HF:Hid (yC o a b c=yX o.w a b):=by show _=_;simp[yC,hk]
 have HW:Hid _:=hw
 have HK:Hid (o.kind=4):=hk
 clear hw
 go_enter Tryz.func58,Tryz.ntmps58
 go_wp2_with (go_at_call 75;refine(zJJ o.w a b _ ha hb (HW.out.w4 HK.out)).mono ?_;rintro e w1 ⟨rfl,h1⟩)
 go_ret
 exact⟨by rw[HF.out];rfl,(yF w _).trans (h1.mono aS)⟩
theorem zPl(o:OpR)(a b c:Nat)(w:World)(ha:a < 4294967296)(hb:b < 4294967296)(hc:c < 4294967296)(hk:o.kind=5)(hw:zBR o) :
  Calls Tryz.prog 58 #[.agg #[.int .i64 o.kind,.int .i64 o.w,.int .i64 o.a,.int .i64 o.b,.int .i64 o.c,.int .u32 o.k,.int .i64 o.n],.int .u32 a,.int .u32 b,.int .u32 c] w fun e w'=>e=.returned (.int .u32 (yC o a b c))∧Below w.heap.size w w':=by
 have HF:Hid (yC o a b c=(unF o.w a:Int)):=by show _=_;simp[yC,hk]
 have HW:Hid _:=hw
 have HK:Hid (o.kind=5):=hk
 clear hw
 go_enter Tryz.func58,Tryz.ntmps58
 go_wp2_with (go_at_call 72;refine(zEq o.w a _ ha (HW.out.w5 HK.out)).mono ?_;rintro e w1 ⟨rfl,rfl⟩)
 go_ret
 exact⟨by rw[HF.out];rfl,yF w _⟩
theorem zPm(o:OpR)(a b c:Nat)(w:World)(ha:a < 4294967296)(hb:b < 4294967296)(hc:c < 4294967296)(hk:o.kind=6)(hw:zBR o) :
  Calls Tryz.prog 58 #[.agg #[.int .i64 o.kind,.int .i64 o.w,.int .i64 o.a,.int .i64 o.b,.int .i64 o.c,.int .u32 o.k,.int .i64 o.n],.int .u32 a,.int .u32 b,.int .u32 c] w fun e w'=>e=.returned (.int .u32 (yC o a b c))∧Below w.heap.size w w':=by
 have HF:Hid (yC o a b c=if a=0 then(c:Int) else(b:Int)):=by show _=_;simp[yC,hk]
 have HW:Hid _:=hw
 have HK:Hid (o.kind=6):=hk
 clear hw
 go_enter Tryz.func58,Tryz.ntmps58
 by_cases h:a=0
 ·have d:((a:Int) !=0)=false:=by simp;omega
  go_wp2
  go_ret
  exact⟨by rw[HF.out,if_pos h];rfl,yF w _⟩
 ·have d:((a:Int) !=0)=true:=by simp;omega
  go_wp2
  go_ret
  exact⟨by rw[HF.out,if_neg h];rfl,yF w _⟩
theorem zPn(o:OpR)(a b c:Nat)(w:World)(ha:a < 4294967296)(hb:b < 4294967296)(hc:c < 4294967296)(hk:o.kind=7)(hw:zBR o) :
  Calls Tryz.prog 58 #[.agg #[.int .i64 o.kind,.int .i64 o.w,.int .i64 o.a,.int .i64 o.b,.int .i64 o.c,.int .u32 o.k,.int .i64 o.n],.int .u32 a,.int .u32 b,.int .u32 c] w fun e w'=>e=.returned (.int .u32 (yC o a b c))∧Below w.heap.size w w':=by
 have HF:Hid (yC o a b c=Fl.zN o.w a b c):=by show _=_;simp[yC,hk]
 have HW:Hid _:=hw
 have HK:Hid (o.kind=7):=hk
 clear hw
 go_enter Tryz.func58,Tryz.ntmps58
 go_wp2_with (go_at_call 74;refine(Fl.vV o.w a b c _ ha hb hc).mono ?_;rintro e w1 ⟨rfl,rfl⟩)
 go_ret
 exact⟨by rw[HF.out];rfl,yF w _⟩
theorem zPo(o:OpR)(a b c:Nat)(w:World)(ha:a < 4294967296)(hb:b < 4294967296)(hc:c < 4294967296)(hk:o.kind=8)(hw:zBR o) :
  Calls Tryz.prog 58 #[.agg #[.int .i64 o.kind,.int .i64 o.w,.int .i64 o.a,.int .i64 o.b,.int .i64 o.c,.int .u32 o.k,.int .i64 o.n],.int .u32 a,.int .u32 b,.int .u32 c] w fun e w'=>e=.returned (.int .u32 (yC o a b c))∧Below w.heap.size w w':=by
 have HF:Hid (yC o a b c=Fl.uH (Fl.zO o.w a) 1):=by show _=_;simp[yC,hk]
 have HW:Hid _:=hw
 have HK:Hid (o.kind=8):=hk
 clear hw
 go_enter Tryz.func58,Tryz.ntmps58
 go_wp2_with (first
  | (go_at_call 77;refine(Fl.zHC o.w a _ ha).mono ?_;rintro e w1 ⟨rfl,h1⟩)
  | (go_at_call 76;refine(zBW _ _).mono ?_;rintro e w2 ⟨rfl,rfl⟩))
 go_ret
 exact⟨by rw[HF.out];rfl,(yF w _).trans (h1.mono aS)⟩
def zC5(o:OpR)(c:Nat→Nat)(a b d:Nat):Int:=if o.kind=2 then(c o.w.toNat:Int) else if o.kind=17 then cxF c else yC o a b d
def vY:Prop:=∀ (c:Int) (f:Nat) (w:World),f < 4294967296→c≤9223372036854775807→
 Calls Tryz.prog 65 #[.int .i64 c,.int .u32 f] w fun e w'=>e=.returned (.bool (Fl.zO c f))∧Below w.heap.size w w'
theorem zQz(o:OpR)(a b d:Nat)(w:World)(hH:vY)(ha:a < 4294967296)(hb:b < 4294967296)(hd:d < 4294967296)(hk:o.kind=1)(hw:zBR o)(hw8:o.w≤9223372036854775807) :
  Calls Tryz.prog 50 #[.agg #[.int .i64 o.kind,.int .i64 o.w,.int .i64 o.a,.int .i64 o.b,.int .i64 o.c,.int .u32 o.k,.int .i64 o.n],.int .u32 a,.int .u32 b,.int .u32 d] w fun e w'=>e=.returned (.int .u32 (yC o a b d))∧Below w.heap.size w w':=by
 have HF:Hid (yC o a b d=(o.k:Int)):=by show _=_;simp[yC,hk]
 have HW:Hid _:=hw
 have HK:Hid (o.kind=1):=hk
 have HH:Hid _:=hH
 have HA:Hid _:=ha
 have HB:Hid _:=hb
 have HD:Hid _:=hd
 have HW8:Hid _:=hw8
 clear hw hH hw8
 go_enter Tryz.func50,Tryz.ntmps50
 go_wp2
 go_ret
 exact⟨by rw[HF.out];rfl,yF w _⟩
theorem zQA(o:OpR)(a b d:Nat)(w:World)(hH:vY)(ha:a < 4294967296)(hb:b < 4294967296)(hd:d < 4294967296)(hk:o.kind=4)(hw:zBR o)(hw8:o.w≤9223372036854775807) :
  Calls Tryz.prog 50 #[.agg #[.int .i64 o.kind,.int .i64 o.w,.int .i64 o.a,.int .i64 o.b,.int .i64 o.c,.int .u32 o.k,.int .i64 o.n],.int .u32 a,.int .u32 b,.int .u32 d] w fun e w'=>e=.returned (.int .u32 (yC o a b d))∧Below w.heap.size w w':=by
 have HF:Hid (yC o a b d=yX o.w a b):=by show _=_;simp[yC,hk]
 have HW:Hid _:=hw
 have HK:Hid (o.kind=4):=hk
 have HH:Hid _:=hH
 have HA:Hid _:=ha
 have HB:Hid _:=hb
 have HD:Hid _:=hd
 have HW8:Hid _:=hw8
 clear hw hH hw8
 go_enter Tryz.func50,Tryz.ntmps50
 go_wp2_with (go_at_call 61;refine(zJE o.w _ _ _ HA.out HB.out (HW.out.w4 HK.out)).mono ?_;rintro e w1 ⟨rfl,rfl⟩)
 go_ret
 exact⟨by rw[HF.out];rfl,yF w _⟩
theorem zQB(o:OpR)(a b d:Nat)(w:World)(hH:vY)(ha:a < 4294967296)(hb:b < 4294967296)(hd:d < 4294967296)(hk:o.kind=5)(hw:zBR o)(hw8:o.w≤9223372036854775807) :
  Calls Tryz.prog 50 #[.agg #[.int .i64 o.kind,.int .i64 o.w,.int .i64 o.a,.int .i64 o.b,.int .i64 o.c,.int .u32 o.k,.int .i64 o.n],.int .u32 a,.int .u32 b,.int .u32 d] w fun e w'=>e=.returned (.int .u32 (yC o a b d))∧Below w.heap.size w w':=by
 have HF:Hid (yC o a b d=(unF o.w a:Int)):=by show _=_;simp[yC,hk]
 have HW:Hid _:=hw
 have HK:Hid (o.kind=5):=hk
 have HH:Hid _:=hH
 have HA:Hid _:=ha
 have HB:Hid _:=hb
 have HD:Hid _:=hd
 have HW8:Hid _:=hw8
 clear hw hH hw8
 go_enter Tryz.func50,Tryz.ntmps50
 go_wp2_with (go_at_call 62;refine(zLn o.w _ _ HA.out (HW.out.w5 HK.out)).mono ?_;rintro e w1 ⟨rfl,rfl⟩)
 go_ret
 exact⟨by rw[HF.out];rfl,yF w _⟩
theorem zQC(o:OpR)(a b d:Nat)(w:World)(hH:vY)(ha:a < 4294967296)(hb:b < 4294967296)(hd:d < 4294967296)(hk:o.kind=6)(hw:zBR o)(hw8:o.w≤9223372036854775807) :
  Calls Tryz.prog 50 #[.agg #[.int .i64 o.kind,.int .i64 o.w,.int .i64 o.a,.int .i64 o.b,.int .i64 o.c,.int .u32 o.k,.int .i64 o.n],.int .u32 a,.int .u32 b,.int .u32 d] w fun e w'=>e=.returned (.int .u32 (yC o a b d))∧Below w.heap.size w w':=by
 have HF:Hid (yC o a b d=if a=0 then(d:Int) else(b:Int)):=by show _=_;simp[yC,hk]
 have HW:Hid _:=hw
 have HK:Hid (o.kind=6):=hk
 have HH:Hid _:=hH
 have HA:Hid _:=ha
 have HB:Hid _:=hb
 have HD:Hid _:=hd
 have HW8:Hid _:=hw8
 clear hw hH hw8
 go_enter Tryz.func50,Tryz.ntmps50
 by_cases h:a=0
 ·have d1:((a:Int) !=0)=false:=by simp;omega
  go_wp2
  go_ret
  exact⟨by rw[HF.out,if_pos h];rfl,yF w _⟩
 ·have d1:((a:Int) !=0)=true:=by simp;omega
  go_wp2
  go_ret
  exact⟨by rw[HF.out,if_neg h];rfl,yF w _⟩
theorem zQD(o:OpR)(a b d:Nat)(w:World)(hH:vY)(ha:a < 4294967296)(hb:b < 4294967296)(hd:d < 4294967296)(hk:o.kind=7)(hw:zBR o)(hw8:o.w≤9223372036854775807) :
  Calls Tryz.prog 50 #[.agg #[.int .i64 o.kind,.int .i64 o.w,.int .i64 o.a,.int .i64 o.b,.int .i64 o.c,.int .u32 o.k,.int .i64 o.n],.int .u32 a,.int .u32 b,.int .u32 d] w fun e w'=>e=.returned (.int .u32 (yC o a b d))∧Below w.heap.size w w':=by
 have HF:Hid (yC o a b d=Fl.zN o.w a b d):=by show _=_;simp[yC,hk]
 have HW:Hid _:=hw
 have HK:Hid (o.kind=7):=hk
 have HH:Hid _:=hH
 have HA:Hid _:=ha
 have HB:Hid _:=hb
 have HD:Hid _:=hd
 have HW8:Hid _:=hw8
 clear hw hH hw8
 go_enter Tryz.func50,Tryz.ntmps50
 go_wp2_with (go_at_call 63;refine(zDr o.w _ _ _ _ HA.out HB.out HD.out).mono ?_;rintro e w1 ⟨rfl,h1⟩)
 go_ret
 exact⟨by rw[HF.out];rfl,(yF w _).trans (h1.mono aS)⟩
theorem zQE(o:OpR)(a b d:Nat)(w:World)(hH:vY)(ha:a < 4294967296)(hb:b < 4294967296)(hd:d < 4294967296)(hk:o.kind=8)(hw:zBR o)(hw8:o.w≤9223372036854775807) :
  Calls Tryz.prog 50 #[.agg #[.int .i64 o.kind,.int .i64 o.w,.int .i64 o.a,.int .i64 o.b,.int .i64 o.c,.int .u32 o.k,.int .i64 o.n],.int .u32 a,.int .u32 b,.int .u32 d] w fun e w'=>e=.returned (.int .u32 (yC o a b d))∧Below w.heap.size w w':=by
 have HF:Hid (yC o a b d=Fl.uH (Fl.zO o.w a) 1):=by show _=_;simp[yC,hk]
 have HW:Hid _:=hw
 have HK:Hid (o.kind=8):=hk
 have HH:Hid _:=hH
 have HA:Hid _:=ha
 have HB:Hid _:=hb
 have HD:Hid _:=hd
 have HW8:Hid _:=hw8
 clear hw hH hw8
 go_enter Tryz.func50,Tryz.ntmps50
 go_wp2_with (first
  | (go_at_call 65;refine(HH.out o.w _ _ HA.out HW8.out).mono ?_;rintro e w1 ⟨rfl,h1⟩)
  | (go_at_call 64;refine(zA9 _ _).mono ?_;rintro e w2 ⟨rfl,rfl⟩))
 go_ret
 exact⟨by rw[HF.out];rfl,(yF w _).trans (h1.mono aS)⟩
theorem zGn(c:Int)(f:Nat)(w:World)(hf:f < 4294967296)(hc64:c≤9223372036854775807):Calls Tryz.prog 65 #[.int .i64 c,.int .u32 f] w fun e w'=>e=.returned (.bool (Fl.zO c f))∧Below w.heap.size w w':=by
 by_cases hlo:c < 0
 ·rw[show Fl.zO c f=false from by unfold Fl.zO Fl.zH;rw[if_pos (Or.inl hlo)]];exact zOv c f w hlo
 by_cases hhi:15 < c
 ·rw[show Fl.zO c f=false from by unfold Fl.zO Fl.zH;rw[if_pos (Or.inr hhi)]];exact zOu c f w ⟨hhi,hc64⟩
 have hc:c=0∨c=1∨c=2∨c=3∨c=4∨c=5∨c=6∨c=7∨c=8∨c=9∨c=10∨c=11∨c=12∨c=13∨c=14∨c=15:=aO
 rcases hc with rfl|rfl|rfl|rfl|rfl|rfl|rfl|rfl|rfl|rfl|rfl|rfl|rfl|rfl|rfl|rfl
 ·exact ph0 f w hf
 ·exact ph1 f w hf
 ·exact ph2 f w hf
 ·exact ph3 f w hf
 ·exact ph4 f w hf
 ·exact ph5 f w hf
 ·exact ph6 f w hf
 ·exact ph7 f w hf
 ·exact ph8 f w hf
 ·exact ph9 f w hf
 ·exact zP9 f w hf
 ·exact zQa f w hf
 ·exact zQb f w hf
 ·exact zQc f w hf
 ·exact zQd f w hf
 ·exact zQe f w hf
theorem zJl:vY:=fun c f w hf hc=>zGn c f w hf hc
end Go.Proofs.YthcpipfmicbnmaaGreat.Va
