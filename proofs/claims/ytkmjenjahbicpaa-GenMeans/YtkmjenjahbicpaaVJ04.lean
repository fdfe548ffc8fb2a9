import Derived.Test.YtkmjenjahbicpaaZQ
import Derived.WalkKit
import Derived.WalkSpells
import Derived.WalkLawsBesides
import Derived.Deep.QuietTactic
import Derived.BigQuiet
import Derived.BigRegion
import Derived.KernelRfl
import Derived.LoopN
import Derived.Laws.BitsAllLaws
set_option linter.unusedVariables false
set_option linter.unusedSimpArgs false
set_option maxHeartbeats 1000000
namespace Go.Proofs.Ytkmjenjahbicpaa.Va.Fl
open Go.RowKit
set_option maxRecDepth 100000
theorem uA{k:IntKind}{a b:Int}(h:a=b):Ending.returned (.int k a)=.returned (.int k b):=by rw[h]
def isF(b:Bool)(f:Int):Int:=if b then f else 0
theorem zA9(b:Bool)(f:Int)(w:World):Calls Try.prog 77 #[.bool b,.int .u32 f] w fun e w'=>e=.returned (.int .u32 (isF b f))∧w=w':=by
 cases b
 ·go_enter Try.func77,Try.ntmps77;go_wp2;go_ret;exact⟨rfl,rfl⟩
 ·go_enter Try.func77,Try.ntmps77;go_wp2;go_ret;exact⟨rfl,rfl⟩
theorem vH(x:Int)(w:World)(h0 : -1099511627776≤x)(h1:x≤1099511627776):Calls Try.prog 76 #[.int .i64 x] w fun e w'=>e=.returned (.int .u32 (x%4294967296))∧w=w':=by
 obtain⟨m,hm⟩:∃ m,x.tmod 4294967296=m:=⟨_,rfl⟩
 have hm1 : -4294967296 < m∧m < 4294967296∧(m+4294967296)%4294967296=x%4294967296:=by
  rw[← hm]
  by_cases hx:0≤x
  ·rw[Int.tmod_eq_emod_of_nonneg hx];omega
  ·have hn:x.tmod 4294967296 = -((-x)%4294967296):=by
    have:=Int.neg_tmod (a:=-x) (b:=4294967296)
    rw[Int.neg_neg] at this
    rw[this,Int.tmod_eq_emod_of_nonneg aO]
   rw[hn];omega
 have hr:(m+4294967296).tmod 4294967296=(m+4294967296)%4294967296:=Int.tmod_eq_emod_of_nonneg aO
 have HE:Hid ((m+4294967296)%4294967296=x%4294967296):=hm1.2.2
 obtain⟨hm2,hm3,-⟩:=hm1
 have hs:0≤m+4294967296:=aO
 go_enter Try.func76,Try.ntmps76
 go_wp2
 go_ret
 exact⟨uA (by have:=HE.out;omega),rfl⟩
def sgn(x:Int):Int:=if 2147483648≤x then x - 4294967296 else x
theorem vT(x:Int)(h0:0≤x)(h1:x < 4294967296) : -2147483648≤sgn x∧sgn x < 2147483648:=by unfold sgn;split<;>omega
theorem vL(x:Int)(w:World)(h0:0≤x)(h1:x < 4294967296):Calls Try.prog 79 #[.int .u32 x] w fun e w'=>e=.returned (.int .i64 (sgn x))∧w=w':=by
 by_cases h:2147483648≤x
 ·rw[sgn,if_pos h]
  go_enter Try.func79,Try.ntmps79;go_wp2;go_ret;exact⟨rfl,rfl⟩
 ·rw[sgn,if_neg h]
  go_enter Try.func79,Try.ntmps79;go_wp2;go_ret;exact⟨rfl,rfl⟩
def zA8(x:Int):Bool:=decide (2147483648≤x∨x < -2147483648)
theorem zAa(x:Int)(w:World):Calls Try.prog 78 #[.int .i64 x] w fun e w'=>e=.returned (.bool (zA8 x))∧w=w':=by
 by_cases h:2147483648≤x
 ·have e:zA8 x=true:=decide_eq_true (.inl h)
  have d:decide (2147483648≤x)=true:=decide_eq_true h
  rw[e]
  go_enter Try.func78,Try.ntmps78;go_wp2;go_ret;exact⟨rfl,rfl⟩
 ·have d:decide (2147483648≤x)=false:=decide_eq_false h
  by_cases h2:x < -2147483648
  ·have e:zA8 x=true:=decide_eq_true (.inr h2)
   have d2:decide (x < -2147483648)=true:=decide_eq_true h2
   rw[e]
   go_enter Try.func78,Try.ntmps78;go_wp2;go_ret;exact⟨rfl,rfl⟩
  ·have e:zA8 x=false:=aF
   have d2:decide (x < -2147483648)=false:=decide_eq_false h2
   rw[e]
   go_enter Try.func78,Try.ntmps78;go_wp2;go_ret;exact⟨rfl,rfl⟩
def yM(x:Int):Int:=isF (x==0) 1+isF (decide (2147483648≤x)) 2
theorem yZ(b:Bool)(f:Int)(h:0≤f):0≤isF b f∧isF b f≤f:=by unfold isF;split<;>omega
theorem vX(x:Int):0≤yM x∧yM x≤3:=by
 have h1:=yZ (x==0) 1 aO
 have h2:=yZ (decide (2147483648≤x)) 2 aO
 unfold yM;omega
theorem uD(x:Int)(w:World)(h0:0≤x)(h1:x < 4294967296):Calls Try.prog 75 #[.int .u32 x] w fun e w'=>e=.returned (.int .u32 (yM x))∧w=w':=by
 have b1:=yZ (x==0) 1 aO
 have b2:=yZ (decide (2147483648≤x)) 2 aO
 obtain⟨p,hp⟩:∃ p,isF (x==0) 1=p:=⟨_,rfl⟩
 obtain⟨q,hq⟩:∃ q,isF (decide (2147483648≤x)) 2=q:=⟨_,rfl⟩
 rw[hp] at b1
 rw[hq] at b2
 have HE:Hid (isF (x==0) 1=p∧isF (decide (2147483648≤x)) 2=q∧yM x=p+q):=⟨hp,hq,by unfold yM;rw[hp,hq]⟩
 clear hp hq
 go_enter Try.func75,Try.ntmps75
 go_wp2_with (go_at_call 77;refine(zA9 _ _ _).mono ?_;rintro e w' ⟨rfl,rfl⟩)
 go_ret
 exact⟨uA (by rw[HE.out.1,HE.out.2.1,HE.out.2.2];omega),rfl⟩
theorem zI0(x:Int):(if x < 0 then(x - 1).tdiv 2 else x.tdiv 2)=x / 2:=by
 split
 ·have:(x - 1).tdiv 2 = -((1 - x) / 2):=by
   have h:=Int.neg_tdiv (a:=1 - x) (b:=2)
   rw[Int.neg_sub] at h
   rw[h,Int.tdiv_eq_ediv_of_nonneg aO]
  rw[this];omega
 ·rw[Int.tdiv_eq_ediv_of_nonneg aO]
theorem zCA(x:Int)(n:Nat)(w:World)(h0 : -4294967296≤x)(h1:x≤4294967296)(hn:n≤32):Calls Try.prog 81 #[.int .i64 x,.int .u32 n] w fun e w'=>e=.returned (.int .i64 (x / 2 ^ n))∧w=w':=by
 obtain⟨R,hR⟩:∃ R,x / 2 ^ n=R:=⟨_,rfl⟩
 rw[hR]
 have HR:Hid (x / 2 ^ n=R):=hR
 have HB:Hid (-4294967296≤x∧x≤4294967296):=⟨h0,h1⟩
 clear hR h0 h1
 go_enter Try.func81,Try.ntmps81
 go_wp2
 go_loop [0,1] (fun xx nn=>∃ (y:Int) (m:Nat),xx=.int .i64 y∧nn=.int .u32 m∧(-4294967296≤y∧y≤4294967296)∧m≤32∧y / 2 ^ m=R) (fun _ nn=>(intOf nn).toNat)
 case atStart=>exact⟨x,n,rfl,rfl,HB.out,hn,HR.out⟩
 case round=>
  obtain⟨y,m,rfl,rfl,hy,hm,hq⟩:=hrel
  have HQ:Hid (y / 2 ^ m=R):=hq
  clear hq HR HB
  obtain⟨hy0,hy1⟩:=hy
  by_cases hm0:0 < m
  ·have hmi:(0:Int) < m:=aO
   have hmi2:(m:Int)≤32:=aO
   have HN:Hid ((y / 2) / 2 ^ (m - 1)=R):=show _=_ by
    rw[← HQ.out,Int.ediv_ediv_of_nonneg aO]
    congr 1
    rw[show m=(m - 1)+1 by omega,Int.pow_succ]
    simp[Int.mul_comm]
   have yD:=zI0 y
   by_cases hneg:y < 0
   ·rw[if_pos hneg] at yD
    go_wp2
    go_round
    case rel=>exact⟨y / 2,m - 1,by go_num,by go_num,by omega,by omega,HN.out⟩
    case measure=>simp[intOf];omega
   ·rw[if_neg hneg] at yD
    have hy00:0≤y:=aO
    go_wp2
    go_round
    case rel=>exact⟨y / 2,m - 1,by go_num,by go_num,by omega,by omega,HN.out⟩
    case measure=>simp[intOf];omega
  ·have hmz:m=0:=aO
   subst hmz
   go_wp2
   go_ret
   exact⟨uA (by rw[← HQ.out];simp),rfl⟩
theorem zHp(x n:Nat)(w:World)(h1:x < 4294967296)(hn:n≤31):Calls Try.prog 80 #[.int .u32 x,.int .u32 n] w fun e w'=>e=.returned (.int .u64 ((x*2 ^ n:Nat):Int))∧w=w':=by
 obtain⟨R,hR⟩:∃ R,x*2 ^ n=R:=⟨_,rfl⟩
 have hRb:R < 18446744073709551616:=by
  rw[← hR]
  have:2 ^ n≤2 ^ 31:=Nat.pow_le_pow_right aD hn
  calc x*2 ^ n≤x*2 ^ 31:=Nat.mul_le_mul_left _ this
   _ < 18446744073709551616:=aO
 rw[hR]
 have HR:Hid (x*2 ^ n=R∧R < 18446744073709551616):=⟨hR,hRb⟩
 have hx0:(0:Int)≤x:=aO
 have hx1:(x:Int) < 4294967296:=aO
 clear hR hRb
 go_enter Try.func80,Try.ntmps80
 go_wp2
 go_loop [1,5] (fun nn yy=>∃ (y m:Nat),yy=.int .u64 y∧nn=.int .u32 m∧m≤31∧y*2 ^ m=R) (fun nn _=>(intOf nn).toNat)
 case atStart=>exact⟨x,n,rfl,rfl,hn,HR.out.1⟩
 case round=>
  obtain⟨y,m,rfl,rfl,hm,hq⟩:=hrel
  have HQ:Hid (y*2 ^ m=R):=hq
  clear hq
  by_cases hm0:0 < m
  ·have hmi:(0:Int) < m:=aO
   have hmi2:(m:Int)≤32:=aO
   have HN:Hid ((2*y)*2 ^ (m - 1)=R):=show _=_ by
    have hp:2 ^ m=2*2 ^ (m - 1):=by
     have:m=(m - 1)+1:=aO
     rw[this,Nat.pow_succ,Nat.add_sub_cancel];omega
    rw[← HQ.out,hp,← Nat.mul_assoc,Nat.mul_comm 2 y]
   have hy2:2*y < 18446744073709551616:=by
    have h1:=HN.out
    have h2:=HR.out.2
    have h3:2*y≤(2*y)*2 ^ (m - 1):=Nat.le_mul_of_pos_right _ (Nat.pow_pos aD)
    omega
   have hyi:2*(y:Int) < 18446744073709551616:=aO
   have hy0:(0:Int)≤y:=aO
   go_wp2
   go_round
   case rel=>exact⟨2*y,m - 1,by go_num,by go_num,by omega,HN.out⟩
   case measure=>simp[intOf];omega
  ·have hmz:m=0:=aO
   subst hmz
   go_wp2
   go_ret
   exact⟨uA (by rw[← HQ.out];simp),rfl⟩
def zII(x:Int):Int:=2*x%4294967296+x / 2147483648
def zB6:Nat→Int→Int
 | 0,x=>x
 | n+1,x=>zB6 n (zII x)
theorem zDe(x:Int)(h0:0≤x)(h1:x < 4294967296):0≤zII x∧zII x < 4294967296:=by unfold zII;omega
theorem zET(x:Int)(n:Nat)(w:World)(h0:0≤x)(h1:x < 4294967296)(hn:n≤32):Calls Try.prog 82 #[.int .u32 x,.int .u32 n] w fun e w'=>e=.returned (.int .u32 (zB6 n x))∧w=w':=by
 obtain⟨R,hR⟩:∃ R,zB6 n x=R:=⟨_,rfl⟩
 rw[hR]
 have HR:Hid (zB6 n x=R):=hR
 have HB:Hid (0≤x∧x < 4294967296):=⟨h0,h1⟩
 clear hR h0 h1
 go_enter Try.func82,Try.ntmps82
 go_wp2
 go_loop [0,1] (fun xx nn=>∃ (y:Int) (m:Nat),xx=.int .u32 y∧nn=.int .u32 m∧(0≤y∧y < 4294967296)∧m≤32∧zB6 m y=R) (fun _ nn=>(intOf nn).toNat)
 case atStart=>exact⟨x,n,rfl,rfl,HB.out,hn,HR.out⟩
 case round=>
  obtain⟨y,m,rfl,rfl,hy,hm,hq⟩:=hrel
  have HQ:Hid (zB6 m y=R):=hq
  clear hq HR HB
  obtain⟨hy0,hy1⟩:=hy
  cases m with
  | zero=>
   go_wp2
   go_ret
   exact⟨uA HQ.out,rfl⟩
  | succ m=>
   have hb:=zDe y hy0 hy1
   obtain⟨t,ht⟩:∃ t,zII y=t:=⟨_,rfl⟩
   have HT:Hid (2*y%4294967296+y / 2147483648=t∧zB6 m t=R):=⟨ht,by rw[← ht];exact HQ.out⟩
   rw[ht] at hb
   obtain⟨hb0,hb1⟩:=hb
   have hu:2*y%4294967296+y / 2147483648=t:=HT.out.1
   clear ht HQ
   go_wp2_with (go_at_call 76;refine(vH _ _ aO aO).mono ?_;rintro e w' ⟨rfl,rfl⟩)
   go_round
   case rel=>exact⟨t,m,by go_num,by go_num,by omega,by omega,HT.out.2⟩
   case measure=>simp[intOf]
def uB(o:Int)(a b:Nat):Nat:=if o=5 then a ||| b else if o=6 then a ^^^ b else a &&& b
theorem tb(n k:Nat):n / 2 ^ k%2=(n.testBit k).toNat:=by
 rw[Nat.testBit_eq_decide_div_mod_eq]
 have h:=Nat.mod_two_eq_zero_or_one (n / 2 ^ k)
 rcases h with h|h<;>rw[h]<;>rfl
theorem zML(a b k:Nat):(a &&& b) / 2 ^ k%2=(a / 2 ^ k%2)*(b / 2 ^ k%2):=by
 rw[tb,tb,tb,Nat.testBit_and]
 cases a.testBit k<;>cases b.testBit k<;>rfl
theorem zO6(a b k:Nat):(a ||| b) / 2 ^ k%2=(a / 2 ^ k%2)+(b / 2 ^ k%2) - (a / 2 ^ k%2)*(b / 2 ^ k%2):=by
 rw[tb,tb,tb,Nat.testBit_or]
 cases a.testBit k<;>cases b.testBit k<;>rfl
theorem zMN(a b k:Nat):(a ^^^ b) / 2 ^ k%2=((a / 2 ^ k%2)+(b / 2 ^ k%2))%2:=by
 rw[tb,tb,tb,Nat.testBit_xor]
 cases a.testBit k<;>cases b.testBit k<;>rfl
theorem zMM(n k:Nat):n / 2 ^ k=2*(n / 2 ^ (k+1))+n / 2 ^ k%2:=by
 rw[Nat.pow_succ,← Nat.div_div_eq_div_mul];omega
theorem zCG(o:Int)(a b:Nat)(ha:a < 4294967296)(hb:b < 4294967296):uB o a b < 4294967296:=by
 unfold uB
 split
 ·exact Nat.or_lt_two_pow (n:=32) ha hb
 ·split
  ·exact Nat.xor_lt_two_pow (n:=32) ha hb
  ·exact Nat.and_lt_two_pow (n:=32) _ hb
structure zTh(o:Int)(a b j:Nat)(x:Int):Prop where
 le:j≤32
 eq:x=((uB o a b / 2 ^ j:Nat):Int)
 lt:uB o a b < 4294967296
theorem zKT(o:Int)(a b t:Nat)(P Q:Nat)(hP:P=a / 2 ^ t%2)(hQ:Q=b / 2 ^ t%2)(ha:a < 4294967296)(hb:b < 4294967296) :
  uB o a b / 2 ^ t=2*(uB o a b / 2 ^ (t+1))+(if o=5 then P+Q - P*Q else if o=6 then(P+Q)%2 else P*Q):=by
 rw[zMM (uB o a b) t]
 congr 1
 unfold uB
 subst hP hQ
 split
 ·rw[zO6]
 ·split
  ·rw[zMN]
  ·rw[zML]
theorem zKS(o:Int)(a b:Nat)(w:World)(ha:a < 4294967296)(hb:b < 4294967296):Calls Try.prog 93 #[.int .i64 o,.int .u32 a,.int .u32 b] w fun e w'=>e=.returned (.int .u32 (uB o a b))∧w=w':=by
 have hlt:=zCG o a b ha hb
 have HLT:Hid (uB o a b < 4294967296):=hlt
 have ha0:(0:Int)≤a:=aO
 have ha1:(a:Int) < 4294967296:=aO
 have hb0:(0:Int)≤b:=aO
 have hb1:(b:Int) < 4294967296:=aO
 clear hlt
 have hc:((o==5)=true)∨((o==5)=false∧(o==6)=true)∨((o==5)=false∧(o==6)=false):=by
  cases h5:(o==5)
  ·cases h6:(o==6)
   ·exact .inr (.inr ⟨rfl,rfl⟩)
   ·exact .inr (.inl ⟨rfl,rfl⟩)
  ·exact .inl rfl
 go_enter Try.func93,Try.ntmps93
 go_wp2
 go_loop [7,8] (fun xx kk=>∃ (j:Nat) (x:Int),kk=.int .i64 ((j:Int) - 1)∧xx=.int .u32 x∧zTh o a b j x) (fun _ kk=>(intOf kk+1).toNat)
 case atStart=>exact⟨32,0,rfl,rfl,⟨Nat.le_refl _,by rw[Nat.div_eq_of_lt HLT.out];rfl,HLT.out⟩⟩
 case round=>
  obtain⟨j,x,rfl,rfl,hj,hx,hl⟩:=hrel
  cases j with
  | zero=>
   have hz:((0:Nat):Int) - 1 = -1:=rfl
   rw[hz]
   have HX:Hid (x=(uB o a b:Int)):=show _=_ by simpa using hx
   clear hx hz
   go_wp2
   go_ret
   exact⟨uA HX.out,rfl⟩
  | succ t=>
   have e:((t+1:Nat):Int) - 1=(t:Int):=aO
   rw[e]
   obtain⟨P,hP⟩:∃ P,P=a / 2 ^ t%2:=⟨_,rfl⟩
   obtain⟨Q,hQ⟩:∃ Q,Q=b / 2 ^ t%2:=⟨_,rfl⟩
   have H1:Hid (uB o a b / 2 ^ t=2*(uB o a b / 2 ^ (t+1))+(if o=5 then P+Q - P*Q else if o=6 then(P+Q)%2 else P*Q)):=zKT o a b t P Q hP hQ ha hb
   have HX:Hid (x=((uB o a b / 2 ^ (t+1):Nat):Int)):=hx
   have ht0:(0:Int)≤t:=aO
   have ht1:(t:Int)≤31:=aO
   clear hx e
   have hPb:P=0∨P=1:=aO
   have hQb:Q=0∨Q=1:=aO
   obtain⟨A,hA⟩:∃ A:Nat,a / 2 ^ t=A:=⟨_,rfl⟩
   obtain⟨B,hB⟩:∃ B:Nat,b / 2 ^ t=B:=⟨_,rfl⟩
   rw[hA] at hP
   rw[hB] at hQ
   have hAi:(a:Int) / 2 ^ t=(A:Int):=by rw[← hA];simp
   have hBi:(b:Int) / 2 ^ t=(B:Int):=by rw[← hB];simp
   have hA0:(0:Int)≤A:=aO
   have hB0:(0:Int)≤B:=aO
   have hA1:(A:Int) < 4294967296:=by
     have:A≤a:=by rw[← hA];exact Nat.div_le_self _ _
     omega
   have hB1:(B:Int) < 4294967296:=by
     have:B≤b:=by rw[← hB];exact Nat.div_le_self _ _
     omega
   have hAm:(A:Int)%2=(P:Int):=aO
   have hBm:(B:Int)%2=(Q:Int):=aO
   obtain⟨y,hy⟩:∃ y:Nat,uB o a b / 2 ^ (t+1)=y:=⟨_,rfl⟩
   have hxy:x=(y:Int):=by rw[HX.out,hy]
   have hle:uB o a b / 2 ^ t < 4294967296:=Nat.lt_of_le_of_lt (Nat.div_le_self _ _) hl
   obtain⟨z,hz⟩:∃ z:Nat,uB o a b / 2 ^ t=z:=⟨_,rfl⟩
   have hzz:z=2*y+(if o=5 then P+Q - P*Q else if o=6 then(P+Q)%2 else P*Q):=by rw[← hz,H1.out,hy]
   have HZ:Hid (uB o a b / 2 ^ t=z):=hz
   rw[hz] at hle
   have HJ:Hid (t≤32∧uB o a b < 4294967296):=⟨by omega,hl⟩
   have hy0:(0:Int)≤y:=aO
   subst hxy
   clear hA hB hP hQ hy H1 HX HLT hz hl hj
   rcases hc with h5|⟨h5,h6⟩|⟨h5,h6⟩
   ·have ho:o=5:=by simpa using h5
    subst ho
    clear h5
    rcases hPb with rfl|rfl<;>rcases hQb with rfl|rfl
    all_goals
     simp at hzz
     have hy2:2*(y:Int)+1≤4294967296:=aO
     have HY:Hid (z < 4294967296∧z=z):=⟨hle,rfl⟩
     have hzi:(z:Int) < 4294967296:=aO
     subst hzz
     go_wp2
     go_round
     case rel=>exact⟨t,_,by go_num,by go_num,⟨HJ.out.1,by rw[HZ.out];go_num,HJ.out.2⟩⟩
     case measure=>simp[intOf]
   ·have ho:o=6:=by simpa using h6
    subst ho
    clear h5 h6
    rcases hPb with rfl|rfl<;>rcases hQb with rfl|rfl
    all_goals
     simp at hzz
     have hy2:2*(y:Int)+1≤4294967296:=aO
     have hzi:(z:Int) < 4294967296:=aO
     subst hzz
     go_wp2
     go_round
     case rel=>exact⟨t,_,by go_num,by go_num,⟨HJ.out.1,by rw[HZ.out];go_num,HJ.out.2⟩⟩
     case measure=>simp[intOf]
   ·have ho5:¬o=5:=by simpa using h5
    have ho6:¬o=6:=by simpa using h6
    rw[if_neg ho5,if_neg ho6] at hzz
    clear ho5 ho6
    rcases hPb with rfl|rfl<;>rcases hQb with rfl|rfl
    all_goals
     simp at hzz
     have hy2:2*(y:Int)+1≤4294967296:=aO
     have hzi:(z:Int) < 4294967296:=aO
     subst hzz
     go_wp2
     go_round
     case rel=>exact⟨t,_,by go_num,by go_num,⟨HJ.out.1,by rw[HZ.out];go_num,HJ.out.2⟩⟩
     case measure=>simp[intOf]
def zAH(old:Nat):Int:=((old%16 / 4%2:Nat):Int)
theorem zBy(old:Nat):0≤zAH old∧zAH old≤1:=by unfold zAH;omega
def zFv(a b:Nat)(c:Int):Int:=yM (((a:Int)+b+c)%4294967296)+isF (decide (4294967296≤(a:Int)+b+c)) 4+isF (zA8 (sgn a+sgn b+c)) 8
def zFy(a b:Nat)(c:Int):Int:=yM (((a:Int) - b - c)%4294967296)+isF (decide ((a:Int) - b - c < 0)) 4+isF (zA8 (sgn a - sgn b - c)) 8
def zGW(a b:Nat):Int:=yM ((a*b%4294967296:Nat):Int)+isF (decide (4294967296≤a*b)) 12
def zIG(a old:Nat):Int:=yM (((a:Int)+1)%4294967296)+zAH old*4+isF (zA8 (sgn a+1)) 8
def zIF(a old:Nat):Int:=yM (((a:Int) - 1)%4294967296)+zAH old*4+isF (zA8 (sgn a - 1)) 8
def zGa(a n:Nat):Int:=yM ((a*2 ^ n%4294967296:Nat):Int)+isF (a*2 ^ n / 4294967296%2==1) 4
def zGb(a n:Nat):Int:=yM ((a:Int) / 2 ^ n)+isF ((a:Int) / 2 ^ (n - 1)%2==1) 4
def zF9(a n:Nat):Int:=yM (sgn a / 2 ^ (n - 1) / 2%4294967296)+isF (sgn a / 2 ^ (n - 1)%4294967296%2==1) 4
def zF8(a n old:Nat):Int:=((old%16:Nat):Int) - zAH old*4+isF (zB6 n a%2==1) 4
theorem zKm(a b old:Nat)(w:World)(ha:a < 4294967296)(hb:b < 4294967296)(ho:old < 4294967296):Calls Try.prog 54 #[.int .i64 1,.int .u32 a,.int .u32 b,.int .u32 old] w fun e w'=>e=.returned (.int .u32 (zFv a b 0))∧w=w':=by
 have ha0:(0:Int)≤a:=aO
 have ha1:(a:Int) < 4294967296:=aO
 have hb0:(0:Int)≤b:=aO
 have hb1:(b:Int) < 4294967296:=aO
 have ho0:(0:Int)≤old:=aO
 have ho1:(old:Int) < 4294967296:=aO
 obtain⟨s1,s2⟩:=vT a ha0 ha1
 obtain⟨s3,s4⟩:=vT b hb0 hb1
 go_enter Try.func54,Try.ntmps54
 go_wp2_with first
  | (go_at_call 77;refine(zA9 _ _ _).mono ?_;rintro e w' ⟨rfl,rfl⟩)
  | (go_at_call 76;refine(vH _ _ aO aO).mono ?_;rintro e w' ⟨rfl,rfl⟩)
  | (go_at_call 75;refine(uD _ _ aO aO).mono ?_;rintro e w' ⟨rfl,rfl⟩)
  | (go_at_call 79;refine(vL _ _ aO aO).mono ?_;rintro e w' ⟨rfl,rfl⟩)
  | (go_at_call 78;refine(zAa _ _).mono ?_;rintro e w' ⟨rfl,rfl⟩)
 go_ret
 refine⟨uA ?_,rfl⟩
 have h1:=vX (((a:Int)+b)%4294967296)
 have h2:=yZ (decide (4294967296≤(a:Int)+b)) 4 aO
 have h3:=yZ (zA8 (sgn a+sgn b)) 8 aO
 simp only[zFv,Int.add_zero]
 omega
theorem zKn(a b old:Nat)(w:World)(ha:a < 4294967296)(hb:b < 4294967296)(ho:old < 4294967296):Calls Try.prog 54 #[.int .i64 2,.int .u32 a,.int .u32 b,.int .u32 old] w fun e w'=>e=.returned (.int .u32 (zFv a b (zAH old)))∧w=w':=by
 have ha0:(0:Int)≤a:=aO
 have ha1:(a:Int) < 4294967296:=aO
 have hb0:(0:Int)≤b:=aO
 have hb1:(b:Int) < 4294967296:=aO
 have ho0:(0:Int)≤old:=aO
 have ho1:(old:Int) < 4294967296:=aO
 obtain⟨s1,s2⟩:=vT a ha0 ha1
 obtain⟨s3,s4⟩:=vT b hb0 hb1
 have hc0:=zBy old
 obtain⟨c,hc⟩:∃ c,zAH old=c:=⟨_,rfl⟩
 have hci:(old:Int)%16 / 4%2=c:=by rw[← hc];unfold zAH;omega
 rw[hc] at hc0
 rw[hc]
 obtain⟨hc1,hc2⟩:=hc0
 clear hc
 go_enter Try.func54,Try.ntmps54
 go_wp2_with first
  | (go_at_call 77;refine(zA9 _ _ _).mono ?_;rintro e w' ⟨rfl,rfl⟩)
  | (go_at_call 76;refine(vH _ _ aO aO).mono ?_;rintro e w' ⟨rfl,rfl⟩)
  | (go_at_call 75;refine(uD _ _ aO aO).mono ?_;rintro e w' ⟨rfl,rfl⟩)
  | (go_at_call 79;refine(vL _ _ aO aO).mono ?_;rintro e w' ⟨rfl,rfl⟩)
  | (go_at_call 78;refine(zAa _ _).mono ?_;rintro e w' ⟨rfl,rfl⟩)
 go_ret
 refine⟨uA ?_,rfl⟩
 have h1:=vX (((a:Int)+b+c)%4294967296)
 have h2:=yZ (decide (4294967296≤(a:Int)+b+c)) 4 aO
 have h3:=yZ (zA8 (sgn a+sgn b+c)) 8 aO
 simp only[zFv]
 omega
theorem zKo(a b old:Nat)(w:World)(ha:a < 4294967296)(hb:b < 4294967296)(ho:old < 4294967296):Calls Try.prog 54 #[.int .i64 3,.int .u32 a,.int .u32 b,.int .u32 old] w fun e w'=>e=.returned (.int .u32 (zFy a b 0))∧w=w':=by
 have ha0:(0:Int)≤a:=aO
 have ha1:(a:Int) < 4294967296:=aO
 have hb0:(0:Int)≤b:=aO
 have hb1:(b:Int) < 4294967296:=aO
 have ho0:(0:Int)≤old:=aO
 have ho1:(old:Int) < 4294967296:=aO
 obtain⟨s1,s2⟩:=vT a ha0 ha1
 obtain⟨s3,s4⟩:=vT b hb0 hb1
 go_enter Try.func54,Try.ntmps54
 go_wp2_with first
  | (go_at_call 77;refine(zA9 _ _ _).mono ?_;rintro e w' ⟨rfl,rfl⟩)
  | (go_at_call 76;refine(vH _ _ aO aO).mono ?_;rintro e w' ⟨rfl,rfl⟩)
  | (go_at_call 75;refine(uD _ _ aO aO).mono ?_;rintro e w' ⟨rfl,rfl⟩)
  | (go_at_call 79;refine(vL _ _ aO aO).mono ?_;rintro e w' ⟨rfl,rfl⟩)
  | (go_at_call 78;refine(zAa _ _).mono ?_;rintro e w' ⟨rfl,rfl⟩)
 go_ret
 refine⟨uA ?_,rfl⟩
 have h1:=vX (((a:Int) - b)%4294967296)
 have h2:=yZ (decide ((a:Int) - b < 0)) 4 aO
 have h3:=yZ (zA8 (sgn a - sgn b)) 8 aO
 simp only[zFy,Int.sub_zero]
 omega
theorem zKp(a b old:Nat)(w:World)(ha:a < 4294967296)(hb:b < 4294967296)(ho:old < 4294967296):Calls Try.prog 54 #[.int .i64 4,.int .u32 a,.int .u32 b,.int .u32 old] w fun e w'=>e=.returned (.int .u32 (zFy a b (zAH old)))∧w=w':=by
 have ha0:(0:Int)≤a:=aO
 have ha1:(a:Int) < 4294967296:=aO
 have hb0:(0:Int)≤b:=aO
 have hb1:(b:Int) < 4294967296:=aO
 have ho0:(0:Int)≤old:=aO
 have ho1:(old:Int) < 4294967296:=aO
 obtain⟨s1,s2⟩:=vT a ha0 ha1
 obtain⟨s3,s4⟩:=vT b hb0 hb1
 have hc0:=zBy old
 obtain⟨c,hc⟩:∃ c,zAH old=c:=⟨_,rfl⟩
 have hci:(old:Int)%16 / 4%2=c:=by rw[← hc];unfold zAH;omega
 rw[hc] at hc0
 rw[hc]
 obtain⟨hc1,hc2⟩:=hc0
 clear hc
 go_enter Try.func54,Try.ntmps54
 go_wp2_with first
  | (go_at_call 77;refine(zA9 _ _ _).mono ?_;rintro e w' ⟨rfl,rfl⟩)
  | (go_at_call 76;refine(vH _ _ aO aO).mono ?_;rintro e w' ⟨rfl,rfl⟩)
  | (go_at_call 75;refine(uD _ _ aO aO).mono ?_;rintro e w' ⟨rfl,rfl⟩)
  | (go_at_call 79;refine(vL _ _ aO aO).mono ?_;rintro e w' ⟨rfl,rfl⟩)
  | (go_at_call 78;refine(zAa _ _).mono ?_;rintro e w' ⟨rfl,rfl⟩)
 go_ret
 refine⟨uA ?_,rfl⟩
 have h1:=vX (((a:Int) - b - c)%4294967296)
 have h2:=yZ (decide ((a:Int) - b - c < 0)) 4 aO
 have h3:=yZ (zA8 (sgn a - sgn b - c)) 8 aO
 simp only[zFy]
 omega
theorem zG1(a b old:Nat)(w:World)(ha:a < 4294967296)(hb:b < 4294967296)(ho:old < 4294967296):Calls Try.prog 54 #[.int .i64 5,.int .u32 a,.int .u32 b,.int .u32 old] w fun e w'=>e=.returned (.int .u32 (yM a))∧w=w':=by
 have ha0:(0:Int)≤a:=aO
 have ha1:(a:Int) < 4294967296:=aO
 have hb0:(0:Int)≤b:=aO
 have hb1:(b:Int) < 4294967296:=aO
 have ho0:(0:Int)≤old:=aO
 have ho1:(old:Int) < 4294967296:=aO
 obtain⟨s1,s2⟩:=vT a ha0 ha1
 obtain⟨s3,s4⟩:=vT b hb0 hb1
 go_enter Try.func54,Try.ntmps54
 go_wp2_with first
  | (go_at_call 77;refine(zA9 _ _ _).mono ?_;rintro e w' ⟨rfl,rfl⟩)
  | (go_at_call 76;refine(vH _ _ aO aO).mono ?_;rintro e w' ⟨rfl,rfl⟩)
  | (go_at_call 75;refine(uD _ _ aO aO).mono ?_;rintro e w' ⟨rfl,rfl⟩)
  | (go_at_call 79;refine(vL _ _ aO aO).mono ?_;rintro e w' ⟨rfl,rfl⟩)
  | (go_at_call 78;refine(zAa _ _).mono ?_;rintro e w' ⟨rfl,rfl⟩)
 go_ret
 refine⟨uA ?_,rfl⟩
 rfl
theorem zIg(a b old:Nat)(w:World)(ha:a < 4294967296)(hb:b < 4294967296)(ho:old < 4294967296):Calls Try.prog 54 #[.int .i64 11,.int .u32 a,.int .u32 b,.int .u32 old] w fun e w'=>e=.returned (.int .u32 (zIG a old))∧w=w':=by
 have ha0:(0:Int)≤a:=aO
 have ha1:(a:Int) < 4294967296:=aO
 have hb0:(0:Int)≤b:=aO
 have hb1:(b:Int) < 4294967296:=aO
 have ho0:(0:Int)≤old:=aO
 have ho1:(old:Int) < 4294967296:=aO
 obtain⟨s1,s2⟩:=vT a ha0 ha1
 obtain⟨s3,s4⟩:=vT b hb0 hb1
 have hc0:=zBy old
 obtain⟨c,hc⟩:∃ c,zAH old=c:=⟨_,rfl⟩
 have hci:(old:Int)%16 / 4%2=c:=by rw[← hc];unfold zAH;omega
 rw[hc] at hc0
 rw[zIG,hc]
 obtain⟨hc1,hc2⟩:=hc0
 clear hc
 go_enter Try.func54,Try.ntmps54
 go_wp2_with first
  | (go_at_call 77;refine(zA9 _ _ _).mono ?_;rintro e w' ⟨rfl,rfl⟩)
  | (go_at_call 76;refine(vH _ _ aO aO).mono ?_;rintro e w' ⟨rfl,rfl⟩)
  | (go_at_call 75;refine(uD _ _ aO aO).mono ?_;rintro e w' ⟨rfl,rfl⟩)
  | (go_at_call 79;refine(vL _ _ aO aO).mono ?_;rintro e w' ⟨rfl,rfl⟩)
  | (go_at_call 78;refine(zAa _ _).mono ?_;rintro e w' ⟨rfl,rfl⟩)
 go_ret
 refine⟨uA ?_,rfl⟩
 have h1:=vX (((a:Int)+1)%4294967296)
 have h3:=yZ (zA8 (sgn a+1)) 8 aO
 omega
theorem zIh(a b old:Nat)(w:World)(ha:a < 4294967296)(hb:b < 4294967296)(ho:old < 4294967296):Calls Try.prog 54 #[.int .i64 12,.int .u32 a,.int .u32 b,.int .u32 old] w fun e w'=>e=.returned (.int .u32 (zIF a old))∧w=w':=by
 have ha0:(0:Int)≤a:=aO
 have ha1:(a:Int) < 4294967296:=aO
 have hb0:(0:Int)≤b:=aO
 have hb1:(b:Int) < 4294967296:=aO
 have ho0:(0:Int)≤old:=aO
 have ho1:(old:Int) < 4294967296:=aO
 obtain⟨s1,s2⟩:=vT a ha0 ha1
 obtain⟨s3,s4⟩:=vT b hb0 hb1
 have hc0:=zBy old
 obtain⟨c,hc⟩:∃ c,zAH old=c:=⟨_,rfl⟩
 have hci:(old:Int)%16 / 4%2=c:=by rw[← hc];unfold zAH;omega
 rw[hc] at hc0
 rw[zIF,hc]
 obtain⟨hc1,hc2⟩:=hc0
 clear hc
 go_enter Try.func54,Try.ntmps54
 go_wp2_with first
  | (go_at_call 77;refine(zA9 _ _ _).mono ?_;rintro e w' ⟨rfl,rfl⟩)
  | (go_at_call 76;refine(vH _ _ aO aO).mono ?_;rintro e w' ⟨rfl,rfl⟩)
  | (go_at_call 75;refine(uD _ _ aO aO).mono ?_;rintro e w' ⟨rfl,rfl⟩)
  | (go_at_call 79;refine(vL _ _ aO aO).mono ?_;rintro e w' ⟨rfl,rfl⟩)
  | (go_at_call 78;refine(zAa _ _).mono ?_;rintro e w' ⟨rfl,rfl⟩)
 go_ret
 refine⟨uA ?_,rfl⟩
 have h1:=vX (((a:Int) - 1)%4294967296)
 have h3:=yZ (zA8 (sgn a - 1)) 8 aO
 omega
theorem zFe(x n d:Nat)(w:World)(hd:x*2 ^ n=d)(h1:x < 4294967296)(hn:n≤31):Calls Try.prog 80 #[.int .u32 x,.int .u32 n] w fun e w'=>e=.returned (.int .u64 (d:Int))∧w=w':=by
 subst hd;exact zHp x n w h1 hn
theorem zIf(a b old:Nat)(w:World)(ha:a < 4294967296)(hb:b < 4294967296)(ho:old < 4294967296):Calls Try.prog 54 #[.int .i64 10,.int .u32 a,.int .u32 b,.int .u32 old] w fun e w'=>e=.returned (.int .u32 (zGW a b))∧w=w':=by
 have ha0:(0:Int)≤a:=aO
 have ha1:(a:Int) < 4294967296:=aO
 have hb0:(0:Int)≤b:=aO
 have hb1:(b:Int) < 4294967296:=aO
 have ho0:(0:Int)≤old:=aO
 have ho1:(old:Int) < 4294967296:=aO
 obtain⟨s1,s2⟩:=vT a ha0 ha1
 obtain⟨s3,s4⟩:=vT b hb0 hb1
 obtain⟨p,hp⟩:∃ p,a*b=p:=⟨_,rfl⟩
 have hpb:p < 18446744073709551616:=by
  rw[← hp]
  exact Nat.lt_of_le_of_lt (Nat.mul_le_mul (Nat.le_of_lt_succ (m:=a) (n:=4294967295) ha) (Nat.le_of_lt_succ (m:=b) (n:=4294967295) hb)) aD
 have hpi:(a:Int)*(b:Int)=(p:Int):=by rw[← hp];simp
 have hp0:(0:Int)≤p:=aO
 have hp1:(p:Int) < 18446744073709551616:=aO
 have e:zGW a b=yM ((p:Int)%4294967296)+isF (decide (4294967296≤(p:Int))) 12:=by
  unfold zGW;rw[hp]
  congr 2
  exact decide_eq_decide.2 aO
 rw[e]
 clear hp e hpb
 go_enter Try.func54,Try.ntmps54
 go_wp2_with first
  | (go_at_call 77;refine(zA9 _ _ _).mono ?_;rintro e w' ⟨rfl,rfl⟩)
  | (go_at_call 76;refine(vH _ _ aO aO).mono ?_;rintro e w' ⟨rfl,rfl⟩)
  | (go_at_call 75;refine(uD _ _ aO aO).mono ?_;rintro e w' ⟨rfl,rfl⟩)
  | (go_at_call 79;refine(vL _ _ aO aO).mono ?_;rintro e w' ⟨rfl,rfl⟩)
  | (go_at_call 78;refine(zAa _ _).mono ?_;rintro e w' ⟨rfl,rfl⟩)
 go_ret
 refine⟨uA ?_,rfl⟩
 have h1:=vX ((p:Int)%4294967296)
 have h2:=yZ (decide (4294967296≤(p:Int))) 12 aO
 omega
theorem zPB(a b old:Nat)(w:World)(ha:a < 4294967296)(hb:b < 4294967296)(ho:old < 4294967296)(h0:0 < b%32):Calls Try.prog 54 #[.int .i64 6,.int .u32 a,.int .u32 b,.int .u32 old] w fun e w'=>e=.returned (.int .u32 (zGa a (b%32)))∧w=w':=by
 have ha0:(0:Int)≤a:=aO
 have ha1:(a:Int) < 4294967296:=aO
 have hb0:(0:Int)≤b:=aO
 have hb1:(b:Int) < 4294967296:=aO
 have ho0:(0:Int)≤old:=aO
 have ho1:(old:Int) < 4294967296:=aO
 obtain⟨s1,s2⟩:=vT a ha0 ha1
 obtain⟨s3,s4⟩:=vT b hb0 hb1
 obtain⟨n,hn⟩:∃ n,b%32=n:=⟨_,rfl⟩
 have hnb:0 < n∧n≤31:=aO
 rw[hn]
 have hni:(b:Int)%32=(n:Int):=aO
 have hn0:(0:Int) < n:=aO
 have hn1:(n:Int)≤31:=aO
 have hnz:((n:Int)==0)=false:=by simp;omega
 have hnz':(n==0)=false:=by simp;omega
 have HN:Hid (0 < n∧n≤31):=hnb
 clear hn hnb h0
 obtain⟨d,hd⟩:∃ d,a*2 ^ n=d:=⟨_,rfl⟩
 have HD:Hid (a*2 ^ n=d):=hd
 have hdb:d < 18446744073709551616:=by
  rw[← hd]
  have:2 ^ n≤2 ^ 31:=Nat.pow_le_pow_right aD HN.out.2
  exact Nat.lt_of_le_of_lt (Nat.mul_le_mul (Nat.le_of_lt_succ (m:=a) (n:=4294967295) ha) this) aD
 have hd0:(0:Int)≤d:=aO
 have hd1:(d:Int) < 18446744073709551616:=aO
 have e:zGa a n=yM ((d:Int)%4294967296)+isF ((d:Int) / 4294967296%2==1) 4:=by
  unfold zGa;rw[hd]
  congr 2
  rw[Bool.eq_iff_iff];simp;omega
 rw[e]
 clear hd e hdb
 go_enter Try.func54,Try.ntmps54
 go_wp2_with first
  | (go_at_call 77;refine(zA9 _ _ _).mono ?_;rintro e w' ⟨rfl,rfl⟩)
  | (go_at_call 76;refine(vH _ _ aO aO).mono ?_;rintro e w' ⟨rfl,rfl⟩)
  | (go_at_call 75;refine(uD _ _ aO aO).mono ?_;rintro e w' ⟨rfl,rfl⟩)
  | (go_at_call 79;refine(vL _ _ aO aO).mono ?_;rintro e w' ⟨rfl,rfl⟩)
  | (go_at_call 78;refine(zAa _ _).mono ?_;rintro e w' ⟨rfl,rfl⟩)
  | (go_at_call 80;refine(zFe a n d _ HD.out ha HN.out.2).mono ?_;rintro e w' ⟨rfl,rfl⟩)
 go_ret
 refine⟨uA ?_,rfl⟩
 have h1:=vX ((d:Int)%4294967296)
 have h2:=yZ ((d:Int) / 4294967296%2==1) 4 aO
 omega
theorem zJ4(x:Int)(n:Nat)(R:Int)(w:World)(hR:zB6 n x=R)(h0:0≤x)(h1:x < 4294967296)(hn:n≤32):Calls Try.prog 82 #[.int .u32 x,.int .u32 n] w fun e w'=>e=.returned (.int .u32 R)∧w=w':=by
 subst hR;exact zET x n w h0 h1 hn
theorem zD0(x:Int)(n:Nat)(h0:0≤x):0≤x / 2 ^ n∧x / 2 ^ n≤x:=⟨Int.ediv_nonneg h0 (Int.le_of_lt (Int.pow_pos aD)),Int.ediv_le_self _ h0⟩
theorem zEi(x:Int)(n:Nat)(h0 : -2147483648≤x)(h1:x < 2147483648) : -2147483648≤x / 2 ^ n∧x / 2 ^ n < 2147483648:=by
 have hp:(0:Int) < 2 ^ n:=Int.pow_pos aD
 by_cases hx:0≤x
 ·have:=zD0 x n hx;omega
 ·have h2:x / 2 ^ n < 0:=Int.ediv_neg_of_neg_of_pos aO hp
  have h3:x≤x / 2 ^ n:=by
   have:=Int.le_ediv_of_mul_le hp (a:=x) (b:=x) (by
    have:x*2 ^ n≤x*1:=Int.mul_le_mul_of_nonpos_left aO aO
    omega)
   exact this
  omega
theorem zDf:∀ (n:Nat) (x:Int),0≤x→x < 4294967296→0≤zB6 n x∧zB6 n x < 4294967296
 | 0,x,h0,h1=>⟨h0,h1⟩
 | n+1,x,h0,h1=>zDf n (zII x) (zDe x h0 h1).1 (zDe x h0 h1).2
theorem zPC(a b old:Nat)(w:World)(ha:a < 4294967296)(hb:b < 4294967296)(ho:old < 4294967296)(h0:0 < b%32):Calls Try.prog 54 #[.int .i64 7,.int .u32 a,.int .u32 b,.int .u32 old] w fun e w'=>e=.returned (.int .u32 (zGb a (b%32)))∧w=w':=by
 have ha0:(0:Int)≤a:=aO
 have ha1:(a:Int) < 4294967296:=aO
 have hb0:(0:Int)≤b:=aO
 have hb1:(b:Int) < 4294967296:=aO
 have ho0:(0:Int)≤old:=aO
 have ho1:(old:Int) < 4294967296:=aO
 obtain⟨s1,s2⟩:=vT a ha0 ha1
 obtain⟨s3,s4⟩:=vT b hb0 hb1
 obtain⟨n,hn⟩:∃ n,b%32=n:=⟨_,rfl⟩
 have hnb:0 < n∧n≤31:=aO
 rw[hn]
 have hni:(b:Int)%32=(n:Int):=aO
 have hn0:(0:Int) < n:=aO
 have hn1:(n:Int)≤31:=aO
 have hnz:((n:Int)==0)=false:=by simp;omega
 have hnz':(n==0)=false:=by simp;omega
 have HN:Hid (0 < n∧n≤31):=hnb
 clear hn hnb h0
 obtain⟨m,hm⟩:∃ m,n=m+1:=⟨n - 1,by have:=HN.out;omega⟩
 have hmi:(n:Int) - 1=(m:Int):=aO
 have hm0:(0:Int)≤m:=aO
 have hm1:(m:Int)≤31:=aO
 obtain⟨R1,hR1⟩:∃ R,(a:Int) / 2 ^ n=R:=⟨_,rfl⟩
 obtain⟨R2,hR2⟩:∃ R,(a:Int) / 2 ^ m=R:=⟨_,rfl⟩
 have b1:=zD0 a n ha0
 have b2:=zD0 a m ha0
 rw[hR1] at b1
 rw[hR2] at b2
 obtain⟨b10,b11⟩:=b1
 obtain⟨b20,b21⟩:=b2
 have e:zGb a n=yM R1+isF (R2%2==1) 4:=by
  unfold zGb;rw[show n - 1=m by omega,hR1,hR2]
 rw[e]
 clear e hm
 go_enter Try.func54,Try.ntmps54
 go_wp2_with first
  | (go_at_call 77;refine(zA9 _ _ _).mono ?_;rintro e w' ⟨rfl,rfl⟩)
  | (go_at_call 76;refine(vH _ _ aO aO).mono ?_;rintro e w' ⟨rfl,rfl⟩)
  | (go_at_call 75;refine(uD _ _ aO aO).mono ?_;rintro e w' ⟨rfl,rfl⟩)
  | (go_at_call 79;refine(vL _ _ aO aO).mono ?_;rintro e w' ⟨rfl,rfl⟩)
  | (go_at_call 78;refine(zAa _ _).mono ?_;rintro e w' ⟨rfl,rfl⟩)
  | (go_at_call 81;refine(zCA _ _ _ aO aO aO).mono ?_;rintro e w' ⟨rfl,rfl⟩;simp only[hR1,hR2])
 go_ret
 refine⟨uA ?_,rfl⟩
 have h1:=vX R1
 have h2:=yZ (R2%2==1) 4 aO
 omega
theorem zPD(a b old:Nat)(w:World)(ha:a < 4294967296)(hb:b < 4294967296)(ho:old < 4294967296)(h0:0 < b%32):Calls Try.prog 54 #[.int .i64 8,.int .u32 a,.int .u32 b,.int .u32 old] w fun e w'=>e=.returned (.int .u32 (zF9 a (b%32)))∧w=w':=by
 have ha0:(0:Int)≤a:=aO
 have ha1:(a:Int) < 4294967296:=aO
 have hb0:(0:Int)≤b:=aO
 have hb1:(b:Int) < 4294967296:=aO
 have ho0:(0:Int)≤old:=aO
 have ho1:(old:Int) < 4294967296:=aO
 obtain⟨s1,s2⟩:=vT a ha0 ha1
 obtain⟨s3,s4⟩:=vT b hb0 hb1
 obtain⟨n,hn⟩:∃ n,b%32=n:=⟨_,rfl⟩
 have hnb:0 < n∧n≤31:=aO
 rw[hn]
 have hni:(b:Int)%32=(n:Int):=aO
 have hn0:(0:Int) < n:=aO
 have hn1:(n:Int)≤31:=aO
 have hnz:((n:Int)==0)=false:=by simp;omega
 have hnz':(n==0)=false:=by simp;omega
 have HN:Hid (0 < n∧n≤31):=hnb
 clear hn hnb h0
 obtain⟨m,hm⟩:∃ m,n=m+1:=⟨n - 1,by have:=HN.out;omega⟩
 have hmi:(n:Int) - 1=(m:Int):=aO
 have hm0:(0:Int)≤m:=aO
 have hm1:(m:Int)≤31:=aO
 obtain⟨R2,hR2⟩:∃ R,sgn a / 2 ^ m=R:=⟨_,rfl⟩
 obtain⟨R1,hR1⟩:∃ R,R2 / 2 ^ 1=R:=⟨_,rfl⟩
 have b2:=zEi (sgn a) m s1 s2
 rw[hR2] at b2
 have b1:=zEi R2 1 b2.1 b2.2
 rw[hR1] at b1
 obtain⟨b10,b11⟩:=b1
 obtain⟨b20,b21⟩:=b2
 have e:zF9 a n=yM (R1%4294967296)+isF (R2%4294967296%2==1) 4:=by
  unfold zF9;rw[show n - 1=m by omega,hR2,← hR1];rfl
 rw[e]
 clear e hm
 go_enter Try.func54,Try.ntmps54
 go_wp2_with first
  | (go_at_call 77;refine(zA9 _ _ _).mono ?_;rintro e w' ⟨rfl,rfl⟩)
  | (go_at_call 76;refine(vH _ _ aO aO).mono ?_;rintro e w' ⟨rfl,rfl⟩)
  | (go_at_call 75;refine(uD _ _ aO aO).mono ?_;rintro e w' ⟨rfl,rfl⟩)
  | (go_at_call 79;refine(vL _ _ aO aO).mono ?_;rintro e w' ⟨rfl,rfl⟩)
  | (go_at_call 78;refine(zAa _ _).mono ?_;rintro e w' ⟨rfl,rfl⟩)
  | (go_at_call 81;have h5:=HH.out;refine(zCA R2 1 _ aO aO aO).mono ?_;rintro e w' ⟨rfl,rfl⟩;simp only[hR1])
  | (go_at_call 81;refine(zCA (sgn a) m _ aO aO aO).mono ?_;rintro e w' ⟨rfl,rfl⟩;simp only[hR2];have HH:Hid (R2=R2):=rfl)
 go_ret
 refine⟨uA ?_,rfl⟩
 have h1:=vX (R1%4294967296)
 have hq:R2%4294967296%2=R2%2:=aO
 rw[hq]
 have h2:=yZ (R2%2==1) 4 aO
 omega
theorem zPE(a b old:Nat)(w:World)(ha:a < 4294967296)(hb:b < 4294967296)(ho:old < 4294967296)(h0:0 < b%32):Calls Try.prog 54 #[.int .i64 9,.int .u32 a,.int .u32 b,.int .u32 old] w fun e w'=>e=.returned (.int .u32 (zF8 a (b%32) old))∧w=w':=by
 have ha0:(0:Int)≤a:=aO
 have ha1:(a:Int) < 4294967296:=aO
 have hb0:(0:Int)≤b:=aO
 have hb1:(b:Int) < 4294967296:=aO
 have ho0:(0:Int)≤old:=aO
 have ho1:(old:Int) < 4294967296:=aO
 obtain⟨s1,s2⟩:=vT a ha0 ha1
 obtain⟨s3,s4⟩:=vT b hb0 hb1
 obtain⟨n,hn⟩:∃ n,b%32=n:=⟨_,rfl⟩
 have hnb:0 < n∧n≤31:=aO
 rw[hn]
 have hni:(b:Int)%32=(n:Int):=aO
 have hn0:(0:Int) < n:=aO
 have hn1:(n:Int)≤31:=aO
 have hnz:((n:Int)==0)=false:=by simp;omega
 have hnz':(n==0)=false:=by simp;omega
 have HN:Hid (0 < n∧n≤31):=hnb
 clear hn hnb h0
 obtain⟨T,hT⟩:∃ T,zB6 n a=T:=⟨_,rfl⟩
 have bT:=zDf n a ha0 ha1
 rw[hT] at bT
 obtain⟨bT0,bT1⟩:=bT
 have hc0:=zBy old
 obtain⟨c,hc⟩:∃ c,zAH old=c:=⟨_,rfl⟩
 have hci:(old:Int)%16 / 4%2=c:=by rw[← hc];unfold zAH;omega
 rw[hc] at hc0
 obtain⟨hc1,hc2⟩:=hc0
 have e:zF8 a n old=(old:Int)%16 - c*4+isF (T%2==1) 4:=by
  unfold zF8;rw[hT,hc];simp
 rw[e]
 have HT:Hid (zB6 n (a:Int)=T):=hT
 clear hT hc e
 go_enter Try.func54,Try.ntmps54
 go_wp2_with first
  | (go_at_call 77;refine(zA9 _ _ _).mono ?_;rintro e w' ⟨rfl,rfl⟩)
  | (go_at_call 76;refine(vH _ _ aO aO).mono ?_;rintro e w' ⟨rfl,rfl⟩)
  | (go_at_call 75;refine(uD _ _ aO aO).mono ?_;rintro e w' ⟨rfl,rfl⟩)
  | (go_at_call 79;refine(vL _ _ aO aO).mono ?_;rintro e w' ⟨rfl,rfl⟩)
  | (go_at_call 78;refine(zAa _ _).mono ?_;rintro e w' ⟨rfl,rfl⟩)
  | (go_at_call 82;refine(zJ4 _ n _ _ HT.out ha0 ha1 aO).mono ?_;rintro e w' ⟨rfl,rfl⟩)
 go_ret
 refine⟨uA ?_,rfl⟩
 have h2:=yZ (T%2==1) 4 aO
 omega
theorem zLg(k:Int)(a b old:Nat)(w:World)(ha:a < 4294967296)(hb:b < 4294967296)(ho:old < 4294967296)(hk:k < 1∨12 < k):Calls Try.prog 54 #[.int .i64 k,.int .u32 a,.int .u32 b,.int .u32 old] w fun e w'=>e=.returned (.int .u32 ((old:Int)%16))∧w=w':=by
 have ho0:(0:Int)≤old:=aO
 have hb0:(0:Int)≤b:=aO
 have e1:(k==1)=false:=by simp;omega
 have e2:(k==2)=false:=by simp;omega
 have e3:(k==3)=false:=by simp;omega
 have e4:(k==4)=false:=by simp;omega
 have e5:(k==5)=false:=by simp;omega
 have e10:(k==10)=false:=by simp;omega
 have e11:(k==11)=false:=by simp;omega
 have e12:(k==12)=false:=by simp;omega
 have g2:(k !=2)=true:=by simp[bne,e2]
 have g4:(k !=4)=true:=by simp[bne,e4]
 rcases hk with hk|hk
 ·have d6:decide (k < 6)=true:=aT
  clear hk
  go_enter Try.func54,Try.ntmps54
  go_wp2
  go_ret
  exact⟨rfl,rfl⟩
 ·have d6:decide (k < 6)=false:=aF
  have d9:decide (9 < k)=true:=aT
  clear hk
  go_enter Try.func54,Try.ntmps54
  go_wp2
  go_ret
  exact⟨rfl,rfl⟩
theorem zCi(k:Int)(a b old:Nat)(w:World)(ha:a < 4294967296)(hb:b < 4294967296)(ho:old < 4294967296)(hk:k=6∨k=7∨k=8∨k=9)(h0:b%32=0):Calls Try.prog 54 #[.int .i64 k,.int .u32 a,.int .u32 b,.int .u32 old] w fun e w'=>e=.returned (.int .u32 ((old:Int)%16))∧w=w':=by
 have ho0:(0:Int)≤old:=aO
 have hb0:(0:Int)≤b:=aO
 have hbi:(b:Int)%32=0:=aO
 rcases hk with rfl|rfl|rfl|rfl
 all_goals
  go_enter Try.func54,Try.ntmps54
  go_wp2
  go_ret
  exact⟨rfl,rfl⟩
def zV(k:Int)(a b old:Nat):Int:=
 if k=1 then zFv a b 0 else if k=2 then zFv a b (zAH old) else if k=3 then zFy a b 0 else if k=4 then zFy a b (zAH old)
 else if k=5 then yM a else if k=10 then zGW a b else if k=11 then zIG a old else if k=12 then zIF a old
 else if(k=6∨k=7∨k=8∨k=9)∧0 < b%32 then
  (if k=6 then zGa a (b%32) else if k=7 then zGb a (b%32) else if k=8 then zF9 a (b%32) else zF8 a (b%32) old)
 else(old:Int)%16
theorem uC(k:Int)(a b old:Nat)(w:World)(ha:a < 4294967296)(hb:b < 4294967296)(ho:old < 4294967296):Calls Try.prog 54 #[.int .i64 k,.int .u32 a,.int .u32 b,.int .u32 old] w fun e w'=>e=.returned (.int .u32 (zV k a b old))∧w=w':=by
 by_cases hk:k < 1∨12 < k
 ·have e:zV k a b old=(old:Int)%16:=by
   unfold zV
   repeat rw[if_neg aO]
  rw[e];exact zLg k a b old w ha hb ho hk
 ·have hc:k=1∨k=2∨k=3∨k=4∨k=5∨k=6∨k=7∨k=8∨k=9∨k=10∨k=11∨k=12:=aO
  by_cases h0:0 < b%32
  ·rcases hc with rfl|rfl|rfl|rfl|rfl|rfl|rfl|rfl|rfl|rfl|rfl|rfl
   ·exact zKm a b old w ha hb ho
   ·exact zKn a b old w ha hb ho
   ·exact zKo a b old w ha hb ho
   ·exact zKp a b old w ha hb ho
   ·exact zG1 a b old w ha hb ho
   ·have e:zV 6 a b old=zGa a (b%32):=by simp[zV,h0]
    rw[e];exact zPB a b old w ha hb ho h0
   ·have e:zV 7 a b old=zGb a (b%32):=by simp[zV,h0]
    rw[e];exact zPC a b old w ha hb ho h0
   ·have e:zV 8 a b old=zF9 a (b%32):=by simp[zV,h0]
    rw[e];exact zPD a b old w ha hb ho h0
   ·have e:zV 9 a b old=zF8 a (b%32) old:=by simp[zV,h0]
    rw[e];exact zPE a b old w ha hb ho h0
   ·exact zIf a b old w ha hb ho
   ·exact zIg a b old w ha hb ho
   ·exact zIh a b old w ha hb ho
  ·have hz:b%32=0:=aO
   rcases hc with rfl|rfl|rfl|rfl|rfl|rfl|rfl|rfl|rfl|rfl|rfl|rfl
   ·exact zKm a b old w ha hb ho
   ·exact zKn a b old w ha hb ho
   ·exact zKo a b old w ha hb ho
   ·exact zKp a b old w ha hb ho
   ·exact zG1 a b old w ha hb ho
   ·have e:zV 6 a b old=(old:Int)%16:=by simp[zV,hz]
    rw[e];exact zCi 6 a b old w ha hb ho aO hz
   ·have e:zV 7 a b old=(old:Int)%16:=by simp[zV,hz]
    rw[e];exact zCi 7 a b old w ha hb ho aO hz
   ·have e:zV 8 a b old=(old:Int)%16:=by simp[zV,hz]
    rw[e];exact zCi 8 a b old w ha hb ho aO hz
   ·have e:zV 9 a b old=(old:Int)%16:=by simp[zV,hz]
    rw[e];exact zCi 9 a b old w ha hb ho aO hz
   ·exact zIf a b old w ha hb ho
   ·exact zIg a b old w ha hb ho
   ·exact zIh a b old w ha hb ho
def zRc(q:Int)(z n y v:Bool):Bool:=
 if q=0 then v else if q=1 then y else if q=2 then z else if q=3 then(y || z) else if q=4 then n else if q=5 then(n !=v) else if q=6 then(z || (n !=v)) else true
def zAh(c:Int)(z n y v:Bool):Bool:=if c < 0∨15 < c then false else if c%2=1 then !(zRc (c / 2) z n y v) else zRc (c / 2) z n y v
def zZ(c:Int)(f:Nat):Bool:=zAh c ((f:Int)%2==1) ((f:Int) / 2%2==1) ((f:Int) / 4%2==1) ((f:Int) / 8%2==1)
theorem zLK(c:Int)(f:Nat)(w:World)(hc:c < 0∨15 < c):Calls Try.prog 60 #[.int .i64 c,.int .u32 f] w fun e w'=>e=.returned (.bool (zZ c f))∧Below w.heap.size w w':=by
 have e:zZ c f=false:=by unfold zZ zAh;rw[if_pos hc]
 rw[e]
 rcases hc with h|h
 ·have d:decide (c < 0)=true:=decide_eq_true h
  go_enter Try.func60,Try.ntmps60
  go_wp2
  go_ret
  exact⟨rfl,Below.refl _ _⟩
 ·have d:decide (c < 0)=false:=aF
  have d2:decide (15 < c)=true:=decide_eq_true h
  go_enter Try.func60,Try.ntmps60
  go_wp2
  go_ret
  exact⟨rfl,Below.refl _ _⟩
end Go.Proofs.Ytkmjenjahbicpaa.Va.Fl
