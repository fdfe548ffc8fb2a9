import Derived.Test.YthcpipfmicbnmaaGreatZQ
import Derived.WalkKit
import Derived.WalkSpells
import Derived.WalkLawsBesides
import Derived.Deep.QuietTactic
import Derived.BigQuiet
import Derived.BigRegion
import Derived.KernelRfl
import Derived.LoopN
import Derived.Laws.BitsAllLaws
set_option linter.unusedVariables false
set_option linter.unusedSimpArgs false
set_option maxHeartbeats 1000000
namespace Go.Proofs.YthcpipfmicbnmaaGreat.Va.Fl
open Go.RowKit
set_option maxRecDepth 100000
theorem vE{k:IntKind}{a b:Int}(h:a=b):Ending.returned (.int k a)=.returned (.int k b):=by rw[h]
def uH(b:Bool)(f:Int):Int:=if b then f else 0
theorem zAt(b:Bool)(f:Int)(w:World):Calls Tryz.prog 88 #[.bool b,.int .u32 f] w fun e w'=>e=.returned (.int .u32 (uH b f))∧w=w':=by
 cases b
 ·go_enter Tryz.func88,Tryz.ntmps88;go_wp2;go_ret;exact⟨rfl,rfl⟩
 ·go_enter Tryz.func88,Tryz.ntmps88;go_wp2;go_ret;exact⟨rfl,rfl⟩
theorem vA(x:Int)(w:World)(h0 : -1099511627776≤x)(h1:x≤1099511627776):Calls Tryz.prog 87 #[.int .i64 x] w fun e w'=>e=.returned (.int .u32 (x%4294967296))∧w=w':=by
 obtain⟨m,hm⟩:∃ m,x.tmod 4294967296=m:=⟨_,rfl⟩
 have hm1 : -4294967296 < m∧m < 4294967296∧(m+4294967296)%4294967296=x%4294967296:=by
  rw[← hm]
  by_cases hx:0≤x
  ·rw[Int.tmod_eq_emod_of_nonneg hx];omega
  ·have hn:x.tmod 4294967296 = -((-x)%4294967296):=by
    have:=Int.neg_tmod (a:=-x) (b:=4294967296)
    rw[Int.neg_neg] at this
    rw[this,Int.tmod_eq_emod_of_nonneg aO]
   rw[hn];omega
 have hr:(m+4294967296).tmod 4294967296=(m+4294967296)%4294967296:=Int.tmod_eq_emod_of_nonneg aO
 have HE:Hid ((m+4294967296)%4294967296=x%4294967296):=hm1.2.2
 obtain⟨hm2,hm3,-⟩:=hm1
 have hs:0≤m+4294967296:=aO
 go_enter Tryz.func87,Tryz.ntmps87
 go_wp2
 go_ret
 exact⟨vE (by have:=HE.out;omega),rfl⟩
def vP(x:Int):Int:=if 2147483648≤x then x - 4294967296 else x
theorem vJ(x:Int)(h0:0≤x)(h1:x < 4294967296) : -2147483648≤vP x∧vP x < 2147483648:=by unfold vP;split<;>omega
theorem vD(x:Int)(w:World)(h0:0≤x)(h1:x < 4294967296):Calls Tryz.prog 90 #[.int .u32 x] w fun e w'=>e=.returned (.int .i64 (vP x))∧w=w':=by
 by_cases h:2147483648≤x
 ·rw[vP,if_pos h]
  go_enter Tryz.func90,Tryz.ntmps90;go_wp2;go_ret;exact⟨rfl,rfl⟩
 ·rw[vP,if_neg h]
  go_enter Tryz.func90,Tryz.ntmps90;go_wp2;go_ret;exact⟨rfl,rfl⟩
def uC(x:Int):Bool:=decide (2147483648≤x∨x < -2147483648)
theorem uK(x:Int)(w:World):Calls Tryz.prog 89 #[.int .i64 x] w fun e w'=>e=.returned (.bool (uC x))∧w=w':=by
 by_cases h:2147483648≤x
 ·have e:uC x=true:=decide_eq_true (.inl h)
  have d:decide (2147483648≤x)=true:=decide_eq_true h
  rw[e]
  go_enter Tryz.func89,Tryz.ntmps89;go_wp2;go_ret;exact⟨rfl,rfl⟩
 ·have d:decide (2147483648≤x)=false:=decide_eq_false h
  by_cases h2:x < -2147483648
  ·have e:uC x=true:=decide_eq_true (.inr h2)
   have d2:decide (x < -2147483648)=true:=decide_eq_true h2
   rw[e]
   go_enter Tryz.func89,Tryz.ntmps89;go_wp2;go_ret;exact⟨rfl,rfl⟩
  ·have e:uC x=false:=aF
   have d2:decide (x < -2147483648)=false:=decide_eq_false h2
   rw[e]
   go_enter Tryz.func89,Tryz.ntmps89;go_wp2;go_ret;exact⟨rfl,rfl⟩
def yC(x:Int):Int:=uH (x==0) 1+uH (decide (2147483648≤x)) 2
theorem yR(b:Bool)(f:Int)(h:0≤f):0≤uH b f∧uH b f≤f:=by unfold uH;split<;>omega
theorem yV(x:Int):0≤yC x∧yC x≤3:=by
 have h1:=yR (x==0) 1 aO
 have h2:=yR (decide (2147483648≤x)) 2 aO
 unfold yC;omega
theorem vW(x:Int)(w:World)(h0:0≤x)(h1:x < 4294967296):Calls Tryz.prog 86 #[.int .u32 x] w fun e w'=>e=.returned (.int .u32 (yC x))∧w=w':=by
 have b1:=yR (x==0) 1 aO
 have b2:=yR (decide (2147483648≤x)) 2 aO
 obtain⟨p,hp⟩:∃ p,uH (x==0) 1=p:=⟨_,rfl⟩
 obtain⟨q,hq⟩:∃ q,uH (decide (2147483648≤x)) 2=q:=⟨_,rfl⟩
 rw[hp] at b1
 rw[hq] at b2
 have HE:Hid (uH (x==0) 1=p∧uH (decide (2147483648≤x)) 2=q∧yC x=p+q):=⟨hp,hq,by unfold yC;rw[hp,hq]⟩
 clear hp hq
 go_enter Tryz.func86,Tryz.ntmps86
 go_wp2_with (go_at_call 88;refine(zAt _ _ _).mono ?_;rintro e w' ⟨rfl,rfl⟩)
 go_ret
 exact⟨vE (by rw[HE.out.1,HE.out.2.1,HE.out.2.2];omega),rfl⟩
theorem zHr(x:Int):(if x < 0 then(x - 1).tdiv 2 else x.tdiv 2)=x / 2:=by
 split
 ·have:(x - 1).tdiv 2 = -((1 - x) / 2):=by
   have h:=Int.neg_tdiv (a:=1 - x) (b:=2)
   rw[Int.neg_sub] at h
   rw[h,Int.tdiv_eq_ediv_of_nonneg aO]
  rw[this];omega
 ·rw[Int.tdiv_eq_ediv_of_nonneg aO]
theorem zBp(x:Int)(n:Nat)(w:World)(h0 : -4294967296≤x)(h1:x≤4294967296)(hn:n≤32):Calls Tryz.prog 92 #[.int .i64 x,.int .u32 n] w fun e w'=>e=.returned (.int .i64 (x / 2 ^ n))∧w=w':=by
 obtain⟨R,hR⟩:∃ R,x / 2 ^ n=R:=⟨_,rfl⟩
 rw[hR]
 have HR:Hid (x / 2 ^ n=R):=hR
 have HB:Hid (-4294967296≤x∧x≤4294967296):=⟨h0,h1⟩
 clear hR h0 h1
 go_enter Tryz.func92,Tryz.ntmps92
 go_wp2
 go_loop [0,1] (fun xx nn=>∃ (y:Int) (m:Nat),xx=.int .i64 y∧nn=.int .u32 m∧(-4294967296≤y∧y≤4294967296)∧m≤32∧y / 2 ^ m=R) (fun _ nn=>(intOf nn).toNat)
 case atStart=>exact⟨x,n,rfl,rfl,HB.out,hn,HR.out⟩
 case round=>
  obtain⟨y,m,rfl,rfl,hy,hm,hq⟩:=hrel
  have HQ:Hid (y / 2 ^ m=R):=hq
  clear hq HR HB
  obtain⟨hy0,hy1⟩:=hy
  by_cases hm0:0 < m
  ·have hmi:(0:Int) < m:=aO
   have hmi2:(m:Int)≤32:=aO
   have HN:Hid ((y / 2) / 2 ^ (m - 1)=R):=show _=_ by
    rw[← HQ.out,Int.ediv_ediv_of_nonneg aO]
    congr 1
    rw[show m=(m - 1)+1 by omega,Int.pow_succ]
    simp[Int.mul_comm]
   have yZ:=zHr y
   by_cases hneg:y < 0
   ·rw[if_pos hneg] at yZ
    go_wp2
    go_round
    case rel=>exact⟨y / 2,m - 1,by go_num,by go_num,by omega,by omega,HN.out⟩
    case measure=>simp[intOf];omega
   ·rw[if_neg hneg] at yZ
    have hy00:0≤y:=aO
    go_wp2
    go_round
    case rel=>exact⟨y / 2,m - 1,by go_num,by go_num,by omega,by omega,HN.out⟩
    case measure=>simp[intOf];omega
  ·have hmz:m=0:=aO
   subst hmz
   go_wp2
   go_ret
   exact⟨vE (by rw[← HQ.out];simp),rfl⟩
theorem zF6(x n:Nat)(w:World)(h1:x < 4294967296)(hn:n≤31):Calls Tryz.prog 91 #[.int .u32 x,.int .u32 n] w fun e w'=>e=.returned (.int .u64 ((x*2 ^ n:Nat):Int))∧w=w':=by
 obtain⟨R,hR⟩:∃ R,x*2 ^ n=R:=⟨_,rfl⟩
 have hRb:R < 18446744073709551616:=by
  rw[← hR]
  have:2 ^ n≤2 ^ 31:=Nat.pow_le_pow_right aD hn
  calc x*2 ^ n≤x*2 ^ 31:=Nat.mul_le_mul_left _ this
   _ < 18446744073709551616:=aO
 rw[hR]
 have HR:Hid (x*2 ^ n=R∧R < 18446744073709551616):=⟨hR,hRb⟩
 have hx0:(0:Int)≤x:=aO
 have hx1:(x:Int) < 4294967296:=aO
 clear hR hRb
 go_enter Tryz.func91,Tryz.ntmps91
 go_wp2
 go_loop [1,5] (fun nn yy=>∃ (y m:Nat),yy=.int .u64 y∧nn=.int .u32 m∧m≤31∧y*2 ^ m=R) (fun nn _=>(intOf nn).toNat)
 case atStart=>exact⟨x,n,rfl,rfl,hn,HR.out.1⟩
 case round=>
  obtain⟨y,m,rfl,rfl,hm,hq⟩:=hrel
  have HQ:Hid (y*2 ^ m=R):=hq
  clear hq
  by_cases hm0:0 < m
  ·have hmi:(0:Int) < m:=aO
   have hmi2:(m:Int)≤32:=aO
   have HN:Hid ((2*y)*2 ^ (m - 1)=R):=show _=_ by
    have hp:2 ^ m=2*2 ^ (m - 1):=by
     have:m=(m - 1)+1:=aO
     rw[this,Nat.pow_succ,Nat.add_sub_cancel];omega
    rw[← HQ.out,hp,← Nat.mul_assoc,Nat.mul_comm 2 y]
   have hy2:2*y < 18446744073709551616:=by
    have h1:=HN.out
    have h2:=HR.out.2
    have h3:2*y≤(2*y)*2 ^ (m - 1):=Nat.le_mul_of_pos_right _ (Nat.pow_pos aD)
    omega
   have hyi:2*(y:Int) < 18446744073709551616:=aO
   have hy0:(0:Int)≤y:=aO
   go_wp2
   go_round
   case rel=>exact⟨2*y,m - 1,by go_num,by go_num,by omega,HN.out⟩
   case measure=>simp[intOf];omega
  ·have hmz:m=0:=aO
   subst hmz
   go_wp2
   go_ret
   exact⟨vE (by rw[← HQ.out];simp),rfl⟩
def zEQ(x:Int):Int:=2*x%4294967296+x / 2147483648
def vT:Nat→Int→Int
 | 0,x=>x
 | n+1,x=>vT n (zEQ x)
theorem zB0(x:Int)(h0:0≤x)(h1:x < 4294967296):0≤zEQ x∧zEQ x < 4294967296:=by unfold zEQ;omega
theorem zDy(x:Int)(n:Nat)(w:World)(h0:0≤x)(h1:x < 4294967296)(hn:n≤32):Calls Tryz.prog 93 #[.int .u32 x,.int .u32 n] w fun e w'=>e=.returned (.int .u32 (vT n x))∧w=w':=by
 obtain⟨R,hR⟩:∃ R,vT n x=R:=⟨_,rfl⟩
 rw[hR]
 have HR:Hid (vT n x=R):=hR
 have HB:Hid (0≤x∧x < 4294967296):=⟨h0,h1⟩
 clear hR h0 h1
 go_enter Tryz.func93,Tryz.ntmps93
 go_wp2
 go_loop [0,1] (fun xx nn=>∃ (y:Int) (m:Nat),xx=.int .u32 y∧nn=.int .u32 m∧(0≤y∧y < 4294967296)∧m≤32∧vT m y=R) (fun _ nn=>(intOf nn).toNat)
 case atStart=>exact⟨x,n,rfl,rfl,HB.out,hn,HR.out⟩
 case round=>
  obtain⟨y,m,rfl,rfl,hy,hm,hq⟩:=hrel
  have HQ:Hid (vT m y=R):=hq
  clear hq HR HB
  obtain⟨hy0,hy1⟩:=hy
  cases m with
  | zero=>
   go_wp2
   go_ret
   exact⟨vE HQ.out,rfl⟩
  | succ m=>
   have hb:=zB0 y hy0 hy1
   obtain⟨t,ht⟩:∃ t,zEQ y=t:=⟨_,rfl⟩
   have HT:Hid (2*y%4294967296+y / 2147483648=t∧vT m t=R):=⟨ht,by rw[← ht];exact HQ.out⟩
   rw[ht] at hb
   obtain⟨hb0,hb1⟩:=hb
   have hu:2*y%4294967296+y / 2147483648=t:=HT.out.1
   clear ht HQ
   go_wp2_with (go_at_call 87;refine(vA _ _ aO aO).mono ?_;rintro e w' ⟨rfl,rfl⟩)
   go_round
   case rel=>exact⟨t,m,by go_num,by go_num,by omega,by omega,HT.out.2⟩
   case measure=>simp[intOf]
def vQ(o:Int)(a b:Nat):Nat:=if o=5 then a ||| b else if o=6 then a ^^^ b else a &&& b
theorem tb(n k:Nat):n / 2 ^ k%2=(n.testBit k).toNat:=by
 rw[Nat.testBit_eq_decide_div_mod_eq]
 have h:=Nat.mod_two_eq_zero_or_one (n / 2 ^ k)
 rcases h with h|h<;>rw[h]<;>rfl
theorem zKp(a b k:Nat):(a &&& b) / 2 ^ k%2=(a / 2 ^ k%2)*(b / 2 ^ k%2):=by
 rw[tb,tb,tb,Nat.testBit_and]
 cases a.testBit k<;>cases b.testBit k<;>rfl
theorem zL0(a b k:Nat):(a ||| b) / 2 ^ k%2=(a / 2 ^ k%2)+(b / 2 ^ k%2) - (a / 2 ^ k%2)*(b / 2 ^ k%2):=by
 rw[tb,tb,tb,Nat.testBit_or]
 cases a.testBit k<;>cases b.testBit k<;>rfl
theorem zKr(a b k:Nat):(a ^^^ b) / 2 ^ k%2=((a / 2 ^ k%2)+(b / 2 ^ k%2))%2:=by
 rw[tb,tb,tb,Nat.testBit_xor]
 cases a.testBit k<;>cases b.testBit k<;>rfl
theorem zKq(n k:Nat):n / 2 ^ k=2*(n / 2 ^ (k+1))+n / 2 ^ k%2:=by
 rw[Nat.pow_succ,← Nat.div_div_eq_div_mul];omega
theorem zBw(o:Int)(a b:Nat)(ha:a < 4294967296)(hb:b < 4294967296):vQ o a b < 4294967296:=by
 unfold vQ
 split
 ·exact Nat.or_lt_two_pow (n:=32) ha hb
 ·split
  ·exact Nat.xor_lt_two_pow (n:=32) ha hb
  ·exact Nat.and_lt_two_pow (n:=32) _ hb
structure zPG(o:Int)(a b j:Nat)(x:Int):Prop where
 le:j≤32
 eq:x=((vQ o a b / 2 ^ j:Nat):Int)
 lt:vQ o a b < 4294967296
theorem zIJ(o:Int)(a b t:Nat)(P Q:Nat)(hP:P=a / 2 ^ t%2)(hQ:Q=b / 2 ^ t%2)(ha:a < 4294967296)(hb:b < 4294967296) :
  vQ o a b / 2 ^ t=2*(vQ o a b / 2 ^ (t+1))+(if o=5 then P+Q - P*Q else if o=6 then(P+Q)%2 else P*Q):=by
 rw[zKq (vQ o a b) t]
 congr 1
 unfold vQ
 subst hP hQ
 split
 ·rw[zL0]
 ·split
  ·rw[zKr]
  ·rw[zKp]
theorem zII(o:Int)(a b:Nat)(w:World)(ha:a < 4294967296)(hb:b < 4294967296):Calls Tryz.prog 101 #[.int .i64 o,.int .u32 a,.int .u32 b] w fun e w'=>e=.returned (.int .u32 (vQ o a b))∧w=w':=by
 have hlt:=zBw o a b ha hb
 have HLT:Hid (vQ o a b < 4294967296):=hlt
 have ha0:(0:Int)≤a:=aO
 have ha1:(a:Int) < 4294967296:=aO
 have hb0:(0:Int)≤b:=aO
 have hb1:(b:Int) < 4294967296:=aO
 clear hlt
 have hc:((o==5)=true)∨((o==5)=false∧(o==6)=true)∨((o==5)=false∧(o==6)=false):=by
  cases h5:(o==5)
  ·cases h6:(o==6)
   ·exact .inr (.inr ⟨rfl,rfl⟩)
   ·exact .inr (.inl ⟨rfl,rfl⟩)
  ·exact .inl rfl
 go_enter Tryz.func101,Tryz.ntmps101
 go_wp2
 go_loop [7,8] (fun xx kk=>∃ (j:Nat) (x:Int),kk=.int .i64 ((j:Int) - 1)∧xx=.int .u32 x∧zPG o a b j x) (fun _ kk=>(intOf kk+1).toNat)
 case atStart=>exact⟨32,0,rfl,rfl,⟨Nat.le_refl _,by rw[Nat.div_eq_of_lt HLT.out];rfl,HLT.out⟩⟩
 case round=>
  obtain⟨j,x,rfl,rfl,hj,hx,hl⟩:=hrel
  cases j with
  | zero=>
   have hz:((0:Nat):Int) - 1 = -1:=rfl
   rw[hz]
   have HX:Hid (x=(vQ o a b:Int)):=show _=_ by simpa using hx
   clear hx hz
   go_wp2
   go_ret
   exact⟨vE HX.out,rfl⟩
  | succ t=>
   have e:((t+1:Nat):Int) - 1=(t:Int):=aO
   rw[e]
   obtain⟨P,hP⟩:∃ P,P=a / 2 ^ t%2:=⟨_,rfl⟩
   obtain⟨Q,hQ⟩:∃ Q,Q=b / 2 ^ t%2:=⟨_,rfl⟩
   have H1:Hid (vQ o a b / 2 ^ t=2*(vQ o a b / 2 ^ (t+1))+(if o=5 then P+Q - P*Q else if o=6 then(P+Q)%2 else P*Q)):=zIJ o a b t P Q hP hQ ha hb
   have HX:Hid (x=((vQ o a b / 2 ^ (t+1):Nat):Int)):=hx
   have ht0:(0:Int)≤t:=aO
   have ht1:(t:Int)≤31:=aO
   clear hx e
   have hPb:P=0∨P=1:=aO
   have hQb:Q=0∨Q=1:=aO
   obtain⟨A,hA⟩:∃ A:Nat,a / 2 ^ t=A:=⟨_,rfl⟩
   obtain⟨B,hB⟩:∃ B:Nat,b / 2 ^ t=B:=⟨_,rfl⟩
   rw[hA] at hP
   rw[hB] at hQ
   have hAi:(a:Int) / 2 ^ t=(A:Int):=by rw[← hA];simp
   have hBi:(b:Int) / 2 ^ t=(B:Int):=by rw[← hB];simp
   have hA0:(0:Int)≤A:=aO
   have hB0:(0:Int)≤B:=aO
   have hA1:(A:Int) < 4294967296:=by
     have:A≤a:=by rw[← hA];exact Nat.div_le_self _ _
     omega
   have hB1:(B:Int) < 4294967296:=by
     have:B≤b:=by rw[← hB];exact Nat.div_le_self _ _
     omega
   have hAm:(A:Int)%2=(P:Int):=aO
   have hBm:(B:Int)%2=(Q:Int):=aO
   obtain⟨y,hy⟩:∃ y:Nat,vQ o a b / 2 ^ (t+1)=y:=⟨_,rfl⟩
   have hxy:x=(y:Int):=by rw[HX.out,hy]
   have hle:vQ o a b / 2 ^ t < 4294967296:=Nat.lt_of_le_of_lt (Nat.div_le_self _ _) hl
   obtain⟨z,hz⟩:∃ z:Nat,vQ o a b / 2 ^ t=z:=⟨_,rfl⟩
   have hzz:z=2*y+(if o=5 then P+Q - P*Q else if o=6 then(P+Q)%2 else P*Q):=by rw[← hz,H1.out,hy]
   have HZ:Hid (vQ o a b / 2 ^ t=z):=hz
   rw[hz] at hle
   have HJ:Hid (t≤32∧vQ o a b < 4294967296):=⟨by omega,hl⟩
   have hy0:(0:Int)≤y:=aO
   subst hxy
   clear hA hB hP hQ hy H1 HX HLT hz hl hj
   rcases hc with h5|⟨h5,h6⟩|⟨h5,h6⟩
   ·have ho:o=5:=by simpa using h5
    subst ho
    clear h5
    rcases hPb with rfl|rfl<;>rcases hQb with rfl|rfl
    all_goals
     simp at hzz
     have hy2:2*(y:Int)+1≤4294967296:=aO
     have HY:Hid (z < 4294967296∧z=z):=⟨hle,rfl⟩
     have hzi:(z:Int) < 4294967296:=aO
     subst hzz
     go_wp2
     go_round
     case rel=>exact⟨t,_,by go_num,by go_num,⟨HJ.out.1,by rw[HZ.out];go_num,HJ.out.2⟩⟩
     case measure=>simp[intOf]
   ·have ho:o=6:=by simpa using h6
    subst ho
    clear h5 h6
    rcases hPb with rfl|rfl<;>rcases hQb with rfl|rfl
    all_goals
     simp at hzz
     have hy2:2*(y:Int)+1≤4294967296:=aO
     have hzi:(z:Int) < 4294967296:=aO
     subst hzz
     go_wp2
     go_round
     case rel=>exact⟨t,_,by go_num,by go_num,⟨HJ.out.1,by rw[HZ.out];go_num,HJ.out.2⟩⟩
     case measure=>simp[intOf]
   ·have ho5:¬o=5:=by simpa using h5
    have ho6:¬o=6:=by simpa using h6
    rw[if_neg ho5,if_neg ho6] at hzz
    clear ho5 ho6
    rcases hPb with rfl|rfl<;>rcases hQb with rfl|rfl
    all_goals
     simp at hzz
     have hy2:2*(y:Int)+1≤4294967296:=aO
     have hzi:(z:Int) < 4294967296:=aO
     subst hzz
     go_wp2
     go_round
     case rel=>exact⟨t,_,by go_num,by go_num,⟨HJ.out.1,by rw[HZ.out];go_num,HJ.out.2⟩⟩
     case measure=>simp[intOf]
def vM(old:Nat):Int:=((old%16 / 4%2:Nat):Int)
theorem zAM(old:Nat):0≤vM old∧vM old≤1:=by unfold vM;omega
def zBa(a b:Nat)(c:Int):Int:=yC (((a:Int)+b+c)%4294967296)+uH (decide (4294967296≤(a:Int)+b+c)) 4+uH (uC (vP a+vP b+c)) 8
def zBi(a b:Nat)(c:Int):Int:=yC (((a:Int) - b - c)%4294967296)+uH (decide ((a:Int) - b - c < 0)) 4+uH (uC (vP a - vP b - c)) 8
def zBG(a b:Nat):Int:=yC ((a*b%4294967296:Nat):Int)+uH (decide (4294967296≤a*b)) 12
def zDD(a old:Nat):Int:=yC (((a:Int)+1)%4294967296)+vM old*4+uH (uC (vP a+1)) 8
def zDC(a old:Nat):Int:=yC (((a:Int) - 1)%4294967296)+vM old*4+uH (uC (vP a - 1)) 8
def zCf(a n:Nat):Int:=yC ((a*2 ^ n%4294967296:Nat):Int)+uH (a*2 ^ n / 4294967296%2==1) 4
def zCg(a n:Nat):Int:=yC ((a:Int) / 2 ^ n)+uH ((a:Int) / 2 ^ (n - 1)%2==1) 4
def zCe(a n:Nat):Int:=yC (vP a / 2 ^ (n - 1) / 2%4294967296)+uH (vP a / 2 ^ (n - 1)%4294967296%2==1) 4
def zBH(a n old:Nat):Int:=((old%16:Nat):Int) - vM old*4+uH (vT n a%2==1) 4
theorem zIp(a b old:Nat)(w:World)(ha:a < 4294967296)(hb:b < 4294967296)(ho:old < 4294967296):Calls Tryz.prog 74 #[.int .i64 1,.int .u32 a,.int .u32 b,.int .u32 old] w fun e w'=>e=.returned (.int .u32 (zBa a b 0))∧w=w':=by
 have ha0:(0:Int)≤a:=aO
 have ha1:(a:Int) < 4294967296:=aO
 have hb0:(0:Int)≤b:=aO
 have hb1:(b:Int) < 4294967296:=aO
 have ho0:(0:Int)≤old:=aO
 have ho1:(old:Int) < 4294967296:=aO
 obtain⟨s1,s2⟩:=vJ a ha0 ha1
 obtain⟨s3,s4⟩:=vJ b hb0 hb1
 go_enter Tryz.func74,Tryz.ntmps74
 go_wp2_with first
  | (go_at_call 88;refine(zAt _ _ _).mono ?_;rintro e w' ⟨rfl,rfl⟩)
  | (go_at_call 87;refine(vA _ _ aO aO).mono ?_;rintro e w' ⟨rfl,rfl⟩)
  | (go_at_call 86;refine(vW _ _ aO aO).mono ?_;rintro e w' ⟨rfl,rfl⟩)
  | (go_at_call 90;refine(vD _ _ aO aO).mono ?_;rintro e w' ⟨rfl,rfl⟩)
  | (go_at_call 89;refine(uK _ _).mono ?_;rintro e w' ⟨rfl,rfl⟩)
 go_ret
 refine⟨vE ?_,rfl⟩
 have h1:=yV (((a:Int)+b)%4294967296)
 have h2:=yR (decide (4294967296≤(a:Int)+b)) 4 aO
 have h3:=yR (uC (vP a+vP b)) 8 aO
 simp only[zBa,Int.add_zero]
 omega
theorem zIq(a b old:Nat)(w:World)(ha:a < 4294967296)(hb:b < 4294967296)(ho:old < 4294967296):Calls Tryz.prog 74 #[.int .i64 2,.int .u32 a,.int .u32 b,.int .u32 old] w fun e w'=>e=.returned (.int .u32 (zBa a b (vM old)))∧w=w':=by
 have ha0:(0:Int)≤a:=aO
 have ha1:(a:Int) < 4294967296:=aO
 have hb0:(0:Int)≤b:=aO
 have hb1:(b:Int) < 4294967296:=aO
 have ho0:(0:Int)≤old:=aO
 have ho1:(old:Int) < 4294967296:=aO
 obtain⟨s1,s2⟩:=vJ a ha0 ha1
 obtain⟨s3,s4⟩:=vJ b hb0 hb1
 have hc0:=zAM old
 obtain⟨c,hc⟩:∃ c,vM old=c:=⟨_,rfl⟩
 have hci:(old:Int)%16 / 4%2=c:=by rw[← hc];unfold vM;omega
 rw[hc] at hc0
 rw[hc]
 obtain⟨hc1,hc2⟩:=hc0
 clear hc
 go_enter Tryz.func74,Tryz.ntmps74
 go_wp2_with first
  | (go_at_call 88;refine(zAt _ _ _).mono ?_;rintro e w' ⟨rfl,rfl⟩)
  | (go_at_call 87;refine(vA _ _ aO aO).mono ?_;rintro e w' ⟨rfl,rfl⟩)
  | (go_at_call 86;refine(vW _ _ aO aO).mono ?_;rintro e w' ⟨rfl,rfl⟩)
  | (go_at_call 90;refine(vD _ _ aO aO).mono ?_;rintro e w' ⟨rfl,rfl⟩)
  | (go_at_call 89;refine(uK _ _).mono ?_;rintro e w' ⟨rfl,rfl⟩)
 go_ret
 refine⟨vE ?_,rfl⟩
 have h1:=yV (((a:Int)+b+c)%4294967296)
 have h2:=yR (decide (4294967296≤(a:Int)+b+c)) 4 aO
 have h3:=yR (uC (vP a+vP b+c)) 8 aO
 simp only[zBa]
 omega
theorem zIr(a b old:Nat)(w:World)(ha:a < 4294967296)(hb:b < 4294967296)(ho:old < 4294967296):Calls Tryz.prog 74 #[.int .i64 3,.int .u32 a,.int .u32 b,.int .u32 old] w fun e w'=>e=.returned (.int .u32 (zBi a b 0))∧w=w':=by
 have ha0:(0:Int)≤a:=aO
 have ha1:(a:Int) < 4294967296:=aO
 have hb0:(0:Int)≤b:=aO
 have hb1:(b:Int) < 4294967296:=aO
 have ho0:(0:Int)≤old:=aO
 have ho1:(old:Int) < 4294967296:=aO
 obtain⟨s1,s2⟩:=vJ a ha0 ha1
 obtain⟨s3,s4⟩:=vJ b hb0 hb1
 go_enter Tryz.func74,Tryz.ntmps74
 go_wp2_with first
  | (go_at_call 88;refine(zAt _ _ _).mono ?_;rintro e w' ⟨rfl,rfl⟩)
  | (go_at_call 87;refine(vA _ _ aO aO).mono ?_;rintro e w' ⟨rfl,rfl⟩)
  | (go_at_call 86;refine(vW _ _ aO aO).mono ?_;rintro e w' ⟨rfl,rfl⟩)
  | (go_at_call 90;refine(vD _ _ aO aO).mono ?_;rintro e w' ⟨rfl,rfl⟩)
  | (go_at_call 89;refine(uK _ _).mono ?_;rintro e w' ⟨rfl,rfl⟩)
 go_ret
 refine⟨vE ?_,rfl⟩
 have h1:=yV (((a:Int) - b)%4294967296)
 have h2:=yR (decide ((a:Int) - b < 0)) 4 aO
 have h3:=yR (uC (vP a - vP b)) 8 aO
 simp only[zBi,Int.sub_zero]
 omega
theorem zIs(a b old:Nat)(w:World)(ha:a < 4294967296)(hb:b < 4294967296)(ho:old < 4294967296):Calls Tryz.prog 74 #[.int .i64 4,.int .u32 a,.int .u32 b,.int .u32 old] w fun e w'=>e=.returned (.int .u32 (zBi a b (vM old)))∧w=w':=by
 have ha0:(0:Int)≤a:=aO
 have ha1:(a:Int) < 4294967296:=aO
 have hb0:(0:Int)≤b:=aO
 have hb1:(b:Int) < 4294967296:=aO
 have ho0:(0:Int)≤old:=aO
 have ho1:(old:Int) < 4294967296:=aO
 obtain⟨s1,s2⟩:=vJ a ha0 ha1
 obtain⟨s3,s4⟩:=vJ b hb0 hb1
 have hc0:=zAM old
 obtain⟨c,hc⟩:∃ c,vM old=c:=⟨_,rfl⟩
 have hci:(old:Int)%16 / 4%2=c:=by rw[← hc];unfold vM;omega
 rw[hc] at hc0
 rw[hc]
 obtain⟨hc1,hc2⟩:=hc0
 clear hc
 go_enter Tryz.func74,Tryz.ntmps74
 go_wp2_with first
  | (go_at_call 88;refine(zAt _ _ _).mono ?_;rintro e w' ⟨rfl,rfl⟩)
  | (go_at_call 87;refine(vA _ _ aO aO).mono ?_;rintro e w' ⟨rfl,rfl⟩)
  | (go_at_call 86;refine(vW _ _ aO aO).mono ?_;rintro e w' ⟨rfl,rfl⟩)
  | (go_at_call 90;refine(vD _ _ aO aO).mono ?_;rintro e w' ⟨rfl,rfl⟩)
  | (go_at_call 89;refine(uK _ _).mono ?_;rintro e w' ⟨rfl,rfl⟩)
 go_ret
 refine⟨vE ?_,rfl⟩
 have h1:=yV (((a:Int) - b - c)%4294967296)
 have h2:=yR (decide ((a:Int) - b - c < 0)) 4 aO
 have h3:=yR (uC (vP a - vP b - c)) 8 aO
 simp only[zBi]
 omega
theorem zFX(a b old:Nat)(w:World)(ha:a < 4294967296)(hb:b < 4294967296)(ho:old < 4294967296):Calls Tryz.prog 74 #[.int .i64 5,.int .u32 a,.int .u32 b,.int .u32 old] w fun e w'=>e=.returned (.int .u32 (yC a))∧w=w':=by
 have ha0:(0:Int)≤a:=aO
 have ha1:(a:Int) < 4294967296:=aO
 have hb0:(0:Int)≤b:=aO
 have hb1:(b:Int) < 4294967296:=aO
 have ho0:(0:Int)≤old:=aO
 have ho1:(old:Int) < 4294967296:=aO
 obtain⟨s1,s2⟩:=vJ a ha0 ha1
 obtain⟨s3,s4⟩:=vJ b hb0 hb1
 go_enter Tryz.func74,Tryz.ntmps74
 go_wp2_with first
  | (go_at_call 88;refine(zAt _ _ _).mono ?_;rintro e w' ⟨rfl,rfl⟩)
  | (go_at_call 87;refine(vA _ _ aO aO).mono ?_;rintro e w' ⟨rfl,rfl⟩)
  | (go_at_call 86;refine(vW _ _ aO aO).mono ?_;rintro e w' ⟨rfl,rfl⟩)
  | (go_at_call 90;refine(vD _ _ aO aO).mono ?_;rintro e w' ⟨rfl,rfl⟩)
  | (go_at_call 89;refine(uK _ _).mono ?_;rintro e w' ⟨rfl,rfl⟩)
 go_ret
 refine⟨vE ?_,rfl⟩
 rfl
theorem zG2(a b old:Nat)(w:World)(ha:a < 4294967296)(hb:b < 4294967296)(ho:old < 4294967296):Calls Tryz.prog 74 #[.int .i64 11,.int .u32 a,.int .u32 b,.int .u32 old] w fun e w'=>e=.returned (.int .u32 (zDD a old))∧w=w':=by
 have ha0:(0:Int)≤a:=aO
 have ha1:(a:Int) < 4294967296:=aO
 have hb0:(0:Int)≤b:=aO
 have hb1:(b:Int) < 4294967296:=aO
 have ho0:(0:Int)≤old:=aO
 have ho1:(old:Int) < 4294967296:=aO
 obtain⟨s1,s2⟩:=vJ a ha0 ha1
 obtain⟨s3,s4⟩:=vJ b hb0 hb1
 have hc0:=zAM old
 obtain⟨c,hc⟩:∃ c,vM old=c:=⟨_,rfl⟩
 have hci:(old:Int)%16 / 4%2=c:=by rw[← hc];unfold vM;omega
 rw[hc] at hc0
 rw[zDD,hc]
 obtain⟨hc1,hc2⟩:=hc0
 clear hc
 go_enter Tryz.func74,Tryz.ntmps74
 go_wp2_with first
  | (go_at_call 88;refine(zAt _ _ _).mono ?_;rintro e w' ⟨rfl,rfl⟩)
  | (go_at_call 87;refine(vA _ _ aO aO).mono ?_;rintro e w' ⟨rfl,rfl⟩)
  | (go_at_call 86;refine(vW _ _ aO aO).mono ?_;rintro e w' ⟨rfl,rfl⟩)
  | (go_at_call 90;refine(vD _ _ aO aO).mono ?_;rintro e w' ⟨rfl,rfl⟩)
  | (go_at_call 89;refine(uK _ _).mono ?_;rintro e w' ⟨rfl,rfl⟩)
 go_ret
 refine⟨vE ?_,rfl⟩
 have h1:=yV (((a:Int)+1)%4294967296)
 have h3:=yR (uC (vP a+1)) 8 aO
 omega
theorem zG3(a b old:Nat)(w:World)(ha:a < 4294967296)(hb:b < 4294967296)(ho:old < 4294967296):Calls Tryz.prog 74 #[.int .i64 12,.int .u32 a,.int .u32 b,.int .u32 old] w fun e w'=>e=.returned (.int .u32 (zDC a old))∧w=w':=by
 have ha0:(0:Int)≤a:=aO
 have ha1:(a:Int) < 4294967296:=aO
 have hb0:(0:Int)≤b:=aO
 have hb1:(b:Int) < 4294967296:=aO
 have ho0:(0:Int)≤old:=aO
 have ho1:(old:Int) < 4294967296:=aO
 obtain⟨s1,s2⟩:=vJ a ha0 ha1
 obtain⟨s3,s4⟩:=vJ b hb0 hb1
 have hc0:=zAM old
 obtain⟨c,hc⟩:∃ c,vM old=c:=⟨_,rfl⟩
 have hci:(old:Int)%16 / 4%2=c:=by rw[← hc];unfold vM;omega
 rw[hc] at hc0
 rw[zDC,hc]
 obtain⟨hc1,hc2⟩:=hc0
 clear hc
 go_enter Tryz.func74,Tryz.ntmps74
 go_wp2_with first
  | (go_at_call 88;refine(zAt _ _ _).mono ?_;rintro e w' ⟨rfl,rfl⟩)
  | (go_at_call 87;refine(vA _ _ aO aO).mono ?_;rintro e w' ⟨rfl,rfl⟩)
  | (go_at_call 86;refine(vW _ _ aO aO).mono ?_;rintro e w' ⟨rfl,rfl⟩)
  | (go_at_call 90;refine(vD _ _ aO aO).mono ?_;rintro e w' ⟨rfl,rfl⟩)
  | (go_at_call 89;refine(uK _ _).mono ?_;rintro e w' ⟨rfl,rfl⟩)
 go_ret
 refine⟨vE ?_,rfl⟩
 have h1:=yV (((a:Int) - 1)%4294967296)
 have h3:=yR (uC (vP a - 1)) 8 aO
 omega
theorem zDW(x n d:Nat)(w:World)(hd:x*2 ^ n=d)(h1:x < 4294967296)(hn:n≤31):Calls Tryz.prog 91 #[.int .u32 x,.int .u32 n] w fun e w'=>e=.returned (.int .u64 (d:Int))∧w=w':=by
 subst hd;exact zF6 x n w h1 hn
theorem zG1(a b old:Nat)(w:World)(ha:a < 4294967296)(hb:b < 4294967296)(ho:old < 4294967296):Calls Tryz.prog 74 #[.int .i64 10,.int .u32 a,.int .u32 b,.int .u32 old] w fun e w'=>e=.returned (.int .u32 (zBG a b))∧w=w':=by
 have ha0:(0:Int)≤a:=aO
 have ha1:(a:Int) < 4294967296:=aO
 have hb0:(0:Int)≤b:=aO
 have hb1:(b:Int) < 4294967296:=aO
 have ho0:(0:Int)≤old:=aO
 have ho1:(old:Int) < 4294967296:=aO
 obtain⟨s1,s2⟩:=vJ a ha0 ha1
 obtain⟨s3,s4⟩:=vJ b hb0 hb1
 obtain⟨p,hp⟩:∃ p,a*b=p:=⟨_,rfl⟩
 have hpb:p < 18446744073709551616:=by
  rw[← hp]
  exact Nat.lt_of_le_of_lt (Nat.mul_le_mul (Nat.le_of_lt_succ (m:=a) (n:=4294967295) ha) (Nat.le_of_lt_succ (m:=b) (n:=4294967295) hb)) aD
 have hpi:(a:Int)*(b:Int)=(p:Int):=by rw[← hp];simp
 have hp0:(0:Int)≤p:=aO
 have hp1:(p:Int) < 18446744073709551616:=aO
 have e:zBG a b=yC ((p:Int)%4294967296)+uH (decide (4294967296≤(p:Int))) 12:=by
  unfold zBG;rw[hp]
  congr 2
  exact decide_eq_decide.2 aO
 rw[e]
 clear hp e hpb
 go_enter Tryz.func74,Tryz.ntmps74
 go_wp2_with first
  | (go_at_call 88;refine(zAt _ _ _).mono ?_;rintro e w' ⟨rfl,rfl⟩)
  | (go_at_call 87;refine(vA _ _ aO aO).mono ?_;rintro e w' ⟨rfl,rfl⟩)
  | (go_at_call 86;refine(vW _ _ aO aO).mono ?_;rintro e w' ⟨rfl,rfl⟩)
  | (go_at_call 90;refine(vD _ _ aO aO).mono ?_;rintro e w' ⟨rfl,rfl⟩)
  | (go_at_call 89;refine(uK _ _).mono ?_;rintro e w' ⟨rfl,rfl⟩)
 go_ret
 refine⟨vE ?_,rfl⟩
 have h1:=yV ((p:Int)%4294967296)
 have h2:=yR (decide (4294967296≤(p:Int))) 12 aO
 omega
theorem zMf(a b old:Nat)(w:World)(ha:a < 4294967296)(hb:b < 4294967296)(ho:old < 4294967296)(h0:0 < b%32):Calls Tryz.prog 74 #[.int .i64 6,.int .u32 a,.int .u32 b,.int .u32 old] w fun e w'=>e=.returned (.int .u32 (zCf a (b%32)))∧w=w':=by
 have ha0:(0:Int)≤a:=aO
 have ha1:(a:Int) < 4294967296:=aO
 have hb0:(0:Int)≤b:=aO
 have hb1:(b:Int) < 4294967296:=aO
 have ho0:(0:Int)≤old:=aO
 have ho1:(old:Int) < 4294967296:=aO
 obtain⟨s1,s2⟩:=vJ a ha0 ha1
 obtain⟨s3,s4⟩:=vJ b hb0 hb1
 obtain⟨n,hn⟩:∃ n,b%32=n:=⟨_,rfl⟩
 have hnb:0 < n∧n≤31:=aO
 rw[hn]
 have hni:(b:Int)%32=(n:Int):=aO
 have hn0:(0:Int) < n:=aO
 have hn1:(n:Int)≤31:=aO
 have hnz:((n:Int)==0)=false:=by simp;omega
 have hnz':(n==0)=false:=by simp;omega
 have HN:Hid (0 < n∧n≤31):=hnb
 clear hn hnb h0
 obtain⟨d,hd⟩:∃ d,a*2 ^ n=d:=⟨_,rfl⟩
 have HD:Hid (a*2 ^ n=d):=hd
 have hdb:d < 18446744073709551616:=by
  rw[← hd]
  have:2 ^ n≤2 ^ 31:=Nat.pow_le_pow_right aD HN.out.2
  exact Nat.lt_of_le_of_lt (Nat.mul_le_mul (Nat.le_of_lt_succ (m:=a) (n:=4294967295) ha) this) aD
 have hd0:(0:Int)≤d:=aO
 have hd1:(d:Int) < 18446744073709551616:=aO
 have e:zCf a n=yC ((d:Int)%4294967296)+uH ((d:Int) / 4294967296%2==1) 4:=by
  unfold zCf;rw[hd]
  congr 2
  rw[Bool.eq_iff_iff];simp;omega
 rw[e]
 clear hd e hdb
 go_enter Tryz.func74,Tryz.ntmps74
 go_wp2_with first
  | (go_at_call 88;refine(zAt _ _ _).mono ?_;rintro e w' ⟨rfl,rfl⟩)
  | (go_at_call 87;refine(vA _ _ aO aO).mono ?_;rintro e w' ⟨rfl,rfl⟩)
  | (go_at_call 86;refine(vW _ _ aO aO).mono ?_;rintro e w' ⟨rfl,rfl⟩)
  | (go_at_call 90;refine(vD _ _ aO aO).mono ?_;rintro e w' ⟨rfl,rfl⟩)
  | (go_at_call 89;refine(uK _ _).mono ?_;rintro e w' ⟨rfl,rfl⟩)
  | (go_at_call 91;refine(zDW a n d _ HD.out ha HN.out.2).mono ?_;rintro e w' ⟨rfl,rfl⟩)
 go_ret
 refine⟨vE ?_,rfl⟩
 have h1:=yV ((d:Int)%4294967296)
 have h2:=yR ((d:Int) / 4294967296%2==1) 4 aO
 omega
theorem zIa(x:Int)(n:Nat)(R:Int)(w:World)(hR:vT n x=R)(h0:0≤x)(h1:x < 4294967296)(hn:n≤32):Calls Tryz.prog 93 #[.int .u32 x,.int .u32 n] w fun e w'=>e=.returned (.int .u32 R)∧w=w':=by
 subst hR;exact zDy x n w h0 h1 hn
theorem zAN(x:Int)(n:Nat)(h0:0≤x):0≤x / 2 ^ n∧x / 2 ^ n≤x:=⟨Int.ediv_nonneg h0 (Int.le_of_lt (Int.pow_pos aD)),Int.ediv_le_self _ h0⟩
theorem zDc(x:Int)(n:Nat)(h0 : -2147483648≤x)(h1:x < 2147483648) : -2147483648≤x / 2 ^ n∧x / 2 ^ n < 2147483648:=by
 have hp:(0:Int) < 2 ^ n:=Int.pow_pos aD
 by_cases hx:0≤x
 ·have:=zAN x n hx;omega
 ·have h2:x / 2 ^ n < 0:=Int.ediv_neg_of_neg_of_pos aO hp
  have h3:x≤x / 2 ^ n:=by
   have:=Int.le_ediv_of_mul_le hp (a:=x) (b:=x) (by
    have:x*2 ^ n≤x*1:=Int.mul_le_mul_of_nonpos_left aO aO
    omega)
   exact this
  omega
theorem uO:∀ (n:Nat) (x:Int),0≤x→x < 4294967296→0≤vT n x∧vT n x < 4294967296
 | 0,x,h0,h1=>⟨h0,h1⟩
 | n+1,x,h0,h1=>uO n (zEQ x) (zB0 x h0 h1).1 (zB0 x h0 h1).2
theorem zMg(a b old:Nat)(w:World)(ha:a < 4294967296)(hb:b < 4294967296)(ho:old < 4294967296)(h0:0 < b%32):Calls Tryz.prog 74 #[.int .i64 7,.int .u32 a,.int .u32 b,.int .u32 old] w fun e w'=>e=.returned (.int .u32 (zCg a (b%32)))∧w=w':=by
 have ha0:(0:Int)≤a:=aO
 have ha1:(a:Int) < 4294967296:=aO
 have hb0:(0:Int)≤b:=aO
 have hb1:(b:Int) < 4294967296:=aO
 have ho0:(0:Int)≤old:=aO
 have ho1:(old:Int) < 4294967296:=aO
 obtain⟨s1,s2⟩:=vJ a ha0 ha1
 obtain⟨s3,s4⟩:=vJ b hb0 hb1
 obtain⟨n,hn⟩:∃ n,b%32=n:=⟨_,rfl⟩
 have hnb:0 < n∧n≤31:=aO
 rw[hn]
 have hni:(b:Int)%32=(n:Int):=aO
 have hn0:(0:Int) < n:=aO
 have hn1:(n:Int)≤31:=aO
 have hnz:((n:Int)==0)=false:=by simp;omega
 have hnz':(n==0)=false:=by simp;omega
 have HN:Hid (0 < n∧n≤31):=hnb
 clear hn hnb h0
 obtain⟨m,hm⟩:∃ m,n=m+1:=⟨n - 1,by have:=HN.out;omega⟩
 have hmi:(n:Int) - 1=(m:Int):=aO
 have hm0:(0:Int)≤m:=aO
 have hm1:(m:Int)≤31:=aO
 obtain⟨R1,hR1⟩:∃ R,(a:Int) / 2 ^ n=R:=⟨_,rfl⟩
 obtain⟨R2,hR2⟩:∃ R,(a:Int) / 2 ^ m=R:=⟨_,rfl⟩
 have b1:=zAN a n ha0
 have b2:=zAN a m ha0
 rw[hR1] at b1
 rw[hR2] at b2
 obtain⟨b10,b11⟩:=b1
 obtain⟨b20,b21⟩:=b2
 have e:zCg a n=yC R1+uH (R2%2==1) 4:=by
  unfold zCg;rw[show n - 1=m by omega,hR1,hR2]
 rw[e]
 clear e hm
 go_enter Tryz.func74,Tryz.ntmps74
 go_wp2_with first
  | (go_at_call 88;refine(zAt _ _ _).mono ?_;rintro e w' ⟨rfl,rfl⟩)
  | (go_at_call 87;refine(vA _ _ aO aO).mono ?_;rintro e w' ⟨rfl,rfl⟩)
  | (go_at_call 86;refine(vW _ _ aO aO).mono ?_;rintro e w' ⟨rfl,rfl⟩)
  | (go_at_call 90;refine(vD _ _ aO aO).mono ?_;rintro e w' ⟨rfl,rfl⟩)
  | (go_at_call 89;refine(uK _ _).mono ?_;rintro e w' ⟨rfl,rfl⟩)
  | (go_at_call 92;refine(zBp _ _ _ aO aO aO).mono ?_;rintro e w' ⟨rfl,rfl⟩;simp only[hR1,hR2])
 go_ret
 refine⟨vE ?_,rfl⟩
 have h1:=yV R1
 have h2:=yR (R2%2==1) 4 aO
 omega
theorem zMh(a b old:Nat)(w:World)(ha:a < 4294967296)(hb:b < 4294967296)(ho:old < 4294967296)(h0:0 < b%32):Calls Tryz.prog 74 #[.int .i64 8,.int .u32 a,.int .u32 b,.int .u32 old] w fun e w'=>e=.returned (.int .u32 (zCe a (b%32)))∧w=w':=by
 have ha0:(0:Int)≤a:=aO
 have ha1:(a:Int) < 4294967296:=aO
 have hb0:(0:Int)≤b:=aO
 have hb1:(b:Int) < 4294967296:=aO
 have ho0:(0:Int)≤old:=aO
 have ho1:(old:Int) < 4294967296:=aO
 obtain⟨s1,s2⟩:=vJ a ha0 ha1
 obtain⟨s3,s4⟩:=vJ b hb0 hb1
 obtain⟨n,hn⟩:∃ n,b%32=n:=⟨_,rfl⟩
 have hnb:0 < n∧n≤31:=aO
 rw[hn]
 have hni:(b:Int)%32=(n:Int):=aO
 have hn0:(0:Int) < n:=aO
 have hn1:(n:Int)≤31:=aO
 have hnz:((n:Int)==0)=false:=by simp;omega
 have hnz':(n==0)=false:=by simp;omega
 have HN:Hid (0 < n∧n≤31):=hnb
 clear hn hnb h0
 obtain⟨m,hm⟩:∃ m,n=m+1:=⟨n - 1,by have:=HN.out;omega⟩
 have hmi:(n:Int) - 1=(m:Int):=aO
 have hm0:(0:Int)≤m:=aO
 have hm1:(m:Int)≤31:=aO
 obtain⟨R2,hR2⟩:∃ R,vP a / 2 ^ m=R:=⟨_,rfl⟩
 obtain⟨R1,hR1⟩:∃ R,R2 / 2 ^ 1=R:=⟨_,rfl⟩
 have b2:=zDc (vP a) m s1 s2
 rw[hR2] at b2
 have b1:=zDc R2 1 b2.1 b2.2
 rw[hR1] at b1
 obtain⟨b10,b11⟩:=b1
 obtain⟨b20,b21⟩:=b2
 have e:zCe a n=yC (R1%4294967296)+uH (R2%4294967296%2==1) 4:=by
  unfold zCe;rw[show n - 1=m by omega,hR2,← hR1];rfl
 rw[e]
 clear e hm
 go_enter Tryz.func74,Tryz.ntmps74
 go_wp2_with first
  | (go_at_call 88;refine(zAt _ _ _).mono ?_;rintro e w' ⟨rfl,rfl⟩)
  | (go_at_call 87;refine(vA _ _ aO aO).mono ?_;rintro e w' ⟨rfl,rfl⟩)
  | (go_at_call 86;refine(vW _ _ aO aO).mono ?_;rintro e w' ⟨rfl,rfl⟩)
  | (go_at_call 90;refine(vD _ _ aO aO).mono ?_;rintro e w' ⟨rfl,rfl⟩)
  | (go_at_call 89;refine(uK _ _).mono ?_;rintro e w' ⟨rfl,rfl⟩)
  | (go_at_call 92;have h5:=HH.out;refine(zBp R2 1 _ aO aO aO).mono ?_;rintro e w' ⟨rfl,rfl⟩;simp only[hR1])
  | (go_at_call 92;refine(zBp (vP a) m _ aO aO aO).mono ?_;rintro e w' ⟨rfl,rfl⟩;simp only[hR2];have HH:Hid (R2=R2):=rfl)
 go_ret
 refine⟨vE ?_,rfl⟩
 have h1:=yV (R1%4294967296)
 have hq:R2%4294967296%2=R2%2:=aO
 rw[hq]
 have h2:=yR (R2%2==1) 4 aO
 omega
theorem zMi(a b old:Nat)(w:World)(ha:a < 4294967296)(hb:b < 4294967296)(ho:old < 4294967296)(h0:0 < b%32):Calls Tryz.prog 74 #[.int .i64 9,.int .u32 a,.int .u32 b,.int .u32 old] w fun e w'=>e=.returned (.int .u32 (zBH a (b%32) old))∧w=w':=by
 have ha0:(0:Int)≤a:=aO
 have ha1:(a:Int) < 4294967296:=aO
 have hb0:(0:Int)≤b:=aO
 have hb1:(b:Int) < 4294967296:=aO
 have ho0:(0:Int)≤old:=aO
 have ho1:(old:Int) < 4294967296:=aO
 obtain⟨s1,s2⟩:=vJ a ha0 ha1
 obtain⟨s3,s4⟩:=vJ b hb0 hb1
 obtain⟨n,hn⟩:∃ n,b%32=n:=⟨_,rfl⟩
 have hnb:0 < n∧n≤31:=aO
 rw[hn]
 have hni:(b:Int)%32=(n:Int):=aO
 have hn0:(0:Int) < n:=aO
 have hn1:(n:Int)≤31:=aO
 have hnz:((n:Int)==0)=false:=by simp;omega
 have hnz':(n==0)=false:=by simp;omega
 have HN:Hid (0 < n∧n≤31):=hnb
 clear hn hnb h0
 obtain⟨T,hT⟩:∃ T,vT n a=T:=⟨_,rfl⟩
 have bT:=uO n a ha0 ha1
 rw[hT] at bT
 obtain⟨bT0,bT1⟩:=bT
 have hc0:=zAM old
 obtain⟨c,hc⟩:∃ c,vM old=c:=⟨_,rfl⟩
 have hci:(old:Int)%16 / 4%2=c:=by rw[← hc];unfold vM;omega
 rw[hc] at hc0
 obtain⟨hc1,hc2⟩:=hc0
 have e:zBH a n old=(old:Int)%16 - c*4+uH (T%2==1) 4:=by
  unfold zBH;rw[hT,hc];simp
 rw[e]
 have HT:Hid (vT n (a:Int)=T):=hT
 clear hT hc e
 go_enter Tryz.func74,Tryz.ntmps74
 go_wp2_with first
  | (go_at_call 88;refine(zAt _ _ _).mono ?_;rintro e w' ⟨rfl,rfl⟩)
  | (go_at_call 87;refine(vA _ _ aO aO).mono ?_;rintro e w' ⟨rfl,rfl⟩)
  | (go_at_call 86;refine(vW _ _ aO aO).mono ?_;rintro e w' ⟨rfl,rfl⟩)
  | (go_at_call 90;refine(vD _ _ aO aO).mono ?_;rintro e w' ⟨rfl,rfl⟩)
  | (go_at_call 89;refine(uK _ _).mono ?_;rintro e w' ⟨rfl,rfl⟩)
  | (go_at_call 93;refine(zIa _ n _ _ HT.out ha0 ha1 aO).mono ?_;rintro e w' ⟨rfl,rfl⟩)
 go_ret
 refine⟨vE ?_,rfl⟩
 have h2:=yR (T%2==1) 4 aO
 omega
theorem zI0(k:Int)(a b old:Nat)(w:World)(ha:a < 4294967296)(hb:b < 4294967296)(ho:old < 4294967296)(hk:k < 1∨12 < k):Calls Tryz.prog 74 #[.int .i64 k,.int .u32 a,.int .u32 b,.int .u32 old] w fun e w'=>e=.returned (.int .u32 ((old:Int)%16))∧w=w':=by
 have ho0:(0:Int)≤old:=aO
 have hb0:(0:Int)≤b:=aO
 have e1:(k==1)=false:=by simp;omega
 have e2:(k==2)=false:=by simp;omega
 have e3:(k==3)=false:=by simp;omega
 have e4:(k==4)=false:=by simp;omega
 have e5:(k==5)=false:=by simp;omega
 have e10:(k==10)=false:=by simp;omega
 have e11:(k==11)=false:=by simp;omega
 have e12:(k==12)=false:=by simp;omega
 have g2:(k !=2)=true:=by simp[bne,e2]
 have g4:(k !=4)=true:=by simp[bne,e4]
 rcases hk with hk|hk
 ·have d6:decide (k < 6)=true:=aT
  clear hk
  go_enter Tryz.func74,Tryz.ntmps74
  go_wp2
  go_ret
  exact⟨rfl,rfl⟩
 ·have d6:decide (k < 6)=false:=aF
  have d9:decide (9 < k)=true:=aT
  clear hk
  go_enter Tryz.func74,Tryz.ntmps74
  go_wp2
  go_ret
  exact⟨rfl,rfl⟩
theorem zBc(k:Int)(a b old:Nat)(w:World)(ha:a < 4294967296)(hb:b < 4294967296)(ho:old < 4294967296)(hk:k=6∨k=7∨k=8∨k=9)(h0:b%32=0):Calls Tryz.prog 74 #[.int .i64 k,.int .u32 a,.int .u32 b,.int .u32 old] w fun e w'=>e=.returned (.int .u32 ((old:Int)%16))∧w=w':=by
 have ho0:(0:Int)≤old:=aO
 have hb0:(0:Int)≤b:=aO
 have hbi:(b:Int)%32=0:=aO
 rcases hk with rfl|rfl|rfl|rfl
 all_goals
  go_enter Tryz.func74,Tryz.ntmps74
  go_wp2
  go_ret
  exact⟨rfl,rfl⟩
def zN(k:Int)(a b old:Nat):Int:=
 if k=1 then zBa a b 0 else if k=2 then zBa a b (vM old) else if k=3 then zBi a b 0 else if k=4 then zBi a b (vM old)
 else if k=5 then yC a else if k=10 then zBG a b else if k=11 then zDD a old else if k=12 then zDC a old
 else if(k=6∨k=7∨k=8∨k=9)∧0 < b%32 then
  (if k=6 then zCf a (b%32) else if k=7 then zCg a (b%32) else if k=8 then zCe a (b%32) else zBH a (b%32) old)
 else(old:Int)%16
theorem vV(k:Int)(a b old:Nat)(w:World)(ha:a < 4294967296)(hb:b < 4294967296)(ho:old < 4294967296):Calls Tryz.prog 74 #[.int .i64 k,.int .u32 a,.int .u32 b,.int .u32 old] w fun e w'=>e=.returned (.int .u32 (zN k a b old))∧w=w':=by
 by_cases hk:k < 1∨12 < k
 ·have e:zN k a b old=(old:Int)%16:=by
   unfold zN
   repeat rw[if_neg aO]
  rw[e];exact zI0 k a b old w ha hb ho hk
 ·have hc:k=1∨k=2∨k=3∨k=4∨k=5∨k=6∨k=7∨k=8∨k=9∨k=10∨k=11∨k=12:=aO
  by_cases h0:0 < b%32
  ·rcases hc with rfl|rfl|rfl|rfl|rfl|rfl|rfl|rfl|rfl|rfl|rfl|rfl
   ·exact zIp a b old w ha hb ho
   ·exact zIq a b old w ha hb ho
   ·exact zIr a b old w ha hb ho
   ·exact zIs a b old w ha hb ho
   ·exact zFX a b old w ha hb ho
   ·have e:zN 6 a b old=zCf a (b%32):=by simp[zN,h0]
    rw[e];exact zMf a b old w ha hb ho h0
   ·have e:zN 7 a b old=zCg a (b%32):=by simp[zN,h0]
    rw[e];exact zMg a b old w ha hb ho h0
   ·have e:zN 8 a b old=zCe a (b%32):=by simp[zN,h0]
    rw[e];exact zMh a b old w ha hb ho h0
   ·have e:zN 9 a b old=zBH a (b%32) old:=by simp[zN,h0]
    rw[e];exact zMi a b old w ha hb ho h0
   ·exact zG1 a b old w ha hb ho
   ·exact zG2 a b old w ha hb ho
   ·exact zG3 a b old w ha hb ho
  ·have hz:b%32=0:=aO
   rcases hc with rfl|rfl|rfl|rfl|rfl|rfl|rfl|rfl|rfl|rfl|rfl|rfl
   ·exact zIp a b old w ha hb ho
   ·exact zIq a b old w ha hb ho
   ·exact zIr a b old w ha hb ho
   ·exact zIs a b old w ha hb ho
   ·exact zFX a b old w ha hb ho
   ·have e:zN 6 a b old=(old:Int)%16:=by simp[zN,hz]
    rw[e];exact zBc 6 a b old w ha hb ho aO hz
   ·have e:zN 7 a b old=(old:Int)%16:=by simp[zN,hz]
    rw[e];exact zBc 7 a b old w ha hb ho aO hz
   ·have e:zN 8 a b old=(old:Int)%16:=by simp[zN,hz]
    rw[e];exact zBc 8 a b old w ha hb ho aO hz
   ·have e:zN 9 a b old=(old:Int)%16:=by simp[zN,hz]
    rw[e];exact zBc 9 a b old w ha hb ho aO hz
   ·exact zG1 a b old w ha hb ho
   ·exact zG2 a b old w ha hb ho
   ·exact zG3 a b old w ha hb ho
def zNZ(q:Int)(z n y v:Bool):Bool:=
 if q=0 then v else if q=1 then y else if q=2 then z else if q=3 then(y || z) else if q=4 then n else if q=5 then(n !=v) else if q=6 then(z || (n !=v)) else true
def zH(c:Int)(z n y v:Bool):Bool:=if c < 0∨15 < c then false else if c%2=1 then !(zNZ (c / 2) z n y v) else zNZ (c / 2) z n y v
def zO(c:Int)(f:Nat):Bool:=zH c ((f:Int)%2==1) ((f:Int) / 2%2==1) ((f:Int) / 4%2==1) ((f:Int) / 8%2==1)
theorem zJk(c:Int)(f:Nat)(w:World)(hc:c < 0∨15 < c):Calls Tryz.prog 77 #[.int .i64 c,.int .u32 f] w fun e w'=>e=.returned (.bool (zO c f))∧Below w.heap.size w w':=by
 have e:zO c f=false:=by unfold zO zH;rw[if_pos hc]
 rw[e]
 rcases hc with h|h
 ·have d:decide (c < 0)=true:=decide_eq_true h
  go_enter Tryz.func77,Tryz.ntmps77
  go_wp2
  go_ret
  exact⟨rfl,Below.refl _ _⟩
 ·have d:decide (c < 0)=false:=aF
  have d2:decide (15 < c)=true:=decide_eq_true h
  go_enter Tryz.func77,Tryz.ntmps77
  go_wp2
  go_ret
  exact⟨rfl,Below.refl _ _⟩
end Go.Proofs.YthcpipfmicbnmaaGreat.Va.Fl
