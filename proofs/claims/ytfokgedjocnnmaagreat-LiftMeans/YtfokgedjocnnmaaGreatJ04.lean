import Derived.Test.YtfokgedjocnnmaaGreatZQ
import Derived.WalkKit
import Derived.WalkSpells
import Derived.WalkLawsBesides
import Derived.Deep.QuietTactic
import Derived.BigQuiet
import Derived.BigRegion
import Derived.KernelRfl
import Derived.LoopN
import Derived.Laws.BitsAllLaws
set_option linter.unusedVariables false
set_option linter.unusedSimpArgs false
set_option maxHeartbeats 1000000
namespace Go.Proofs.YtfokgedjocnnmaaGreat.Fl
open Go.RowKit
set_option maxRecDepth 100000
theorem ret_int{k:IntKind}{a b:Int}(h:a=b):Ending.returned (.int k a)=.returned (.int k b):=by rw[h]
def isF(b:Bool)(f:Int):Int:=if b then f else 0
theorem is_any(b:Bool)(f:Int)(w:World):Calls Tryz.prog 64 #[.bool b,.int .u32 f] w fun e w'=>e=.returned (.int .u32 (isF b f))∧w=w':=by
 cases b
 ·go_enter Tryz.func64,Tryz.ntmps64;go_wp2;go_ret;exact⟨rfl,rfl⟩
 ·go_enter Tryz.func64,Tryz.ntmps64;go_wp2;go_ret;exact⟨rfl,rfl⟩
theorem word_any(x:Int)(w:World)(h0 : -1099511627776≤x)(h1:x≤1099511627776):Calls Tryz.prog 90 #[.int .i64 x] w fun e w'=>e=.returned (.int .u32 (x%4294967296))∧w=w':=by
 obtain⟨m,hm⟩:∃ m,x.tmod 4294967296=m:=⟨_,rfl⟩
 have hm1 : -4294967296 < m∧m < 4294967296∧(m+4294967296)%4294967296=x%4294967296:=by
  rw[← hm]
  by_cases hx:0≤x
  ·rw[Int.tmod_eq_emod_of_nonneg hx];omega
  ·have hn:x.tmod 4294967296 = -((-x)%4294967296):=by
    have:=Int.neg_tmod (a:=-x) (b:=4294967296)
    rw[Int.neg_neg] at this
    rw[this,Int.tmod_eq_emod_of_nonneg zo]
   rw[hn];omega
 have hr:(m+4294967296).tmod 4294967296=(m+4294967296)%4294967296:=Int.tmod_eq_emod_of_nonneg zo
 have HE:Hid ((m+4294967296)%4294967296=x%4294967296):=hm1.2.2
 obtain⟨hm2,hm3,-⟩:=hm1
 have hs:0≤m+4294967296:=zo
 go_enter Tryz.func90,Tryz.ntmps90
 go_wp2
 go_ret
 exact⟨ret_int (by have:=HE.out;omega),rfl⟩
def sgn(x:Int):Int:=if 2147483648≤x then x - 4294967296 else x
theorem sgn_bd(x:Int)(h0:0≤x)(h1:x < 4294967296) : -2147483648≤sgn x∧sgn x < 2147483648:=by unfold sgn;split<;>omega
theorem signed_any(x:Int)(w:World)(h0:0≤x)(h1:x < 4294967296):Calls Tryz.prog 92 #[.int .u32 x] w fun e w'=>e=.returned (.int .i64 (sgn x))∧w=w':=by
 by_cases h:2147483648≤x
 ·rw[sgn,if_pos h]
  go_enter Tryz.func92,Tryz.ntmps92;go_wp2;go_ret;exact⟨rfl,rfl⟩
 ·rw[sgn,if_neg h]
  go_enter Tryz.func92,Tryz.ntmps92;go_wp2;go_ret;exact⟨rfl,rfl⟩
def pastB(x:Int):Bool:=decide (2147483648≤x∨x < -2147483648)
theorem past_any(x:Int)(w:World):Calls Tryz.prog 91 #[.int .i64 x] w fun e w'=>e=.returned (.bool (pastB x))∧w=w':=by
 by_cases h:2147483648≤x
 ·have e:pastB x=true:=decide_eq_true (.inl h)
  have d:decide (2147483648≤x)=true:=decide_eq_true h
  rw[e]
  go_enter Tryz.func91,Tryz.ntmps91;go_wp2;go_ret;exact⟨rfl,rfl⟩
 ·have d:decide (2147483648≤x)=false:=decide_eq_false h
  by_cases h2:x < -2147483648
  ·have e:pastB x=true:=decide_eq_true (.inr h2)
   have d2:decide (x < -2147483648)=true:=decide_eq_true h2
   rw[e]
   go_enter Tryz.func91,Tryz.ntmps91;go_wp2;go_ret;exact⟨rfl,rfl⟩
  ·have e:pastB x=false:=decide_eq_false zo
   have d2:decide (x < -2147483648)=false:=decide_eq_false h2
   rw[e]
   go_enter Tryz.func91,Tryz.ntmps91;go_wp2;go_ret;exact⟨rfl,rfl⟩
def valF(x:Int):Int:=isF (x==0) 1+isF (decide (2147483648≤x)) 2
theorem isF_bd(b:Bool)(f:Int)(h:0≤f):0≤isF b f∧isF b f≤f:=by unfold isF;split<;>omega
theorem valF_bd(x:Int):0≤valF x∧valF x≤3:=by
 have h1:=isF_bd (x==0) 1 zo
 have h2:=isF_bd (decide (2147483648≤x)) 2 zo
 unfold valF;omega
theorem value_any(x:Int)(w:World)(h0:0≤x)(h1:x < 4294967296):Calls Tryz.prog 89 #[.int .u32 x] w fun e w'=>e=.returned (.int .u32 (valF x))∧w=w':=by
 have b1:=isF_bd (x==0) 1 zo
 have b2:=isF_bd (decide (2147483648≤x)) 2 zo
 obtain⟨p,hp⟩:∃ p,isF (x==0) 1=p:=⟨_,rfl⟩
 obtain⟨q,hq⟩:∃ q,isF (decide (2147483648≤x)) 2=q:=⟨_,rfl⟩
 rw[hp] at b1
 rw[hq] at b2
 have HE:Hid (isF (x==0) 1=p∧isF (decide (2147483648≤x)) 2=q∧valF x=p+q):=⟨hp,hq,by unfold valF;rw[hp,hq]⟩
 clear hp hq
 go_enter Tryz.func89,Tryz.ntmps89
 go_wp2_with (go_at_call 64;refine(is_any _ _ _).mono ?_;rintro e w' ⟨rfl,rfl⟩)
 go_ret
 exact⟨ret_int (by rw[HE.out.1,HE.out.2.1,HE.out.2.2];omega),rfl⟩
theorem half_step(x:Int):(if x < 0 then(x - 1).tdiv 2 else x.tdiv 2)=x / 2:=by
 split
 ·have:(x - 1).tdiv 2 = -((1 - x) / 2):=by
   have h:=Int.neg_tdiv (a:=1 - x) (b:=2)
   rw[Int.neg_sub] at h
   rw[h,Int.tdiv_eq_ediv_of_nonneg zo]
  rw[this];omega
 ·rw[Int.tdiv_eq_ediv_of_nonneg zo]
theorem half_any(x:Int)(n:Nat)(w:World)(h0 : -4294967296≤x)(h1:x≤4294967296)(hn:n≤32):Calls Tryz.prog 94 #[.int .i64 x,.int .u32 n] w fun e w'=>e=.returned (.int .i64 (x / 2 ^ n))∧w=w':=by
 obtain⟨R,hR⟩:∃ R,x / 2 ^ n=R:=⟨_,rfl⟩
 rw[hR]
 have HR:Hid (x / 2 ^ n=R):=hR
 have HB:Hid (-4294967296≤x∧x≤4294967296):=⟨h0,h1⟩
 clear hR h0 h1
 go_enter Tryz.func94,Tryz.ntmps94
 go_wp2
 go_loop [0,1] (fun xx nn=>∃ (y:Int) (m:Nat),xx=.int .i64 y∧nn=.int .u32 m∧(-4294967296≤y∧y≤4294967296)∧m≤32∧y / 2 ^ m=R) (fun _ nn=>(intOf nn).toNat)
 case atStart=>exact⟨x,n,rfl,rfl,HB.out,hn,HR.out⟩
 case round=>
  obtain⟨y,m,rfl,rfl,hy,hm,hq⟩:=hrel
  have HQ:Hid (y / 2 ^ m=R):=hq
  clear hq HR HB
  obtain⟨hy0,hy1⟩:=hy
  by_cases hm0:0 < m
  ·have hmi:(0:Int) < m:=zo
   have hmi2:(m:Int)≤32:=zo
   have HN:Hid ((y / 2) / 2 ^ (m - 1)=R):=show _=_ by
    rw[← HQ.out,Int.ediv_ediv_of_nonneg zo]
    congr 1
    rw[show m=(m - 1)+1 by omega,Int.pow_succ]
    simp[Int.mul_comm]
   have hst:=half_step y
   by_cases hneg:y < 0
   ·rw[if_pos hneg] at hst
    go_wp2
    go_round
    case rel=>exact⟨y / 2,m - 1,by go_num,by go_num,by omega,by omega,HN.out⟩
    case measure=>simp[intOf];omega
   ·rw[if_neg hneg] at hst
    have hy00:0≤y:=zo
    go_wp2
    go_round
    case rel=>exact⟨y / 2,m - 1,by go_num,by go_num,by omega,by omega,HN.out⟩
    case measure=>simp[intOf];omega
  ·have hmz:m=0:=zo
   subst hmz
   go_wp2
   go_ret
   exact⟨ret_int (by rw[← HQ.out];simp),rfl⟩
theorem double_any(x n:Nat)(w:World)(h1:x < 4294967296)(hn:n≤31):Calls Tryz.prog 93 #[.int .u32 x,.int .u32 n] w fun e w'=>e=.returned (.int .u64 ((x*2 ^ n:Nat):Int))∧w=w':=by
 obtain⟨R,hR⟩:∃ R,x*2 ^ n=R:=⟨_,rfl⟩
 have hRb:R < 18446744073709551616:=by
  rw[← hR]
  have:2 ^ n≤2 ^ 31:=Nat.pow_le_pow_right (by decide) hn
  calc x*2 ^ n≤x*2 ^ 31:=Nat.mul_le_mul_left _ this
   _ < 18446744073709551616:=zo
 rw[hR]
 have HR:Hid (x*2 ^ n=R∧R < 18446744073709551616):=⟨hR,hRb⟩
 have hx0:(0:Int)≤x:=zo
 have hx1:(x:Int) < 4294967296:=zo
 clear hR hRb
 go_enter Tryz.func93,Tryz.ntmps93
 go_wp2
 go_loop [1,5] (fun nn yy=>∃ (y m:Nat),yy=.int .u64 y∧nn=.int .u32 m∧m≤31∧y*2 ^ m=R) (fun nn _=>(intOf nn).toNat)
 case atStart=>exact⟨x,n,rfl,rfl,hn,HR.out.1⟩
 case round=>
  obtain⟨y,m,rfl,rfl,hm,hq⟩:=hrel
  have HQ:Hid (y*2 ^ m=R):=hq
  clear hq
  by_cases hm0:0 < m
  ·have hmi:(0:Int) < m:=zo
   have hmi2:(m:Int)≤32:=zo
   have HN:Hid ((2*y)*2 ^ (m - 1)=R):=show _=_ by
    have hp:2 ^ m=2*2 ^ (m - 1):=by
     have:m=(m - 1)+1:=zo
     rw[this,Nat.pow_succ,Nat.add_sub_cancel];omega
    rw[← HQ.out,hp,← Nat.mul_assoc,Nat.mul_comm 2 y]
   have hy2:2*y < 18446744073709551616:=by
    have h1:=HN.out
    have h2:=HR.out.2
    have h3:2*y≤(2*y)*2 ^ (m - 1):=Nat.le_mul_of_pos_right _ (Nat.pow_pos (by decide))
    omega
   have hyi:2*(y:Int) < 18446744073709551616:=zo
   have hy0:(0:Int)≤y:=zo
   go_wp2
   go_round
   case rel=>exact⟨2*y,m - 1,by go_num,by go_num,by omega,HN.out⟩
   case measure=>simp[intOf];omega
  ·have hmz:m=0:=zo
   subst hmz
   go_wp2
   go_ret
   exact⟨ret_int (by rw[← HQ.out];simp),rfl⟩
def tur1(x:Int):Int:=2*x%4294967296+x / 2147483648
def turN:Nat→Int→Int
 | 0,x=>x
 | n+1,x=>turN n (tur1 x)
theorem tur1_bd(x:Int)(h0:0≤x)(h1:x < 4294967296):0≤tur1 x∧tur1 x < 4294967296:=by unfold tur1;omega
theorem turned_any(x:Int)(n:Nat)(w:World)(h0:0≤x)(h1:x < 4294967296)(hn:n≤32):Calls Tryz.prog 95 #[.int .u32 x,.int .u32 n] w fun e w'=>e=.returned (.int .u32 (turN n x))∧w=w':=by
 obtain⟨R,hR⟩:∃ R,turN n x=R:=⟨_,rfl⟩
 rw[hR]
 have HR:Hid (turN n x=R):=hR
 have HB:Hid (0≤x∧x < 4294967296):=⟨h0,h1⟩
 clear hR h0 h1
 go_enter Tryz.func95,Tryz.ntmps95
 go_wp2
 go_loop [0,1] (fun xx nn=>∃ (y:Int) (m:Nat),xx=.int .u32 y∧nn=.int .u32 m∧(0≤y∧y < 4294967296)∧m≤32∧turN m y=R) (fun _ nn=>(intOf nn).toNat)
 case atStart=>exact⟨x,n,rfl,rfl,HB.out,hn,HR.out⟩
 case round=>
  obtain⟨y,m,rfl,rfl,hy,hm,hq⟩:=hrel
  have HQ:Hid (turN m y=R):=hq
  clear hq HR HB
  obtain⟨hy0,hy1⟩:=hy
  cases m with
  | zero=>
   go_wp2
   go_ret
   exact⟨ret_int HQ.out,rfl⟩
  | succ m=>
   have hb:=tur1_bd y hy0 hy1
   obtain⟨t,ht⟩:∃ t,tur1 y=t:=⟨_,rfl⟩
   have HT:Hid (2*y%4294967296+y / 2147483648=t∧turN m t=R):=⟨ht,by rw[← ht];exact HQ.out⟩
   rw[ht] at hb
   obtain⟨hb0,hb1⟩:=hb
   have hu:2*y%4294967296+y / 2147483648=t:=HT.out.1
   clear ht HQ
   go_wp2_with (go_at_call 90;refine(word_any _ _ zo zo).mono ?_;rintro e w' ⟨rfl,rfl⟩)
   go_round
   case rel=>exact⟨t,m,by go_num,by go_num,by omega,by omega,HT.out.2⟩
   case measure=>simp[intOf]
def bitN(o:Int)(a b:Nat):Nat:=if o=5 then a ||| b else if o=6 then a ^^^ b else a &&& b
theorem tb(n k:Nat):n / 2 ^ k%2=(n.testBit k).toNat:=by
 rw[Nat.testBit_eq_decide_div_mod_eq]
 have h:=Nat.mod_two_eq_zero_or_one (n / 2 ^ k)
 rcases h with h|h<;>rw[h]<;>rfl
theorem bit_and(a b k:Nat):(a &&& b) / 2 ^ k%2=(a / 2 ^ k%2)*(b / 2 ^ k%2):=by
 rw[tb,tb,tb,Nat.testBit_and]
 cases a.testBit k<;>cases b.testBit k<;>rfl
theorem bit_or(a b k:Nat):(a ||| b) / 2 ^ k%2=(a / 2 ^ k%2)+(b / 2 ^ k%2) - (a / 2 ^ k%2)*(b / 2 ^ k%2):=by
 rw[tb,tb,tb,Nat.testBit_or]
 cases a.testBit k<;>cases b.testBit k<;>rfl
theorem bit_xor(a b k:Nat):(a ^^^ b) / 2 ^ k%2=((a / 2 ^ k%2)+(b / 2 ^ k%2))%2:=by
 rw[tb,tb,tb,Nat.testBit_xor]
 cases a.testBit k<;>cases b.testBit k<;>rfl
theorem bit_low(n k:Nat):n / 2 ^ k=2*(n / 2 ^ (k+1))+n / 2 ^ k%2:=by
 rw[Nat.pow_succ,← Nat.div_div_eq_div_mul];omega
theorem bitN_lt(o:Int)(a b:Nat)(ha:a < 4294967296)(hb:b < 4294967296):bitN o a b < 4294967296:=by
 unfold bitN
 split
 ·exact Nat.or_lt_two_pow (n:=32) ha hb
 ·split
  ·exact Nat.xor_lt_two_pow (n:=32) ha hb
  ·exact Nat.and_lt_two_pow (n:=32) _ hb
structure BitR(o:Int)(a b j:Nat)(x:Int):Prop where
 le:j≤32
 eq:x=((bitN o a b / 2 ^ j:Nat):Int)
 lt:bitN o a b < 4294967296
theorem bits_one(o:Int)(a b t:Nat)(P Q:Nat)(hP:P=a / 2 ^ t%2)(hQ:Q=b / 2 ^ t%2)(ha:a < 4294967296)(hb:b < 4294967296) :
  bitN o a b / 2 ^ t=2*(bitN o a b / 2 ^ (t+1))+(if o=5 then P+Q - P*Q else if o=6 then(P+Q)%2 else P*Q):=by
 rw[bit_low (bitN o a b) t]
 congr 1
 unfold bitN
 subst hP hQ
 split
 ·rw[bit_or]
 ·split
  ·rw[bit_xor]
  ·rw[bit_and]
theorem bits_any(o:Int)(a b:Nat)(w:World)(ha:a < 4294967296)(hb:b < 4294967296):Calls Tryz.prog 96 #[.int .i64 o,.int .u32 a,.int .u32 b] w fun e w'=>e=.returned (.int .u32 (bitN o a b))∧w=w':=by
 have hlt:=bitN_lt o a b ha hb
 have HLT:Hid (bitN o a b < 4294967296):=hlt
 have ha0:(0:Int)≤a:=zo
 have ha1:(a:Int) < 4294967296:=zo
 have hb0:(0:Int)≤b:=zo
 have hb1:(b:Int) < 4294967296:=zo
 clear hlt
 have hc:((o==5)=true)∨((o==5)=false∧(o==6)=true)∨((o==5)=false∧(o==6)=false):=by
  cases h5:(o==5)
  ·cases h6:(o==6)
   ·exact .inr (.inr ⟨rfl,rfl⟩)
   ·exact .inr (.inl ⟨rfl,rfl⟩)
  ·exact .inl rfl
 go_enter Tryz.func96,Tryz.ntmps96
 go_wp2
 go_loop [7,8] (fun xx kk=>∃ (j:Nat) (x:Int),kk=.int .i64 ((j:Int) - 1)∧xx=.int .u32 x∧BitR o a b j x) (fun _ kk=>(intOf kk+1).toNat)
 case atStart=>exact⟨32,0,rfl,rfl,⟨Nat.le_refl _,by rw[Nat.div_eq_of_lt HLT.out];rfl,HLT.out⟩⟩
 case round=>
  obtain⟨j,x,rfl,rfl,hj,hx,hl⟩:=hrel
  cases j with
  | zero=>
   have hz:((0:Nat):Int) - 1 = -1:=rfl
   rw[hz]
   have HX:Hid (x=(bitN o a b:Int)):=show _=_ by simpa using hx
   clear hx hz
   go_wp2
   go_ret
   exact⟨ret_int HX.out,rfl⟩
  | succ t=>
   have e:((t+1:Nat):Int) - 1=(t:Int):=zo
   rw[e]
   obtain⟨P,hP⟩:∃ P,P=a / 2 ^ t%2:=⟨_,rfl⟩
   obtain⟨Q,hQ⟩:∃ Q,Q=b / 2 ^ t%2:=⟨_,rfl⟩
   have H1:Hid (bitN o a b / 2 ^ t=2*(bitN o a b / 2 ^ (t+1))+(if o=5 then P+Q - P*Q else if o=6 then(P+Q)%2 else P*Q)):=bits_one o a b t P Q hP hQ ha hb
   have HX:Hid (x=((bitN o a b / 2 ^ (t+1):Nat):Int)):=hx
   have ht0:(0:Int)≤t:=zo
   have ht1:(t:Int)≤31:=zo
   clear hx e
   have hPb:P=0∨P=1:=zo
   have hQb:Q=0∨Q=1:=zo
   obtain⟨A,hA⟩:∃ A:Nat,a / 2 ^ t=A:=⟨_,rfl⟩
   obtain⟨B,hB⟩:∃ B:Nat,b / 2 ^ t=B:=⟨_,rfl⟩
   rw[hA] at hP
   rw[hB] at hQ
   have hAi:(a:Int) / 2 ^ t=(A:Int):=by rw[← hA];simp
   have hBi:(b:Int) / 2 ^ t=(B:Int):=by rw[← hB];simp
   have hA0:(0:Int)≤A:=zo
   have hB0:(0:Int)≤B:=zo
   have hA1:(A:Int) < 4294967296:=by
     have:A≤a:=by rw[← hA];exact Nat.div_le_self _ _
     omega
   have hB1:(B:Int) < 4294967296:=by
     have:B≤b:=by rw[← hB];exact Nat.div_le_self _ _
     omega
   have hAm:(A:Int)%2=(P:Int):=zo
   have hBm:(B:Int)%2=(Q:Int):=zo
   obtain⟨y,hy⟩:∃ y:Nat,bitN o a b / 2 ^ (t+1)=y:=⟨_,rfl⟩
   have hxy:x=(y:Int):=by rw[HX.out,hy]
   have hle:bitN o a b / 2 ^ t < 4294967296:=Nat.lt_of_le_of_lt (Nat.div_le_self _ _) hl
   obtain⟨z,hz⟩:∃ z:Nat,bitN o a b / 2 ^ t=z:=⟨_,rfl⟩
   have hzz:z=2*y+(if o=5 then P+Q - P*Q else if o=6 then(P+Q)%2 else P*Q):=by rw[← hz,H1.out,hy]
   have HZ:Hid (bitN o a b / 2 ^ t=z):=hz
   rw[hz] at hle
   have HJ:Hid (t≤32∧bitN o a b < 4294967296):=⟨by omega,hl⟩
   have hy0:(0:Int)≤y:=zo
   subst hxy
   clear hA hB hP hQ hy H1 HX HLT hz hl hj
   rcases hc with h5|⟨h5,h6⟩|⟨h5,h6⟩
   ·have ho:o=5:=by simpa using h5
    subst ho
    clear h5
    rcases hPb with rfl|rfl<;>rcases hQb with rfl|rfl
    all_goals
     simp at hzz
     have hy2:2*(y:Int)+1≤4294967296:=zo
     have HY:Hid (z < 4294967296∧z=z):=⟨hle,rfl⟩
     have hzi:(z:Int) < 4294967296:=zo
     subst hzz
     go_wp2
     go_round
     case rel=>exact⟨t,_,by go_num,by go_num,⟨HJ.out.1,by rw[HZ.out];go_num,HJ.out.2⟩⟩
     case measure=>simp[intOf]
   ·have ho:o=6:=by simpa using h6
    subst ho
    clear h5 h6
    rcases hPb with rfl|rfl<;>rcases hQb with rfl|rfl
    all_goals
     simp at hzz
     have hy2:2*(y:Int)+1≤4294967296:=zo
     have hzi:(z:Int) < 4294967296:=zo
     subst hzz
     go_wp2
     go_round
     case rel=>exact⟨t,_,by go_num,by go_num,⟨HJ.out.1,by rw[HZ.out];go_num,HJ.out.2⟩⟩
     case measure=>simp[intOf]
   ·have ho5:¬o=5:=by simpa using h5
    have ho6:¬o=6:=by simpa using h6
    rw[if_neg ho5,if_neg ho6] at hzz
    clear ho5 ho6
    rcases hPb with rfl|rfl<;>rcases hQb with rfl|rfl
    all_goals
     simp at hzz
     have hy2:2*(y:Int)+1≤4294967296:=zo
     have hzi:(z:Int) < 4294967296:=zo
     subst hzz
     go_wp2
     go_round
     case rel=>exact⟨t,_,by go_num,by go_num,⟨HJ.out.1,by rw[HZ.out];go_num,HJ.out.2⟩⟩
     case measure=>simp[intOf]
def carF(old:Nat):Int:=((old%16 / 4%2:Nat):Int)
theorem carF_bd(old:Nat):0≤carF old∧carF old≤1:=by unfold carF;omega
def addF(a b:Nat)(c:Int):Int:=valF (((a:Int)+b+c)%4294967296)+isF (decide (4294967296≤(a:Int)+b+c)) 4+isF (pastB (sgn a+sgn b+c)) 8
def subF(a b:Nat)(c:Int):Int:=valF (((a:Int) - b - c)%4294967296)+isF (decide ((a:Int) - b - c < 0)) 4+isF (pastB (sgn a - sgn b - c)) 8
def mulF(a b:Nat):Int:=valF ((a*b%4294967296:Nat):Int)+isF (decide (4294967296≤a*b)) 12
def incF(a old:Nat):Int:=valF (((a:Int)+1)%4294967296)+carF old*4+isF (pastB (sgn a+1)) 8
def decF(a old:Nat):Int:=valF (((a:Int) - 1)%4294967296)+carF old*4+isF (pastB (sgn a - 1)) 8
def shlF(a n:Nat):Int:=valF ((a*2 ^ n%4294967296:Nat):Int)+isF (a*2 ^ n / 4294967296%2==1) 4
def shrF(a n:Nat):Int:=valF ((a:Int) / 2 ^ n)+isF ((a:Int) / 2 ^ (n - 1)%2==1) 4
def sarF(a n:Nat):Int:=valF (sgn a / 2 ^ (n - 1) / 2%4294967296)+isF (sgn a / 2 ^ (n - 1)%4294967296%2==1) 4
def rolF(a n old:Nat):Int:=((old%16:Nat):Int) - carF old*4+isF (turN n a%2==1) 4
theorem flags1(a b old:Nat)(w:World)(ha:a < 4294967296)(hb:b < 4294967296)(ho:old < 4294967296):Calls Tryz.prog 62 #[.int .i64 1,.int .u32 a,.int .u32 b,.int .u32 old] w fun e w'=>e=.returned (.int .u32 (addF a b 0))∧w=w':=by
 have ha0:(0:Int)≤a:=zo
 have ha1:(a:Int) < 4294967296:=zo
 have hb0:(0:Int)≤b:=zo
 have hb1:(b:Int) < 4294967296:=zo
 have ho0:(0:Int)≤old:=zo
 have ho1:(old:Int) < 4294967296:=zo
 obtain⟨s1,s2⟩:=sgn_bd a ha0 ha1
 obtain⟨s3,s4⟩:=sgn_bd b hb0 hb1
 go_enter Tryz.func62,Tryz.ntmps62
 go_wp2_with first
  | (go_at_call 64;refine(is_any _ _ _).mono ?_;rintro e w' ⟨rfl,rfl⟩)
  | (go_at_call 90;refine(word_any _ _ zo zo).mono ?_;rintro e w' ⟨rfl,rfl⟩)
  | (go_at_call 89;refine(value_any _ _ zo zo).mono ?_;rintro e w' ⟨rfl,rfl⟩)
  | (go_at_call 92;refine(signed_any _ _ zo zo).mono ?_;rintro e w' ⟨rfl,rfl⟩)
  | (go_at_call 91;refine(past_any _ _).mono ?_;rintro e w' ⟨rfl,rfl⟩)
 go_ret
 refine⟨ret_int ?_,rfl⟩
 have h1:=valF_bd (((a:Int)+b)%4294967296)
 have h2:=isF_bd (decide (4294967296≤(a:Int)+b)) 4 zo
 have h3:=isF_bd (pastB (sgn a+sgn b)) 8 zo
 simp only[addF,Int.add_zero]
 omega
theorem flags2(a b old:Nat)(w:World)(ha:a < 4294967296)(hb:b < 4294967296)(ho:old < 4294967296):Calls Tryz.prog 62 #[.int .i64 2,.int .u32 a,.int .u32 b,.int .u32 old] w fun e w'=>e=.returned (.int .u32 (addF a b (carF old)))∧w=w':=by
 have ha0:(0:Int)≤a:=zo
 have ha1:(a:Int) < 4294967296:=zo
 have hb0:(0:Int)≤b:=zo
 have hb1:(b:Int) < 4294967296:=zo
 have ho0:(0:Int)≤old:=zo
 have ho1:(old:Int) < 4294967296:=zo
 obtain⟨s1,s2⟩:=sgn_bd a ha0 ha1
 obtain⟨s3,s4⟩:=sgn_bd b hb0 hb1
 have hc0:=carF_bd old
 obtain⟨c,hc⟩:∃ c,carF old=c:=⟨_,rfl⟩
 have hci:(old:Int)%16 / 4%2=c:=by rw[← hc];unfold carF;omega
 rw[hc] at hc0
 rw[hc]
 obtain⟨hc1,hc2⟩:=hc0
 clear hc
 go_enter Tryz.func62,Tryz.ntmps62
 go_wp2_with first
  | (go_at_call 64;refine(is_any _ _ _).mono ?_;rintro e w' ⟨rfl,rfl⟩)
  | (go_at_call 90;refine(word_any _ _ zo zo).mono ?_;rintro e w' ⟨rfl,rfl⟩)
  | (go_at_call 89;refine(value_any _ _ zo zo).mono ?_;rintro e w' ⟨rfl,rfl⟩)
  | (go_at_call 92;refine(signed_any _ _ zo zo).mono ?_;rintro e w' ⟨rfl,rfl⟩)
  | (go_at_call 91;refine(past_any _ _).mono ?_;rintro e w' ⟨rfl,rfl⟩)
 go_ret
 refine⟨ret_int ?_,rfl⟩
 have h1:=valF_bd (((a:Int)+b+c)%4294967296)
 have h2:=isF_bd (decide (4294967296≤(a:Int)+b+c)) 4 zo
 have h3:=isF_bd (pastB (sgn a+sgn b+c)) 8 zo
 simp only[addF]
 omega
theorem flags3(a b old:Nat)(w:World)(ha:a < 4294967296)(hb:b < 4294967296)(ho:old < 4294967296):Calls Tryz.prog 62 #[.int .i64 3,.int .u32 a,.int .u32 b,.int .u32 old] w fun e w'=>e=.returned (.int .u32 (subF a b 0))∧w=w':=by
 have ha0:(0:Int)≤a:=zo
 have ha1:(a:Int) < 4294967296:=zo
 have hb0:(0:Int)≤b:=zo
 have hb1:(b:Int) < 4294967296:=zo
 have ho0:(0:Int)≤old:=zo
 have ho1:(old:Int) < 4294967296:=zo
 obtain⟨s1,s2⟩:=sgn_bd a ha0 ha1
 obtain⟨s3,s4⟩:=sgn_bd b hb0 hb1
 go_enter Tryz.func62,Tryz.ntmps62
 go_wp2_with first
  | (go_at_call 64;refine(is_any _ _ _).mono ?_;rintro e w' ⟨rfl,rfl⟩)
  | (go_at_call 90;refine(word_any _ _ zo zo).mono ?_;rintro e w' ⟨rfl,rfl⟩)
  | (go_at_call 89;refine(value_any _ _ zo zo).mono ?_;rintro e w' ⟨rfl,rfl⟩)
  | (go_at_call 92;refine(signed_any _ _ zo zo).mono ?_;rintro e w' ⟨rfl,rfl⟩)
  | (go_at_call 91;refine(past_any _ _).mono ?_;rintro e w' ⟨rfl,rfl⟩)
 go_ret
 refine⟨ret_int ?_,rfl⟩
 have h1:=valF_bd (((a:Int) - b)%4294967296)
 have h2:=isF_bd (decide ((a:Int) - b < 0)) 4 zo
 have h3:=isF_bd (pastB (sgn a - sgn b)) 8 zo
 simp only[subF,Int.sub_zero]
 omega
theorem flags4(a b old:Nat)(w:World)(ha:a < 4294967296)(hb:b < 4294967296)(ho:old < 4294967296):Calls Tryz.prog 62 #[.int .i64 4,.int .u32 a,.int .u32 b,.int .u32 old] w fun e w'=>e=.returned (.int .u32 (subF a b (carF old)))∧w=w':=by
 have ha0:(0:Int)≤a:=zo
 have ha1:(a:Int) < 4294967296:=zo
 have hb0:(0:Int)≤b:=zo
 have hb1:(b:Int) < 4294967296:=zo
 have ho0:(0:Int)≤old:=zo
 have ho1:(old:Int) < 4294967296:=zo
 obtain⟨s1,s2⟩:=sgn_bd a ha0 ha1
 obtain⟨s3,s4⟩:=sgn_bd b hb0 hb1
 have hc0:=carF_bd old
 obtain⟨c,hc⟩:∃ c,carF old=c:=⟨_,rfl⟩
 have hci:(old:Int)%16 / 4%2=c:=by rw[← hc];unfold carF;omega
 rw[hc] at hc0
 rw[hc]
 obtain⟨hc1,hc2⟩:=hc0
 clear hc
 go_enter Tryz.func62,Tryz.ntmps62
 go_wp2_with first
  | (go_at_call 64;refine(is_any _ _ _).mono ?_;rintro e w' ⟨rfl,rfl⟩)
  | (go_at_call 90;refine(word_any _ _ zo zo).mono ?_;rintro e w' ⟨rfl,rfl⟩)
  | (go_at_call 89;refine(value_any _ _ zo zo).mono ?_;rintro e w' ⟨rfl,rfl⟩)
  | (go_at_call 92;refine(signed_any _ _ zo zo).mono ?_;rintro e w' ⟨rfl,rfl⟩)
  | (go_at_call 91;refine(past_any _ _).mono ?_;rintro e w' ⟨rfl,rfl⟩)
 go_ret
 refine⟨ret_int ?_,rfl⟩
 have h1:=valF_bd (((a:Int) - b - c)%4294967296)
 have h2:=isF_bd (decide ((a:Int) - b - c < 0)) 4 zo
 have h3:=isF_bd (pastB (sgn a - sgn b - c)) 8 zo
 simp only[subF]
 omega
theorem flags5(a b old:Nat)(w:World)(ha:a < 4294967296)(hb:b < 4294967296)(ho:old < 4294967296):Calls Tryz.prog 62 #[.int .i64 5,.int .u32 a,.int .u32 b,.int .u32 old] w fun e w'=>e=.returned (.int .u32 (valF a))∧w=w':=by
 have ha0:(0:Int)≤a:=zo
 have ha1:(a:Int) < 4294967296:=zo
 have hb0:(0:Int)≤b:=zo
 have hb1:(b:Int) < 4294967296:=zo
 have ho0:(0:Int)≤old:=zo
 have ho1:(old:Int) < 4294967296:=zo
 obtain⟨s1,s2⟩:=sgn_bd a ha0 ha1
 obtain⟨s3,s4⟩:=sgn_bd b hb0 hb1
 go_enter Tryz.func62,Tryz.ntmps62
 go_wp2_with first
  | (go_at_call 64;refine(is_any _ _ _).mono ?_;rintro e w' ⟨rfl,rfl⟩)
  | (go_at_call 90;refine(word_any _ _ zo zo).mono ?_;rintro e w' ⟨rfl,rfl⟩)
  | (go_at_call 89;refine(value_any _ _ zo zo).mono ?_;rintro e w' ⟨rfl,rfl⟩)
  | (go_at_call 92;refine(signed_any _ _ zo zo).mono ?_;rintro e w' ⟨rfl,rfl⟩)
  | (go_at_call 91;refine(past_any _ _).mono ?_;rintro e w' ⟨rfl,rfl⟩)
 go_ret
 refine⟨ret_int ?_,rfl⟩
 rfl
theorem flags11(a b old:Nat)(w:World)(ha:a < 4294967296)(hb:b < 4294967296)(ho:old < 4294967296):Calls Tryz.prog 62 #[.int .i64 11,.int .u32 a,.int .u32 b,.int .u32 old] w fun e w'=>e=.returned (.int .u32 (incF a old))∧w=w':=by
 have ha0:(0:Int)≤a:=zo
 have ha1:(a:Int) < 4294967296:=zo
 have hb0:(0:Int)≤b:=zo
 have hb1:(b:Int) < 4294967296:=zo
 have ho0:(0:Int)≤old:=zo
 have ho1:(old:Int) < 4294967296:=zo
 obtain⟨s1,s2⟩:=sgn_bd a ha0 ha1
 obtain⟨s3,s4⟩:=sgn_bd b hb0 hb1
 have hc0:=carF_bd old
 obtain⟨c,hc⟩:∃ c,carF old=c:=⟨_,rfl⟩
 have hci:(old:Int)%16 / 4%2=c:=by rw[← hc];unfold carF;omega
 rw[hc] at hc0
 rw[incF,hc]
 obtain⟨hc1,hc2⟩:=hc0
 clear hc
 go_enter Tryz.func62,Tryz.ntmps62
 go_wp2_with first
  | (go_at_call 64;refine(is_any _ _ _).mono ?_;rintro e w' ⟨rfl,rfl⟩)
  | (go_at_call 90;refine(word_any _ _ zo zo).mono ?_;rintro e w' ⟨rfl,rfl⟩)
  | (go_at_call 89;refine(value_any _ _ zo zo).mono ?_;rintro e w' ⟨rfl,rfl⟩)
  | (go_at_call 92;refine(signed_any _ _ zo zo).mono ?_;rintro e w' ⟨rfl,rfl⟩)
  | (go_at_call 91;refine(past_any _ _).mono ?_;rintro e w' ⟨rfl,rfl⟩)
 go_ret
 refine⟨ret_int ?_,rfl⟩
 have h1:=valF_bd (((a:Int)+1)%4294967296)
 have h3:=isF_bd (pastB (sgn a+1)) 8 zo
 omega
theorem flags12(a b old:Nat)(w:World)(ha:a < 4294967296)(hb:b < 4294967296)(ho:old < 4294967296):Calls Tryz.prog 62 #[.int .i64 12,.int .u32 a,.int .u32 b,.int .u32 old] w fun e w'=>e=.returned (.int .u32 (decF a old))∧w=w':=by
 have ha0:(0:Int)≤a:=zo
 have ha1:(a:Int) < 4294967296:=zo
 have hb0:(0:Int)≤b:=zo
 have hb1:(b:Int) < 4294967296:=zo
 have ho0:(0:Int)≤old:=zo
 have ho1:(old:Int) < 4294967296:=zo
 obtain⟨s1,s2⟩:=sgn_bd a ha0 ha1
 obtain⟨s3,s4⟩:=sgn_bd b hb0 hb1
 have hc0:=carF_bd old
 obtain⟨c,hc⟩:∃ c,carF old=c:=⟨_,rfl⟩
 have hci:(old:Int)%16 / 4%2=c:=by rw[← hc];unfold carF;omega
 rw[hc] at hc0
 rw[decF,hc]
 obtain⟨hc1,hc2⟩:=hc0
 clear hc
 go_enter Tryz.func62,Tryz.ntmps62
 go_wp2_with first
  | (go_at_call 64;refine(is_any _ _ _).mono ?_;rintro e w' ⟨rfl,rfl⟩)
  | (go_at_call 90;refine(word_any _ _ zo zo).mono ?_;rintro e w' ⟨rfl,rfl⟩)
  | (go_at_call 89;refine(value_any _ _ zo zo).mono ?_;rintro e w' ⟨rfl,rfl⟩)
  | (go_at_call 92;refine(signed_any _ _ zo zo).mono ?_;rintro e w' ⟨rfl,rfl⟩)
  | (go_at_call 91;refine(past_any _ _).mono ?_;rintro e w' ⟨rfl,rfl⟩)
 go_ret
 refine⟨ret_int ?_,rfl⟩
 have h1:=valF_bd (((a:Int) - 1)%4294967296)
 have h3:=isF_bd (pastB (sgn a - 1)) 8 zo
 omega
theorem double_me(x n d:Nat)(w:World)(hd:x*2 ^ n=d)(h1:x < 4294967296)(hn:n≤31):Calls Tryz.prog 93 #[.int .u32 x,.int .u32 n] w fun e w'=>e=.returned (.int .u64 (d:Int))∧w=w':=by
 subst hd;exact double_any x n w h1 hn
theorem flags10(a b old:Nat)(w:World)(ha:a < 4294967296)(hb:b < 4294967296)(ho:old < 4294967296):Calls Tryz.prog 62 #[.int .i64 10,.int .u32 a,.int .u32 b,.int .u32 old] w fun e w'=>e=.returned (.int .u32 (mulF a b))∧w=w':=by
 have ha0:(0:Int)≤a:=zo
 have ha1:(a:Int) < 4294967296:=zo
 have hb0:(0:Int)≤b:=zo
 have hb1:(b:Int) < 4294967296:=zo
 have ho0:(0:Int)≤old:=zo
 have ho1:(old:Int) < 4294967296:=zo
 obtain⟨s1,s2⟩:=sgn_bd a ha0 ha1
 obtain⟨s3,s4⟩:=sgn_bd b hb0 hb1
 obtain⟨p,hp⟩:∃ p,a*b=p:=⟨_,rfl⟩
 have hpb:p < 18446744073709551616:=by
  rw[← hp]
  exact Nat.lt_of_le_of_lt (Nat.mul_le_mul (Nat.le_of_lt_succ (m:=a) (n:=4294967295) ha) (Nat.le_of_lt_succ (m:=b) (n:=4294967295) hb)) (by decide)
 have hpi:(a:Int)*(b:Int)=(p:Int):=by rw[← hp];simp
 have hp0:(0:Int)≤p:=zo
 have hp1:(p:Int) < 18446744073709551616:=zo
 have e:mulF a b=valF ((p:Int)%4294967296)+isF (decide (4294967296≤(p:Int))) 12:=by
  unfold mulF;rw[hp]
  congr 2
  exact decide_eq_decide.2 zo
 rw[e]
 clear hp e hpb
 go_enter Tryz.func62,Tryz.ntmps62
 go_wp2_with first
  | (go_at_call 64;refine(is_any _ _ _).mono ?_;rintro e w' ⟨rfl,rfl⟩)
  | (go_at_call 90;refine(word_any _ _ zo zo).mono ?_;rintro e w' ⟨rfl,rfl⟩)
  | (go_at_call 89;refine(value_any _ _ zo zo).mono ?_;rintro e w' ⟨rfl,rfl⟩)
  | (go_at_call 92;refine(signed_any _ _ zo zo).mono ?_;rintro e w' ⟨rfl,rfl⟩)
  | (go_at_call 91;refine(past_any _ _).mono ?_;rintro e w' ⟨rfl,rfl⟩)
 go_ret
 refine⟨ret_int ?_,rfl⟩
 have h1:=valF_bd ((p:Int)%4294967296)
 have h2:=isF_bd (decide (4294967296≤(p:Int))) 12 zo
 omega
theorem flags6(a b old:Nat)(w:World)(ha:a < 4294967296)(hb:b < 4294967296)(ho:old < 4294967296)(h0:0 < b%32):Calls Tryz.prog 62 #[.int .i64 6,.int .u32 a,.int .u32 b,.int .u32 old] w fun e w'=>e=.returned (.int .u32 (shlF a (b%32)))∧w=w':=by
 have ha0:(0:Int)≤a:=zo
 have ha1:(a:Int) < 4294967296:=zo
 have hb0:(0:Int)≤b:=zo
 have hb1:(b:Int) < 4294967296:=zo
 have ho0:(0:Int)≤old:=zo
 have ho1:(old:Int) < 4294967296:=zo
 obtain⟨s1,s2⟩:=sgn_bd a ha0 ha1
 obtain⟨s3,s4⟩:=sgn_bd b hb0 hb1
 obtain⟨n,hn⟩:∃ n,b%32=n:=⟨_,rfl⟩
 have hnb:0 < n∧n≤31:=zo
 rw[hn]
 have hni:(b:Int)%32=(n:Int):=zo
 have hn0:(0:Int) < n:=zo
 have hn1:(n:Int)≤31:=zo
 have hnz:((n:Int)==0)=false:=by simp;omega
 have hnz':(n==0)=false:=by simp;omega
 have HN:Hid (0 < n∧n≤31):=hnb
 clear hn hnb h0
 obtain⟨d,hd⟩:∃ d,a*2 ^ n=d:=⟨_,rfl⟩
 have HD:Hid (a*2 ^ n=d):=hd
 have hdb:d < 18446744073709551616:=by
  rw[← hd]
  have:2 ^ n≤2 ^ 31:=Nat.pow_le_pow_right (by decide) HN.out.2
  exact Nat.lt_of_le_of_lt (Nat.mul_le_mul (Nat.le_of_lt_succ (m:=a) (n:=4294967295) ha) this) (by decide)
 have hd0:(0:Int)≤d:=zo
 have hd1:(d:Int) < 18446744073709551616:=zo
 have e:shlF a n=valF ((d:Int)%4294967296)+isF ((d:Int) / 4294967296%2==1) 4:=by
  unfold shlF;rw[hd]
  congr 2
  rw[Bool.eq_iff_iff];simp;omega
 rw[e]
 clear hd e hdb
 go_enter Tryz.func62,Tryz.ntmps62
 go_wp2_with first
  | (go_at_call 64;refine(is_any _ _ _).mono ?_;rintro e w' ⟨rfl,rfl⟩)
  | (go_at_call 90;refine(word_any _ _ zo zo).mono ?_;rintro e w' ⟨rfl,rfl⟩)
  | (go_at_call 89;refine(value_any _ _ zo zo).mono ?_;rintro e w' ⟨rfl,rfl⟩)
  | (go_at_call 92;refine(signed_any _ _ zo zo).mono ?_;rintro e w' ⟨rfl,rfl⟩)
  | (go_at_call 91;refine(past_any _ _).mono ?_;rintro e w' ⟨rfl,rfl⟩)
  | (go_at_call 93;refine(double_me a n d _ HD.out ha HN.out.2).mono ?_;rintro e w' ⟨rfl,rfl⟩)
 go_ret
 refine⟨ret_int ?_,rfl⟩
 have h1:=valF_bd ((d:Int)%4294967296)
 have h2:=isF_bd ((d:Int) / 4294967296%2==1) 4 zo
 omega
theorem turned_me(x:Int)(n:Nat)(R:Int)(w:World)(hR:turN n x=R)(h0:0≤x)(h1:x < 4294967296)(hn:n≤32):Calls Tryz.prog 95 #[.int .u32 x,.int .u32 n] w fun e w'=>e=.returned (.int .u32 R)∧w=w':=by
 subst hR;exact turned_any x n w h0 h1 hn
theorem ediv_bd(x:Int)(n:Nat)(h0:0≤x):0≤x / 2 ^ n∧x / 2 ^ n≤x:=⟨Int.ediv_nonneg h0 (Int.le_of_lt (Int.pow_pos (by decide))),Int.ediv_le_self _ h0⟩
theorem ediv_bd2(x:Int)(n:Nat)(h0 : -2147483648≤x)(h1:x < 2147483648) : -2147483648≤x / 2 ^ n∧x / 2 ^ n < 2147483648:=by
 have hp:(0:Int) < 2 ^ n:=Int.pow_pos (by decide)
 by_cases hx:0≤x
 ·have:=ediv_bd x n hx;omega
 ·have h2:x / 2 ^ n < 0:=Int.ediv_neg_of_neg_of_pos zo hp
  have h3:x≤x / 2 ^ n:=by
   have:=Int.le_ediv_of_mul_le hp (a:=x) (b:=x) (by
    have:x*2 ^ n≤x*1:=Int.mul_le_mul_of_nonpos_left zo zo
    omega)
   exact this
  omega
theorem turN_bd:∀ (n:Nat) (x:Int),0≤x→x < 4294967296→0≤turN n x∧turN n x < 4294967296
 | 0,x,h0,h1=>⟨h0,h1⟩
 | n+1,x,h0,h1=>turN_bd n (tur1 x) (tur1_bd x h0 h1).1 (tur1_bd x h0 h1).2
theorem flags7(a b old:Nat)(w:World)(ha:a < 4294967296)(hb:b < 4294967296)(ho:old < 4294967296)(h0:0 < b%32):Calls Tryz.prog 62 #[.int .i64 7,.int .u32 a,.int .u32 b,.int .u32 old] w fun e w'=>e=.returned (.int .u32 (shrF a (b%32)))∧w=w':=by
 have ha0:(0:Int)≤a:=zo
 have ha1:(a:Int) < 4294967296:=zo
 have hb0:(0:Int)≤b:=zo
 have hb1:(b:Int) < 4294967296:=zo
 have ho0:(0:Int)≤old:=zo
 have ho1:(old:Int) < 4294967296:=zo
 obtain⟨s1,s2⟩:=sgn_bd a ha0 ha1
 obtain⟨s3,s4⟩:=sgn_bd b hb0 hb1
 obtain⟨n,hn⟩:∃ n,b%32=n:=⟨_,rfl⟩
 have hnb:0 < n∧n≤31:=zo
 rw[hn]
 have hni:(b:Int)%32=(n:Int):=zo
 have hn0:(0:Int) < n:=zo
 have hn1:(n:Int)≤31:=zo
 have hnz:((n:Int)==0)=false:=by simp;omega
 have hnz':(n==0)=false:=by simp;omega
 have HN:Hid (0 < n∧n≤31):=hnb
 clear hn hnb h0
 obtain⟨m,hm⟩:∃ m,n=m+1:=⟨n - 1,by have:=HN.out;omega⟩
 have hmi:(n:Int) - 1=(m:Int):=zo
 have hm0:(0:Int)≤m:=zo
 have hm1:(m:Int)≤31:=zo
 obtain⟨R1,hR1⟩:∃ R,(a:Int) / 2 ^ n=R:=⟨_,rfl⟩
 obtain⟨R2,hR2⟩:∃ R,(a:Int) / 2 ^ m=R:=⟨_,rfl⟩
 have b1:=ediv_bd a n ha0
 have b2:=ediv_bd a m ha0
 rw[hR1] at b1
 rw[hR2] at b2
 obtain⟨b10,b11⟩:=b1
 obtain⟨b20,b21⟩:=b2
 have e:shrF a n=valF R1+isF (R2%2==1) 4:=by
  unfold shrF;rw[show n - 1=m by omega,hR1,hR2]
 rw[e]
 clear e hm
 go_enter Tryz.func62,Tryz.ntmps62
 go_wp2_with first
  | (go_at_call 64;refine(is_any _ _ _).mono ?_;rintro e w' ⟨rfl,rfl⟩)
  | (go_at_call 90;refine(word_any _ _ zo zo).mono ?_;rintro e w' ⟨rfl,rfl⟩)
  | (go_at_call 89;refine(value_any _ _ zo zo).mono ?_;rintro e w' ⟨rfl,rfl⟩)
  | (go_at_call 92;refine(signed_any _ _ zo zo).mono ?_;rintro e w' ⟨rfl,rfl⟩)
  | (go_at_call 91;refine(past_any _ _).mono ?_;rintro e w' ⟨rfl,rfl⟩)
  | (go_at_call 94;refine(half_any _ _ _ zo zo zo).mono ?_;rintro e w' ⟨rfl,rfl⟩;simp only[hR1,hR2])
 go_ret
 refine⟨ret_int ?_,rfl⟩
 have h1:=valF_bd R1
 have h2:=isF_bd (R2%2==1) 4 zo
 omega
theorem flags8(a b old:Nat)(w:World)(ha:a < 4294967296)(hb:b < 4294967296)(ho:old < 4294967296)(h0:0 < b%32):Calls Tryz.prog 62 #[.int .i64 8,.int .u32 a,.int .u32 b,.int .u32 old] w fun e w'=>e=.returned (.int .u32 (sarF a (b%32)))∧w=w':=by
 have ha0:(0:Int)≤a:=zo
 have ha1:(a:Int) < 4294967296:=zo
 have hb0:(0:Int)≤b:=zo
 have hb1:(b:Int) < 4294967296:=zo
 have ho0:(0:Int)≤old:=zo
 have ho1:(old:Int) < 4294967296:=zo
 obtain⟨s1,s2⟩:=sgn_bd a ha0 ha1
 obtain⟨s3,s4⟩:=sgn_bd b hb0 hb1
 obtain⟨n,hn⟩:∃ n,b%32=n:=⟨_,rfl⟩
 have hnb:0 < n∧n≤31:=zo
 rw[hn]
 have hni:(b:Int)%32=(n:Int):=zo
 have hn0:(0:Int) < n:=zo
 have hn1:(n:Int)≤31:=zo
 have hnz:((n:Int)==0)=false:=by simp;omega
 have hnz':(n==0)=false:=by simp;omega
 have HN:Hid (0 < n∧n≤31):=hnb
 clear hn hnb h0
 obtain⟨m,hm⟩:∃ m,n=m+1:=⟨n - 1,by have:=HN.out;omega⟩
 have hmi:(n:Int) - 1=(m:Int):=zo
 have hm0:(0:Int)≤m:=zo
 have hm1:(m:Int)≤31:=zo
 obtain⟨R2,hR2⟩:∃ R,sgn a / 2 ^ m=R:=⟨_,rfl⟩
 obtain⟨R1,hR1⟩:∃ R,R2 / 2 ^ 1=R:=⟨_,rfl⟩
 have b2:=ediv_bd2 (sgn a) m s1 s2
 rw[hR2] at b2
 have b1:=ediv_bd2 R2 1 b2.1 b2.2
 rw[hR1] at b1
 obtain⟨b10,b11⟩:=b1
 obtain⟨b20,b21⟩:=b2
 have e:sarF a n=valF (R1%4294967296)+isF (R2%4294967296%2==1) 4:=by
  unfold sarF;rw[show n - 1=m by omega,hR2,← hR1];rfl
 rw[e]
 clear e hm
 go_enter Tryz.func62,Tryz.ntmps62
 go_wp2_with first
  | (go_at_call 64;refine(is_any _ _ _).mono ?_;rintro e w' ⟨rfl,rfl⟩)
  | (go_at_call 90;refine(word_any _ _ zo zo).mono ?_;rintro e w' ⟨rfl,rfl⟩)
  | (go_at_call 89;refine(value_any _ _ zo zo).mono ?_;rintro e w' ⟨rfl,rfl⟩)
  | (go_at_call 92;refine(signed_any _ _ zo zo).mono ?_;rintro e w' ⟨rfl,rfl⟩)
  | (go_at_call 91;refine(past_any _ _).mono ?_;rintro e w' ⟨rfl,rfl⟩)
  | (go_at_call 94;have h5:=HH.out;refine(half_any R2 1 _ zo zo zo).mono ?_;rintro e w' ⟨rfl,rfl⟩;simp only[hR1])
  | (go_at_call 94;refine(half_any (sgn a) m _ zo zo zo).mono ?_;rintro e w' ⟨rfl,rfl⟩;simp only[hR2];have HH:Hid (R2=R2):=rfl)
 go_ret
 refine⟨ret_int ?_,rfl⟩
 have h1:=valF_bd (R1%4294967296)
 have hq:R2%4294967296%2=R2%2:=zo
 rw[hq]
 have h2:=isF_bd (R2%2==1) 4 zo
 omega
theorem flags9(a b old:Nat)(w:World)(ha:a < 4294967296)(hb:b < 4294967296)(ho:old < 4294967296)(h0:0 < b%32):Calls Tryz.prog 62 #[.int .i64 9,.int .u32 a,.int .u32 b,.int .u32 old] w fun e w'=>e=.returned (.int .u32 (rolF a (b%32) old))∧w=w':=by
 have ha0:(0:Int)≤a:=zo
 have ha1:(a:Int) < 4294967296:=zo
 have hb0:(0:Int)≤b:=zo
 have hb1:(b:Int) < 4294967296:=zo
 have ho0:(0:Int)≤old:=zo
 have ho1:(old:Int) < 4294967296:=zo
 obtain⟨s1,s2⟩:=sgn_bd a ha0 ha1
 obtain⟨s3,s4⟩:=sgn_bd b hb0 hb1
 obtain⟨n,hn⟩:∃ n,b%32=n:=⟨_,rfl⟩
 have hnb:0 < n∧n≤31:=zo
 rw[hn]
 have hni:(b:Int)%32=(n:Int):=zo
 have hn0:(0:Int) < n:=zo
 have hn1:(n:Int)≤31:=zo
 have hnz:((n:Int)==0)=false:=by simp;omega
 have hnz':(n==0)=false:=by simp;omega
 have HN:Hid (0 < n∧n≤31):=hnb
 clear hn hnb h0
 obtain⟨T,hT⟩:∃ T,turN n a=T:=⟨_,rfl⟩
 have bT:=turN_bd n a ha0 ha1
 rw[hT] at bT
 obtain⟨bT0,bT1⟩:=bT
 have hc0:=carF_bd old
 obtain⟨c,hc⟩:∃ c,carF old=c:=⟨_,rfl⟩
 have hci:(old:Int)%16 / 4%2=c:=by rw[← hc];unfold carF;omega
 rw[hc] at hc0
 obtain⟨hc1,hc2⟩:=hc0
 have e:rolF a n old=(old:Int)%16 - c*4+isF (T%2==1) 4:=by
  unfold rolF;rw[hT,hc];simp
 rw[e]
 have HT:Hid (turN n (a:Int)=T):=hT
 clear hT hc e
 go_enter Tryz.func62,Tryz.ntmps62
 go_wp2_with first
  | (go_at_call 64;refine(is_any _ _ _).mono ?_;rintro e w' ⟨rfl,rfl⟩)
  | (go_at_call 90;refine(word_any _ _ zo zo).mono ?_;rintro e w' ⟨rfl,rfl⟩)
  | (go_at_call 89;refine(value_any _ _ zo zo).mono ?_;rintro e w' ⟨rfl,rfl⟩)
  | (go_at_call 92;refine(signed_any _ _ zo zo).mono ?_;rintro e w' ⟨rfl,rfl⟩)
  | (go_at_call 91;refine(past_any _ _).mono ?_;rintro e w' ⟨rfl,rfl⟩)
  | (go_at_call 95;refine(turned_me _ n _ _ HT.out ha0 ha1 zo).mono ?_;rintro e w' ⟨rfl,rfl⟩)
 go_ret
 refine⟨ret_int ?_,rfl⟩
 have h2:=isF_bd (T%2==1) 4 zo
 omega
theorem flags_no(k:Int)(a b old:Nat)(w:World)(ha:a < 4294967296)(hb:b < 4294967296)(ho:old < 4294967296)(hk:k < 1∨12 < k):Calls Tryz.prog 62 #[.int .i64 k,.int .u32 a,.int .u32 b,.int .u32 old] w fun e w'=>e=.returned (.int .u32 ((old:Int)%16))∧w=w':=by
 have ho0:(0:Int)≤old:=zo
 have hb0:(0:Int)≤b:=zo
 have e1:(k==1)=false:=by simp;omega
 have e2:(k==2)=false:=by simp;omega
 have e3:(k==3)=false:=by simp;omega
 have e4:(k==4)=false:=by simp;omega
 have e5:(k==5)=false:=by simp;omega
 have e10:(k==10)=false:=by simp;omega
 have e11:(k==11)=false:=by simp;omega
 have e12:(k==12)=false:=by simp;omega
 have g2:(k !=2)=true:=by simp[bne,e2]
 have g4:(k !=4)=true:=by simp[bne,e4]
 rcases hk with hk|hk
 ·have d6:decide (k < 6)=true:=decide_eq_true zo
  clear hk
  go_enter Tryz.func62,Tryz.ntmps62
  go_wp2
  go_ret
  exact⟨rfl,rfl⟩
 ·have d6:decide (k < 6)=false:=decide_eq_false zo
  have d9:decide (9 < k)=true:=decide_eq_true zo
  clear hk
  go_enter Tryz.func62,Tryz.ntmps62
  go_wp2
  go_ret
  exact⟨rfl,rfl⟩
theorem flags_zero(k:Int)(a b old:Nat)(w:World)(ha:a < 4294967296)(hb:b < 4294967296)(ho:old < 4294967296)(hk:k=6∨k=7∨k=8∨k=9)(h0:b%32=0):Calls Tryz.prog 62 #[.int .i64 k,.int .u32 a,.int .u32 b,.int .u32 old] w fun e w'=>e=.returned (.int .u32 ((old:Int)%16))∧w=w':=by
 have ho0:(0:Int)≤old:=zo
 have hb0:(0:Int)≤b:=zo
 have hbi:(b:Int)%32=0:=zo
 rcases hk with rfl|rfl|rfl|rfl
 all_goals
  go_enter Tryz.func62,Tryz.ntmps62
  go_wp2
  go_ret
  exact⟨rfl,rfl⟩
def flagsF(k:Int)(a b old:Nat):Int:=
 if k=1 then addF a b 0 else if k=2 then addF a b (carF old) else if k=3 then subF a b 0 else if k=4 then subF a b (carF old)
 else if k=5 then valF a else if k=10 then mulF a b else if k=11 then incF a old else if k=12 then decF a old
 else if(k=6∨k=7∨k=8∨k=9)∧0 < b%32 then
  (if k=6 then shlF a (b%32) else if k=7 then shrF a (b%32) else if k=8 then sarF a (b%32) else rolF a (b%32) old)
 else(old:Int)%16
theorem flags_any(k:Int)(a b old:Nat)(w:World)(ha:a < 4294967296)(hb:b < 4294967296)(ho:old < 4294967296):Calls Tryz.prog 62 #[.int .i64 k,.int .u32 a,.int .u32 b,.int .u32 old] w fun e w'=>e=.returned (.int .u32 (flagsF k a b old))∧w=w':=by
 by_cases hk:k < 1∨12 < k
 ·have e:flagsF k a b old=(old:Int)%16:=by
   unfold flagsF
   repeat rw[if_neg zo]
  rw[e];exact flags_no k a b old w ha hb ho hk
 ·have hc:k=1∨k=2∨k=3∨k=4∨k=5∨k=6∨k=7∨k=8∨k=9∨k=10∨k=11∨k=12:=zo
  by_cases h0:0 < b%32
  ·rcases hc with rfl|rfl|rfl|rfl|rfl|rfl|rfl|rfl|rfl|rfl|rfl|rfl
   ·exact flags1 a b old w ha hb ho
   ·exact flags2 a b old w ha hb ho
   ·exact flags3 a b old w ha hb ho
   ·exact flags4 a b old w ha hb ho
   ·exact flags5 a b old w ha hb ho
   ·have e:flagsF 6 a b old=shlF a (b%32):=by simp[flagsF,h0]
    rw[e];exact flags6 a b old w ha hb ho h0
   ·have e:flagsF 7 a b old=shrF a (b%32):=by simp[flagsF,h0]
    rw[e];exact flags7 a b old w ha hb ho h0
   ·have e:flagsF 8 a b old=sarF a (b%32):=by simp[flagsF,h0]
    rw[e];exact flags8 a b old w ha hb ho h0
   ·have e:flagsF 9 a b old=rolF a (b%32) old:=by simp[flagsF,h0]
    rw[e];exact flags9 a b old w ha hb ho h0
   ·exact flags10 a b old w ha hb ho
   ·exact flags11 a b old w ha hb ho
   ·exact flags12 a b old w ha hb ho
  ·have hz:b%32=0:=zo
   rcases hc with rfl|rfl|rfl|rfl|rfl|rfl|rfl|rfl|rfl|rfl|rfl|rfl
   ·exact flags1 a b old w ha hb ho
   ·exact flags2 a b old w ha hb ho
   ·exact flags3 a b old w ha hb ho
   ·exact flags4 a b old w ha hb ho
   ·exact flags5 a b old w ha hb ho
   ·have e:flagsF 6 a b old=(old:Int)%16:=by simp[flagsF,hz]
    rw[e];exact flags_zero 6 a b old w ha hb ho zo hz
   ·have e:flagsF 7 a b old=(old:Int)%16:=by simp[flagsF,hz]
    rw[e];exact flags_zero 7 a b old w ha hb ho zo hz
   ·have e:flagsF 8 a b old=(old:Int)%16:=by simp[flagsF,hz]
    rw[e];exact flags_zero 8 a b old w ha hb ho zo hz
   ·have e:flagsF 9 a b old=(old:Int)%16:=by simp[flagsF,hz]
    rw[e];exact flags_zero 9 a b old w ha hb ho zo hz
   ·exact flags10 a b old w ha hb ho
   ·exact flags11 a b old w ha hb ho
   ·exact flags12 a b old w ha hb ho
def rowB(q:Int)(z n y v:Bool):Bool:=
 if q=0 then v else if q=1 then y else if q=2 then z else if q=3 then(y || z) else if q=4 then n else if q=5 then(n !=v) else if q=6 then(z || (n !=v)) else true
def holdsZ(c:Int)(z n y v:Bool):Bool:=if c < 0∨15 < c then false else if c%2=1 then !(rowB (c / 2) z n y v) else rowB (c / 2) z n y v
def holdsF(c:Int)(f:Nat):Bool:=holdsZ c ((f:Int)%2==1) ((f:Int) / 2%2==1) ((f:Int) / 4%2==1) ((f:Int) / 8%2==1)
theorem holds_no(c:Int)(f:Nat)(w:World)(hc:c < 0∨15 < c):Calls Tryz.prog 63 #[.int .i64 c,.int .u32 f] w fun e w'=>e=.returned (.bool (holdsF c f))∧Below w.heap.size w w':=by
 have e:holdsF c f=false:=by unfold holdsF holdsZ;rw[if_pos hc]
 rw[e]
 rcases hc with h|h
 ·have d:decide (c < 0)=true:=decide_eq_true h
  go_enter Tryz.func63,Tryz.ntmps63
  go_wp2
  go_ret
  exact⟨rfl,Below.refl _ _⟩
 ·have d:decide (c < 0)=false:=decide_eq_false zo
  have d2:decide (15 < c)=true:=decide_eq_true h
  go_enter Tryz.func63,Tryz.ntmps63
  go_wp2
  go_ret
  exact⟨rfl,Below.refl _ _⟩
end Go.Proofs.YtfokgedjocnnmaaGreat.Fl
