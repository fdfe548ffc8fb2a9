import Derived.Test.YthcpipfmicbnmaaGreatZQ
import Derived.WalkKit
import Derived.WalkSpells
import Derived.WalkLawsBesides
import Derived.Deep.QuietTactic
import Derived.BigQuiet
import Derived.BigRegion
import Derived.KernelRfl
import Derived.LoopN
import Derived.Laws.BitsAllLaws
import Derived.Test.YthcpipfmicbnmaaGreatWJ04
import Derived.Deep.RegionHeld3
import Derived.Below
set_option linter.unusedVariables false
set_option linter.unusedSimpArgs false
set_option maxHeartbeats 2000000
namespace Go.Proofs.YthcpipfmicbnmaaGreat.Va
open Go.RowKit
set_option maxRecDepth 100000
theorem zAC{k1 k2:IntKind}{a b c d:Int}(h1:a=c)(h2:b=d):Ending.returned (.tuple #[.int k1 a,.int k2 b])=.returned (.tuple #[.int k1 c,.int k2 d]):=by rw[h1,h2]
theorem zKg(n:Nat)(h:n < 4294967296):n / 2147483648=(n.testBit 31).toNat:=by
 have:=Fl.tb n 31
 rw[show(2:Nat) ^ 31=2147483648 from rfl] at this
 omega
theorem t31(n:Nat)(h:n < 4294967296):n.testBit 31=decide (2147483648≤n):=by
 have e:=zKg n h
 cases hb:n.testBit 31
 ·rw[hb] at e;simp at e;exact(aF).symm
 ·rw[hb] at e;simp at e;exact(aT).symm
theorem uF{a b:Nat}(ha:a < 4294967296)(hb:b < 4294967296):a ^^^ b < 4294967296:=Nat.xor_lt_two_pow (n:=32) ha hb
theorem zBn{a b:Nat}(ha:a < 4294967296):a &&& b < 4294967296:=Nat.lt_of_le_of_lt Nat.and_le_left ha
theorem zOJ{a b:Nat}(ha:a < 4294967296)(hb:b < 4294967296):a ||| b < 4294967296:=Nat.or_lt_two_pow (n:=32) ha hb
theorem zFp(a b d:Nat)(c:Int)(ha:a < 4294967296)(hb:b < 4294967296)(hd:d < 4294967296)(hc:0≤c∧c≤1)(e:(d:Int)=((a:Int) - b - c)%4294967296) :
  ((((4294967295 ^^^ a) &&& b) ||| ((4294967295 ^^^ (a ^^^ b)) &&& d):Nat):Int) / 2147483648=Fl.uH (decide ((a:Int) - b - c < 0)) 1:=by
 have hx:=zKg (((4294967295 ^^^ a) &&& b) ||| ((4294967295 ^^^ (a ^^^ b)) &&& d)) (zOJ (zBn (uF aD ha)) (zBn (uF aD (uF ha hb))))
 rw[show(2147483648:Int)=((2147483648:Nat):Int) from rfl,← Int.natCast_ediv,hx]
 simp only[Nat.testBit_or,Nat.testBit_and,Nat.testBit_xor,t31 a ha,t31 b hb,t31 d hd]
 rw[show(4294967295:Nat).testBit 31=true from by decide]
 unfold Fl.uH
 by_cases h1:2147483648≤a<;>by_cases h2:2147483648≤b<;>by_cases h3:2147483648≤d<;>by_cases h4:(a:Int) - b - c < 0<;>simp[h1,h2,h3,h4]<;>omega
theorem zJC(a b v:Nat)(c:Int)(ha:a < 4294967296)(hb:b < 4294967296)(hv:v < 4294967296)(hc:0≤c∧c≤1)(e:(v:Int)=((a:Int)+b+c)%4294967296) :
  ((((a ^^^ v) &&& (b ^^^ v)):Nat):Int) / 2147483648=Fl.uH (Fl.uC (Fl.vP a+Fl.vP b+c)) 1:=by
 have hx:=zKg ((a ^^^ v) &&& (b ^^^ v)) (zBn (uF ha hv))
 rw[show(2147483648:Int)=((2147483648:Nat):Int) from rfl,← Int.natCast_ediv,hx]
 simp only[Nat.testBit_or,Nat.testBit_and,Nat.testBit_xor,t31 a ha,t31 b hb,t31 v hv]
 unfold Fl.uH Fl.uC Fl.vP
 by_cases h1:2147483648≤a<;>by_cases h2:2147483648≤b<;>by_cases h3:2147483648≤v<;>simp[h1,h2,h3]<;>omega
theorem zJD(a b v:Nat)(c:Int)(ha:a < 4294967296)(hb:b < 4294967296)(hv:v < 4294967296)(hc:0≤c∧c≤1)(e:(v:Int)=((a:Int) - b - c)%4294967296) :
  ((((a ^^^ b) &&& (a ^^^ v)):Nat):Int) / 2147483648=Fl.uH (Fl.uC (Fl.vP a - Fl.vP b - c)) 1:=by
 have hx:=zKg ((a ^^^ b) &&& (a ^^^ v)) (zBn (uF ha hb))
 rw[show(2147483648:Int)=((2147483648:Nat):Int) from rfl,← Int.natCast_ediv,hx]
 simp only[Nat.testBit_or,Nat.testBit_and,Nat.testBit_xor,t31 a ha,t31 b hb,t31 v hv]
 unfold Fl.uH Fl.uC Fl.vP
 by_cases h1:2147483648≤a<;>by_cases h2:2147483648≤b<;>by_cases h3:2147483648≤v<;>simp[h1,h2,h3]<;>omega
theorem zH1(P R a h l1 l0 y:Nat)(hPR:P*R=2147483648)(ha:a=(h*P+l1)*R+l0)(h0:l0 < R)(hh:h≤1)(hy:y=l1*(2*R)+(2*l0+h)) :
  y*P%4294967296+y / (2*R)=a*(2*P)%4294967296+a / R:=by
 have hR:0 < R:=aO
 have hP:0 < P:=Nat.pos_of_ne_zero fun e=>by rw[e] at hPR;omega
 have e1:y / (2*R)=l1:=by
  rw[hy,Nat.add_comm,Nat.add_mul_div_right _ _ aO,Nat.div_eq_of_lt aO,Nat.zero_add]
 have e2:a / R=h*P+l1:=by
  rw[ha,Nat.add_comm,Nat.add_mul_div_right _ _ hR,Nat.div_eq_of_lt h0,Nat.zero_add]
 have e3:y*P=(2*l0+h)*P+l1*4294967296:=by
  have:l1*(2*R)*P=l1*(2*(P*R)):=by rw[Nat.mul_assoc,Nat.mul_assoc 2 R P,Nat.mul_comm R P]
  rw[hy,Nat.add_mul,this,hPR];omega
 have e4:a*(2*P)=2*P*l0+(h*P+l1)*4294967296:=by
  have:(h*P+l1)*R*(2*P)=(h*P+l1)*(2*(P*R)):=by rw[Nat.mul_assoc,Nat.mul_left_comm R 2 P,Nat.mul_comm R P]
  rw[ha,Nat.add_mul,this,hPR,Nat.mul_comm l0];omega
 have l:(2*l0+h)*P < 4294967296:=by
  have:(2*l0+h+1)*P≤(2*R)*P:=Nat.mul_le_mul_right _ aO
  have e:(2*R)*P=4294967296:=by rw[Nat.mul_assoc,Nat.mul_comm R P,hPR]
  rw[e,Nat.add_mul] at this
  omega
 have l':2*P*l0 < 4294967296:=by
  have e:2*P*l0=2*l0*P:=by rw[Nat.mul_assoc,Nat.mul_assoc,Nat.mul_comm P l0]
  have:2*l0*P≤(2*l0+h)*P:=Nat.mul_le_mul_right _ aO
  omega
 have e5:(2*l0+h)*P=2*P*l0+h*P:=by rw[Nat.add_mul,Nat.mul_assoc,Nat.mul_assoc,Nat.mul_comm P l0]
 rw[e1,e2,e3,e4,Nat.add_mul_mod_self_right,Nat.add_mul_mod_self_right,Nat.mod_eq_of_lt l,Nat.mod_eq_of_lt l',e5]
 omega
theorem zEr:∀ (n a:Nat),n≤31→a < 4294967296→Fl.vT n (a:Int)=((a*2 ^ n%4294967296+a / 2 ^ (32 - n):Nat):Int)
 | 0,a,_,ha=>by
  rw[show a*2 ^ 0%4294967296+a / 2 ^ (32 - 0)=a from by rw[show(2:Nat) ^ (32 - 0)=4294967296 from rfl];omega];rfl
 | n+1,a,hn,ha=>by
  have ih:=zEr n (a*2%4294967296+a / 2147483648) aO aO
  have e:Fl.vT (n+1) (a:Int)=Fl.vT n ((a*2%4294967296+a / 2147483648:Nat):Int):=by
   show Fl.vT n (Fl.zEQ a)=_
   congr 1
   unfold Fl.zEQ;omega
  rw[e,ih]
  congr 1
  have hPR:2 ^ n*2 ^ (31 - n)=2147483648:=by rw[← Nat.pow_add,show n+(31 - n)=31 by omega]
  have e2:(2:Nat) ^ (32 - n)=2*2 ^ (31 - n):=by rw[show 32 - n=(31 - n)+1 by omega,Nat.pow_succ,Nat.mul_comm]
  have e3:(2:Nat) ^ (n+1)=2*2 ^ n:=by rw[Nat.pow_succ,Nat.mul_comm]
  rw[e2,e3,show 32 - (n+1)=31 - n by omega]
  have hR:0 < 2 ^ (31 - n):=Nat.two_pow_pos _
  generalize 2 ^ n=P at *
  generalize 2 ^ (31 - n)=R at *
  have hd:=Nat.div_add_mod (a%2147483648) R
  refine zH1 P R a (a / 2147483648) (a%2147483648 / R) (a%2147483648%R) _ hPR ?_ (Nat.mod_lt _ hR) aO ?_
  ·rw[Nat.add_mul,Nat.mul_assoc,hPR,Nat.mul_comm (a%2147483648 / R) R];omega
  ·rw[Nat.mul_left_comm,Nat.mul_comm (a%2147483648 / R) R];omega
theorem zNt(n a:Nat)(hn:n≤31)(ha:a < 4294967296):((a*2 ^ n%4294967296) ||| (a / 2 ^ (32 - n)):Nat)=a*2 ^ n%4294967296+a / 2 ^ (32 - n):=by
 refine Go.nat_join n _ _ ?_ ?_
 ·have h:(2:Nat) ^ n ∣ 4294967296:=⟨2 ^ (32 - n),by rw[← Nat.pow_add];rw[show n+(32 - n)=32 by omega]⟩
  rw[Nat.mod_mod_of_dvd _ h];exact Nat.mul_mod_left _ _
 ·rw[Nat.div_lt_iff_lt_mul (Nat.two_pow_pos _),← Nat.pow_add,show n+(32 - n)=32 by omega];exact ha
theorem zN1(a b c:Nat)(w:World)(ha:a < 4294967296)(hb:b < 4294967296)(hc:c≤1) :
  Calls Tryz.prog 103 #[.int .u32 a,.int .u32 b,.int .u32 c] w fun e w'=>e=.returned (.tuple #[.int .u32 (((a:Int)+b+c)%4294967296),.int .u32 (((a:Int)+b+c) / 4294967296)])∧w=w':=by
 go_enter Tryz.func103,Tryz.ntmps103
 go_wp2
 go_ret2
 exact⟨rfl,rfl⟩
theorem zJB:∀ c p q:Fin 2,bits .or .u32 (bits .or .u32 ((c.val:Int)*4) ((p.val:Int)*8)) ((q.val:Int)*2)=(c.val:Int)*4+p.val*8+q.val*2∧bits .or .u32 (bits .or .u32 (bits .or .u32 ((c.val:Int)*4) ((p.val:Int)*8)) ((q.val:Int)*2)) 1=(c.val:Int)*4+p.val*8+q.val*2+1:=by decide +kernel
theorem zAh(v c p:Nat)(w:World)(ha:v < 4294967296)(hb:c≤1)(hc:p≤1) :
  Calls Tryz.prog 102 #[.int .u32 v,.int .u32 c,.int .u32 p] w fun e w'=>e=.returned (.int .u32 (Fl.yC v+c*4+p*8))∧w=w':=by
 have o:=zJB ⟨c,by omega⟩ ⟨p,by omega⟩ ⟨v / 2147483648,by omega⟩
 have oe:(((v / 2147483648:Nat)):Int)=(v:Int) / 2147483648:=aO
 simp only[oe] at o
 have HO:Hid _:=o
 clear o oe
 by_cases hv:v=0
 ·have hz:((v:Int)==0)=true:=by simp[hv]
  have HV:Hid (v=0):=hv
  clear hv
  go_enter Tryz.func102,Tryz.ntmps102
  go_wp2
  go_ret
  refine⟨Fl.vE (HO.out.2.trans ?_),rfl⟩
  unfold Fl.yC Fl.uH
  rw[hz]
  simp[HV.out];omega
 ·have hz:((v:Int)==0)=false:=by simp[hv]
  clear hv
  go_enter Tryz.func102,Tryz.ntmps102
  go_wp2
  go_ret
  refine⟨Fl.vE (HO.out.1.trans ?_),rfl⟩
  unfold Fl.yC Fl.uH
  rw[hz]
  by_cases h:2147483648≤(v:Int)
  ·simp[h];omega
  ·simp[h];omega
theorem zPv(a b c d:Nat)(w:World)(hd:(d:Int)=((a:Int) - b - c)%4294967296)(ha:a < 4294967296)(hb:b < 4294967296)(hc:c≤1) :
  Calls Tryz.prog 104 #[.int .u32 a,.int .u32 b,.int .u32 c] w fun e w'=>e=.returned (.tuple #[.int .u32 d,.int .u32 (Fl.uH (decide ((a:Int) - b - c < 0)) 1)])∧w=w':=by
 have hdl:d < 4294967296:=aO
 have HD:Hid _:=hd
 clear hd
 go_enter Tryz.func104,Tryz.ntmps104
 go_wp2
 go_ret2
 refine⟨zAC HD.out.symm ?_,rfl⟩
 rw[← zFp a b d c ha hb hdl aO HD.out,← HD.out]
 rw[show IntKind.u32.max=((4294967295:Nat):Int) from rfl,Go.u32_xor_nat _ _ aD ha,Go.u32_xor_nat _ _ ha hb,Go.u32_xor_nat _ _ aD (uF ha hb),Go.u32_and_nat _ _ (uF aD ha) hb,Go.u32_and_nat _ _ (uF aD (uF ha hb)) hdl,Go.u32_or_nat _ _ (zBn (uF aD ha)) (zBn (uF aD (uF ha hb)))]
theorem zIj(a b:Nat)(w:World)(ha:a < 4294967296)(hb:b < 4294967296) :
  Calls Tryz.prog 79 #[.int .u32 a,.int .u32 b] w fun e w'=>e=.returned (.tuple #[.int .u32 ((a*b / 4294967296:Nat):Int),.int .u32 ((a*b%4294967296:Nat):Int)])∧w=w':=by
 have hm:a*b < 4294967296*4294967296:=Nat.mul_lt_mul'' ha hb
 have hw:IntKind.u64.wrap ((a:Int)*b)=((a*b:Nat):Int):=by
  rw[show IntKind.u64.wrap ((a:Int)*b)=((a:Int)*b)%18446744073709551616 from by simp[IntKind.wrap,IntKind.bits,IntKind.signed]]
  rw[← Int.natCast_mul]
  omega
 have hq:((a*b:Nat):Int) / 4294967296%4294967296=((a*b:Nat):Int) / 4294967296:=aO
 go_enter Tryz.func79,Tryz.ntmps79
 go_wp2
 go_ret2
 refine⟨zAC ?_ ?_,rfl⟩
 ·rw[Int.natCast_ediv,Int.natCast_mul];first|rfl|omega
 ·rw[Int.natCast_emod,Int.natCast_mul];first|rfl|omega
theorem zPi(a:Nat)(n:Nat)(w:World)(ha:a < 4294967296)(hn:n < 32) :
  Calls Tryz.prog 96 #[.int .u32 a,.int .i64 n] w fun e w'=>e=.returned (.int .u32 (Fl.vT n a))∧w=w':=by
 have hb:bits .and .u64 (n:Int) 31=(n:Int):=by
  rw[show(31:Int)=((31:Nat):Int) from rfl,Go.u64_and_nat _ _ aO aD,Go.nat_mask5];omega
 have h1:(0:Int)≤n:=aO
 have h2:(0:Int)≤32 - n:=aO
 go_enter Tryz.func96,Tryz.ntmps96
 go_wp2
 go_ret
 refine⟨Fl.vE ?_,rfl⟩
 rw[zEr n a aO ha,← zNt n a aO ha]
 have e1:(a:Int)*2 ^ n%4294967296=((a*2 ^ n%4294967296:Nat):Int):=by rw[Int.natCast_emod,Int.natCast_mul,Int.natCast_pow];rfl
 have e2:(a:Int) / 2 ^ (32 - n)=((a / 2 ^ (32 - n):Nat):Int):=by rw[Int.natCast_ediv,Int.natCast_pow];rfl
 rw[e1,e2]
 exact Go.u32_or_nat _ _ aO (Nat.lt_of_le_of_lt (Nat.div_le_self _ _) ha)
theorem zIC(a b c v o:Nat)(w:World)(hv:(v:Int)=((a:Int)+b+c)%4294967296)(ho:(o:Int)=((a:Int)+b+c) / 4294967296)(ha:a < 4294967296)(hb:b < 4294967296)(hc:c≤1) :
  Calls Tryz.prog 103 #[.int .u32 a,.int .u32 b,.int .u32 c] w fun e w'=>e=.returned (.tuple #[.int .u32 v,.int .u32 o])∧w=w':=by
 rw[hv,ho];exact zN1 a b c w ha hb hc
theorem zJ8(a b c v o:Nat)(w:World)(hv:(v:Int)=((a:Int) - b - c)%4294967296)(ho:(o:Int)=Fl.uH (decide ((a:Int) - b - c < 0)) 1)(ha:a < 4294967296)(hb:b < 4294967296)(hc:c≤1) :
  Calls Tryz.prog 104 #[.int .u32 a,.int .u32 b,.int .u32 c] w fun e w'=>e=.returned (.tuple #[.int .u32 v,.int .u32 o])∧w=w':=by
 rw[ho];exact zPv a b c v w hv ha hb hc
theorem zBX(b:Bool)(k:Int):Fl.uH b 1*k=Fl.uH b k:=by unfold Fl.uH;cases b<;>simp
theorem zEo(b:Bool):∃ p:Nat,(p:Int)=Fl.uH b 1∧p≤1:=by
 refine⟨(Fl.uH b 1).toNat,?_,?_⟩<;>have:=Fl.yR b 1 aO<;>omega
theorem zCp(a b c:Nat)(w:World)(ha:a < 4294967296)(hb:b < 4294967296)(hc:c≤1) :
  Calls Tryz.prog 98 #[.int .u8 1,.int .u32 a,.int .u32 b,.int .u32 c] w fun e w'=>e=.returned (.tuple #[.int .u32 (((a:Int)+b+c)%4294967296),.int .u32 (Fl.zBa a b c)])∧w=w':=by
 obtain⟨v,hv⟩:∃ v:Nat,(v:Int)=((a:Int)+b+c)%4294967296:=⟨(((a:Int)+b+c)%4294967296).toNat,by omega⟩
 obtain⟨o,ho⟩:∃ o:Nat,(o:Int)=((a:Int)+b+c) / 4294967296:=⟨(((a:Int)+b+c) / 4294967296).toNat,by omega⟩
 obtain⟨p,hp,hpl⟩:=zEo (Fl.uC (Fl.vP a+Fl.vP b+c))
 have hvl:v < 4294967296:=aO
 have hol:o≤1:=aO
 have h4:=(zJC a b v c ha hb hvl aO hv).trans hp.symm
 have h1:bits .xor .u32 (a:Int) v=((a ^^^ v:Nat):Int):=Go.u32_xor_nat _ _ ha hvl
 have h2:bits .xor .u32 (b:Int) v=((b ^^^ v:Nat):Int):=Go.u32_xor_nat _ _ hb hvl
 have h3:bits .and .u32 ((a ^^^ v:Nat):Int) ((b ^^^ v:Nat):Int)=(((a ^^^ v) &&& (b ^^^ v):Nat):Int):=Go.u32_and_nat _ _ (uF ha hvl) (uF hb hvl)
 have k1:=uF ha hvl
 have k2:=uF hb hvl
 have k3:(a ^^^ v) &&& (b ^^^ v) < 4294967296:=zBn k1
 generalize a ^^^ v=x1 at *
 generalize b ^^^ v=x2 at *
 generalize x1 &&& x2=x3 at *
 have HE:Hid (Fl.yC v+o*4+p*8=Fl.zBa a b c):=by
  rw[hv,hp,zBX]
  unfold Fl.zBa
  have:(o:Int)=Fl.uH (decide (4294967296≤(a:Int)+b+c)) 1:=by
   unfold Fl.uH
   by_cases h:4294967296≤(a:Int)+b+c<;>simp[h]<;>omega
  rw[this,zBX]
  rfl
 have HV:Hid _:=hv
 have HO:Hid _:=ho
 have HP:Hid _:=hp
 clear hv ho hp
 go_enter Tryz.func98,Tryz.ntmps98
 go_wp2_with (first
  | (go_at_call 103;refine(zIC a b c v o _ HV.out HO.out ha hb hc).mono ?_;rintro e w1 ⟨rfl,rfl⟩)
  | (go_at_call 102;refine(zAh v o p _ hvl hol hpl).mono ?_;rintro e w1 ⟨rfl,rfl⟩))
 go_ret2
 exact⟨zAC HV.out HE.out,rfl⟩
theorem zCq(a b c:Nat)(w:World)(ha:a < 4294967296)(hb:b < 4294967296)(hc:c≤1) :
  Calls Tryz.prog 98 #[.int .u8 2,.int .u32 a,.int .u32 b,.int .u32 c] w fun e w'=>e=.returned (.tuple #[.int .u32 (((a:Int) - b - c)%4294967296),.int .u32 (Fl.zBi a b c)])∧w=w':=by
 obtain⟨v,hv⟩:∃ v:Nat,(v:Int)=((a:Int) - b - c)%4294967296:=⟨(((a:Int) - b - c)%4294967296).toNat,by omega⟩
 obtain⟨o,ho,hol⟩:=zEo (decide ((a:Int) - b - c < 0))
 obtain⟨p,hp,hpl⟩:=zEo (Fl.uC (Fl.vP a - Fl.vP b - c))
 have hvl:v < 4294967296:=aO
 have h4:=(zJD a b v c ha hb hvl aO hv).trans hp.symm
 have h1:bits .xor .u32 (a:Int) b=((a ^^^ b:Nat):Int):=Go.u32_xor_nat _ _ ha hb
 have h2:bits .xor .u32 (a:Int) v=((a ^^^ v:Nat):Int):=Go.u32_xor_nat _ _ ha hvl
 have h3:bits .and .u32 ((a ^^^ b:Nat):Int) ((a ^^^ v:Nat):Int)=(((a ^^^ b) &&& (a ^^^ v):Nat):Int):=Go.u32_and_nat _ _ (uF ha hb) (uF ha hvl)
 have k1:=uF ha hb
 have k2:=uF ha hvl
 have k3:(a ^^^ b) &&& (a ^^^ v) < 4294967296:=zBn k1
 generalize a ^^^ b=x1 at *
 generalize a ^^^ v=x2 at *
 generalize x1 &&& x2=x3 at *
 have HE:Hid (Fl.yC v+o*4+p*8=Fl.zBi a b c):=by
  rw[hv,hp,ho,zBX,zBX]
  rfl
 have HV:Hid _:=hv
 have HO:Hid _:=ho
 have HP:Hid _:=hp
 clear hv ho hp
 go_enter Tryz.func98,Tryz.ntmps98
 go_wp2_with (first
  | (go_at_call 104;refine(zJ8 a b c v o _ HV.out HO.out ha hb hc).mono ?_;rintro e w1 ⟨rfl,rfl⟩)
  | (go_at_call 102;refine(zAh v o p _ hvl hol hpl).mono ?_;rintro e w1 ⟨rfl,rfl⟩))
 go_ret2
 exact⟨zAC HV.out HE.out,rfl⟩
theorem zHW(a b c:Nat)(w:World)(ha:a < 4294967296)(hb:b < 4294967296) :
  Calls Tryz.prog 98 #[.int .u8 3,.int .u32 a,.int .u32 b,.int .u32 c] w fun e w'=>e=.returned (.tuple #[.int .u32 a,.int .u32 (Fl.yC a)])∧w=w':=by
 go_enter Tryz.func98,Tryz.ntmps98
 go_wp2_with (go_at_call 102;refine(zAh a 0 0 _ ha aO aO).mono ?_;rintro e w1 ⟨rfl,rfl⟩)
 go_ret2
 exact⟨zAC rfl aS,rfl⟩
theorem zGt(a b c h l:Nat)(w:World)(hh:a*b / 4294967296=h)(hl:a*b%4294967296=l)(ha:a < 4294967296)(hb:b < 4294967296)(hq:1 < h) :
  Calls Tryz.prog 98 #[.int .u8 4,.int .u32 a,.int .u32 b,.int .u32 c] w fun e w'=>e=.returned (.tuple #[.int .u32 l,.int .u32 (Fl.zBG a b)])∧w=w':=by
 have hll:l < 4294967296:=aO
 have hhl:h < 4294967296:=by
  have hm:a*b < 4294967296*4294967296:=Nat.mul_lt_mul'' ha hb
  omega
 have hqi:(1:Int) < h:=aO
 have HE:Hid (Fl.yC l+(1:Nat)*4+(1:Nat)*8=Fl.zBG a b):=by
  have hg:4294967296≤a*b↔1≤h:=aO
  unfold Fl.zBG
  rw[hl]
  unfold Fl.uH
  by_cases hc:4294967296≤a*b
  ·have h1:=hg.mp hc
   have e1:(((1:Nat)):Int)=1:=aO
   rw[e1,if_pos (decide_eq_true hc)];exact(fun V:Int=>(by omega:V+1*4+1*8=V+12)) _
  ·have h1:¬1≤h:=fun x=>hc (hg.mpr x)
   exfalso;omega
 have HC:Hid (∀ w,Calls Tryz.prog 79 #[.int .u32 a,.int .u32 b] w fun e w'=>e=.returned (.tuple #[.int .u32 h,.int .u32 l])∧w=w'):=fun w=>by
  have:=zIj a b w ha hb
  rw[hh,hl] at this
  exact this
 clear hh hl
 go_enter Tryz.func98,Tryz.ntmps98
 go_wp2_with (first
  | (go_at_call 79;refine(HC.out _).mono ?_;rintro e w1 ⟨rfl,rfl⟩)
  | (go_at_call 102;refine(zAh l 1 1 _ hll (Nat.le_refl 1) (Nat.le_refl 1)).mono ?_;rintro e w1 ⟨rfl,rfl⟩))
 go_ret2
 exact⟨zAC rfl HE.out,rfl⟩
theorem zGu(a b c h l:Nat)(w:World)(hh:a*b / 4294967296=h)(hl:a*b%4294967296=l)(ha:a < 4294967296)(hb:b < 4294967296)(hq:h≤1) :
  Calls Tryz.prog 98 #[.int .u8 4,.int .u32 a,.int .u32 b,.int .u32 c] w fun e w'=>e=.returned (.tuple #[.int .u32 l,.int .u32 (Fl.zBG a b)])∧w=w':=by
 have hll:l < 4294967296:=aO
 have hhl:h < 4294967296:=by
  have hm:a*b < 4294967296*4294967296:=Nat.mul_lt_mul'' ha hb
  omega
 have hqi:¬(1:Int) < h:=aO
 have HE:Hid (Fl.yC l+(h:Nat)*4+(h:Nat)*8=Fl.zBG a b):=by
  have hg:4294967296≤a*b↔1≤h:=aO
  unfold Fl.zBG
  rw[hl]
  unfold Fl.uH
  by_cases hc:4294967296≤a*b
  ·have h1:=hg.mp hc
   have e1:(((h:Nat)):Int)=1:=aO
   rw[e1,if_pos (decide_eq_true hc)];exact(fun V:Int=>(by omega:V+1*4+1*8=V+12)) _
  ·have h1:¬1≤h:=fun x=>hc (hg.mpr x)
   have e1:(((h:Nat)):Int)=0:=aO
   rw[e1,if_neg (by simp[hc])];exact(fun V:Int=>(by omega:V+0*4+0*8=V+0)) _
 have HC:Hid (∀ w,Calls Tryz.prog 79 #[.int .u32 a,.int .u32 b] w fun e w'=>e=.returned (.tuple #[.int .u32 h,.int .u32 l])∧w=w'):=fun w=>by
  have:=zIj a b w ha hb
  rw[hh,hl] at this
  exact this
 clear hh hl
 go_enter Tryz.func98,Tryz.ntmps98
 go_wp2_with (first
  | (go_at_call 79;refine(HC.out _).mono ?_;rintro e w1 ⟨rfl,rfl⟩)
  | (go_at_call 102;refine(zAh l h h _ hll hq hq).mono ?_;rintro e w1 ⟨rfl,rfl⟩))
 go_ret2
 exact⟨zAC rfl HE.out,rfl⟩
theorem zHX(a b c:Nat)(w:World)(ha:a < 4294967296)(hb:b < 4294967296) :
  Calls Tryz.prog 98 #[.int .u8 4,.int .u32 a,.int .u32 b,.int .u32 c] w fun e w'=>e=.returned (.tuple #[.int .u32 ((a*b%4294967296:Nat):Int),.int .u32 (Fl.zBG a b)])∧w=w':=by
 by_cases h:1 < a*b / 4294967296
 ·exact zGt a b c _ _ w rfl rfl ha hb h
 ·exact zGu a b c _ _ w rfl rfl ha hb aO
theorem zCl(v c p:Int)(w:World)(hv0:0≤v)(hv:v < 4294967296)(hc0:0≤c)(hc:c≤1)(hp0:0≤p)(hp:p≤1) :
  Calls Tryz.prog 102 #[.int .u32 v,.int .u32 c,.int .u32 p] w fun e w'=>e=.returned (.int .u32 (Fl.yC v+c*4+p*8))∧w=w':=by
 have:=zAh v.toNat c.toNat p.toNat w aO aO aO
 rw[Int.toNat_of_nonneg hv0,Int.toNat_of_nonneg hc0,Int.toNat_of_nonneg hp0] at this
 exact this
theorem zBd(k:Int)(a old:Nat)(w:World) :
  Calls Tryz.prog 97 #[.int .u8 k,.int .u32 a,.int .i64 0,.int .u32 old] w fun e w'=>e=.returned (.tuple #[.int .u32 a,.int .u32 old])∧w=w':=by
 go_enter Tryz.func97,Tryz.ntmps97
 go_wp2
 go_ret2
 exact⟨rfl,rfl⟩
theorem zBr(a n t:Nat)(w:World)(ht:Fl.vT n a=t)(ha:a < 4294967296)(hn:n < 32) :
  Calls Tryz.prog 96 #[.int .u32 a,.int .i64 n] w fun e w'=>e=.returned (.int .u32 t)∧w=w':=by
 have:=zPi a n w ha hn
 rw[ht] at this;exact this
theorem zCZ(x:Int):x%2*4=Fl.uH (x%2==1) 4:=by
 unfold Fl.uH
 by_cases h:x%2=1
 ·simp[h]
 ·have:x%2=0:=aO
  simp[this]
theorem zHO(n:Nat)(hn:n≤32):2 ^ n*2 ^ (32 - n)=4294967296:=by rw[← Nat.pow_add,show n+(32 - n)=32 by omega]
theorem zLG(a n:Nat)(ha:a < 4294967296)(h0:0 < n)(hn:n < 32):Fl.vT n a%2=((a*2 ^ n / 4294967296%2:Nat):Int):=by
 rw[zEr n a aO ha]
 have e1:a*2 ^ n / 4294967296=a / 2 ^ (32 - n):=by
  have:=zHO n aO
  rw[← this,Nat.mul_comm (2 ^ n) (2 ^ (32 - n)),Nat.mul_div_mul_right _ _ (Nat.two_pow_pos n)]
 have e2:a*2 ^ n%4294967296%2=0:=by
  have:a*2 ^ n=a*2 ^ (n - 1)*2:=by rw[Nat.mul_assoc,← Nat.pow_succ,show(n - 1).succ=n by omega]
  omega
 rw[e1]
 generalize a / 2 ^ (32 - n)=q at *
 generalize a*2 ^ n%4294967296=r at *
 omega
theorem zCv(x:Nat):IntKind.u32.wrap (x:Int)=((x%4294967296:Nat):Int):=by
 rw[Go.IntKind.wrap_u32'];omega
theorem zDk(a n:Nat):(a:Int)*2 ^ n=((a*2 ^ n:Nat):Int):=by rw[Int.natCast_mul,Int.natCast_pow];rfl
theorem zFi(a n:Nat):(a:Int) / 2 ^ n=((a / 2 ^ n:Nat):Int):=by rw[Int.natCast_ediv,Int.natCast_pow];rfl
theorem zEy(x:Nat)(hx:x < 4294967296):bits .and .u32 (x:Int) 1=(x:Int)%2:=by
 rw[show(1:Int)=((1:Nat):Int) from rfl,Go.u32_and_nat _ _ hx aD,Go.nat_mask1];omega
theorem zCI(w:World):Below w.heap.size w w.drew.drew:=aB.drew.drew
theorem zDn(w:World):Below w.heap.size w w.drew:=aB.drew
theorem zM0(a n old t:Nat)(w:World)(ht:Fl.vT n a=t)(ha:a < 4294967296)(h0:0 < n)(hn:n < 32) :
  Calls Tryz.prog 97 #[.int .u8 5,.int .u32 a,.int .i64 n,.int .u32 old] w fun e w'=>e=.returned (.tuple #[.int .u32 ((a*2 ^ n%4294967296:Nat):Int),.int .u32 (Fl.zCf a n)])∧Below w.heap.size w w':=by
 have htl:t < 4294967296:=by have:=Fl.uO n a aO aO;omega
 have hz:((n:Int)==0)=false:=by simp;omega
 have h1:(0:Int)≤(n:Int) - 1:=aO
 have h2:(0:Int)≤n:=aO
 have ht1:bits .and .u32 (t:Int) 1=(t:Int)%2:=zEy t htl
 have hs:IntKind.u32.wrap ((a:Int)*2 ^ n)=((a*2 ^ n%4294967296:Nat):Int):=by rw[zDk,zCv]
 have hs0:0≤IntKind.u32.wrap ((a:Int)*2 ^ n):=by rw[hs];omega
 have hs1:IntKind.u32.wrap ((a:Int)*2 ^ n) < 4294967296:=by rw[hs];omega
 have HS:Hid _:=hs
 have HS0:Hid _:=hs0
 have HS1:Hid _:=hs1
 clear hs hs0 hs1
 have he:Fl.yC (IntKind.u32.wrap ((a:Int)*2 ^ n))+(t:Int)%2*4=Fl.zCf a n:=by
  rw[HS.out,← ht,zLG a n ha h0 hn]
  unfold Fl.zCf
  have:=zCZ ((a*2 ^ n / 4294967296:Nat):Int)
  have e:((a*2 ^ n / 4294967296%2:Nat):Int)=((a*2 ^ n / 4294967296:Nat):Int)%2:=aO
  rw[e,this]
  have e2:(((a*2 ^ n / 4294967296:Nat):Int)%2==1)=(a*2 ^ n / 4294967296%2==1):=by
   generalize a*2 ^ n / 4294967296=q
   rw[Bool.eq_iff_iff];simp;omega
  rw[e2]
 have HE:Hid _:=he
 have HT:Hid _:=ht
 clear ht he
 go_enter Tryz.func97,Tryz.ntmps97
 go_wp2_with (first
  | (go_at_call 96;refine(zBr a n t _ HT.out ha hn).mono ?_;rintro e w1 ⟨rfl,rfl⟩))
 go_region
 go_wp2
 go_region_with (go_at_call 102;refine(zCl _ _ 0 _ HS0.out HS1.out aO aO aO aO).mono ?_;rintro e w1 ⟨rfl,rfl⟩)
 all_goals go_wp2
 all_goals go_ret2
 all_goals exact⟨zAC HS.out HE.out,zCI w⟩
theorem zM1(a n old t:Nat)(w:World)(ht:Fl.vT n a=t)(ha:a < 4294967296)(h0:0 < n)(hn:n < 32) :
  Calls Tryz.prog 97 #[.int .u8 6,.int .u32 a,.int .i64 n,.int .u32 old] w fun e w'=>e=.returned (.tuple #[.int .u32 ((a:Int) / 2 ^ n),.int .u32 (Fl.zCg a n)])∧Below w.heap.size w w':=by
 have htl:t < 4294967296:=by have:=Fl.uO n a aO aO;omega
 have hz:((n:Int)==0)=false:=by simp;omega
 have h1:(0:Int)≤(n:Int) - 1:=aO
 have h2:(0:Int)≤n:=aO
 have ht1:bits .and .u32 (t:Int) 1=(t:Int)%2:=zEy t htl
 obtain⟨q,hq⟩:∃ q:Nat,(a:Int) / 2 ^ (n - 1)=q:=⟨_,zFi a (n - 1)⟩
 have hql:q < 4294967296:=by have:=(Fl.zAN a (n - 1) aO).2;rw[hq] at this;omega
 have hq1:bits .and .u32 (q:Int) 1=(q:Int)%2:=zEy q hql
 have hs0:0≤(a:Int) / 2 ^ n:=(Fl.zAN a n aO).1
 have hs1:(a:Int) / 2 ^ n < 4294967296:=Int.lt_of_le_of_lt (Fl.zAN a n aO).2 aO
 have HS0:Hid _:=hs0
 have HS1:Hid _:=hs1
 clear hs0 hs1
 have he:Fl.yC ((a:Int) / 2 ^ n)+(q:Int)%2*4=Fl.zCg a n:=by
  unfold Fl.zCg
  rw[hq,zCZ]
 have HE:Hid _:=he
 have HT:Hid _:=ht
 clear ht he
 go_enter Tryz.func97,Tryz.ntmps97
 go_wp2_with (first
  | (go_at_call 96;refine(zBr a n t _ HT.out ha hn).mono ?_;rintro e w1 ⟨rfl,rfl⟩))
 go_region
 go_wp2
 go_region_with (go_at_call 102;refine(zCl _ _ 0 _ HS0.out HS1.out aO aO aO aO).mono ?_;rintro e w1 ⟨rfl,rfl⟩)
 all_goals go_wp2
 all_goals go_ret2
 all_goals exact⟨zAC rfl HE.out,zCI w⟩
theorem zLu(a n:Nat)(hn:n < 32):Fl.vP a / 2 ^ n%4294967296%2=(a:Int) / 2 ^ n%2:=by
 have e:∀ x:Int,x%4294967296%2=x%2:=fun x=>by omega
 rw[e]
 unfold Fl.vP
 split
 ·have hp:(2:Int) ^ (31 - n)*2*2 ^ n=4294967296:=by
   rw[← Int.pow_succ,← Int.pow_add,show(31 - n).succ+n=32 by omega];rfl
  have:(a:Int) - 4294967296=a+(-(2 ^ (31 - n)*2))*2 ^ n:=by rw[Int.neg_mul,hp];rfl
  rw[this,Int.add_mul_ediv_right _ _ (Int.ne_of_gt (Int.pow_pos aD))]
  generalize (2:Int) ^ (31 - n)=z
  omega
 ·rfl
theorem zAd(a:Nat)(ha:a < 4294967296):wrap32 (a:Int)=Fl.vP a:=by
 unfold Fl.vP
 split
 ·rw[show wrap32 (a:Int)=(a:Int) - 4294967296 from by simp[wrap32,IntKind.wrap,IntKind.bits,IntKind.signed];omega]
 ·rw[show wrap32 (a:Int)=(a:Int) from by simp[wrap32,IntKind.wrap,IntKind.bits,IntKind.signed];omega]
theorem zM2(a n old t:Nat)(w:World)(ht:Fl.vT n a=t)(ha:a < 4294967296)(h0:0 < n)(hn:n < 32) :
  Calls Tryz.prog 97 #[.int .u8 7,.int .u32 a,.int .i64 n,.int .u32 old] w fun e w'=>e=.returned (.tuple #[.int .u32 (Fl.vP a / 2 ^ n%4294967296),.int .u32 (Fl.zCe a n)])∧Below w.heap.size w w':=by
 have htl:t < 4294967296:=by have:=Fl.uO n a aO aO;omega
 have hz:((n:Int)==0)=false:=by simp;omega
 have h1:(0:Int)≤(n:Int) - 1:=aO
 have h2:(0:Int)≤n:=aO
 have ht1:bits .and .u32 (t:Int) 1=(t:Int)%2:=zEy t htl
 obtain⟨q,hq⟩:∃ q:Nat,(a:Int) / 2 ^ (n - 1)=q:=⟨_,zFi a (n - 1)⟩
 have hql:q < 4294967296:=by have:=(Fl.zAN a (n - 1) aO).2;rw[hq] at this;omega
 have hq1:bits .and .u32 (q:Int) 1=(q:Int)%2:=zEy q hql
 have hw:wrap32 (a:Int)=Fl.vP a:=zAd a ha
 have he:Fl.yC (Fl.vP a / 2 ^ n%4294967296)+(q:Int)%2*4=Fl.zCe a n:=by
  unfold Fl.zCe
  rw[zLu a (n - 1) aO,hq,zCZ,Int.ediv_ediv_of_nonneg (Int.le_of_lt (Int.pow_pos aD)),← Int.pow_succ,show(n - 1).succ=n by omega]
 have hs0:0≤Fl.vP a / 2 ^ n%4294967296:=Int.emod_nonneg _ aD
 have hs1:Fl.vP a / 2 ^ n%4294967296 < 4294967296:=Int.emod_lt_of_pos _ aD
 have HS0:Hid _:=hs0
 have HS1:Hid _:=hs1
 clear hs0 hs1
 have HE:Hid _:=he
 have HT:Hid _:=ht
 clear ht he
 go_enter Tryz.func97,Tryz.ntmps97
 go_wp2_with (first
  | (go_at_call 96;refine(zBr a n t _ HT.out ha hn).mono ?_;rintro e w1 ⟨rfl,rfl⟩))
 go_region
 go_wp2_with (go_at_call 102;refine(zCl _ _ 0 _ HS0.out HS1.out aO aO aO aO).mono ?_;rintro e w1 ⟨rfl,rfl⟩)
 go_ret2
 exact⟨zAC rfl HE.out,zDn w⟩
theorem zM7:∀ o:Fin 16,∀ l:Fin 2,bits .or .u32 (bits .andNot .u32 (o.val:Int) 4) ((l.val:Int)*4)=(o.val:Int) - (((o.val / 4%2:Nat)):Int)*4+(l.val:Int)*4:=by decide +kernel
theorem zM3(a n old t:Nat)(w:World)(ht:Fl.vT n a=t)(ha:a < 4294967296)(h0:0 < n)(hn:n < 32)(ho:old < 16) :
  Calls Tryz.prog 97 #[.int .u8 8,.int .u32 a,.int .i64 n,.int .u32 old] w fun e w'=>e=.returned (.tuple #[.int .u32 t,.int .u32 (Fl.zBH a n old)])∧Below w.heap.size w w':=by
 have htl:t < 4294967296:=by have:=Fl.uO n a aO aO;omega
 have hz:((n:Int)==0)=false:=by simp;omega
 have h1:(0:Int)≤(n:Int) - 1:=aO
 have h2:(0:Int)≤n:=aO
 have ht1:bits .and .u32 (t:Int) 1=(t:Int)%2:=zEy t htl
 have he:bits .or .u32 (bits .andNot .u32 (old:Int) 4) ((t:Int)%2*4)=Fl.zBH a n old:=by
  have:=zM7 ⟨old,ho⟩ ⟨t%2,by omega⟩
  have e:(((t%2:Nat)):Int)=(t:Int)%2:=aO
  simp only[e] at this
  rw[this]
  unfold Fl.zBH
  rw[ht,zCZ]
  unfold Fl.vM
  rw[Nat.mod_eq_of_lt ho]
 have HE:Hid _:=he
 have HT:Hid _:=ht
 clear ht he
 go_enter Tryz.func97,Tryz.ntmps97
 go_wp2_with (first
  | (go_at_call 96;refine(zBr a n t _ HT.out ha hn).mono ?_;rintro e w1 ⟨rfl,rfl⟩))
 go_region
 go_wp2
 go_ret2
 exact⟨zAC rfl HE.out,zDn w⟩
theorem zAl(x:Nat)(hx:x < 4294967296):bits .and .u32 (x:Int) 15=((x%16:Nat):Int):=by
 rw[show(15:Int)=((15:Nat):Int) from rfl,Go.u32_and_nat _ _ hx aD,Go.nat_mask4]
theorem zBe(x:Nat)(hx:x < 4294967296):bits .and .u32 (x:Int) 31=((x%32:Nat):Int):=by
 rw[show(31:Int)=((31:Nat):Int) from rfl,Go.u32_and_nat _ _ hx aD,Go.nat_mask5]
theorem zMV:∀ f o:Fin 16,bits .or .u32 (bits .andNot .u32 (f.val:Int) 4) (bits .and .u32 (o.val:Int) 4)=(f.val:Int) - ((f.val / 4%2:Nat):Int)*4+((o.val / 4%2:Nat):Int)*4:=by decide +kernel
theorem zIl(V:Int)(c d:Bool)(h:0≤V∧V≤3):((V+Fl.uH c 4+Fl.uH d 8).toNat / 4%2:Nat)=Fl.uH c 1∧0≤V+Fl.uH c 4+Fl.uH d 8∧V+Fl.uH c 4+Fl.uH d 8 < 16:=by
 unfold Fl.uH;cases c<;>cases d<;>simp<;>omega
theorem zE1(F o16:Nat)(V:Int)(c d:Bool)(h:0≤V∧V≤3)(e:(F:Int)=V+Fl.uH c 4+Fl.uH d 8)(ho:o16 < 16) :
  bits .or .u32 (bits .andNot .u32 (F:Int) 4) (bits .and .u32 (o16:Int) 4)=V+((o16 / 4%2:Nat):Int)*4+Fl.uH d 8:=by
 have hs:=zIl V c d h
 have hF:F < 16:=aO
 have:=zMV ⟨F,hF⟩ ⟨o16,ho⟩
 rw[this]
 have e2:(V+Fl.uH c 4+Fl.uH d 8).toNat=F:=aO
 rw[e2] at hs
 have e3:Fl.uH c 4=Fl.uH c 1*4:=(zBX c 4).symm
 have:=hs.1
 simp only at *
 omega
def wkL:List Value:=[.int .u8 0,.bool false,.bool false,.int .u8 1,.bool false,.bool false,.int .u8 1,.bool true,.bool false,.int .u8 2,.bool false,.bool false,.int .u8 2,.bool true,.bool false,.int .u8 3,.bool false,.bool false,.int .u8 5,.bool false,.bool false,.int .u8 6,.bool false,.bool false,.int .u8 7,.bool false,.bool false,.int .u8 8,.bool false,.bool false,.int .u8 4,.bool false,.bool false,.int .u8 1,.bool false,.bool true,.int .u8 2,.bool false,.bool true]
def uP:Array Value:=wkL.toArray
def wkZ:Array Value:=#[.int .u8 0,.bool false,.bool false,.int .u8 0,.bool false,.bool false,.int .u8 0,.bool false,.bool false,.int .u8 0,.bool false,.bool false,.int .u8 0,.bool false,.bool false,.int .u8 0,.bool false,.bool false,.int .u8 0,.bool false,.bool false,.int .u8 0,.bool false,.bool false,.int .u8 0,.bool false,.bool false,.int .u8 0,.bool false,.bool false,.int .u8 0,.bool false,.bool false,.int .u8 0,.bool false,.bool false,.int .u8 0,.bool false,.bool false]
theorem vI:(Tryz.prog.info? 166).map (fun i=>(i.zero,i.size))=some (some (.agg wkZ),39):=by kernel_rfl
theorem wkS{W w:World}{ops:Array Oper}{rest:List Oper}{o:Oper}{a:Act}{Q:Exit→Act→World→Prop}{x y:Operand}(hgd:o.guard=none)(ho:o.op=.store 166 x y)(hx:a.eval x=.pointer (some ⟨w.heap.size,0,none⟩))(hy:a.eval y=.agg uP)(hW:W=w.alloc (.cells wkZ 166))(h:wpList Tryz.prog ops Q rest (a.put o.dst undef) (w.alloc (.cells uP 166))):wpList Tryz.prog ops Q (o :: rest) a W:=
 hW▸wpList_store_row hgd 166 x y ho w.heap.size uP hx hy 166 wkZ (heap_alloc_last w _) (Go.zero_of_info vI).2 (by rfl) (by kernel_rfl) (by rw[World.setRow_alloc_new];exact h)
theorem yI(w:World)(o1 o2:Obj):Below w.heap.size w ((w.alloc o1).alloc o2):=(aB.alloc aL _).alloc aS _
theorem yF(w:World)(o1:Obj):Below w.heap.size w (w.alloc o1):=aB.alloc aL _
theorem zB1{w w1:World}{o1 o2:Obj}(h:Below ((w.alloc o1).alloc o2).heap.size ((w.alloc o1).alloc o2) w1):Below w.heap.size w w1:=(yI w o1 o2).trans (h.mono zq7)
end Go.Proofs.YthcpipfmicbnmaaGreat.Va
