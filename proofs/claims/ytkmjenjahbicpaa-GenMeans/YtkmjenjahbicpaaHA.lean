import Derived.Test.YtkmjenjahbicpaaHC
import Derived.OwnWalk
import Derived.Below
import Derived.Deep.RegionHeld3
import Derived.Deep.CutBlock
set_option linter.unusedVariables false
set_option linter.unusedSimpArgs false
namespace Go.Proofs.Ytkmjenjahbicpaa.Ho
open Go.RowKit
set_option maxRecDepth 100000
theorem zA{w:World}{X:Nat}{A:Array Value}{T:TypeId}(h:w.heap[X]?=some (.cells A T))(o:Nat):w.cell? ⟨X,o,none⟩=A[o]?:=cell_of_row _ _ o _ _ (0,0) h
theorem zD{w:World}{X:Nat}{A:Array Value}{T:TypeId}(h:w.heap[X]?=some (.cells A T))(o:Nat):w.frozen? ⟨X,o,none⟩=false:=frozen_of_row _ _ o _ _ h
theorem zE{w:World}{X:Nat}{A:Array Value}{T:TypeId}(h:w.heap[X]?=some (.cells A T)):X < w.heap.size:=by
 rcases Nat.lt_or_ge X w.heap.size with g|g
 ·exact g
 ·rw[Array.getElem?_eq_none g] at h;cases h
theorem yE{w:World}{X o:Nat}{A:Array Value}{T:TypeId}(h:w.heap[X]?=some (.cells A T))(v:Value):(w.setCell ⟨X,o,none⟩ v).heap[X]?=some (.cells (A.setIfInBounds o v) T):=heap_setCell_same w X o A T v h
theorem zQ{w:World}{X Y o:Nat}(hne:Y≠X)(v:Value):(w.setCell ⟨X,o,none⟩ v).heap[Y]?=w.heap[Y]?:=Below.heap_setCell w ⟨X,o,none⟩ v Y hne
structure zJ(S:List Nat)(w w':World):Prop where
 os:w'.os=w.os
 tape:w'.tape=w.tape
 output:w'.output=w.output
 size:w.heap.size≤w'.heap.size
 block:∀ k,k < w.heap.size→k∉S→w'.heap[k]?=w.heap[k]?
theorem zJ.refl(S:List Nat)(w:World):zJ S w w:=⟨rfl,rfl,rfl,Nat.le_refl _,fun _ _ _=>rfl⟩
theorem zJ.trans{S:List Nat}{a b c:World}(h:zJ S a b)(k:zJ S b c):zJ S a c:=
 ⟨k.os.trans h.os,k.tape.trans h.tape,k.output.trans h.output,Nat.le_trans h.size k.size,fun i hi hs=>(k.block i (Nat.lt_of_lt_of_le hi h.size) hs).trans (h.block i hi hs)⟩
theorem zJ.mono{S S':List Nat}{w w':World}(h:zJ S w w')(hs:∀ k∈S,k∈S'):zJ S' w w':=
 ⟨h.os,h.tape,h.output,h.size,fun k hk hn=>h.block k hk (fun hm=>hn (hs k hm))⟩
theorem zJ.of_below{w w':World}(S:List Nat)(h:Below w.heap.size w w'):zJ S w w':=
 ⟨h.os,h.tape,h.output,h.size,fun k hk _=>h.block k hk⟩
theorem zJ.below{S:List Nat}{w w':World}{n:Nat}(h:zJ S w w')(hn:n≤w.heap.size)(hS:∀ k∈S,n≤k):Below n w w':=
 ⟨h.os,h.tape,h.output,h.size,fun k hk=>h.block k aO (fun hm=>by have:=hS k hm;omega)⟩
theorem zJ.set{S:List Nat}{a b:World}(h:zJ S a b){B:Nat}(hB:B∈S)(o:Nat)(v:Value):zJ S a (b.setCell ⟨B,o,none⟩ v):=
 h.trans ⟨rfl,rfl,rfl,by simp,fun k _ hs=>Below.heap_setCell b ⟨B,o,none⟩ v k (fun e=>hs (e▸hB))⟩
theorem zJ.drew{S:List Nat}{a b:World}(h:zJ S a b):zJ S a b.drew:=h.trans (zJ.of_below _ aB.drew)
theorem zJ.alloc{S:List Nat}{a b:World}(h:zJ S a b)(o:Obj):zJ S a (b.alloc o):=h.trans (zJ.of_below _ (aB.alloc aL _))
theorem zJ.keep{S:List Nat}{w w':World}(h:zJ S w w'){k:Nat}{A:Array Value}{T:TypeId}(hb:w.heap[k]?=some (.cells A T))(hs:k∉S):w'.heap[k]?=some (.cells A T):=(h.block k (zE hb) hs).trans hb
theorem zD9(w:World):Calls Try.prog 90 #[.int .i64 8] w fun e w'=>e=.returned (.int .u32 255)∧w=w':=by
 go_enter Try.func90,Try.ntmps90;go_wp2;go_ret;exact⟨rfl,rfl⟩
theorem zD6(x:Nat)(hx:x < 4294967296):bits .and .u32 (x:Int) 255=((x%256:Nat):Int):=by
 rw[show(255:Int)=((255:Nat):Int) from rfl,Go.u32_and_nat _ _ hx aD]
 exact congrArg _ (Nat.and_two_pow_sub_one_eq_mod x 8)
theorem zDK(w:World):Calls Try.prog 90 #[.int .i64 4] w fun e w'=>e=.returned (.int .u32 15)∧w=w':=by
 go_enter Try.func90,Try.ntmps90;go_wp2;go_ret;exact⟨rfl,rfl⟩
theorem zDI(x:Nat)(hx:x < 4294967296):bits .and .u32 (x:Int) 15=((x%16:Nat):Int):=by
 rw[show(15:Int)=((15:Nat):Int) from rfl,Go.u32_and_nat _ _ hx aD]
 exact congrArg _ (Nat.and_two_pow_sub_one_eq_mod x 4)
theorem zKG(w:World):Calls Try.prog 90 #[.int .i64 16] w fun e w'=>e=.returned (.int .u32 65535)∧w=w':=by
 go_enter Try.func90,Try.ntmps90;go_wp2;go_ret;exact⟨rfl,rfl⟩
theorem zKu(x:Nat)(hx:x < 4294967296):bits .and .u32 (x:Int) 65535=((x%65536:Nat):Int):=by
 rw[show(65535:Int)=((65535:Nat):Int) from rfl,Go.u32_and_nat _ _ hx aD]
 exact congrArg _ (Nat.and_two_pow_sub_one_eq_mod x 16)
theorem zEY:∀ (a b:Nat),a &&& b=0→a ||| b=a+b:=by
 intro a
 induction a using Nat.strongRecOn with
 | ind a ih=>
  intro b h
  by_cases h0:a=0
  ·subst h0;simp
  ·have hd:a / 2 &&& b / 2=0:=by rw[← Nat.and_div_two,h]
   have hr:=ih (a / 2) aO (b / 2) hd
   have hm:(a ||| b) / 2=a / 2 ||| b / 2:=Nat.or_div_two
   have h2:(a &&& b)%2=0:=by rw[h]
   have e:(a ||| b)%2=(a%2+b%2):=by
    have t0:(a &&& b).testBit 0=false:=by rw[h];simp
    have t1:(a ||| b).testBit 0=(a.testBit 0 || b.testBit 0):=Nat.testBit_or _ _ _
    rw[Nat.testBit_and] at t0
    simp only[Nat.testBit_zero] at t0 t1
    have:=Nat.mod_two_eq_zero_or_one (a ||| b)
    have:=Nat.mod_two_eq_zero_or_one a
    have:=Nat.mod_two_eq_zero_or_one b
    rcases Nat.mod_two_eq_zero_or_one a with ha|ha<;>rcases Nat.mod_two_eq_zero_or_one b with hb|hb<;>rcases Nat.mod_two_eq_zero_or_one (a ||| b) with hc|hc<;>rw[ha,hb] at t0 t1<;>rw[hc] at t1<;>first|(exact absurd t0 aD)|(exact absurd t1 aD)|omega
   omega
theorem zBb(a b:Nat)(ha:a < 4294967296)(h:a &&& b=b):a &&& (4294967295 - b)=a - b:=by
 have hb:b≤a:=by rw[← h];exact Nat.and_le_left
 have hx:a ^^^ b=a - b:=by
  have h2:(a ^^^ b) &&& b=0:=by
   apply Nat.eq_of_testBit_eq
   intro i
   have:=congrArg (fun n=>n.testBit i) h
   simp only[Nat.testBit_and] at this
   rw[Nat.testBit_and,Nat.testBit_xor,Nat.zero_testBit]
   revert this;cases a.testBit i<;>cases b.testBit i<;>simp
  have h3:=zEY (a ^^^ b) b h2
  have h4:(a ^^^ b) ||| b=a:=by
   apply Nat.eq_of_testBit_eq
   intro i
   have:=congrArg (fun n=>n.testBit i) h
   simp only[Nat.testBit_and] at this
   rw[Nat.testBit_or,Nat.testBit_xor]
   revert this;cases a.testBit i<;>cases b.testBit i<;>simp
  omega
 rw[← hx]
 apply Nat.eq_of_testBit_eq
 intro i
 have hab:=congrArg (fun n=>n.testBit i) h
 simp only[Nat.testBit_and] at hab
 rw[Nat.testBit_and,Nat.testBit_xor,show(4294967295:Nat) - b=2 ^ 32 - (b+1) by omega,Nat.testBit_two_pow_sub_succ aO]
 by_cases hi:i < 32
 ·revert hab;simp only[hi,decide_true,Bool.true_and];cases a.testBit i<;>cases b.testBit i<;>simp
 ·have e1:a.testBit i=false:=Nat.testBit_lt_two_pow (Nat.lt_of_lt_of_le (show a < 2 ^ 32 by simpa using ha) (Nat.pow_le_pow_right aD aO))
  have e2:b.testBit i=false:=Nat.testBit_lt_two_pow (Nat.lt_of_lt_of_le (show b < 2 ^ 32 by omega) (Nat.pow_le_pow_right aD aO))
  simp[e1,e2]
theorem zB2(v l b:Nat):v &&& (v / 2 ^ l%2 ^ b*2 ^ l)=v / 2 ^ l%2 ^ b*2 ^ l:=by
 apply Nat.eq_of_testBit_eq
 intro i
 rw[Nat.testBit_and,Nat.mul_comm,Nat.testBit_two_pow_mul]
 by_cases hi:l≤i
 ·rw[Nat.testBit_mod_two_pow,Nat.testBit_div_two_pow]
  rw[show i - l+l=i by omega]
  simp[hi]
 ·simp[hi]
def zN(c:Bool)(l b v:Nat):Nat:=if c then v / l%b else 0
def rst(c:Bool)(l b v:Nat):Nat:=if c then v - v / l%b*l else v
theorem zEf(c:Bool)(l b v:Nat)(h:v < 4294967296):rst c l b v < 4294967296:=by unfold rst;split<;>omega
theorem zG0(B:Nat)(v:Nat)(w:World)(hB:w.heap[B]?=some (.cells #[.int .u32 v] 22))(hv:v < 4294967296) :
  Calls Try.prog 96 #[.int .i64 0,.int .i64 8,.pointer (some ⟨B,0,none⟩)] w fun e w'=>e=.returned (.int .i64 (zN true 1 256 v))∧w'.heap[B]?=some (.cells #[.int .u32 (rst true 1 256 v)] 22)∧zJ [B] w w':=by
 have c0:w.cell? ⟨B,0,none⟩=some (.int .u32 v):=zA hB 0
 have f0:w.frozen? ⟨B,0,none⟩=false:=zD hB 0
 have lB:=zE hB
 have v0:(0:Int)≤v:=aO
 have v1:(v:Int) < 4294967296:=aO
 have hm:bits .and .u32 ((v:Int)) 255=((v / 1%256:Nat):Int):=by
  have:=zD6 (v / 1) aO
  simpa using this
 have hn:bits .andNot .u32 (v:Int) (IntKind.u32.wrap (((v / 1%256:Nat):Int)))=((v - v / 1%256*1:Nat):Int):=by
  rw[show IntKind.u32.wrap (((v / 1%256:Nat):Int))=((v / 1%256*1:Nat):Int) from by rw[IntWalk.u32_in _ aO];omega]
  rw[Go.u32_andNot_nat _ _ hv aO,zBb _ _ hv (zB2 v 0 8)]
 generalize hx:v / 1%256=x at *
 have x0:(0:Int)≤x:=aO
 have x1:(x:Int) < 256:=aO
 go_enter Try.func96,Try.ntmps96
 go_wp2_with (fail)
 go_region_held3 (fun W'=>W'.cell? ⟨B,0,none⟩=some (.int .u32 v)) ((simp[go_sem,c0];done)) ((go_at_call 90;refine(zD9 _).mono ?_;rintro e w1 ⟨rfl,rfl⟩))
 try rw[hm]
 go_wp2
 go_region_with (fail)
 try rw[hn]
 go_wp2
 go_ret
 exact⟨by rw[zN,if_pos rfl,hx];rfl,by rw[rst,if_pos rfl,hx];first|exact yE (o:=0) hB _|(rw[Nat.mul_one];exact yE (o:=0) hB _),(((zJ.refl [B] w).set aS _ _).drew).drew⟩
theorem zPf(B:Nat)(v:Nat)(w:World)(hB:w.heap[B]?=some (.cells #[.int .u32 v] 22))(hv:v < 4294967296) :
  Calls Try.prog 96 #[.int .i64 8,.int .i64 4,.pointer (some ⟨B,0,none⟩)] w fun e w'=>e=.returned (.int .i64 (zN true 256 16 v))∧w'.heap[B]?=some (.cells #[.int .u32 (rst true 256 16 v)] 22)∧zJ [B] w w':=by
 have c0:w.cell? ⟨B,0,none⟩=some (.int .u32 v):=zA hB 0
 have f0:w.frozen? ⟨B,0,none⟩=false:=zD hB 0
 have lB:=zE hB
 have v0:(0:Int)≤v:=aO
 have v1:(v:Int) < 4294967296:=aO
 have hm:bits .and .u32 ((v:Int) / 256) 15=((v / 256%16:Nat):Int):=by
  have:=zDI (v / 256) aO
  simpa using this
 have hn:bits .andNot .u32 (v:Int) (IntKind.u32.wrap (((v / 256%16:Nat):Int)*256))=((v - v / 256%16*256:Nat):Int):=by
  rw[show IntKind.u32.wrap (((v / 256%16:Nat):Int)*256)=((v / 256%16*256:Nat):Int) from by rw[IntWalk.u32_in _ aO];omega]
  rw[Go.u32_andNot_nat _ _ hv aO,zBb _ _ hv (zB2 v 8 4)]
 generalize hx:v / 256%16=x at *
 have x0:(0:Int)≤x:=aO
 have x1:(x:Int) < 16:=aO
 go_enter Try.func96,Try.ntmps96
 go_wp2_with (fail)
 go_region_held3 (fun W'=>W'.cell? ⟨B,0,none⟩=some (.int .u32 v)) ((simp[go_sem,c0];done)) ((go_at_call 90;refine(zDK _).mono ?_;rintro e w1 ⟨rfl,rfl⟩))
 try rw[hm]
 go_wp2
 go_region_with (fail)
 try rw[hn]
 go_wp2
 go_ret
 exact⟨by rw[zN,if_pos rfl,hx];rfl,by rw[rst,if_pos rfl,hx];first|exact yE (o:=0) hB _|(rw[Nat.mul_one];exact yE (o:=0) hB _),(((zJ.refl [B] w).set aS _ _).drew).drew⟩
theorem zMZ(B:Nat)(v:Nat)(w:World)(hB:w.heap[B]?=some (.cells #[.int .u32 v] 22))(hv:v < 4294967296) :
  Calls Try.prog 96 #[.int .i64 12,.int .i64 4,.pointer (some ⟨B,0,none⟩)] w fun e w'=>e=.returned (.int .i64 (zN true 4096 16 v))∧w'.heap[B]?=some (.cells #[.int .u32 (rst true 4096 16 v)] 22)∧zJ [B] w w':=by
 have c0:w.cell? ⟨B,0,none⟩=some (.int .u32 v):=zA hB 0
 have f0:w.frozen? ⟨B,0,none⟩=false:=zD hB 0
 have lB:=zE hB
 have v0:(0:Int)≤v:=aO
 have v1:(v:Int) < 4294967296:=aO
 have hm:bits .and .u32 ((v:Int) / 4096) 15=((v / 4096%16:Nat):Int):=by
  have:=zDI (v / 4096) aO
  simpa using this
 have hn:bits .andNot .u32 (v:Int) (IntKind.u32.wrap (((v / 4096%16:Nat):Int)*4096))=((v - v / 4096%16*4096:Nat):Int):=by
  rw[show IntKind.u32.wrap (((v / 4096%16:Nat):Int)*4096)=((v / 4096%16*4096:Nat):Int) from by rw[IntWalk.u32_in _ aO];omega]
  rw[Go.u32_andNot_nat _ _ hv aO,zBb _ _ hv (zB2 v 12 4)]
 generalize hx:v / 4096%16=x at *
 have x0:(0:Int)≤x:=aO
 have x1:(x:Int) < 16:=aO
 go_enter Try.func96,Try.ntmps96
 go_wp2_with (fail)
 go_region_held3 (fun W'=>W'.cell? ⟨B,0,none⟩=some (.int .u32 v)) ((simp[go_sem,c0];done)) ((go_at_call 90;refine(zDK _).mono ?_;rintro e w1 ⟨rfl,rfl⟩))
 try rw[hm]
 go_wp2
 go_region_with (fail)
 try rw[hn]
 go_wp2
 go_ret
 exact⟨by rw[zN,if_pos rfl,hx];rfl,by rw[rst,if_pos rfl,hx];first|exact yE (o:=0) hB _|(rw[Nat.mul_one];exact yE (o:=0) hB _),(((zJ.refl [B] w).set aS _ _).drew).drew⟩
theorem zM0(B:Nat)(v:Nat)(w:World)(hB:w.heap[B]?=some (.cells #[.int .u32 v] 22))(hv:v < 4294967296) :
  Calls Try.prog 96 #[.int .i64 16,.int .i64 4,.pointer (some ⟨B,0,none⟩)] w fun e w'=>e=.returned (.int .i64 (zN true 65536 16 v))∧w'.heap[B]?=some (.cells #[.int .u32 (rst true 65536 16 v)] 22)∧zJ [B] w w':=by
 have c0:w.cell? ⟨B,0,none⟩=some (.int .u32 v):=zA hB 0
 have f0:w.frozen? ⟨B,0,none⟩=false:=zD hB 0
 have lB:=zE hB
 have v0:(0:Int)≤v:=aO
 have v1:(v:Int) < 4294967296:=aO
 have hm:bits .and .u32 ((v:Int) / 65536) 15=((v / 65536%16:Nat):Int):=by
  have:=zDI (v / 65536) aO
  simpa using this
 have hn:bits .andNot .u32 (v:Int) (IntKind.u32.wrap (((v / 65536%16:Nat):Int)*65536))=((v - v / 65536%16*65536:Nat):Int):=by
  rw[show IntKind.u32.wrap (((v / 65536%16:Nat):Int)*65536)=((v / 65536%16*65536:Nat):Int) from by rw[IntWalk.u32_in _ aO];omega]
  rw[Go.u32_andNot_nat _ _ hv aO,zBb _ _ hv (zB2 v 16 4)]
 generalize hx:v / 65536%16=x at *
 have x0:(0:Int)≤x:=aO
 have x1:(x:Int) < 16:=aO
 go_enter Try.func96,Try.ntmps96
 go_wp2_with (fail)
 go_region_held3 (fun W'=>W'.cell? ⟨B,0,none⟩=some (.int .u32 v)) ((simp[go_sem,c0];done)) ((go_at_call 90;refine(zDK _).mono ?_;rintro e w1 ⟨rfl,rfl⟩))
 try rw[hm]
 go_wp2
 go_region_with (fail)
 try rw[hn]
 go_wp2
 go_ret
 exact⟨by rw[zN,if_pos rfl,hx];rfl,by rw[rst,if_pos rfl,hx];first|exact yE (o:=0) hB _|(rw[Nat.mul_one];exact yE (o:=0) hB _),(((zJ.refl [B] w).set aS _ _).drew).drew⟩
theorem zM1(B:Nat)(v:Nat)(w:World)(hB:w.heap[B]?=some (.cells #[.int .u32 v] 22))(hv:v < 4294967296) :
  Calls Try.prog 96 #[.int .i64 20,.int .i64 4,.pointer (some ⟨B,0,none⟩)] w fun e w'=>e=.returned (.int .i64 (zN true 1048576 16 v))∧w'.heap[B]?=some (.cells #[.int .u32 (rst true 1048576 16 v)] 22)∧zJ [B] w w':=by
 have c0:w.cell? ⟨B,0,none⟩=some (.int .u32 v):=zA hB 0
 have f0:w.frozen? ⟨B,0,none⟩=false:=zD hB 0
 have lB:=zE hB
 have v0:(0:Int)≤v:=aO
 have v1:(v:Int) < 4294967296:=aO
 have hm:bits .and .u32 ((v:Int) / 1048576) 15=((v / 1048576%16:Nat):Int):=by
  have:=zDI (v / 1048576) aO
  simpa using this
 have hn:bits .andNot .u32 (v:Int) (IntKind.u32.wrap (((v / 1048576%16:Nat):Int)*1048576))=((v - v / 1048576%16*1048576:Nat):Int):=by
  rw[show IntKind.u32.wrap (((v / 1048576%16:Nat):Int)*1048576)=((v / 1048576%16*1048576:Nat):Int) from by rw[IntWalk.u32_in _ aO];omega]
  rw[Go.u32_andNot_nat _ _ hv aO,zBb _ _ hv (zB2 v 20 4)]
 generalize hx:v / 1048576%16=x at *
 have x0:(0:Int)≤x:=aO
 have x1:(x:Int) < 16:=aO
 go_enter Try.func96,Try.ntmps96
 go_wp2_with (fail)
 go_region_held3 (fun W'=>W'.cell? ⟨B,0,none⟩=some (.int .u32 v)) ((simp[go_sem,c0];done)) ((go_at_call 90;refine(zDK _).mono ?_;rintro e w1 ⟨rfl,rfl⟩))
 try rw[hm]
 go_wp2
 go_region_with (fail)
 try rw[hn]
 go_wp2
 go_ret
 exact⟨by rw[zN,if_pos rfl,hx];rfl,by rw[rst,if_pos rfl,hx];first|exact yE (o:=0) hB _|(rw[Nat.mul_one];exact yE (o:=0) hB _),(((zJ.refl [B] w).set aS _ _).drew).drew⟩
theorem zKZ(B:Nat)(v:Nat)(w:World)(hB:w.heap[B]?=some (.cells #[.int .u32 v] 22))(hv:v < 4294967296) :
  Calls Try.prog 96 #[.int .i64 16,.int .i64 16,.pointer (some ⟨B,0,none⟩)] w fun e w'=>e=.returned (.int .i64 (zN true 65536 65536 v))∧w'.heap[B]?=some (.cells #[.int .u32 (rst true 65536 65536 v)] 22)∧zJ [B] w w':=by
 have c0:w.cell? ⟨B,0,none⟩=some (.int .u32 v):=zA hB 0
 have f0:w.frozen? ⟨B,0,none⟩=false:=zD hB 0
 have lB:=zE hB
 have v0:(0:Int)≤v:=aO
 have v1:(v:Int) < 4294967296:=aO
 have hm:bits .and .u32 ((v:Int) / 65536) 65535=((v / 65536%65536:Nat):Int):=by
  have:=zKu (v / 65536) aO
  simpa using this
 have hn:bits .andNot .u32 (v:Int) (IntKind.u32.wrap (((v / 65536%65536:Nat):Int)*65536))=((v - v / 65536%65536*65536:Nat):Int):=by
  rw[show IntKind.u32.wrap (((v / 65536%65536:Nat):Int)*65536)=((v / 65536%65536*65536:Nat):Int) from by rw[IntWalk.u32_in _ aO];omega]
  rw[Go.u32_andNot_nat _ _ hv aO,zBb _ _ hv (zB2 v 16 16)]
 generalize hx:v / 65536%65536=x at *
 have x0:(0:Int)≤x:=aO
 have x1:(x:Int) < 65536:=aO
 go_enter Try.func96,Try.ntmps96
 go_wp2_with (fail)
 go_region_held3 (fun W'=>W'.cell? ⟨B,0,none⟩=some (.int .u32 v)) ((simp[go_sem,c0];done)) ((go_at_call 90;refine(zKG _).mono ?_;rintro e w1 ⟨rfl,rfl⟩))
 try rw[hm]
 go_wp2
 go_region_with (fail)
 try rw[hn]
 go_wp2
 go_ret
 exact⟨by rw[zN,if_pos rfl,hx];rfl,by rw[rst,if_pos rfl,hx];first|exact yE (o:=0) hB _|(rw[Nat.mul_one];exact yE (o:=0) hB _),(((zJ.refl [B] w).set aS _ _).drew).drew⟩
structure FW(w:World)(BI BC R I:Nat)(v:Nat)(h:Int):Prop where
 bi:w.heap[BI]?=some (.cells #[.pointer (some ⟨I,0,none⟩)] 176)
 bc:w.heap[BC]?=some (.cells #[.func (Fn.func 96) #[] #[.pointer (some ⟨R,0,none⟩)]] 181)
 br:w.heap[R]?=some (.cells #[.int .u32 v] 22)
 ch:w.cell? ⟨I,11,none⟩=some (.int .u16 h)
 lI:I < w.heap.size
theorem zFT(BI BC R I v:Nat)(h:Int)(c:Bool)(w:World)(hW:FW w BI BC R I v h)(hv:v < 4294967296)(hc:bits .and .u16 h 448=0↔c=false) :
  Calls Try.prog 97 #[.int .u16 448,.int .i64 8,.int .i64 4,.pointer (some ⟨BI,0,none⟩),.pointer (some ⟨BC,0,none⟩)] w fun e w'=>e=.returned (.int .i64 (zN c 256 16 v))∧w'.heap[R]?=some (.cells #[.int .u32 (rst c 256 16 v)] 22)∧zJ [R] w w':=by
 have c0:w.cell? ⟨BI,0,none⟩=some (.pointer (some ⟨I,0,none⟩)):=zA hW.bi 0
 have c1:w.cell? ⟨BC,0,none⟩=some (.func (Fn.func 96) #[] #[.pointer (some ⟨R,0,none⟩)]):=zA hW.bc 0
 have c2:=hW.ch
 have l0:=zE hW.bi
 have l1:=zE hW.bc
 have l2:=hW.lI
 have HB:Hid _:=hW.br
 have HV:Hid _:=hv
 cases c
 ·have hz:=hc.2 rfl
  clear hW hv hc
  go_enter Try.func97,Try.ntmps97
  go_wp2_with (fail)
  go_ret
  exact⟨rfl,HB.out,zJ.refl _ _⟩
 ·have hz:(bits .and .u16 h 448==0)=false:=by
   cases hh:(bits .and .u16 h 448==0) with
   | false=>rfl
   | true=>exact absurd (hc.1 (by simpa using hh)) aS
  clear hW hv hc
  go_enter Try.func97,Try.ntmps97
  go_wp2_with (go_at_call 96;refine(zPf R v _ HB.out HV.out).mono ?_;rintro e w1 ⟨rfl,hb1,hc1⟩)
  go_ret
  exact⟨rfl,hb1,hc1⟩
theorem zFQ(BI BC R I v:Nat)(h:Int)(c:Bool)(w:World)(hW:FW w BI BC R I v h)(hv:v < 4294967296)(hc:bits .and .u16 h 1=0↔c=false) :
  Calls Try.prog 97 #[.int .u16 1,.int .i64 12,.int .i64 4,.pointer (some ⟨BI,0,none⟩),.pointer (some ⟨BC,0,none⟩)] w fun e w'=>e=.returned (.int .i64 (zN c 4096 16 v))∧w'.heap[R]?=some (.cells #[.int .u32 (rst c 4096 16 v)] 22)∧zJ [R] w w':=by
 have c0:w.cell? ⟨BI,0,none⟩=some (.pointer (some ⟨I,0,none⟩)):=zA hW.bi 0
 have c1:w.cell? ⟨BC,0,none⟩=some (.func (Fn.func 96) #[] #[.pointer (some ⟨R,0,none⟩)]):=zA hW.bc 0
 have c2:=hW.ch
 have l0:=zE hW.bi
 have l1:=zE hW.bc
 have l2:=hW.lI
 have HB:Hid _:=hW.br
 have HV:Hid _:=hv
 cases c
 ·have hz:=hc.2 rfl
  clear hW hv hc
  go_enter Try.func97,Try.ntmps97
  go_wp2_with (fail)
  go_ret
  exact⟨rfl,HB.out,zJ.refl _ _⟩
 ·have hz:(bits .and .u16 h 1==0)=false:=by
   cases hh:(bits .and .u16 h 1==0) with
   | false=>rfl
   | true=>exact absurd (hc.1 (by simpa using hh)) aS
  clear hW hv hc
  go_enter Try.func97,Try.ntmps97
  go_wp2_with (go_at_call 96;refine(zMZ R v _ HB.out HV.out).mono ?_;rintro e w1 ⟨rfl,hb1,hc1⟩)
  go_ret
  exact⟨rfl,hb1,hc1⟩
theorem zFR(BI BC R I v:Nat)(h:Int)(c:Bool)(w:World)(hW:FW w BI BC R I v h)(hv:v < 4294967296)(hc:bits .and .u16 h 2=0↔c=false) :
  Calls Try.prog 97 #[.int .u16 2,.int .i64 16,.int .i64 4,.pointer (some ⟨BI,0,none⟩),.pointer (some ⟨BC,0,none⟩)] w fun e w'=>e=.returned (.int .i64 (zN c 65536 16 v))∧w'.heap[R]?=some (.cells #[.int .u32 (rst c 65536 16 v)] 22)∧zJ [R] w w':=by
 have c0:w.cell? ⟨BI,0,none⟩=some (.pointer (some ⟨I,0,none⟩)):=zA hW.bi 0
 have c1:w.cell? ⟨BC,0,none⟩=some (.func (Fn.func 96) #[] #[.pointer (some ⟨R,0,none⟩)]):=zA hW.bc 0
 have c2:=hW.ch
 have l0:=zE hW.bi
 have l1:=zE hW.bc
 have l2:=hW.lI
 have HB:Hid _:=hW.br
 have HV:Hid _:=hv
 cases c
 ·have hz:=hc.2 rfl
  clear hW hv hc
  go_enter Try.func97,Try.ntmps97
  go_wp2_with (fail)
  go_ret
  exact⟨rfl,HB.out,zJ.refl _ _⟩
 ·have hz:(bits .and .u16 h 2==0)=false:=by
   cases hh:(bits .and .u16 h 2==0) with
   | false=>rfl
   | true=>exact absurd (hc.1 (by simpa using hh)) aS
  clear hW hv hc
  go_enter Try.func97,Try.ntmps97
  go_wp2_with (go_at_call 96;refine(zM0 R v _ HB.out HV.out).mono ?_;rintro e w1 ⟨rfl,hb1,hc1⟩)
  go_ret
  exact⟨rfl,hb1,hc1⟩
theorem zFS(BI BC R I v:Nat)(h:Int)(c:Bool)(w:World)(hW:FW w BI BC R I v h)(hv:v < 4294967296)(hc:bits .and .u16 h 4=0↔c=false) :
  Calls Try.prog 97 #[.int .u16 4,.int .i64 20,.int .i64 4,.pointer (some ⟨BI,0,none⟩),.pointer (some ⟨BC,0,none⟩)] w fun e w'=>e=.returned (.int .i64 (zN c 1048576 16 v))∧w'.heap[R]?=some (.cells #[.int .u32 (rst c 1048576 16 v)] 22)∧zJ [R] w w':=by
 have c0:w.cell? ⟨BI,0,none⟩=some (.pointer (some ⟨I,0,none⟩)):=zA hW.bi 0
 have c1:w.cell? ⟨BC,0,none⟩=some (.func (Fn.func 96) #[] #[.pointer (some ⟨R,0,none⟩)]):=zA hW.bc 0
 have c2:=hW.ch
 have l0:=zE hW.bi
 have l1:=zE hW.bc
 have l2:=hW.lI
 have HB:Hid _:=hW.br
 have HV:Hid _:=hv
 cases c
 ·have hz:=hc.2 rfl
  clear hW hv hc
  go_enter Try.func97,Try.ntmps97
  go_wp2_with (fail)
  go_ret
  exact⟨rfl,HB.out,zJ.refl _ _⟩
 ·have hz:(bits .and .u16 h 4==0)=false:=by
   cases hh:(bits .and .u16 h 4==0) with
   | false=>rfl
   | true=>exact absurd (hc.1 (by simpa using hh)) aS
  clear hW hv hc
  go_enter Try.func97,Try.ntmps97
  go_wp2_with (go_at_call 96;refine(zM1 R v _ HB.out HV.out).mono ?_;rintro e w1 ⟨rfl,hb1,hc1⟩)
  go_ret
  exact⟨rfl,hb1,hc1⟩
theorem zFU(BI BC R I v:Nat)(h:Int)(c:Bool)(w:World)(hW:FW w BI BC R I v h)(hv:v < 4294967296)(hc:bits .and .u16 h 8=0↔c=false) :
  Calls Try.prog 97 #[.int .u16 8,.int .i64 16,.int .i64 16,.pointer (some ⟨BI,0,none⟩),.pointer (some ⟨BC,0,none⟩)] w fun e w'=>e=.returned (.int .i64 (zN c 65536 65536 v))∧w'.heap[R]?=some (.cells #[.int .u32 (rst c 65536 65536 v)] 22)∧zJ [R] w w':=by
 have c0:w.cell? ⟨BI,0,none⟩=some (.pointer (some ⟨I,0,none⟩)):=zA hW.bi 0
 have c1:w.cell? ⟨BC,0,none⟩=some (.func (Fn.func 96) #[] #[.pointer (some ⟨R,0,none⟩)]):=zA hW.bc 0
 have c2:=hW.ch
 have l0:=zE hW.bi
 have l1:=zE hW.bc
 have l2:=hW.lI
 have HB:Hid _:=hW.br
 have HV:Hid _:=hv
 cases c
 ·have hz:=hc.2 rfl
  clear hW hv hc
  go_enter Try.func97,Try.ntmps97
  go_wp2_with (fail)
  go_ret
  exact⟨rfl,HB.out,zJ.refl _ _⟩
 ·have hz:(bits .and .u16 h 8==0)=false:=by
   cases hh:(bits .and .u16 h 8==0) with
   | false=>rfl
   | true=>exact absurd (hc.1 (by simpa using hh)) aS
  clear hW hv hc
  go_enter Try.func97,Try.ntmps97
  go_wp2_with (go_at_call 96;refine(zKZ R v _ HB.out HV.out).mono ?_;rintro e w1 ⟨rfl,hb1,hc1⟩)
  go_ret
  exact⟨rfl,hb1,hc1⟩
end Go.Proofs.Ytkmjenjahbicpaa.Ho
