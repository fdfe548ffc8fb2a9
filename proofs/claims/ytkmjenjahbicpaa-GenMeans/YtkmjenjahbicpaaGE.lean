import Derived.Test.YtkmjenjahbicpaaPE
set_option linter.unusedVariables false
set_option linter.unusedSimpArgs false
set_option maxHeartbeats 2000000
namespace Go.Proofs.Ytkmjenjahbicpaa.Ho
open Go.RowKit
set_option maxRecDepth 100000
def toT(k:Nat):Nat:=[0,2,6,7,16,32,5,48,64,80,88,10,11,13,12,14,4,97].getD k 0
def uN(k:Nat):Nat:=[0,0,1,1,0,0,0,0,0,0,0,0,0,2,2,0,0,0].getD k 0
def tcC:Array Value:=([.int .u8 0,.int .u8 0,.int .u8 2,.int .u8 0,.int .u8 6,.int .u8 1,.int .u8 7,.int .u8 1,.int .u8 16,.int .u8 0,.int .u8 32,.int .u8 0,.int .u8 5,.int .u8 0,.int .u8 48,.int .u8 0,.int .u8 64,.int .u8 0,.int .u8 80,.int .u8 0,.int .u8 88,.int .u8 0,.int .u8 10,.int .u8 0,.int .u8 11,.int .u8 0,.int .u8 13,.int .u8 2,.int .u8 12,.int .u8 2,.int .u8 14,.int .u8 0,.int .u8 4,.int .u8 0,.int .u8 97,.int .u8 0]:List Value).toArray
def tcZ:Array Value:=#[.int .u8 0,.int .u8 0,.int .u8 0,.int .u8 0,.int .u8 0,.int .u8 0,.int .u8 0,.int .u8 0,.int .u8 0,.int .u8 0,.int .u8 0,.int .u8 0,.int .u8 0,.int .u8 0,.int .u8 0,.int .u8 0,.int .u8 0,.int .u8 0,.int .u8 0,.int .u8 0,.int .u8 0,.int .u8 0,.int .u8 0,.int .u8 0,.int .u8 0,.int .u8 0,.int .u8 0,.int .u8 0,.int .u8 0,.int .u8 0,.int .u8 0,.int .u8 0,.int .u8 0,.int .u8 0,.int .u8 0,.int .u8 0]
theorem zBT:(Try.prog.info? 151).map (fun i=>(i.zero,i.size))=some (some (.agg tcZ),36):=by kernel_rfl
theorem zKi(k:Nat)(h1:1≤k)(h2:k≤17):tcC[k*2]?=some (.int .u8 (toT k))∧tcC[k*2+1]?=some (.int .u8 (uN k)):=by
 match k,h1,h2 with
 | 1,_,_=>exact⟨by kernel_rfl,by kernel_rfl⟩
 | 2,_,_=>exact⟨by kernel_rfl,by kernel_rfl⟩
 | 3,_,_=>exact⟨by kernel_rfl,by kernel_rfl⟩
 | 4,_,_=>exact⟨by kernel_rfl,by kernel_rfl⟩
 | 5,_,_=>exact⟨by kernel_rfl,by kernel_rfl⟩
 | 6,_,_=>exact⟨by kernel_rfl,by kernel_rfl⟩
 | 7,_,_=>exact⟨by kernel_rfl,by kernel_rfl⟩
 | 8,_,_=>exact⟨by kernel_rfl,by kernel_rfl⟩
 | 9,_,_=>exact⟨by kernel_rfl,by kernel_rfl⟩
 | 10,_,_=>exact⟨by kernel_rfl,by kernel_rfl⟩
 | 11,_,_=>exact⟨by kernel_rfl,by kernel_rfl⟩
 | 12,_,_=>exact⟨by kernel_rfl,by kernel_rfl⟩
 | 13,_,_=>exact⟨by kernel_rfl,by kernel_rfl⟩
 | 14,_,_=>exact⟨by kernel_rfl,by kernel_rfl⟩
 | 15,_,_=>exact⟨by kernel_rfl,by kernel_rfl⟩
 | 16,_,_=>exact⟨by kernel_rfl,by kernel_rfl⟩
 | 17,_,_=>exact⟨by kernel_rfl,by kernel_rfl⟩
 | n+18,_,h=>exact absurd h aO
theorem zH1(k:Nat)(h1:1≤k)(h2:k≤17):toT k≤97∧uN k≤2:=by
 match k,h1,h2 with
 | 1,_,_|2,_,_|3,_,_|4,_,_|5,_,_|6,_,_|7,_,_|8,_,_|9,_,_|10,_,_|11,_,_|12,_,_|13,_,_|14,_,_|15,_,_|16,_,_|17,_,_=>decide
 | n+18,_,h=>exact absurd h aO
def yF(o:zL):Cd:=
 ⟨if uN o.kind.toNat=0 then toT o.kind.toNat+o.w else toT o.kind.toNat,if uN o.kind.toNat=2 then o.w else 0,0,0,0,if uN o.kind.toNat=1 then o.w else o.n,o.k,if o.kind=14 then(o.b%4294967296).toNat else 0⟩
structure zDt(o:zL):Prop where
 k1:1≤o.kind
 k2:o.kind≤17
 w0:0≤o.w
 w1:o.w≤255
 b14:o.kind=14→0≤o.b∧o.b≤4294967295
theorem zCc(b off:Nat)(o:zL)(w:World)(h:zAm w b off o)(hb:b < w.heap.size) :
  Calls Try.prog 48 #[.pointer (some ⟨b,off,none⟩)] w fun e w'=>e=.returned (.agg #[.int .i64 o.a,.int .i64 o.b,.int .i64 o.c])∧Below w.heap.size w w':=by
 obtain⟨z0,z1,z2,z3,z4,z5,z6⟩:=h
 have lb':=Nat.lt_succ_of_lt hb
 have ne:b≠w.heap.size:=aO
 go_enter Try.func48,Try.ntmps48
 go_upto_region 1 with fail
 go_region
 all_goals go_wp2
 all_goals exact bodyPost_ret (v:=.agg #[.int .i64 o.a,.int .i64 o.b,.int .i64 o.c]) (by simp[results,Try.results48,go_sem]) rfl ⟨rfl,by(repeat first|with_reducible exact Below.refl _ _|with_reducible exact hB|with_reducible refine Below.drew ?_|with_reducible refine Below.alloc ?_ zq8 _|with_reducible refine Below.setCell ?_ zq8 _)⟩
structure CW1(w W:World)(b off:Nat)(o:zL)(tp tw:Nat):Prop where
 r:W.heap[w.heap.size]?=some (.cells #[.int .i64 0,.int .i64 0,.int .i64 0,.int .i64 0,.int .i64 0,.int .i64 0,.int .u32 0,.int .u32 0] 80)
 t:W.heap[w.heap.size+2]?=some (.cells #[.int .u8 tp,.int .u8 tw] 150)
 op:zAm W b off o
 lb:b < w.heap.size
 bel:Below w.heap.size w W
 sz:W.heap.size=w.heap.size+3
theorem zCO(w:World)(b off:Nat)(o:zL)(tp tw:Nat)(h:zAm w b off o)(hb:b < w.heap.size):CW1 w (((w.alloc (.cells #[.int .i64 0,.int .i64 0,.int .i64 0,.int .i64 0,.int .i64 0,.int .i64 0,.int .u32 0,.int .u32 0] 80)).alloc (.cells tcC 151)).alloc (.cells #[.int .u8 tp,.int .u8 tw] 150)) b off o tp tw:=by
 have hB:Below w.heap.size w (((w.alloc (.cells #[.int .i64 0,.int .i64 0,.int .i64 0,.int .i64 0,.int .i64 0,.int .i64 0,.int .u32 0,.int .u32 0] 80)).alloc (.cells tcC 151)).alloc (.cells #[.int .u8 tp,.int .u8 tw] 150)):=((aB.alloc aL _).alloc aS _).alloc zq19 _
 exact⟨(al3 w _ _ _).1,(al3 w _ _ _).2.2,h.below hB hb,hb,hB,by simp⟩
structure CW2(w W:World)(b off:Nat)(o:zL)(tp tw:Nat):Prop where
 r:W.heap[w.heap.size]?=some (.cells #[.int .i64 0,.int .i64 0,.int .i64 0,.int .i64 0,.int .i64 0,.int .i64 0,.int .u32 0,.int .u32 0] 80)
 t:W.heap[w.heap.size+2]?=some (.cells #[.int .u8 tp,.int .u8 tw] 150)
 x:W.heap[w.heap.size+3]?=some (.cells #[.int .i64 tp,.int .i64 0,.int .i64 0,.int .i64 0,.int .i64 0,.int .i64 o.n,.int .u32 o.k,.int .u32 0] 80)
 op:zAm W b off o
 lb:b < w.heap.size
 bel:Below w.heap.size w W
theorem zAQ{w W:World}{b off:Nat}{o:zL}{tp tw:Nat}(h:CW1 w W b off o tp tw)(m:Nat):CW2 w ((W.alloc (.cells #[.int .i64 tp,.int .i64 0,.int .i64 0,.int .i64 0,.int .i64 0,.int .i64 o.n,.int .u32 o.k,.int .u32 0] 80)).drewN m) b off o tp tw:=by
 have hB:Below W.heap.size W ((W.alloc (.cells #[.int .i64 tp,.int .i64 0,.int .i64 0,.int .i64 0,.int .i64 0,.int .i64 o.n,.int .u32 o.k,.int .u32 0] 80)).drewN m):=⟨rfl,rfl,rfl,by simp[World.drewN],fun i hi=>Below.heap_alloc _ _ _ aO⟩
 refine⟨(hB.block _ (zE h.r)).trans h.r,(hB.block _ (zE h.t)).trans h.t,?_,h.op.below hB (by have:=h.sz;have:=h.lb;omega),h.lb,h.bel.trans (hB.mono (by have:=h.sz;omega))⟩
 rw[← h.sz];exact heap_alloc_last _ _
theorem zPa(b off:Nat)(o:zL)(k:Nat)(w:World)(h:zAm w b off o)(hb:b < w.heap.size)(hk:o.kind=k)(ok:zDt o)(hw:uN k=0)(h14:k≠14) :
  Calls Try.prog 50 #[.pointer (some ⟨b,off,none⟩)] w fun e w'=>e=.returned (cdV (yF o))∧Below w.heap.size w w':=by
 have k1:1≤k:=by have:=ok.k1;omega
 have k2:k≤17:=by have:=ok.k2;omega
 obtain⟨c0,c1⟩:=zKi k k1 k2
 obtain⟨b0,b1⟩:=zH1 k k1 k2
 obtain⟨tp,hto⟩:∃ tp,toT k=tp:=⟨_,rfl⟩
 rw[hto] at c0 b0
 have HTW:Hid (uN k=0):=hw
 rw[hw] at c1
 have HBB:Hid (¬((k:Int)=14)):=show ¬_ by omega
 have n14:((k:Int)==14)=false:=by simp;omega
 have zW:=(Go.zero_of_info zBT).1
 have HZ:Hid ((w.alloc (.cells #[.int .i64 0,.int .i64 0,.int .i64 0,.int .i64 0,.int .i64 0,.int .i64 0,.int .u32 0,.int .u32 0] 80)).heap.size=w.heap.size+1):=zAu _ _
 have k0:(0:Int)≤k:=aO
 have k18:(k:Int) < 18:=aO
 have t0:(0:Int)≤tp:=aO
 have t1:(tp:Int)≤97:=aO
 have w0:=ok.w0
 have w1:=ok.w1
 have hO:zAm w b off o:=h
 have HO:Hid _:=hO
 have HLB:Hid _:=hb
 obtain⟨z0,z1,z2,z3,z4,z5,z6⟩:=h
 rw[hk] at z0
 clear hO ok
 have lb':=Nat.lt_succ_of_lt hb
 have lb2:=Nat.lt_succ_of_lt lb'
 have ne:b≠w.heap.size:=aO
 have HCF:Hid (yF o=⟨tp+o.w,0,0,0,0,o.n,o.k,0⟩):=show yF o=_ by unfold yF;rw[hk];simp only[Int.toNat_natCast,hto,HTW.out];simp[HBB.out]
 go_enter Try.func50,Try.ntmps50
 go_upto_region 3 with (first
  | (refine yX 6 18 _ _ _ ⟨#[.pointer (some ⟨b,off,none⟩),undef,.pointer (some ⟨w.heap.size,0,none⟩),undef,undef,undef,.agg #[.int .u8 2,.int .u8 0],.agg #[.int .u8 6,.int .u8 1],.agg #[.int .u8 7,.int .u8 1],.agg #[.int .u8 16,.int .u8 0],.agg #[.int .u8 32,.int .u8 0],.agg #[.int .u8 5,.int .u8 0],.agg #[.int .u8 48,.int .u8 0],.agg #[.int .u8 64,.int .u8 0],.agg #[.int .u8 80,.int .u8 0],.agg #[.int .u8 88,.int .u8 0],.agg #[.int .u8 10,.int .u8 0],.agg #[.int .u8 11,.int .u8 0],.agg #[.int .u8 13,.int .u8 2],.agg #[.int .u8 12,.int .u8 2],.agg #[.int .u8 14,.int .u8 0],.agg #[.int .u8 4,.int .u8 0],.agg #[.int .u8 97,.int .u8 0],.agg tcC,undef,undef,undef,undef,undef,undef,undef,undef,undef,undef,undef,undef,undef,undef,undef,undef,undef,undef,undef,undef,undef,undef,undef,undef,undef,undef,undef,undef,undef,undef,undef,undef,undef,undef,undef,undef,undef,undef,undef,undef,undef,undef,undef,undef,undef,undef,undef,undef,undef,undef,undef,undef,undef,undef,undef,undef],[]⟩ rfl (by kernel_rfl) ?_;simp only[List.drop_succ_cons,List.drop_zero])
  | (refine vF rfl 151 rfl _ zW (w.heap.size+1) HZ.out ?_)
  | (refine wpList_store_row rfl 151 _ _ rfl (w.heap.size+1) tcC (by rfl) (by rfl) 151 tcZ (al2 w _ _).2 (Go.zero_of_info zBT).2 (by rfl) (by kernel_rfl) ?_;rw[zAe]))
 refine zI (fun W'=>CW1 w W' b off o tp 0) (zCO w b off o tp 0 HO.out HLB.out) ?_
 intro W hW
 clear z0 z1 z2 z3 z4 z5 z6 lb' lb2 ne HZ zW HO HLB hb c0 c1
 have a0:=zA hW.t 0
 have a1:=zA hW.t 1
 have lt:=zE hW.t
 have lr:=zE hW.r
 have fr:=zD hW.r
 have f0:=zA hW.r 0
 have f1:=zA hW.r 1
 have f2:=zA hW.r 2
 have f3:=zA hW.r 3
 have f4:=zA hW.r 4
 have f5:=zA hW.r 5
 have f6:=zA hW.r 6
 have f7:=zA hW.r 7
 have hlb:=hW.lb
 have hsz:=hW.sz
 have lbW:b < W.heap.size:=aO
 have neW:b≠W.heap.size:=aO
 have HW:Hid _:=hW
 obtain⟨z0,z1,z2,z3,z4,z5,z6⟩:=hW.op
 rw[hk] at z0
 have ne1:w.heap.size≠W.heap.size:=aO
 have ne2:w.heap.size+2≠W.heap.size:=aO
 have nb1:b≠w.heap.size:=aO
 have y5:(W.alloc (.cells #[.int .i64 0,.int .i64 0,.int .i64 0,.int .i64 0,.int .i64 0,.int .i64 0,.int .u32 0,.int .u32 0] 80)).cell? ⟨b,off+5,none⟩=some (.int .u32 o.k):=(World.cell?_alloc_past _ _ _ lbW).trans z5
 have y6:(W.alloc (.cells #[.int .i64 0,.int .i64 0,.int .i64 0,.int .i64 0,.int .i64 0,.int .i64 0,.int .u32 0,.int .u32 0] 80)).cell? ⟨b,off+6,none⟩=some (.int .i64 o.n):=(World.cell?_alloc_past _ _ _ lbW).trans z6
 have y0:(W.alloc (.cells #[.int .i64 0,.int .i64 0,.int .i64 0,.int .i64 0,.int .i64 0,.int .i64 0,.int .u32 0,.int .u32 0] 80)).cell? ⟨w.heap.size+2,0,none⟩=some (.int .u8 tp):=(World.cell?_alloc_past _ _ _ lt).trans a0
 clear hW
 go_region
 go_upto_region 4 with fail
 refine zI (fun W'=>CW2 w W' b off o tp 0) zq44 ?_
 clear HW z0 z1 z2 z3 z4 z5 z6 y0 y5 y6 a0 a1 lt lr fr f0 f1 f2 f3 f4 f5 f6 f7 lbW neW ne1 ne2 hsz
 intro V hV
 have x0:=zA hV.x 0
 have x1:=zA hV.x 1
 have x2:=zA hV.x 2
 have x3:=zA hV.x 3
 have x4:=zA hV.x 4
 have x5:=zA hV.x 5
 have x6:=zA hV.x 6
 have x7:=zA hV.x 7
 have fx:=zD hV.x
 have f0:=zA hV.r 0
 have f1:=zA hV.r 1
 have f2:=zA hV.r 2
 have f3:=zA hV.r 3
 have f4:=zA hV.r 4
 have f5:=zA hV.r 5
 have f6:=zA hV.r 6
 have f7:=zA hV.r 7
 have fr:=zD hV.r
 have a1:=zA hV.t 1
 have lt:=zE hV.t
 have lr:=zE hV.r
 have lx:=zE hV.x
 obtain⟨z0,z1,z2,z3,z4,z5,z6⟩:=hV.op
 have lbV:b < V.heap.size:=by have:=hV.bel.size;omega
 have nb3:b≠w.heap.size+3:=aO
 have HV:Hid _:=hV
 clear hV
 rw[hk] at z0
 clear hk
 go_upto_region 6 with fail
 go_region
 all_goals go_wp2
 all_goals
  have hB:=HV.out.bel
  exact bodyPost_ret (v:=cdV ⟨tp+o.w,0,0,0,0,o.n,o.k,0⟩) zq45 rfl ⟨by rw[HCF.out],by(repeat first|with_reducible exact Below.refl _ _|with_reducible exact hB|with_reducible refine Below.drew ?_|with_reducible refine Below.alloc ?_ zq8 _|with_reducible refine Below.setCell ?_ zq8 _)⟩
theorem zPb(b off:Nat)(o:zL)(k:Nat)(w:World)(h:zAm w b off o)(hb:b < w.heap.size)(hk:o.kind=k)(ok:zDt o)(hw:uN k=1)(h14:k≠14) :
  Calls Try.prog 50 #[.pointer (some ⟨b,off,none⟩)] w fun e w'=>e=.returned (cdV (yF o))∧Below w.heap.size w w':=by
 have k1:1≤k:=by have:=ok.k1;omega
 have k2:k≤17:=by have:=ok.k2;omega
 obtain⟨c0,c1⟩:=zKi k k1 k2
 obtain⟨b0,b1⟩:=zH1 k k1 k2
 obtain⟨tp,hto⟩:∃ tp,toT k=tp:=⟨_,rfl⟩
 rw[hto] at c0 b0
 have HTW:Hid (uN k=1):=hw
 rw[hw] at c1
 have HBB:Hid (¬((k:Int)=14)):=show ¬_ by omega
 have n14:((k:Int)==14)=false:=by simp;omega
 have zW:=(Go.zero_of_info zBT).1
 have HZ:Hid ((w.alloc (.cells #[.int .i64 0,.int .i64 0,.int .i64 0,.int .i64 0,.int .i64 0,.int .i64 0,.int .u32 0,.int .u32 0] 80)).heap.size=w.heap.size+1):=zAu _ _
 have k0:(0:Int)≤k:=aO
 have k18:(k:Int) < 18:=aO
 have t0:(0:Int)≤tp:=aO
 have t1:(tp:Int)≤97:=aO
 have w0:=ok.w0
 have w1:=ok.w1
 have hO:zAm w b off o:=h
 have HO:Hid _:=hO
 have HLB:Hid _:=hb
 obtain⟨z0,z1,z2,z3,z4,z5,z6⟩:=h
 rw[hk] at z0
 clear hO ok
 have lb':=Nat.lt_succ_of_lt hb
 have lb2:=Nat.lt_succ_of_lt lb'
 have ne:b≠w.heap.size:=aO
 have HCF:Hid (yF o=⟨tp,0,0,0,0,o.w,o.k,0⟩):=show yF o=_ by unfold yF;rw[hk];simp only[Int.toNat_natCast,hto,HTW.out];simp[HBB.out]
 go_enter Try.func50,Try.ntmps50
 go_upto_region 3 with (first
  | (refine yX 6 18 _ _ _ ⟨#[.pointer (some ⟨b,off,none⟩),undef,.pointer (some ⟨w.heap.size,0,none⟩),undef,undef,undef,.agg #[.int .u8 2,.int .u8 0],.agg #[.int .u8 6,.int .u8 1],.agg #[.int .u8 7,.int .u8 1],.agg #[.int .u8 16,.int .u8 0],.agg #[.int .u8 32,.int .u8 0],.agg #[.int .u8 5,.int .u8 0],.agg #[.int .u8 48,.int .u8 0],.agg #[.int .u8 64,.int .u8 0],.agg #[.int .u8 80,.int .u8 0],.agg #[.int .u8 88,.int .u8 0],.agg #[.int .u8 10,.int .u8 0],.agg #[.int .u8 11,.int .u8 0],.agg #[.int .u8 13,.int .u8 2],.agg #[.int .u8 12,.int .u8 2],.agg #[.int .u8 14,.int .u8 0],.agg #[.int .u8 4,.int .u8 0],.agg #[.int .u8 97,.int .u8 0],.agg tcC,undef,undef,undef,undef,undef,undef,undef,undef,undef,undef,undef,undef,undef,undef,undef,undef,undef,undef,undef,undef,undef,undef,undef,undef,undef,undef,undef,undef,undef,undef,undef,undef,undef,undef,undef,undef,undef,undef,undef,undef,undef,undef,undef,undef,undef,undef,undef,undef,undef,undef,undef,undef,undef,undef,undef,undef],[]⟩ rfl (by kernel_rfl) ?_;simp only[List.drop_succ_cons,List.drop_zero])
  | (refine vF rfl 151 rfl _ zW (w.heap.size+1) HZ.out ?_)
  | (refine wpList_store_row rfl 151 _ _ rfl (w.heap.size+1) tcC (by rfl) (by rfl) 151 tcZ (al2 w _ _).2 (Go.zero_of_info zBT).2 (by rfl) (by kernel_rfl) ?_;rw[zAe]))
 refine zI (fun W'=>CW1 w W' b off o tp 1) (zCO w b off o tp 1 HO.out HLB.out) ?_
 intro W hW
 clear z0 z1 z2 z3 z4 z5 z6 lb' lb2 ne HZ zW HO HLB hb c0 c1
 have a0:=zA hW.t 0
 have a1:=zA hW.t 1
 have lt:=zE hW.t
 have lr:=zE hW.r
 have fr:=zD hW.r
 have f0:=zA hW.r 0
 have f1:=zA hW.r 1
 have f2:=zA hW.r 2
 have f3:=zA hW.r 3
 have f4:=zA hW.r 4
 have f5:=zA hW.r 5
 have f6:=zA hW.r 6
 have f7:=zA hW.r 7
 have hlb:=hW.lb
 have hsz:=hW.sz
 have lbW:b < W.heap.size:=aO
 have neW:b≠W.heap.size:=aO
 have HW:Hid _:=hW
 obtain⟨z0,z1,z2,z3,z4,z5,z6⟩:=hW.op
 rw[hk] at z0
 have ne1:w.heap.size≠W.heap.size:=aO
 have ne2:w.heap.size+2≠W.heap.size:=aO
 have nb1:b≠w.heap.size:=aO
 have y5:(W.alloc (.cells #[.int .i64 0,.int .i64 0,.int .i64 0,.int .i64 0,.int .i64 0,.int .i64 0,.int .u32 0,.int .u32 0] 80)).cell? ⟨b,off+5,none⟩=some (.int .u32 o.k):=(World.cell?_alloc_past _ _ _ lbW).trans z5
 have y6:(W.alloc (.cells #[.int .i64 0,.int .i64 0,.int .i64 0,.int .i64 0,.int .i64 0,.int .i64 0,.int .u32 0,.int .u32 0] 80)).cell? ⟨b,off+6,none⟩=some (.int .i64 o.n):=(World.cell?_alloc_past _ _ _ lbW).trans z6
 have y0:(W.alloc (.cells #[.int .i64 0,.int .i64 0,.int .i64 0,.int .i64 0,.int .i64 0,.int .i64 0,.int .u32 0,.int .u32 0] 80)).cell? ⟨w.heap.size+2,0,none⟩=some (.int .u8 tp):=(World.cell?_alloc_past _ _ _ lt).trans a0
 clear hW
 go_region
 go_upto_region 4 with fail
 refine zI (fun W'=>CW2 w W' b off o tp 1) zq44 ?_
 clear HW z0 z1 z2 z3 z4 z5 z6 y0 y5 y6 a0 a1 lt lr fr f0 f1 f2 f3 f4 f5 f6 f7 lbW neW ne1 ne2 hsz
 intro V hV
 have x0:=zA hV.x 0
 have x1:=zA hV.x 1
 have x2:=zA hV.x 2
 have x3:=zA hV.x 3
 have x4:=zA hV.x 4
 have x5:=zA hV.x 5
 have x6:=zA hV.x 6
 have x7:=zA hV.x 7
 have fx:=zD hV.x
 have f0:=zA hV.r 0
 have f1:=zA hV.r 1
 have f2:=zA hV.r 2
 have f3:=zA hV.r 3
 have f4:=zA hV.r 4
 have f5:=zA hV.r 5
 have f6:=zA hV.r 6
 have f7:=zA hV.r 7
 have fr:=zD hV.r
 have a1:=zA hV.t 1
 have lt:=zE hV.t
 have lr:=zE hV.r
 have lx:=zE hV.x
 obtain⟨z0,z1,z2,z3,z4,z5,z6⟩:=hV.op
 have lbV:b < V.heap.size:=by have:=hV.bel.size;omega
 have nb3:b≠w.heap.size+3:=aO
 have HV:Hid _:=hV
 clear hV
 rw[hk] at z0
 clear hk
 go_wp2
 all_goals
  have hB:=HV.out.bel
  exact bodyPost_ret (v:=cdV ⟨tp,0,0,0,0,o.w,o.k,0⟩) zq45 rfl ⟨by rw[HCF.out],by(repeat first|with_reducible exact Below.refl _ _|with_reducible exact hB|with_reducible refine Below.drew ?_|with_reducible refine Below.alloc ?_ zq8 _|with_reducible refine Below.setCell ?_ zq8 _)⟩
theorem zPc(b off:Nat)(o:zL)(k:Nat)(w:World)(h:zAm w b off o)(hb:b < w.heap.size)(hk:o.kind=k)(ok:zDt o)(hw:uN k=2)(h14:k≠14) :
  Calls Try.prog 50 #[.pointer (some ⟨b,off,none⟩)] w fun e w'=>e=.returned (cdV (yF o))∧Below w.heap.size w w':=by
 have k1:1≤k:=by have:=ok.k1;omega
 have k2:k≤17:=by have:=ok.k2;omega
 obtain⟨c0,c1⟩:=zKi k k1 k2
 obtain⟨b0,b1⟩:=zH1 k k1 k2
 obtain⟨tp,hto⟩:∃ tp,toT k=tp:=⟨_,rfl⟩
 rw[hto] at c0 b0
 have HTW:Hid (uN k=2):=hw
 rw[hw] at c1
 have HBB:Hid (¬((k:Int)=14)):=show ¬_ by omega
 have n14:((k:Int)==14)=false:=by simp;omega
 have zW:=(Go.zero_of_info zBT).1
 have HZ:Hid ((w.alloc (.cells #[.int .i64 0,.int .i64 0,.int .i64 0,.int .i64 0,.int .i64 0,.int .i64 0,.int .u32 0,.int .u32 0] 80)).heap.size=w.heap.size+1):=zAu _ _
 have k0:(0:Int)≤k:=aO
 have k18:(k:Int) < 18:=aO
 have t0:(0:Int)≤tp:=aO
 have t1:(tp:Int)≤97:=aO
 have w0:=ok.w0
 have w1:=ok.w1
 have hO:zAm w b off o:=h
 have HO:Hid _:=hO
 have HLB:Hid _:=hb
 obtain⟨z0,z1,z2,z3,z4,z5,z6⟩:=h
 rw[hk] at z0
 clear hO ok
 have lb':=Nat.lt_succ_of_lt hb
 have lb2:=Nat.lt_succ_of_lt lb'
 have ne:b≠w.heap.size:=aO
 have HCF:Hid (yF o=⟨tp,o.w,0,0,0,o.n,o.k,0⟩):=show yF o=_ by unfold yF;rw[hk];simp only[Int.toNat_natCast,hto,HTW.out];simp[HBB.out]
 go_enter Try.func50,Try.ntmps50
 go_upto_region 3 with (first
  | (refine yX 6 18 _ _ _ ⟨#[.pointer (some ⟨b,off,none⟩),undef,.pointer (some ⟨w.heap.size,0,none⟩),undef,undef,undef,.agg #[.int .u8 2,.int .u8 0],.agg #[.int .u8 6,.int .u8 1],.agg #[.int .u8 7,.int .u8 1],.agg #[.int .u8 16,.int .u8 0],.agg #[.int .u8 32,.int .u8 0],.agg #[.int .u8 5,.int .u8 0],.agg #[.int .u8 48,.int .u8 0],.agg #[.int .u8 64,.int .u8 0],.agg #[.int .u8 80,.int .u8 0],.agg #[.int .u8 88,.int .u8 0],.agg #[.int .u8 10,.int .u8 0],.agg #[.int .u8 11,.int .u8 0],.agg #[.int .u8 13,.int .u8 2],.agg #[.int .u8 12,.int .u8 2],.agg #[.int .u8 14,.int .u8 0],.agg #[.int .u8 4,.int .u8 0],.agg #[.int .u8 97,.int .u8 0],.agg tcC,undef,undef,undef,undef,undef,undef,undef,undef,undef,undef,undef,undef,undef,undef,undef,undef,undef,undef,undef,undef,undef,undef,undef,undef,undef,undef,undef,undef,undef,undef,undef,undef,undef,undef,undef,undef,undef,undef,undef,undef,undef,undef,undef,undef,undef,undef,undef,undef,undef,undef,undef,undef,undef,undef,undef,undef],[]⟩ rfl (by kernel_rfl) ?_;simp only[List.drop_succ_cons,List.drop_zero])
  | (refine vF rfl 151 rfl _ zW (w.heap.size+1) HZ.out ?_)
  | (refine wpList_store_row rfl 151 _ _ rfl (w.heap.size+1) tcC (by rfl) (by rfl) 151 tcZ (al2 w _ _).2 (Go.zero_of_info zBT).2 (by rfl) (by kernel_rfl) ?_;rw[zAe]))
 refine zI (fun W'=>CW1 w W' b off o tp 2) (zCO w b off o tp 2 HO.out HLB.out) ?_
 intro W hW
 clear z0 z1 z2 z3 z4 z5 z6 lb' lb2 ne HZ zW HO HLB hb c0 c1
 have a0:=zA hW.t 0
 have a1:=zA hW.t 1
 have lt:=zE hW.t
 have lr:=zE hW.r
 have fr:=zD hW.r
 have f0:=zA hW.r 0
 have f1:=zA hW.r 1
 have f2:=zA hW.r 2
 have f3:=zA hW.r 3
 have f4:=zA hW.r 4
 have f5:=zA hW.r 5
 have f6:=zA hW.r 6
 have f7:=zA hW.r 7
 have hlb:=hW.lb
 have hsz:=hW.sz
 have lbW:b < W.heap.size:=aO
 have neW:b≠W.heap.size:=aO
 have HW:Hid _:=hW
 obtain⟨z0,z1,z2,z3,z4,z5,z6⟩:=hW.op
 rw[hk] at z0
 have ne1:w.heap.size≠W.heap.size:=aO
 have ne2:w.heap.size+2≠W.heap.size:=aO
 have nb1:b≠w.heap.size:=aO
 have y5:(W.alloc (.cells #[.int .i64 0,.int .i64 0,.int .i64 0,.int .i64 0,.int .i64 0,.int .i64 0,.int .u32 0,.int .u32 0] 80)).cell? ⟨b,off+5,none⟩=some (.int .u32 o.k):=(World.cell?_alloc_past _ _ _ lbW).trans z5
 have y6:(W.alloc (.cells #[.int .i64 0,.int .i64 0,.int .i64 0,.int .i64 0,.int .i64 0,.int .i64 0,.int .u32 0,.int .u32 0] 80)).cell? ⟨b,off+6,none⟩=some (.int .i64 o.n):=(World.cell?_alloc_past _ _ _ lbW).trans z6
 have y0:(W.alloc (.cells #[.int .i64 0,.int .i64 0,.int .i64 0,.int .i64 0,.int .i64 0,.int .i64 0,.int .u32 0,.int .u32 0] 80)).cell? ⟨w.heap.size+2,0,none⟩=some (.int .u8 tp):=(World.cell?_alloc_past _ _ _ lt).trans a0
 clear hW
 go_region
 go_upto_region 4 with fail
 refine zI (fun W'=>CW2 w W' b off o tp 2) zq44 ?_
 clear HW z0 z1 z2 z3 z4 z5 z6 y0 y5 y6 a0 a1 lt lr fr f0 f1 f2 f3 f4 f5 f6 f7 lbW neW ne1 ne2 hsz
 intro V hV
 have x0:=zA hV.x 0
 have x1:=zA hV.x 1
 have x2:=zA hV.x 2
 have x3:=zA hV.x 3
 have x4:=zA hV.x 4
 have x5:=zA hV.x 5
 have x6:=zA hV.x 6
 have x7:=zA hV.x 7
 have fx:=zD hV.x
 have f0:=zA hV.r 0
 have f1:=zA hV.r 1
 have f2:=zA hV.r 2
 have f3:=zA hV.r 3
 have f4:=zA hV.r 4
 have f5:=zA hV.r 5
 have f6:=zA hV.r 6
 have f7:=zA hV.r 7
 have fr:=zD hV.r
 have a1:=zA hV.t 1
 have lt:=zE hV.t
 have lr:=zE hV.r
 have lx:=zE hV.x
 obtain⟨z0,z1,z2,z3,z4,z5,z6⟩:=hV.op
 have lbV:b < V.heap.size:=by have:=hV.bel.size;omega
 have nb3:b≠w.heap.size+3:=aO
 have HV:Hid _:=hV
 clear hV
 rw[hk] at z0
 clear hk
 go_wp2
 all_goals
  have hB:=HV.out.bel
  exact bodyPost_ret (v:=cdV ⟨tp,o.w,0,0,0,o.n,o.k,0⟩) zq45 rfl ⟨by rw[HCF.out],by(repeat first|with_reducible exact Below.refl _ _|with_reducible exact hB|with_reducible refine Below.drew ?_|with_reducible refine Below.alloc ?_ zq8 _|with_reducible refine Below.setCell ?_ zq8 _)⟩
theorem zPd(b off:Nat)(o:zL)(k:Nat)(w:World)(h:zAm w b off o)(hb:b < w.heap.size)(hk:o.kind=k)(ok:zDt o)(h14:k=14) :
  Calls Try.prog 50 #[.pointer (some ⟨b,off,none⟩)] w fun e w'=>e=.returned (cdV (yF o))∧Below w.heap.size w w':=by
 subst h14
 have hk:o.kind=14:=hk
 have c0:tcC[28]?=some (.int .u8 12):=by kernel_rfl
 have c1:tcC[29]?=some (.int .u8 2):=by kernel_rfl
 obtain⟨bn,hbn⟩:∃ bn:Nat,o.b=bn:=⟨o.b.toNat,by have:=(ok.b14 hk).1;omega⟩
 have bl:bn≤4294967295:=by have:=(ok.b14 hk).2;omega
 have HBN:Hid (o.b=bn):=hbn
 have b3:(0:Int)≤(bn:Int):=aO
 have b4:(bn:Int)≤4294967295:=aO
 have zW:=(Go.zero_of_info zBT).1
 have HZ:Hid ((w.alloc (.cells #[.int .i64 0,.int .i64 0,.int .i64 0,.int .i64 0,.int .i64 0,.int .i64 0,.int .u32 0,.int .u32 0] 80)).heap.size=w.heap.size+1):=zAu _ _
 have w0:=ok.w0
 have w1:=ok.w1
 have hO:zAm w b off o:=h
 have HO:Hid _:=hO
 have HLB:Hid _:=hb
 obtain⟨z0,z1,z2,z3,z4,z5,z6⟩:=h
 rw[hk] at z0
 clear hO ok
 have lb':=Nat.lt_succ_of_lt hb
 have lb2:=Nat.lt_succ_of_lt lb'
 have ne:b≠w.heap.size:=aO
 have HCF:Hid (yF o=⟨12,o.w,0,0,0,o.n,o.k,bn⟩):=show yF o=_ by unfold yF;rw[hk,hbn];simp[toT,uN];omega
 go_enter Try.func50,Try.ntmps50
 go_upto_region 3 with (first
  | (refine yX 6 18 _ _ _ ⟨#[.pointer (some ⟨b,off,none⟩),undef,.pointer (some ⟨w.heap.size,0,none⟩),undef,undef,undef,.agg #[.int .u8 2,.int .u8 0],.agg #[.int .u8 6,.int .u8 1],.agg #[.int .u8 7,.int .u8 1],.agg #[.int .u8 16,.int .u8 0],.agg #[.int .u8 32,.int .u8 0],.agg #[.int .u8 5,.int .u8 0],.agg #[.int .u8 48,.int .u8 0],.agg #[.int .u8 64,.int .u8 0],.agg #[.int .u8 80,.int .u8 0],.agg #[.int .u8 88,.int .u8 0],.agg #[.int .u8 10,.int .u8 0],.agg #[.int .u8 11,.int .u8 0],.agg #[.int .u8 13,.int .u8 2],.agg #[.int .u8 12,.int .u8 2],.agg #[.int .u8 14,.int .u8 0],.agg #[.int .u8 4,.int .u8 0],.agg #[.int .u8 97,.int .u8 0],.agg tcC,undef,undef,undef,undef,undef,undef,undef,undef,undef,undef,undef,undef,undef,undef,undef,undef,undef,undef,undef,undef,undef,undef,undef,undef,undef,undef,undef,undef,undef,undef,undef,undef,undef,undef,undef,undef,undef,undef,undef,undef,undef,undef,undef,undef,undef,undef,undef,undef,undef,undef,undef,undef,undef,undef,undef,undef],[]⟩ rfl (by kernel_rfl) ?_;simp only[List.drop_succ_cons,List.drop_zero])
  | (refine vF rfl 151 rfl _ zW (w.heap.size+1) HZ.out ?_)
  | (refine wpList_store_row rfl 151 _ _ rfl (w.heap.size+1) tcC (by rfl) (by rfl) 151 tcZ (al2 w _ _).2 (Go.zero_of_info zBT).2 (by rfl) (by kernel_rfl) ?_;rw[zAe]))
 refine zI (fun W'=>CW1 w W' b off o 12 2) (zCO w b off o 12 2 HO.out HLB.out) ?_
 intro W hW
 clear z0 z1 z2 z3 z4 z5 z6 lb' lb2 ne HZ zW HO HLB hb c0 c1
 have a0:=zA hW.t 0
 have a1:=zA hW.t 1
 have lt:=zE hW.t
 have lr:=zE hW.r
 have fr:=zD hW.r
 have f0:=zA hW.r 0
 have f1:=zA hW.r 1
 have f2:=zA hW.r 2
 have f3:=zA hW.r 3
 have f4:=zA hW.r 4
 have f5:=zA hW.r 5
 have f6:=zA hW.r 6
 have f7:=zA hW.r 7
 have hlb:=hW.lb
 have hsz:=hW.sz
 have lbW:b < W.heap.size:=aO
 have neW:b≠W.heap.size:=aO
 have HW:Hid _:=hW
 obtain⟨z0,z1,z2,z3,z4,z5,z6⟩:=hW.op
 rw[hk] at z0
 have ne1:w.heap.size≠W.heap.size:=aO
 have ne2:w.heap.size+2≠W.heap.size:=aO
 have nb1:b≠w.heap.size:=aO
 have y5:(W.alloc (.cells #[.int .i64 0,.int .i64 0,.int .i64 0,.int .i64 0,.int .i64 0,.int .i64 0,.int .u32 0,.int .u32 0] 80)).cell? ⟨b,off+5,none⟩=some (.int .u32 o.k):=(World.cell?_alloc_past _ _ _ lbW).trans z5
 have y6:(W.alloc (.cells #[.int .i64 0,.int .i64 0,.int .i64 0,.int .i64 0,.int .i64 0,.int .i64 0,.int .u32 0,.int .u32 0] 80)).cell? ⟨b,off+6,none⟩=some (.int .i64 o.n):=(World.cell?_alloc_past _ _ _ lbW).trans z6
 have y0:(W.alloc (.cells #[.int .i64 0,.int .i64 0,.int .i64 0,.int .i64 0,.int .i64 0,.int .i64 0,.int .u32 0,.int .u32 0] 80)).cell? ⟨w.heap.size+2,0,none⟩=some (.int .u8 12):=(World.cell?_alloc_past _ _ _ lt).trans a0
 clear hW
 go_region
 go_upto_region 4 with fail
 refine zI (fun W'=>CW2 w W' b off o 12 2) zq44 ?_
 clear HW z0 z1 z2 z3 z4 z5 z6 y0 y5 y6 a0 a1 lt lr fr f0 f1 f2 f3 f4 f5 f6 f7 lbW neW ne1 ne2 hsz
 intro V hV
 have x0:=zA hV.x 0
 have x1:=zA hV.x 1
 have x2:=zA hV.x 2
 have x3:=zA hV.x 3
 have x4:=zA hV.x 4
 have x5:=zA hV.x 5
 have x6:=zA hV.x 6
 have x7:=zA hV.x 7
 have fx:=zD hV.x
 have f0:=zA hV.r 0
 have f1:=zA hV.r 1
 have f2:=zA hV.r 2
 have f3:=zA hV.r 3
 have f4:=zA hV.r 4
 have f5:=zA hV.r 5
 have f6:=zA hV.r 6
 have f7:=zA hV.r 7
 have fr:=zD hV.r
 have a1:=zA hV.t 1
 have lt:=zE hV.t
 have lr:=zE hV.r
 have lx:=zE hV.x
 obtain⟨z0,z1,z2,z3,z4,z5,z6⟩:=hV.op
 have lbV:b < V.heap.size:=by have:=hV.bel.size;omega
 have nb3:b≠w.heap.size+3:=aO
 have HV:Hid _:=hV
 clear hV
 rw[HBN.out] at z3
 rw[hk] at z0
 clear hk
 go_wp2
 all_goals
  have hB:=HV.out.bel
  exact bodyPost_ret (v:=cdV ⟨12,o.w,0,0,0,o.n,o.k,bn⟩) zq45 rfl ⟨by rw[HCF.out],by(repeat first|with_reducible exact Below.refl _ _|with_reducible exact hB|with_reducible refine Below.drew ?_|with_reducible refine Below.alloc ?_ zq8 _|with_reducible refine Below.setCell ?_ zq8 _)⟩
theorem zCg(b off:Nat)(o:zL)(w:World)(h:zAm w b off o)(hb:b < w.heap.size)(ok:zDt o) :
  Calls Try.prog 50 #[.pointer (some ⟨b,off,none⟩)] w fun e w'=>e=.returned (cdV (yF o))∧Below w.heap.size w w':=by
 obtain⟨k,hk⟩:∃ k:Nat,o.kind=k:=⟨o.kind.toNat,by have:=ok.k1;omega⟩
 have k1:1≤k:=by have:=ok.k1;omega
 have k2:k≤17:=by have:=ok.k2;omega
 by_cases h14:k=14
 ·exact zPd b off o k w h hb hk ok h14
 ·have:=(zH1 k k1 k2).2
  rcases(by omega:uN k=0∨uN k=1∨uN k=2) with e|e|e
  ·exact zPa b off o k w h hb hk ok e h14
  ·exact zPb b off o k w h hb hk ok e h14
  ·exact zPc b off o k w h hb hk ok e h14
end Go.Proofs.Ytkmjenjahbicpaa.Ho
