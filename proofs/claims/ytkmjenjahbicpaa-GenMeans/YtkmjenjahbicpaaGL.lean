import Derived.Test.YtkmjenjahbicpaaGJ
set_option linter.unusedVariables false
set_option linter.unusedSimpArgs false
set_option maxHeartbeats 4000000
namespace Go.Proofs.Ytkmjenjahbicpaa.Ho
open Go.RowKit
set_option maxRecDepth 100000
def zC9:PL:=⟨0,0,0,0,false,0,0,false⟩
structure PS where
 P:Nat→PL
 puts:Nat→Nat
def zAj(o:zL)(p:PL)(puts:Nat→Nat):Bool:=(ru o.kind).gives && !(ru o.kind).leaves && ((p.next==0) || stB o p.last puts)
def vS(f:Nat→zL)(s:PS)(i:Nat):PL:={ s.P i with takes:=(ru (f i).kind).takes.toNat,gives:=(ru (f i).kind).gives,lazy:=zAj (f i) (s.P i) s.puts }
def uR(f:Nat→zL)(s:PS)(i:Nat):PS:=
 ⟨if zAj (f i) (s.P i) s.puts=true then upd s.P i (vS f s i) else zCS (upd s.P i (vS f s i)) i (f i) (ru (f i).kind).takes.toNat,if(f i).kind=3 then upd s.puts (f i).w.toNat i else s.puts⟩
def uZ(f:Nat→zL)(n:Nat):Nat→PS
 | 0=>⟨fun _=>zC9,fun _=>0⟩
 | m+1=>uR f (uZ f n m) (n - 1 - m)
structure uX(n:Nat)(f:Nat→zL):Prop where
 n1:0 < n
 hn:n≤2048
 ok:∀ v,v < n→zDt (f v)∧(f v).k < 4294967296
 tk:∀ i,i < n→∀ j,j < (ru (f i).kind).takes.toNat→zAn (f i) j=((zX (f i) j:Nat):Int)∧zX (f i) j < i
 w12:∀ i,i < n→(f i).kind=2∨(f i).kind=3→0≤(f i).w∧(f i).w < 12
theorem zSb:(Try.prog.info? 118).map (fun i=>(i.zero,i.size,i.bytes))=some (some (.agg #[.int .i64 0,.int .i64 0,.int .i64 0,.int .i64 0,.bool false,.int .i64 0,.int .i64 0,.bool false]),8,64):=by kernel_rfl
theorem zNT(n j:Nat)(h:j < n*8):(madeCells (Value.agg #[.int .i64 0,.int .i64 0,.int .i64 0,.int .i64 0,.bool false,.int .i64 0,.int .i64 0,.bool false]).cells (n*8)).toList[j]?=some (plF (fun _=>zC9) j):=by
 have e:(Value.agg #[.int .i64 0,.int .i64 0,.int .i64 0,.int .i64 0,.bool false,.int .i64 0,.int .i64 0,.bool false]).cells=#[.int .i64 0,.int .i64 0,.int .i64 0,.int .i64 0,.bool false,.int .i64 0,.int .i64 0,.bool false]:=by rfl
 rw[e]
 unfold madeCells
 rw[Array.getElem?_toList,Array.getElem?_map,Array.getElem?_range,if_pos h]
 show some _=_
 unfold plF
 have hq:j%8 < 8:=Nat.mod_lt _ aD
 show some ((#[.int .i64 0,.int .i64 0,.int .i64 0,.int .i64 0,.bool false,.int .i64 0,.int .i64 0,.bool false]:Array Value)[j%8]!)=some (plC zC9 (j%8))
 generalize j%8=q at hq
 match q,hq with
 | 0,_|1,_|2,_|3,_|4,_|5,_|6,_|7,_=>rfl
theorem zQF{w:World}{base H n:Nat}(hn:0 < n)(h:w.ownsRow base 118 8 (.slice (some ⟨H,0,none⟩) n n) n (madeCells (Value.agg #[.int .i64 0,.int .i64 0,.int .i64 0,.int .i64 0,.bool false,.int .i64 0,.int .i64 0,.bool false]).cells (n*8)).toList):w.rowIs H 118 (n*8) (plF (fun _=>zC9)):=by
 rcases h.2 with ⟨hv,h0⟩|⟨g',c',cur,hv,hb,hh,h1,h2,h3,h4⟩
 ·cases hv
 ·simp only[Value.slice.injEq,Option.some.injEq,Addr.mk.injEq] at hv
  obtain⟨⟨rfl,-,-⟩,-,rfl⟩:=hv
  refine⟨cur,hh,h3,fun i hi=>?_⟩
  have h5:=zNT n i hi
  rw[← h4,List.getElem?_take,if_pos hi] at h5
  simpa using h5
structure PV(w W:World)(Q BP n:Nat)(bp:Option Addr)(f:Nat→zL)(s:PS):Prop where
 pl:W.rowIs Q 118 (n*8) (plF s.P)
 pu:W.rowIs BP 113 12 (fun q=>.int .i64 (s.puts q))
 bel:Below w.heap.size w W
 nq:w.heap.size≤Q
 np:w.heap.size≤BP
 ops:vN W bp n f
 ob:∀ b off,bp=some ⟨b,off,none⟩→b < w.heap.size
theorem PV.ne{w W:World}{Q BP n:Nat}{bp:Option Addr}{f:Nat→zL}{s:PS}(h:PV w W Q BP n bp f s):BP≠Q:=fun e=>by
 obtain⟨c,hc,-⟩:=h.pl
 obtain⟨d,hd,-⟩:=h.pu
 rw[e] at hd
 exact absurd (zBM hc hd) aD
theorem PV.below{w W W':World}{Q BP n:Nat}{bp:Option Addr}{f:Nat→zL}{s:PS}(h:PV w W Q BP n bp f s)(k:Below W.heap.size W W'):PV w W' Q BP n bp f s:=
 ⟨h.pl.of_block (k.block _ h.pl.lt),h.pu.of_block (k.block _ h.pu.lt),h.bel.trans (k.mono h.bel.size),h.nq,h.np,h.ops.below k aL,h.ob⟩
theorem PV.setP{w W:World}{Q BP n:Nat}{bp:Option Addr}{f:Nat→zL}{s:PS}(h:PV w W Q BP n bp f s)(i r:Nat)(v:Value)(p:PL)(hr:r < 8)(h1:plC p r=v)(h2:∀ q,q < 8→q≠r→plC p q=plC (s.P i) q):PV w (W.setCell ⟨Q,i*8+r,none⟩ v) Q BP n bp f { s with P:=upd s.P i p }:=
 ⟨zG8 s.P i r v p hr h1 h2▸h.pl.set (i*8+r) v,h.pu.setOther (fun e=>h.ne e) v,h.bel.setCell h.nq v,h.nq,h.np,zBe h.ops ((Below.refl w.heap.size W).setCell h.nq v) h.ob,h.ob⟩
theorem PV.setU{w W:World}{Q BP n:Nat}{bp:Option Addr}{f:Nat→zL}{s:PS}(h:PV w W Q BP n bp f s)(q x:Nat):PV w (W.setCell ⟨BP,q,none⟩ (.int .i64 x)) Q BP n bp f { s with puts:=upd s.puts q x }:=
 ⟨h.pl.setOther (fun e=>h.ne e.symm) _,(h.pu.set q _).congr (fun i hi=>by show(if i=q then _ else _)=Value.int .i64 ((upd s.puts q x i:Nat):Int);unfold upd;split<;>rfl),h.bel.setCell h.np _,h.nq,h.np,zBe h.ops ((Below.refl w.heap.size W).setCell h.np _) h.ob,h.ob⟩
theorem PV.chg{w W W':World}{Q BP n:Nat}{bp:Option Addr}{f:Nat→zL}{s:PS}(h:PV w W Q BP n bp f s)(P':Nat→PL)(hp:W'.rowIs Q 118 (n*8) (plF P'))(k:zJ [Q] W W'):PV w W' Q BP n bp f { s with P:=P' }:=
 ⟨hp,h.pu.of_block (k.block _ h.pu.lt (by simp;exact h.ne)),h.bel.trans (k.below h.bel.size (by simp;exact h.nq)),h.nq,h.np,zBe h.ops (k.below h.bel.size (by simp;exact h.nq)) h.ob,h.ob⟩
theorem zL9{w w1:World}{n:Nat}{bp:Option Addr}{f:Nat→zL}(hO:vN w bp n f)(ob:∀ b off,bp=some ⟨b,off,none⟩→b < w.heap.size)(h1:w1.rowIs w.heap.size 118 (n*8) (plF (fun _=>zC9)))(hb:Below w.heap.size w w1):PV w (w1.alloc (.cells (p12 (fun _=>0)) 113)) w.heap.size w1.heap.size n bp f ⟨fun _=>zC9,fun _=>0⟩:=
 ⟨h1.alloc _,⟨_,heap_alloc_last _ _,rfl,fun i hi=>zKF _ i hi⟩,hb.alloc hb.size _,Nat.le_refl _,hb.size,hO.below (hb.alloc hb.size _) aL,ob⟩
theorem zB3(p:PL)(t:Nat)(gv z:Bool)(q:Nat)(hq:q < 8)(hne:q≠7):plC { p with takes:=t,gives:=gv,lazy:=z } q=plC { p with takes:=t,gives:=gv } q:=by
 match q,hq,hne with
 | 0,_,_|1,_,_|2,_,_|3,_,_|4,_,_|5,_,_|6,_,_=>rfl
 | 7,_,h=>exact absurd rfl h
theorem zBO{w W:World}{Q BP n b off:Nat}{f:Nat→zL}{s:PS}(h:PV w W Q BP n (some ⟨b,off,none⟩) f s){i:Nat}(hi:i < n):zAm W b (off+i*7) (f i):=by
 obtain⟨b',off',e,-,hc⟩:=h.ops aO
 cases e;exact hc i hi
theorem zDW{w W:World}{Q BP n b off:Nat}{f:Nat→zL}{s:PS}(h:PV w W Q BP n (some ⟨b,off,none⟩) f s){i:Nat}(hi:i < n):b < W.heap.size:=by
 obtain⟨b',off',e,hl,-⟩:=h.ops aO
 cases e;exact hl
structure PR(w W:World)(Q BP n:Nat)(bp:Option Addr)(f:Nat→zL)(s:PS)(BR:Nat)(R:RU):Prop where
 pv:PV w W Q BP n bp f s
 r:W.heap[BR]?=some (.cells #[.int .u8 R.lo,.int .u8 R.hi,.int .u8 R.takes,.int .u8 R.has,.bool R.gives,.bool R.leaves,.bool R.ends] 111)
 nr:w.heap.size≤BR
theorem PR.ne{w W:World}{Q BP n:Nat}{bp:Option Addr}{f:Nat→zL}{s:PS}{BR:Nat}{R:RU}(h:PR w W Q BP n bp f s BR R):BR≠Q∧BR≠BP:=by
 obtain⟨c,hc,-⟩:=h.pv.pl
 obtain⟨d,hd,-⟩:=h.pv.pu
 exact⟨fun e=>by(rw[← e] at hc;exact absurd (zBM h.r hc) aD),fun e=>by(rw[← e] at hd;exact absurd (zBM h.r hd) aD)⟩
theorem PR.below{w W W':World}{Q BP n:Nat}{bp:Option Addr}{f:Nat→zL}{s:PS}{BR:Nat}{R:RU}(h:PR w W Q BP n bp f s BR R)(k:Below W.heap.size W W'):PR w W' Q BP n bp f s BR R:=⟨h.pv.below k,(k.block _ (zE h.r)).trans h.r,h.nr⟩
theorem PR.setP{w W:World}{Q BP n:Nat}{bp:Option Addr}{f:Nat→zL}{s:PS}{BR:Nat}{R:RU}(h:PR w W Q BP n bp f s BR R)(i r:Nat)(v:Value)(p:PL)(hr:r < 8)(h1:plC p r=v)(h2:∀ q,q < 8→q≠r→plC p q=plC (s.P i) q):PR w (W.setCell ⟨Q,i*8+r,none⟩ v) Q BP n bp f { s with P:=upd s.P i p } BR R:=⟨h.pv.setP i r v p hr h1 h2,(zQ h.ne.1 v).trans h.r,h.nr⟩
theorem zL7{w W w2:World}{Q BP n:Nat}{bp:Option Addr}{f:Nat→zL}{s:PS}(R:RU)(h:PV w W Q BP n bp f s)(k:Below W.heap.size W w2):PR w (w2.alloc (.cells #[.int .u8 R.lo,.int .u8 R.hi,.int .u8 R.takes,.int .u8 R.has,.bool R.gives,.bool R.leaves,.bool R.ends] 111)) Q BP n bp f s w2.heap.size R:=by
 have b2:Below W.heap.size W (w2.alloc (.cells #[.int .u8 R.lo,.int .u8 R.hi,.int .u8 R.takes,.int .u8 R.has,.bool R.gives,.bool R.leaves,.bool R.ends] 111)):=k.alloc k.size _
 exact⟨h.below b2,heap_alloc_last _ _,by have:=h.bel.size;have:=k.size;omega⟩
theorem zGL(n cap:Nat)(bp:Option Addr)(f:Nat→zL)(w:World)(hO:vN w bp n f)(ob:∀ b off,bp=some ⟨b,off,none⟩→b < w.heap.size)(hB:uX n f) :
  Calls Try.prog 24 #[.slice bp n cap] w fun e w'=>e=.returned (.slice (some ⟨w.heap.size,0,none⟩) n n)∧w'.rowIs w.heap.size 118 (n*8) (plF (uZ f n n).P)∧Below w.heap.size w w':=by
 obtain⟨i0,hi,hz0,hz1,hz2⟩:=info_parts zSb
 have HB:Hid _:=hB
 have HO:Hid _:=hO
 have HOB:Hid _:=ob
 have hn1:=hB.n1
 have hn:=hB.hn
 have n0:(0:Int)≤(n:Int):=aO
 have n2:(n:Int)≤2048:=aO
 have HBY:Hid (i0.bytes*n≤281474976710656):=show _≤_ by rw[hz2];omega
 have HML:Hid (n≤maxLen):=show n≤maxLen by unfold maxLen;omega
 clear hO ob hB hn1 hn
 go_enter Try.func24,Try.ntmps24
 go_upto_region 3 with (refine wpList_make_full _ rfl (.tmp 10) (.tmp 10) 69 rfl w.heap.size 118 i0 (.agg #[.int .i64 0,.int .i64 0,.int .i64 0,.int .i64 0,.bool false,.int .i64 0,.int .i64 0,.bool false]) 8 Try.underlying69 hi hz0 hz1 .i64 .i64 _ _ n rfl rfl rfl rfl HBY.out HML.out aL ?_;intro w1 hown hgr;have HOW:Hid _:=zQF HB.out.n1 hown;have HB1:Hid (Below w.heap.size w w1):=aB.grown hgr aL (fun k hk=>by simp at hk);clear hown hgr)
 refine zI (fun W'=>PV w W' w.heap.size w1.heap.size n bp f ⟨fun _=>zC9,fun _=>0⟩) (zL9 HO.out HOB.out HOW.out HB1.out) ?_
 obtain⟨BP,hBP⟩:∃ BP,w1.heap.size=BP:=⟨_,rfl⟩
 rw[hBP]
 clear hBP HOW HB1 HO HOB
 obtain⟨Q,HQ⟩:∃ Q,Hid (w.heap.size=Q):=⟨_,rfl⟩
 rw[HQ.out]
 intro W hW
 have HW:Hid _:=hW
 clear hW
 go_upto_region 4 with fail
 go_loopw [5] (fun iv wr=>∃ q:Nat,∃ x:Int,iv=.int .i64 x∧x=(q:Int) - 1∧q≤n∧PV w wr Q BP n bp f (uZ f n (n - q))) (fun iv _=>((intOf iv)+1).toNat)
 case atStart=>exact⟨n,_,rfl,rfl,Nat.le_refl _,by rw[Nat.sub_self];exact HW.out⟩
 case round=>
  obtain⟨q,x,rfl,hx,hq,hr⟩:=hrel
  clear HW
  cases q with
  | zero=>
   obtain rfl:x = -1:=aO
   have HR:Hid _:=hr
   clear hr hx
   go_wp2
   go_ret
   exact⟨by rw[HQ.out];rfl,by rw[HQ.out];exact HR.out.pl,HR.out.bel⟩
  | succ i=>
   obtain rfl:x=(i:Int):=aO
   have i0:(0:Int)≤(i:Int):=aO
   have i1:(i:Int) < (n:Int):=aO
   have d0:decide (0≤(i:Int))=true:=decide_eq_true i0
   have HIN:Hid (i < n):=show i < n by omega
   obtain⟨s,HS⟩:∃ s,Hid (uZ f n (n - (i+1))=s):=⟨_,rfl⟩
   have HSN:Hid (uZ f n (n - i)=uR f s i):=show _=_ by
    have e1:n - i=(n - (i+1))+1:=aO
    have e2:n - 1 - (n - (i+1))=i:=aO
    rw[e1]
    show uR f (uZ f n (n - (i+1))) (n - 1 - (n - (i+1)))=_
    rw[e2,HS.out]
   rw[HS.out] at hr
   obtain⟨b,off,rfl,hb,hc⟩:=hr.ops aO
   have lQ:=hr.pl.lt
   have HR:Hid _:=hr
   clear hr hc hx hq
   go_upto_region 6 with fail
   go_quiet (fail)
   go_upto_region 7 with fail
   refine zI (fun W'=>PV w W' Q BP n (some ⟨b,off,none⟩) f s) (HR.out.below (yU _ _)) ?_
   clear lQ HR hb
   intro A hA
   obtain⟨b',off',e',hb,hc⟩:=hA.ops zq22
   cases e'
   have hoa:=hc i HIN.out
   have z0:=hoa.c0
   obtain⟨R,HR⟩:∃ R,Hid (ru (f i).kind=R):=⟨_,rfl⟩
   have HA:Hid _:=hA
   clear hA hc hoa
   go_upto_region 8 with (go_at_call 45;refine(uM (f i).kind R _ HR.out).mono ?_;rintro e w2 ⟨rfl,hb2⟩;have HB2:Hid _:=hb2;clear hb2)
   refine zI (fun W'=>PR w W' Q BP n (some ⟨b,off,none⟩) f s w2.heap.size R) (zL7 R HA.out HB2.out) ?_
   obtain⟨BR,hBR⟩:∃ BR,w2.heap.size=BR:=⟨_,rfl⟩
   rw[hBR]
   clear hBR HB2 HA z0 hb
   intro B hB
   obtain⟨lo,hi',tkz,has,gv,lv,en⟩:=R
   have htt:0≤tkz∧tkz≤3:=by
    have h1:=(HB.out.ok i HIN.out).1.k1
    have h2:=(HB.out.ok i HIN.out).1.k2
    have h3:=zH0 (f i).kind.toNat aO aO
    have e:ruT (f i).kind.toNat=⟨lo,hi',tkz,has,gv,lv,en⟩:=HR.out
    rw[e] at h3
    exact⟨h3.t0,h3.t3⟩
   obtain⟨t,rfl⟩:∃ t:Nat,tkz=t:=⟨tkz.toNat,by omega⟩
   have t0:(0:Int)≤(t:Int):=aO
   have t3:(t:Int)≤3:=aO
   have c2:B.cell? ⟨BR,2,none⟩=some (.int .u8 t):=zA hB.r 2
   have c4:B.cell? ⟨BR,4,none⟩=some (.bool gv):=zA hB.r 4
   have p0:=hB.pv.pl.cell (i:=i*8+0) zq22
   have p0':B.cell? ⟨Q,i*8,none⟩=some (plF s.P (i*8+0)):=p0
   have p4:=hB.pv.pl.cell (i:=i*8+4) zq22
   have fz:=hB.pv.pl.frozen
   have f0:=fz (i*8)
   have f4:=fz (i*8+4)
   have lQ:=hB.pv.pl.lt
   have lR:=zE hB.r
   have nRQ:=hB.ne.1
   have HBB:Hid _:=hB
   clear hB p0 htt fz
   go_region
   go_upto_region 9 with fail
   refine zI (fun W'=>PR w W' Q BP n (some ⟨b,off,none⟩) f { s with P:=upd s.P i { s.P i with takes:=t,gives:=gv } } BR ⟨lo,hi',t,has,gv,lv,en⟩) ?_ ?_
   ·have h1:=HBB.out.setP i 0 (.int .i64 t) { s.P i with takes:=t } aO rfl (fun q hq hne=>by
     match q,hq,hne with
     | 1,_,_|2,_,_|3,_,_|4,_,_|5,_,_|6,_,_|7,_,_=>rfl
     | 0,_,h=>exact absurd rfl h)
    have h2:=h1.setP i 4 (.bool gv) { s.P i with takes:=t,gives:=gv } aO rfl (fun q hq hne=>by
     show _=plC (upd s.P i _ i) q
     rw[yK]
     match q,hq,hne with
     | 0,_,_|1,_,_|2,_,_|3,_,_|5,_,_|6,_,_|7,_,_=>rfl
     | 4,_,h=>exact absurd rfl h)
    have h3:=h2.below (aB.drew)
    rw[zCd] at h3
    exact h3
   clear c2 c4 p0' p4 f0 f4 lQ lR nRQ HBB
   intro C hC
   have c4:C.cell? ⟨BR,4,none⟩=some (.bool gv):=zA hC.r 4
   have c5:C.cell? ⟨BR,5,none⟩=some (.bool lv):=zA hC.r 5
   obtain⟨nx,HNX⟩:∃ nx,Hid ((s.P i).next=nx):=⟨_,rfl⟩
   obtain⟨la,HLA⟩:∃ la,Hid ((s.P i).last=la):=⟨_,rfl⟩
   have p5:=hC.pv.pl.cell (i:=i*8+5) zq22
   rw[vO _ _ _ aO] at p5
   have p5':C.cell? ⟨Q,i*8+5,none⟩=some (.int .i64 nx):=p5.trans (by show some (plC (upd s.P i _ i) 5)=_;rw[yK];show some (Value.int .i64 ((s.P i).next:Nat))=_;rw[HNX.out])
   have p6:=hC.pv.pl.cell (i:=i*8+6) zq22
   rw[vO _ _ _ aO] at p6
   have p6':C.cell? ⟨Q,i*8+6,none⟩=some (.int .i64 la):=p6.trans (by show some (plC (upd s.P i _ i) 6)=_;rw[yK];show some (Value.int .i64 ((s.P i).last:Nat))=_;rw[HLA.out])
   have p7:=hC.pv.pl.cell (i:=i*8+7) zq22
   have f7:=hC.pv.pl.frozen (i*8+7)
   have lQ:=hC.pv.pl.lt
   have lR:=zE hC.r
   have nRQ:=hC.ne.1
   have HTK:Hid (∀ j,j < t→zAn (f i) j=((zX (f i) j:Nat):Int)∧zX (f i) j < n):=show ∀ j,_ from fun j hj=>by
    have h:=HB.out.tk i HIN.out j (by rw[HR.out];exact hj)
    exact⟨h.1,Nat.lt_trans h.2 HIN.out⟩
   have HT3:Hid (t≤3):=show t≤3 by omega
   have HLZ:Hid (zAj (f i) (s.P i) s.puts=(gv && !lv && ((nx==0) || stB (f i) la s.puts))):=show _=_ by unfold zAj;rw[HR.out,HNX.out,HLA.out]
   have HPP:Hid (vS f s i={ s.P i with takes:=t,gives:=gv,lazy:=zAj (f i) (s.P i) s.puts }):=show _=_ by unfold vS;rw[HR.out];rfl
   have HG3:Hid (gv=true→(f i).kind≠3):=show gv=true→_ from fun e h3=>by
    have h:=HR.out
    rw[h3] at h
    have h':(ruT 3).gives=gv:=congrArg RU.gives h
    rw[e] at h'
    exact absurd h' aD
   have HCC:Hid _:=hC
   clear hC p5 p6
   cases gv with
   | false=>
    have HLV:Hid (zAj (f i) (s.P i) s.puts=false):=show _=_ by rw[HLZ.out];rfl
    have HD9:Hid _:=HCC.out.setP i 7 (.bool false) (vS f s i) aO (by rw[HPP.out,HLV.out];rfl) (fun q hq hne=>by show _=plC (upd s.P i _ i) q;rw[yK,HPP.out];exact zB3 _ _ _ _ q hq hne)
    rw[show({ s with P:=upd s.P i { s.P i with takes:=t,gives:=false } }:PS).P=upd s.P i { s.P i with takes:=t,gives:=false } from rfl,zCd] at HD9
    go_region
    go_upto_region 10 with fail
    by_cases k3:(f i).kind=3
    ·refine zI (fun W'=>PR w W' Q BP n (some ⟨b,off,none⟩) f { s with P:=upd s.P i (vS f s i) } BR ⟨lo,hi',t,has,false,lv,en⟩) zq38 ?_
     clear c4 c5 p5' p6' p7 f7 lQ lR nRQ HCC
     intro D hD
     have d7:=hD.pv.pl.cell (i:=i*8+7) zq22
     rw[vO _ _ _ aO] at d7
     have d7':D.cell? ⟨Q,i*8+7,none⟩=some (.bool false):=d7.trans zq31
     have lQ:=hD.pv.pl.lt
     obtain⟨b',off',e',hb,hc⟩:=hD.pv.ops zq22
     cases e'
     have hoa:=hc i HIN.out
     have z0:=hoa.c0
     have HOA:Hid _:=hoa
     have HLB:Hid (b < D.heap.size):=hb
     have HD:Hid _:=hD
     clear hD d7 hc hoa
     have k3b:((f i).kind==3)=true:=by simpa using k3
     obtain⟨u,HU⟩:∃ u:Nat,Hid ((f i).w=u):=⟨(f i).w.toNat,show _=_ by have:=(HB.out.w12 i HIN.out (.inr k3)).1;omega⟩
     have HUN:Hid ((f i).w.toNat=u):=show _=u by rw[HU.out];rfl
     have u0:(0:Int)≤(u:Int):=aO
     have u1:(u:Int) < 12:=by have:=(HB.out.w12 i HIN.out (.inr k3)).2;have:=HU.out;omega
     have HU12:Hid (u < 12):=show u < 12 by omega
     have HE:Hid (uR f s i=⟨zCS (upd s.P i (vS f s i)) i (f i) t,upd s.puts u i⟩):=show _=_ by unfold uR;rw[if_neg (by rw[HLV.out];decide),if_pos k3,HUN.out,HR.out];rfl
     clear k3
     go_wp2_with (first|(go_at_call 48;refine(zCc b (off+i*7) (f i) _ HOA.out HLB.out).mono ?_;rintro e w3 ⟨rfl,hb3⟩;have HB3:Hid _:=hb3;clear hb3)|(go_at_call 47;refine(zDX Q n n i t (upd s.P i (vS f s i)) (f i) _ (HD.out.below HB3.out).pv.pl HIN.out (by rw[yK,HPP.out]) HT3.out HB.out.hn HTK.out).mono ?_;rintro e w4 ⟨rfl,hp4,hc4⟩;have HV4:Hid _:=(HD.out.below HB3.out).pv.chg _ hp4 hc4;have y0:=(zBO HV4.out HIN.out).c0;have y1:=(zBO HV4.out HIN.out).c1;have yb:=zDW HV4.out HIN.out;have yP:=HV4.out.pu.lt;rw[HU.out] at y1;have yu:=HV4.out.pu.cell (i:=u) HU12.out;have yf:=HV4.out.pu.frozen u;clear hp4 hc4))
     go_roundw
     case rel=>exact⟨i,_,rfl,rfl,Nat.le_of_lt HIN.out,by rw[HSN.out,HE.out];exact(HV4.out.setU u i)⟩
     case measure=>simp[intOf]
    ·refine zI (fun W'=>PR w W' Q BP n (some ⟨b,off,none⟩) f { s with P:=upd s.P i (vS f s i) } BR ⟨lo,hi',t,has,false,lv,en⟩) zq38 ?_
     clear c4 c5 p5' p6' p7 f7 lQ lR nRQ HCC
     intro D hD
     have d7:=hD.pv.pl.cell (i:=i*8+7) zq22
     rw[vO _ _ _ aO] at d7
     have d7':D.cell? ⟨Q,i*8+7,none⟩=some (.bool false):=d7.trans zq31
     have lQ:=hD.pv.pl.lt
     obtain⟨b',off',e',hb,hc⟩:=hD.pv.ops zq22
     cases e'
     have hoa:=hc i HIN.out
     have z0:=hoa.c0
     have HOA:Hid _:=hoa
     have HLB:Hid (b < D.heap.size):=hb
     have HD:Hid _:=hD
     clear hD d7 hc hoa
     have k3b:((f i).kind==3)=false:=by simpa using k3
     have HE:Hid (uR f s i=⟨zCS (upd s.P i (vS f s i)) i (f i) t,s.puts⟩):=show _=_ by unfold uR;rw[if_neg (by rw[HLV.out];decide),if_neg k3,HR.out];rfl
     clear k3
     go_wp2_with (first|(go_at_call 48;refine(zCc b (off+i*7) (f i) _ HOA.out HLB.out).mono ?_;rintro e w3 ⟨rfl,hb3⟩;have HB3:Hid _:=hb3;clear hb3)|(go_at_call 47;refine(zDX Q n n i t (upd s.P i (vS f s i)) (f i) _ (HD.out.below HB3.out).pv.pl HIN.out (by rw[yK,HPP.out]) HT3.out HB.out.hn HTK.out).mono ?_;rintro e w4 ⟨rfl,hp4,hc4⟩;have HV4:Hid _:=(HD.out.below HB3.out).pv.chg _ hp4 hc4;have y0:=(zBO HV4.out HIN.out).c0;have y1:=(zBO HV4.out HIN.out).c1;have yb:=zDW HV4.out HIN.out;have yP:=HV4.out.pu.lt;clear hp4 hc4))
     go_roundw
     case rel=>exact⟨i,_,rfl,rfl,Nat.le_of_lt HIN.out,by rw[HSN.out,HE.out];exact HV4.out⟩
     case measure=>simp[intOf]
   | true=>
    have HK3:Hid ((f i).kind≠3):=HG3.out (by rfl)
    clear HG3
    cases lv with
    | true=>
     have HLV:Hid (zAj (f i) (s.P i) s.puts=false):=show _=_ by rw[HLZ.out];rfl
     have HD9:Hid _:=HCC.out.setP i 7 (.bool false) (vS f s i) aO (by rw[HPP.out,HLV.out];rfl) (fun q hq hne=>by show _=plC (upd s.P i _ i) q;rw[yK,HPP.out];exact zB3 _ _ _ _ q hq hne)
     rw[show({ s with P:=upd s.P i { s.P i with takes:=t,gives:=true } }:PS).P=upd s.P i { s.P i with takes:=t,gives:=true } from rfl,zCd] at HD9
     go_region
     go_upto_region 10 with fail
     have k3:(f i).kind≠3:=HK3.out
     refine zI (fun W'=>PR w W' Q BP n (some ⟨b,off,none⟩) f { s with P:=upd s.P i (vS f s i) } BR ⟨lo,hi',t,has,true,true,en⟩) zq38 ?_
     clear c4 c5 p5' p6' p7 f7 lQ lR nRQ HCC
     intro D hD
     have d7:=hD.pv.pl.cell (i:=i*8+7) zq22
     rw[vO _ _ _ aO] at d7
     have d7':D.cell? ⟨Q,i*8+7,none⟩=some (.bool false):=d7.trans zq31
     have lQ:=hD.pv.pl.lt
     obtain⟨b',off',e',hb,hc⟩:=hD.pv.ops zq22
     cases e'
     have hoa:=hc i HIN.out
     have z0:=hoa.c0
     have HOA:Hid _:=hoa
     have HLB:Hid (b < D.heap.size):=hb
     have HD:Hid _:=hD
     clear hD d7 hc hoa
     have k3b:((f i).kind==3)=false:=by simpa using k3
     have HE:Hid (uR f s i=⟨zCS (upd s.P i (vS f s i)) i (f i) t,s.puts⟩):=show _=_ by unfold uR;rw[if_neg (by rw[HLV.out];decide),if_neg k3,HR.out];rfl
     clear k3
     go_wp2_with (first|(go_at_call 48;refine(zCc b (off+i*7) (f i) _ HOA.out HLB.out).mono ?_;rintro e w3 ⟨rfl,hb3⟩;have HB3:Hid _:=hb3;clear hb3)|(go_at_call 47;refine(zDX Q n n i t (upd s.P i (vS f s i)) (f i) _ (HD.out.below HB3.out).pv.pl HIN.out (by rw[yK,HPP.out]) HT3.out HB.out.hn HTK.out).mono ?_;rintro e w4 ⟨rfl,hp4,hc4⟩;have HV4:Hid _:=(HD.out.below HB3.out).pv.chg _ hp4 hc4;have y0:=(zBO HV4.out HIN.out).c0;have y1:=(zBO HV4.out HIN.out).c1;have yb:=zDW HV4.out HIN.out;have yP:=HV4.out.pu.lt;clear hp4 hc4))
     go_roundw
     case rel=>exact⟨i,_,rfl,rfl,Nat.le_of_lt HIN.out,by rw[HSN.out,HE.out];exact HV4.out⟩
     case measure=>simp[intOf]
    | false=>
     by_cases hx:nx=0
     ·subst hx
      have HLV:Hid (zAj (f i) (s.P i) s.puts=true):=show _=_ by rw[HLZ.out];rfl
      have HD9:Hid _:=HCC.out.setP i 7 (.bool true) (vS f s i) aO (by rw[HPP.out,HLV.out];rfl) (fun q hq hne=>by show _=plC (upd s.P i _ i) q;rw[yK,HPP.out];exact zB3 _ _ _ _ q hq hne)
      rw[show({ s with P:=upd s.P i { s.P i with takes:=t,gives:=true } }:PS).P=upd s.P i { s.P i with takes:=t,gives:=true } from rfl,zCd] at HD9
      go_region
      go_upto_region 10 with fail
      refine zI (fun W'=>PR w W' Q BP n (some ⟨b,off,none⟩) f { s with P:=upd s.P i (vS f s i) } BR ⟨lo,hi',t,has,true,false,en⟩) zq38 ?_
      clear c4 c5 p5' p6' p7 f7 lQ lR nRQ HCC
      intro D hD
      have d7:=hD.pv.pl.cell (i:=i*8+7) zq22
      rw[vO _ _ _ aO] at d7
      have d7':D.cell? ⟨Q,i*8+7,none⟩=some (.bool true):=d7.trans zq31
      have lQ:=hD.pv.pl.lt
      obtain⟨b',off',e',hb,hc⟩:=hD.pv.ops zq22
      cases e'
      have hoa:=hc i HIN.out
      have z0:=hoa.c0
      have HOA:Hid _:=hoa
      have HLB:Hid (b < D.heap.size):=hb
      have HD:Hid _:=hD
      clear hD d7 hc hoa
      have k3:((f i).kind==3)=false:=by simpa using HK3.out
      have HE:Hid (uR f s i={ s with P:=upd s.P i (vS f s i) }):=show _=_ by unfold uR;rw[if_pos HLV.out,if_neg (HK3.out)]
      go_wp2
      go_roundw
      case rel=>exact⟨i,_,rfl,rfl,Nat.le_of_lt HIN.out,by rw[HSN.out,HE.out];exact HD.out.pv⟩
      case measure=>simp[intOf]
     ·have dx:((nx:Int)==0)=false:=by simp;omega
      have HNZ:Hid ((nx==0)=false):=show _=false by simpa using hx
      clear hx
      obtain⟨b',off',e',hb,hc⟩:=HCC.out.pv.ops zq22
      cases e'
      have HOA9:Hid (zAm C.drew b (off+i*7) (f i)):=(hc i HIN.out).below (aB.drew) hb
      have HLB9:Hid (b < C.heap.size):=hb
      have HW2:Hid ((f i).kind=2→0≤(f i).w∧(f i).w < 12):=show(f i).kind=2→_ from fun h=>HB.out.w12 i HIN.out (.inl h)
      have lBP:=HCC.out.pv.pu.lt
      have pu0:=HCC.out.pv.pu.cell (i:=0) aO
      have pu1:=HCC.out.pv.pu.cell (i:=1) aO
      have pu2:=HCC.out.pv.pu.cell (i:=2) aO
      have pu3:=HCC.out.pv.pu.cell (i:=3) aO
      have pu4:=HCC.out.pv.pu.cell (i:=4) aO
      have pu5:=HCC.out.pv.pu.cell (i:=5) aO
      have pu6:=HCC.out.pv.pu.cell (i:=6) aO
      have pu7:=HCC.out.pv.pu.cell (i:=7) aO
      have pu8:=HCC.out.pv.pu.cell (i:=8) aO
      have pu9:=HCC.out.pv.pu.cell (i:=9) aO
      have pu10:=HCC.out.pv.pu.cell (i:=10) aO
      have pu11:=HCC.out.pv.pu.cell (i:=11) aO
      obtain⟨st,HST⟩:∃ st,Hid (stB (f i) la s.puts=st):=⟨_,rfl⟩
      clear hc
      cases st with
      | true=>
       have HLV:Hid (zAj (f i) (s.P i) s.puts=true):=show _=_ by rw[HLZ.out];rw[HNZ.out,HST.out];rfl
       go_region_with (go_at_call 46;refine(zER b (off+i*7) (f i) la s.puts C.drew HOA9.out HLB9.out HW2.out).mono ?_;rintro e w3 ⟨rfl,hb3'⟩;rw[HST.out];have hb3:Below C.heap.size C w3:=((Below.refl _ C).drew).trans hb3';have HB3:Hid _:=hb3;have q7:=(HCC.out.below hb3).pv.pl.cell (i:=i*8+7) zq22;have q8:=(HCC.out.below hb3).pv.pl.frozen (i*8+7);have q9:=(HCC.out.below hb3).pv.pl.lt;clear hb3 hb3')
       all_goals
        have HD9:Hid _:=(HCC.out.below HB3.out).setP i 7 (.bool true) (vS f s i) aO (by rw[HPP.out,HLV.out];rfl) (fun q hq hne=>by show _=plC (upd s.P i _ i) q;rw[yK,HPP.out];exact zB3 _ _ _ _ q hq hne)
        rw[show({ s with P:=upd s.P i { s.P i with takes:=t,gives:=true } }:PS).P=upd s.P i { s.P i with takes:=t,gives:=true } from rfl,zCd] at HD9
        go_upto_region 10 with fail
        refine zI (fun W'=>PR w W' Q BP n (some ⟨b,off,none⟩) f { s with P:=upd s.P i (vS f s i) } BR ⟨lo,hi',t,has,true,false,en⟩) zq38 ?_
        clear c4 c5 q7 q8 q9 lBP pu0 pu1 pu2 pu3 pu4 pu5 pu6 pu7 pu8 pu9 pu10 pu11 HOA9 HLB9 p5' p6' p7 f7 lQ lR nRQ HCC
        intro D hD
        have d7:=hD.pv.pl.cell (i:=i*8+7) zq22
        rw[vO _ _ _ aO] at d7
        have d7':D.cell? ⟨Q,i*8+7,none⟩=some (.bool true):=d7.trans zq31
        have lQ:=hD.pv.pl.lt
        obtain⟨b',off',e',hb,hc⟩:=hD.pv.ops zq22
        cases e'
        have hoa:=hc i HIN.out
        have z0:=hoa.c0
        have HOA:Hid _:=hoa
        have HLB:Hid (b < D.heap.size):=hb
        have HD:Hid _:=hD
        clear hD d7 hc hoa
        have k3:((f i).kind==3)=false:=by simpa using HK3.out
        have HE:Hid (uR f s i={ s with P:=upd s.P i (vS f s i) }):=show _=_ by unfold uR;rw[if_pos HLV.out,if_neg (HK3.out)]
        go_wp2
        go_roundw
        case rel=>exact⟨i,_,rfl,rfl,Nat.le_of_lt HIN.out,by rw[HSN.out,HE.out];exact HD.out.pv⟩
        case measure=>simp[intOf]
      | false=>
       have HLV:Hid (zAj (f i) (s.P i) s.puts=false):=show _=_ by rw[HLZ.out];rw[HNZ.out,HST.out];rfl
       go_region_with (go_at_call 46;refine(zER b (off+i*7) (f i) la s.puts C.drew HOA9.out HLB9.out HW2.out).mono ?_;rintro e w3 ⟨rfl,hb3'⟩;rw[HST.out];have hb3:Below C.heap.size C w3:=((Below.refl _ C).drew).trans hb3';have HB3:Hid _:=hb3;have q7:=(HCC.out.below hb3).pv.pl.cell (i:=i*8+7) zq22;have q8:=(HCC.out.below hb3).pv.pl.frozen (i*8+7);have q9:=(HCC.out.below hb3).pv.pl.lt;clear hb3 hb3')
       all_goals
        have HD9:Hid _:=(HCC.out.below HB3.out).setP i 7 (.bool false) (vS f s i) aO (by rw[HPP.out,HLV.out];rfl) (fun q hq hne=>by show _=plC (upd s.P i _ i) q;rw[yK,HPP.out];exact zB3 _ _ _ _ q hq hne)
        rw[show({ s with P:=upd s.P i { s.P i with takes:=t,gives:=true } }:PS).P=upd s.P i { s.P i with takes:=t,gives:=true } from rfl,zCd] at HD9
        go_upto_region 10 with fail
        have k3:(f i).kind≠3:=HK3.out
        refine zI (fun W'=>PR w W' Q BP n (some ⟨b,off,none⟩) f { s with P:=upd s.P i (vS f s i) } BR ⟨lo,hi',t,has,true,false,en⟩) zq38 ?_
        clear c4 c5 q7 q8 q9 lBP pu0 pu1 pu2 pu3 pu4 pu5 pu6 pu7 pu8 pu9 pu10 pu11 HOA9 HLB9 p5' p6' p7 f7 lQ lR nRQ HCC
        intro D hD
        have d7:=hD.pv.pl.cell (i:=i*8+7) zq22
        rw[vO _ _ _ aO] at d7
        have d7':D.cell? ⟨Q,i*8+7,none⟩=some (.bool false):=d7.trans zq31
        have lQ:=hD.pv.pl.lt
        obtain⟨b',off',e',hb,hc⟩:=hD.pv.ops zq22
        cases e'
        have hoa:=hc i HIN.out
        have z0:=hoa.c0
        have HOA:Hid _:=hoa
        have HLB:Hid (b < D.heap.size):=hb
        have HD:Hid _:=hD
        clear hD d7 hc hoa
        have k3b:((f i).kind==3)=false:=by simpa using k3
        have HE:Hid (uR f s i=⟨zCS (upd s.P i (vS f s i)) i (f i) t,s.puts⟩):=show _=_ by unfold uR;rw[if_neg (by rw[HLV.out];decide),if_neg k3,HR.out];rfl
        clear k3
        go_wp2_with (first|(go_at_call 48;refine(zCc b (off+i*7) (f i) _ HOA.out HLB.out).mono ?_;rintro e w3 ⟨rfl,hb3⟩;have HB3:Hid _:=hb3;clear hb3)|(go_at_call 47;refine(zDX Q n n i t (upd s.P i (vS f s i)) (f i) _ (HD.out.below HB3.out).pv.pl HIN.out (by rw[yK,HPP.out]) HT3.out HB.out.hn HTK.out).mono ?_;rintro e w4 ⟨rfl,hp4,hc4⟩;have HV4:Hid _:=(HD.out.below HB3.out).pv.chg _ hp4 hc4;have y0:=(zBO HV4.out HIN.out).c0;have y1:=(zBO HV4.out HIN.out).c1;have yb:=zDW HV4.out HIN.out;have yP:=HV4.out.pu.lt;clear hp4 hc4))
        go_roundw
        case rel=>exact⟨i,_,rfl,rfl,Nat.le_of_lt HIN.out,by rw[HSN.out,HE.out];exact HV4.out⟩
        case measure=>simp[intOf]
end Go.Proofs.Ytkmjenjahbicpaa.Ho
