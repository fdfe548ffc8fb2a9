import Derived.Test.YtkmjenjahbicpaaPD
import Derived.Test.YtkmjenjahbicpaaHH
import Derived.Test.YtkmjenjahbicpaaHK
import Derived.Deep.OwnRows
import Derived.Deep.AppendLies
import Derived.OwnWalk
set_option linter.unusedVariables false
set_option linter.unusedSimpArgs false
set_option maxHeartbeats 4000000
namespace Go.Proofs.Ytkmjenjahbicpaa
open Go.RowKit
set_option maxRecDepth 100000
theorem zIQ(pc:Nat)(count bytes:Int)(bp:Option Addr)(n cap:Nat)(f:Nat→zL)(w:World)(hO:vN w bp n f)(hcap:n≤cap)(hn:n < 9223372036854775807) :
  Calls Try.prog 23 #[.agg #[.int .u32 pc,.int .i64 count,.int .i64 bytes,.slice bp n cap]] w fun e w'=>e=.returned (.tuple #[.int .i64 (yH count bytes n f).1,.int .i64 (yH count bytes n f).2])∧Below w.heap.size w w':=by
 have HO:Hid (vN w bp n f):=hO
 have n0:(0:Int)≤(n:Int):=aO
 have nb:(n:Int)≤9223372036854775807:=aO
 have HW:Hid (CW w (w.alloc (.cells #[.int .u32 pc,.int .i64 count,.int .i64 bytes,.slice bp n cap] 25)) pc count bytes bp n cap):=⟨heap_alloc_last w _,yS w _⟩
 have HCAP:Hid _:=hcap
 clear hO hcap
 by_cases hL:2048 < n
 ·have d:decide (2048 < (n:Int))=true:=aT
  have HE:Hid (yH count bytes n f=(5,-1)):=by show _=_;unfold yH;rw[if_pos hL]
  clear hL
  go_enter Try.func23,Try.ntmps23
  go_wp2
  go_ret2
  exact⟨by rw[HE.out];rfl,HW.out.bel⟩
 have d:decide (2048 < (n:Int))=false:=aF
 by_cases hC:0≤count∧count≤64
 rotate_left
 ·have HD:Hid (decide (0≤count∧count≤64)=false):=decide_eq_false hC
  have HE:Hid (yH count bytes n f=(4,-1)):=by show _=_;unfold yH;rw[if_neg hL,if_neg (fun h=>hC h.1)]
  clear hL hC
  go_enter Try.func23,Try.ntmps23
  go_wp2_with (go_at_call 43;refine(zY count 64 _).mono ?_;rintro e w1 ⟨rfl,rfl⟩;rw[HD.out])
  go_ret2
  exact⟨by rw[HE.out];rfl,HW.out.bel⟩
 have HD:Hid (decide (0≤count∧count≤64)=true):=decide_eq_true hC
 by_cases hB:0≤bytes∧bytes≤384
 rotate_left
 ·have HD2:Hid (decide (0≤bytes∧bytes≤384)=false):=decide_eq_false hB
  have HE:Hid (yH count bytes n f=(4,-1)):=by show _=_;unfold yH;rw[if_neg hL,if_neg (fun h=>hB h.2)]
  clear hL hC hB
  go_enter Try.func23,Try.ntmps23
  go_wp2_with (first
   | (go_at_call 43;have HZ1:=HQ1;refine(zY bytes 384 _).mono ?_;rintro e w1 ⟨rfl,rfl⟩;rw[HD2.out])
   | (go_at_call 43;refine(zY count 64 _).mono ?_;rintro e w1 ⟨rfl,rfl⟩;rw[HD.out];have HQ1:Hid True:=trivial))
  go_ret2
  exact⟨by rw[HE.out];rfl,HW.out.bel⟩
 have HD2:Hid (decide (0≤bytes∧bytes≤384)=true):=decide_eq_true hB
 obtain⟨E,HE⟩:∃ E,Hid (yH count bytes n f=E):=⟨_,rfl⟩
 have HS:Hid (zBX count n f n 0=E):=by show _=_;rw[← HE.out];unfold yH;rw[if_neg hL,if_pos ⟨hC,hB⟩]
 have HL:Hid (n≤2048):=show n≤2048 by omega
 have n1:(n:Int)≤2048:=aO
 clear hL hC hB
 rw[HE.out]
 go_enter Try.func23,Try.ntmps23
 go_wp2_with (first
  | (go_at_call 43;have HZ1:=HQ1;refine(zY bytes 384 _).mono ?_;rintro e w1 ⟨rfl,rfl⟩;rw[HD2.out])
  | (go_at_call 43;refine(zY count 64 _).mono ?_;rintro e w1 ⟨rfl,rfl⟩;rw[HD.out];have HQ1:Hid True:=trivial))
 go_loopw [24] (fun i' wr=>∃ j:Nat,i'=.int .i64 j∧j≤n∧zBX count n f (n - j) j=E∧CW w wr pc count bytes bp n cap) (fun i _=>n - (intOf i).toNat)
 case atStart=>exact⟨0,rfl,by omega,HS.out,HW.out⟩
 case round=>
  obtain⟨j,rfl,hj,hsc,hW⟩:=hrel
  have HSC:Hid _:=hsc
  have HWr:Hid _:=hW
  have l1:=zE hW.b1
  have m0:wr.cell? ⟨w.heap.size,0,none⟩=some (.int .u32 pc):=zA hW.b1 0
  have m1:wr.cell? ⟨w.heap.size,1,none⟩=some (.int .i64 count):=zA hW.b1 1
  have m2:wr.cell? ⟨w.heap.size,2,none⟩=some (.int .i64 bytes):=zA hW.b1 2
  have m3:wr.cell? ⟨w.heap.size,3,none⟩=some (.slice bp n cap):=zA hW.b1 3
  clear hsc hW HW
  by_cases hlt:j < n
  ·have hji:(j:Int) < (n:Int):=aO
   have dj:decide ((j:Int) < (n:Int))=true:=decide_eq_true hji
   have j0:(0:Int)≤(j:Int):=aO
   have hstep:n - j=(n - (j+1))+1:=aO
   have HLT:Hid _:=hlt
   obtain⟨q,HQ⟩:∃ q,Hid (uQ count n f j=q):=⟨_,rfl⟩
   have HST:Hid (zBX count n f ((n - (j+1))+1) j=E):=hstep▸HSC.out
   clear hstep hlt
   by_cases hq:q=0
   ·subst hq
    have HN:Hid (zBX count n f (n - (j+1)) (j+1)=E):=by
     show _=_
     have:=HST.out
     simp only[zBX,HQ.out,if_true] at this
     exact this
    go_wp2_with (go_at_call 44;refine(zDM pc count bytes bp n cap j f _ (HO.out.below HWr.out.bel aL) HLT.out HL.out HCAP.out).mono ?_;rintro e w2 ⟨rfl,h2⟩;rw[HQ.out])
    go_round
    case rel=>exact⟨j+1,by go_num,HLT.out,HN.out,HWr.out.next h2⟩
    case measure=>have:=HLT.out;simp[intOf];omega
   ·have dq:(q !=0)=true:=by simpa using hq
    have HN:Hid (E=(q,(j:Int))):=by
     show _=_
     have:=HST.out
     simp only[zBX,HQ.out,if_neg hq] at this
     exact this.symm
    clear hq
    go_wp2_with (go_at_call 44;refine(zDM pc count bytes bp n cap j f _ (HO.out.below HWr.out.bel aL) HLT.out HL.out HCAP.out).mono ?_;rintro e w2 ⟨rfl,h2⟩;rw[HQ.out])
    go_ret2
    exact⟨by rw[HN.out];rfl,(HWr.out.next h2).bel⟩
  ·obtain rfl:j=n:=aO
   have dj:decide ((j:Int) < (j:Int))=false:=aF
   have HST:Hid (zFx j f=E):=by
    show _=_
    have:=HSC.out
    rw[Nat.sub_self] at this
    exact this
   clear hlt hj HSC
   by_cases hz:j=0
   ·subst hz
    have HN:Hid (E=(7,0)):=by show _=_;rw[← HST.out];rfl
    go_wp2
    go_ret2
    exact⟨by rw[HN.out];rfl,HWr.out.bel⟩
   ·obtain⟨p,HP⟩:∃ p,Hid (j=p+1):=⟨j - 1,show j=j - 1+1 by omega⟩
    have hp:=HP.out
    obtain⟨b,off,rfl,hb,hc⟩:=HO.out aO
    have hk:wr.cell? ⟨b,off+p*7,none⟩=some (.int .i64 (f p).kind):=((hc p aO).below HWr.out.bel hb).c0
    obtain⟨R,HR⟩:∃ R,Hid (ru (f p).kind=R):=⟨_,rfl⟩
    have dz:((j:Int)==0)=false:=by simp;omega
    have hsub:(j:Int) - 1=(p:Int):=aO
    have p0:(0:Int)≤(p:Int):=aO
    have p1:(p:Int) < (j:Int):=aO
    have HF:=zOm R
    obtain⟨en,HEN⟩:∃ en,Hid (R.ends=en):=⟨_,rfl⟩
    have HN:Hid (E=if en then(0,0) else(7,(j:Int))):=by
     show _=_
     rw[← HST.out]
     unfold zFx
     rw[show j - 1=p by omega,← (zEa (f p).kind).2.2.2,HR.out,HEN.out]
     cases en<;>simp[hz]
    have lb:b < wr.heap.size:=by have:=HWr.out.bel.size;omega
    clear hc HO hp hz
    rw[HEN.out] at HF
    cases en with
    | true=>
     go_wp2_with (go_at_call 45;refine(uM (f p).kind R _ HR.out).mono ?_;rintro e w3 ⟨rfl,h3⟩;rw[HEN.out])
     go_ret2
     exact⟨by rw[HN.out];rfl,(HWr.out.next h3).bel⟩
    | false=>
     go_wp2_with (go_at_call 45;refine(uM (f p).kind R _ HR.out).mono ?_;rintro e w3 ⟨rfl,h3⟩;rw[HEN.out])
     go_ret2
     exact⟨by rw[HN.out];rfl,(HWr.out.next h3).bel⟩
end Go.Proofs.Ytkmjenjahbicpaa
namespace Go.Proofs.Ytkmjenjahbicpaa.Ho
open Go.RowKit
set_option maxRecDepth 100000
def upd{α:Type}(f:Nat→α)(i:Nat)(v:α):Nat→α:=fun j=>if j=i then v else f j
structure PL where
 takes:Nat
 a0:Nat
 a1:Nat
 a2:Nat
 gives:Bool
 next:Nat
 last:Nat
 lazy:Bool
def plC(p:PL):Nat→Value
 | 0=>.int .i64 p.takes
 | 1=>.int .i64 p.a0
 | 2=>.int .i64 p.a1
 | 3=>.int .i64 p.a2
 | 4=>.bool p.gives
 | 5=>.int .i64 p.next
 | 6=>.int .i64 p.last
 | _=>.bool p.lazy
def plF(P:Nat→PL)(o:Nat):Value:=plC (P (o / 8)) (o%8)
structure G where
 hf:Nat→Bool
 hv:Nat→Nat
 bz:Nat→Bool
 sv:Nat→Bool
 P:Nat→PL
 l:List Nat
def mkF(ov pv wv:Value)(regs:Nat)(g:G)(o:Nat):Value:=
 if o=0 then ov else if o=1 then pv else if o=2 then .int .i64 regs
 else if o < 35 then(if o%2=1 then .bool (g.hf ((o - 3) / 2)) else .int .i64 (g.hv ((o - 3) / 2)))
 else if o < 51 then .bool (g.bz (o - 35)) else if o < 2099 then .bool (g.sv (o - 51)) else wv
theorem zQr(ov pv wv:Value)(regs:Nat)(g:G)(r v:Nat)(b:Bool)(hr:r < 16):(fun j=>if j=3+r*2+1 then Value.int .i64 v else if j=3+r*2 then .bool b else mkF ov pv wv regs g j)=mkF ov pv wv regs { g with hf:=upd g.hf r b,hv:=upd g.hv r v }:=by
 funext o
 by_cases e1:o=3+r*2+1
 ·rw[if_pos e1];subst e1
  unfold mkF
  rw[if_neg aO,if_neg aO,if_neg aO,if_pos aO,if_neg aO,show(3+r*2+1 - 3) / 2=r by omega]
  simp[upd]
 ·rw[if_neg e1]
  by_cases e2:o=3+r*2
  ·rw[if_pos e2];subst e2
   unfold mkF
   rw[if_neg aO,if_neg aO,if_neg aO,if_pos aO,if_pos aO,show(3+r*2 - 3) / 2=r by omega]
   simp[upd]
  ·rw[if_neg e2]
   unfold mkF
   by_cases h0:o=0
   ·rw[if_pos h0,if_pos h0]
   by_cases h1:o=1
   ·rw[if_neg h0,if_neg h0,if_pos h1,if_pos h1]
   by_cases h2:o=2
   ·rw[if_neg h0,if_neg h0,if_neg h1,if_neg h1,if_pos h2,if_pos h2]
   rw[if_neg h0,if_neg h0,if_neg h1,if_neg h1,if_neg h2,if_neg h2]
   by_cases h3:o < 35
   ·have hq:¬(o - 3) / 2=r:=aO
    rw[if_pos h3,if_pos h3]
    simp only[upd,if_neg hq]
   ·rw[if_neg h3,if_neg h3]
theorem zKb(ov pv wv:Value)(regs:Nat)(g:G)(r:Nat)(b:Bool)(hr:r < 16):(fun j=>if j=35+r then .bool b else mkF ov pv wv regs g j)=mkF ov pv wv regs { g with bz:=upd g.bz r b }:=by
 funext o
 unfold mkF
 by_cases e1:o=35+r
 ·rw[if_pos e1];subst e1
  rw[if_neg aO,if_neg aO,if_neg aO,if_neg aO,if_pos aO,show 35+r - 35=r by omega]
  simp[upd]
 ·rw[if_neg e1]
  by_cases h3:o < 35
  ·simp only[if_pos h3]
  by_cases h4:o < 51
  ·have hq:¬o - 35=r:=aO
   simp only[if_neg h3,if_pos h4,upd,if_neg hq]
  ·simp only[if_neg h3,if_neg h4]
theorem zSf(ov pv wv:Value)(regs:Nat)(g:G)(r:Nat)(b:Bool)(hr:r < 2048):(fun j=>if j=51+r then .bool b else mkF ov pv wv regs g j)=mkF ov pv wv regs { g with sv:=upd g.sv r b }:=by
 funext o
 unfold mkF
 by_cases e1:o=51+r
 ·rw[if_pos e1];subst e1
  rw[if_neg aO,if_neg aO,if_neg aO,if_neg aO,if_neg aO,if_pos aO,show 51+r - 51=r by omega]
  simp[upd]
 ·rw[if_neg e1]
  by_cases h3:o < 51
  ·simp only[if_pos h3]
  by_cases h4:o < 2099
  ·have hq:¬o - 51=r:=aO
   simp only[if_neg h3,if_pos h4,upd,if_neg hq]
  ·simp only[if_neg h3,if_neg h4]
theorem zSg(ov pv wv wv':Value)(regs:Nat)(g g':G)(l:List Nat)(o:Nat)(ho:o < 2100)(e:g'={ g with l:=l }):(if o=2099 then wv' else mkF ov pv wv regs g o)=mkF ov pv wv' regs g' o:=by
 subst e
 unfold mkF
 by_cases e1:o=2099
 ·subst e1;rfl
 ·have h3:o < 2099:=aO
  simp only[if_neg e1,if_pos h3]
theorem zRb(ov pv wv:Value)(regs:Nat)(g:G):mkF ov pv wv regs g 2099=wv:=rfl
theorem zOU(ov pv wv:Value)(regs:Nat)(g:G)(r:Nat)(hr:r < 16):mkF ov pv wv regs g (3+r*2)=.bool (g.hf r):=by
 unfold mkF
 rw[if_neg aO,if_neg aO,if_neg aO,if_pos aO,if_pos aO,show(3+r*2 - 3) / 2=r by omega]
theorem zHW(ov pv wv:Value)(regs:Nat)(g:G)(r:Nat)(hr:r < 16):mkF ov pv wv regs g (3+r*2+1)=.int .i64 (g.hv r):=by
 unfold mkF
 rw[if_neg aO,if_neg aO,if_neg aO,if_pos aO,if_neg aO,show(3+r*2+1 - 3) / 2=r by omega]
theorem zCo(ov pv wv:Value)(regs:Nat)(g:G)(r:Nat)(hr:r < 16):mkF ov pv wv regs g (35+r)=.bool (g.bz r):=by
 unfold mkF
 rw[if_neg aO,if_neg aO,if_neg aO,if_neg aO,if_pos aO,show 35+r - 35=r by omega]
theorem zRa(ov pv wv:Value)(regs:Nat)(g:G)(r:Nat)(hr:r < 2048):mkF ov pv wv regs g (51+r)=.bool (g.sv r):=by
 unfold mkF
 rw[if_neg aO,if_neg aO,if_neg aO,if_neg aO,if_neg aO,if_pos aO,show 51+r - 51=r by omega]
theorem vO(P:Nat→PL)(i r:Nat)(hr:r < 8):plF P (i*8+r)=plC (P i) r:=by
 unfold plF
 rw[show(i*8+r) / 8=i by omega,show(i*8+r)%8=r by omega]
theorem zG8(P:Nat→PL)(i r:Nat)(v:Value)(p:PL)(hr:r < 8)(h1:plC p r=v)(h2:∀ q,q < 8→q≠r→plC p q=plC (P i) q):(fun j=>if j=i*8+r then v else plF P j)=plF (upd P i p):=by
 funext o
 by_cases e:o=i*8+r
 ·subst e;rw[if_pos rfl,vO _ _ _ hr];simp[upd,h1]
 ·rw[if_neg e]
  unfold plF upd
  by_cases e2:o / 8=i
  ·rw[if_pos e2,e2]
   exact(h2 (o%8) (Nat.mod_lt _ aD) aO).symm
  ·rw[if_neg e2]
def wdL(l:List Nat):List Value:=l.map (fun x:Nat=>Value.int .u32 (x:Int))
structure Kx(base M Q:Nat)(w w':World):Prop where
 bel:Below base w w'
 blk:∀ i A T,w.heap[i]?=some (.cells A T)→i≠M→i≠Q→T≠22→w'.heap[i]?=some (.cells A T)
 size:w.heap.size≤w'.heap.size
theorem Kx.refl(base M Q:Nat)(w:World):Kx base M Q w w:=⟨Below.refl _ _,fun _ _ _ h _ _ _=>h,Nat.le_refl _⟩
theorem Kx.trans{base M Q:Nat}{a b c:World}(h:Kx base M Q a b)(k:Kx base M Q b c):Kx base M Q a c:=
 ⟨h.bel.trans k.bel,fun i A T h1 h2 h3 h4=>k.blk i A T (h.blk i A T h1 h2 h3 h4) h2 h3 h4,Nat.le_trans h.size k.size⟩
theorem Kx.of_below{base M Q:Nat}{w w':World}(h:Below w.heap.size w w')(hb:base≤w.heap.size):Kx base M Q w w':=
 ⟨h.mono hb,fun i A T h1 _ _ _=>(h.block i (zE h1)).trans h1,h.size⟩
theorem Kx.next{base M Q:Nat}{w w' w2:World}(k:Kx base M Q w w')(h:Below w'.heap.size w' w2)(hb:base≤w.heap.size):Kx base M Q w w2:=k.trans (Kx.of_below h (Nat.le_trans hb k.size))
theorem Kx.setIn{base M Q:Nat}{w w':World}(k:Kx base M Q w w'){B:Nat}(hB:B=M∨B=Q∨w.heap.size≤B)(hb:base≤B)(o:Nat)(v:Value):Kx base M Q w (w'.setCell ⟨B,o,none⟩ v):=
 ⟨k.bel.setCell hb v,fun i A T h1 h2 h3 h4=>by
  have hne:i≠B:=by
   rcases hB with e|e|e
   ·subst e;exact h2
   ·subst e;exact h3
   ·have:=zE h1;omega
  exact(zQ hne v).trans (k.blk i A T h1 h2 h3 h4),by simpa using k.size⟩
theorem Kx.row{base M Q:Nat}{w w':World}(k:Kx base M Q w w'){b t n:Nat}{f:Nat→Value}(h:w.rowIs b t n f)(h1:b≠M)(h2:b≠Q)(h3:t≠22):w'.rowIs b t n f:=by
 obtain⟨c,hb,hn,hc⟩:=h
 exact⟨c,k.blk b c t hb h1 h2 h3,hn,hc⟩
structure GW(w:World)(base M Q n:Nat)(bp:Option Addr)(cap pcap regs:Nat)(f:Nat→zL)(g:G)(sv:Value):Prop where
 mb:w.rowIs M 77 2100 (mkF (.slice bp n cap) (.slice (some ⟨Q,0,none⟩) n pcap) sv regs g)
 wd:w.ownsRow base 22 1 sv g.l.length (wdL g.l)
 pl:w.rowIs Q 118 (n*8) (plF g.P)
 ops:vN w bp n f
 ob:∀ b off,bp=some ⟨b,off,none⟩→b < base
 bM:base≤M
 bQ:base≤Q
 bw:base≤w.heap.size
theorem zB0{w:World}{base n g:Nat}{v:Value}{xs:List Value}(h:w.ownsRow base 22 1 v n xs)(hg:v.ownBlock=some g):base≤g∧∃ cur,w.heap[g]?=some (.cells cur 22):=by
 rcases h.2 with ⟨hv,h0⟩|⟨g',c',cur,hv,hb,hh,h1,h2,h3,h4⟩
 ·rw[hv] at hg;cases hg
 ·rw[hv] at hg;cases hg;exact⟨hb,cur,hh⟩
theorem zAS{w w':World}{base n:Nat}{v:Value}{xs:List Value}(h:w.ownsRow base 22 1 v n xs)(hk:∀ g,v.ownBlock=some g→w'.heap[g]?=w.heap[g]?):w'.ownsRow base 22 1 v n xs:=by
 refine⟨h.1,?_⟩
 rcases h.2 with ⟨hv,h0⟩|⟨g',c',cur,hv,hb,hh,h1,h2,h3,h4⟩
 ·exact Or.inl ⟨hv,h0⟩
 ·exact Or.inr ⟨g',c',cur,hv,hb,(hk g' (by rw[hv];rfl)).trans hh,h1,h2,h3,h4⟩
theorem GW.ne{w:World}{base M Q n:Nat}{bp:Option Addr}{cap pcap regs:Nat}{f:Nat→zL}{g:G}{sv:Value}(h:GW w base M Q n bp cap pcap regs f g sv):M≠Q:=fun e=>by
 obtain⟨c,hc,-⟩:=h.mb
 obtain⟨d,hd,-⟩:=h.pl
 rw[e,hd] at hc
 cases hc
theorem GW.ow{w:World}{base M Q n:Nat}{bp:Option Addr}{cap pcap regs:Nat}{f:Nat→zL}{g:G}{sv:Value}(h:GW w base M Q n bp cap pcap regs f g sv){k:Nat}(hk:sv.ownBlock=some k):k≠M∧k≠Q:=by
 obtain⟨-,cur,hh⟩:=zB0 h.wd hk
 obtain⟨c,hc,-⟩:=h.mb
 obtain⟨d,hd,-⟩:=h.pl
 exact⟨fun e=>by(rw[e,hc] at hh;cases hh),fun e=>by(rw[e,hd] at hh;cases hh)⟩
theorem zBe{w w':World}{bp:Option Addr}{n base:Nat}{f:Nat→zL}(h:vN w bp n f)(k:Below base w w')(hb:∀ b off,bp=some ⟨b,off,none⟩→b < base):vN w' bp n f:=fun h0=>by
 obtain⟨b,off,e,hl,hc⟩:=h h0
 exact⟨b,off,e,Nat.lt_of_lt_of_le hl k.size,fun i hi=>(hc i hi).below k (hb b off e)⟩
theorem GW.below{w w':World}{base M Q n:Nat}{bp:Option Addr}{cap pcap regs:Nat}{f:Nat→zL}{g:G}{sv:Value}(h:GW w base M Q n bp cap pcap regs f g sv)(k:Below w.heap.size w w'):GW w' base M Q n bp cap pcap regs f g sv:=
 ⟨h.mb.of_block (k.block _ h.mb.lt),zAS h.wd (fun g hg=>by obtain⟨-,cur,hh⟩:=zB0 h.wd hg;exact k.block _ (zE hh)),h.pl.of_block (k.block _ h.pl.lt),zBe h.ops (k.mono h.bw) h.ob,h.ob,h.bM,h.bQ,Nat.le_trans h.bw k.size⟩
theorem GW.setOther{w:World}{base M Q n:Nat}{bp:Option Addr}{cap pcap regs:Nat}{f:Nat→zL}{g:G}{sv:Value}(h:GW w base M Q n bp cap pcap regs f g sv){B:Nat}(h1:B≠M)(h2:B≠Q)(h3:sv.ownBlock≠some B)(hb:base≤B)(o:Nat)(v:Value):GW (w.setCell ⟨B,o,none⟩ v) base M Q n bp cap pcap regs f g sv:=
 ⟨h.mb.setOther (fun e=>h1 e.symm) v,zAS h.wd (fun g' hg=>zQ (fun e=>h3 (by rw[hg,e])) v),h.pl.setOther (fun e=>h2 e.symm) v,zBe h.ops ((Below.refl base w).setCell hb v) h.ob,h.ob,h.bM,h.bQ,by simpa using h.bw⟩
theorem GW.setM{w:World}{base M Q n:Nat}{bp:Option Addr}{cap pcap regs:Nat}{f:Nat→zL}{g:G}{sv:Value}(h:GW w base M Q n bp cap pcap regs f g sv)(o:Nat)(v:Value)(g':G)(e:(fun j=>if j=o then v else mkF (.slice bp n cap) (.slice (some ⟨Q,0,none⟩) n pcap) sv regs g j)=mkF (.slice bp n cap) (.slice (some ⟨Q,0,none⟩) n pcap) sv regs g')(hP:g'.P=g.P)(hl:g'.l=g.l):GW (w.setCell ⟨M,o,none⟩ v) base M Q n bp cap pcap regs f g' sv:=
 ⟨e▸h.mb.set o v,by rw[hl];exact zAS h.wd (fun g hg=>zQ (fun e=>(h.ow hg).1 e) v),by rw[hP];exact h.pl.setOther (fun e=>h.ne e.symm) v,zBe h.ops ((Below.refl base w).setCell h.bM v) h.ob,h.ob,h.bM,h.bQ,by simpa using h.bw⟩
theorem GW.setReg{w:World}{base M Q n:Nat}{bp:Option Addr}{cap pcap regs:Nat}{f:Nat→zL}{g:G}{sv:Value}(h:GW w base M Q n bp cap pcap regs f g sv)(r v:Nat)(b:Bool)(hr:r < 16):GW ((w.setCell ⟨M,3+r*2,none⟩ (.bool b)).setCell ⟨M,3+r*2+1,none⟩ (.int .i64 v)) base M Q n bp cap pcap regs f { g with hf:=upd g.hf r b,hv:=upd g.hv r v } sv:=
 ⟨zQr _ _ sv regs g r v b hr▸(h.mb.set (3+r*2) (.bool b)).set (3+r*2+1) (.int .i64 v),zAS (zAS h.wd (fun g hg=>zQ (fun e=>(h.ow hg).1 e) (.bool b))) (fun g hg=>zQ (fun e=>(h.ow hg).1 e) _),(h.pl.setOther (a:=⟨M,3+r*2,none⟩) (fun e=>h.ne e.symm) (.bool b)).setOther (fun e=>h.ne e.symm) _,zBe h.ops (((Below.refl base w).setCell h.bM _).setCell h.bM _) h.ob,h.ob,h.bM,h.bQ,by simpa using h.bw⟩
theorem GW.setP{w:World}{base M Q n:Nat}{bp:Option Addr}{cap pcap regs:Nat}{f:Nat→zL}{g:G}{sv:Value}(h:GW w base M Q n bp cap pcap regs f g sv)(i r:Nat)(v:Value)(p:PL)(hr:r < 8)(h1:plC p r=v)(h2:∀ q,q < 8→q≠r→plC p q=plC (g.P i) q):GW (w.setCell ⟨Q,i*8+r,none⟩ v) base M Q n bp cap pcap regs f { g with P:=upd g.P i p } sv:=
 ⟨h.mb.setOther (fun e=>h.ne e) v,zAS h.wd (fun g hg=>zQ (fun e=>(h.ow hg).2 e) v),zG8 g.P i r v p hr h1 h2▸h.pl.set (i*8+r) v,zBe h.ops ((Below.refl base w).setCell h.bQ v) h.ob,h.ob,h.bM,h.bQ,by simpa using h.bw⟩
def zBw(g:G)(x:Cd):G:={ g with l:=g.l++(vZ x).2 }
theorem zSc:(Try.prog.info? 22).map (fun i=>(i.zero,i.size,i.bytes))=some (some (.int .u32 0),1,4):=by kernel_rfl
theorem zTj(base n:Nat)(sv:Value)(xs:List Value)(w:World)(h:w.ownsRow base 22 1 sv n xs):(Builtin.append_ #[37,37] 37 #[sv,.slice none 0 0]).run Try.prog w=.ok sv w:=by
 rcases h.2 with ⟨hv,h0⟩|⟨g',c',cur,hv,hb,hh,h1,h2,h3,h4⟩
 ·rw[hv];simp[Builtin.append_,go_sem]
 ·rw[hv];simp[Builtin.append_,go_sem];intro h;omega
theorem zTk(base n:Nat)(sv:Value)(xs:List Value)(ad:Addr)(cp:Nat)(w:World)(h:w.ownsRow base 22 1 sv n xs):(Builtin.append_ #[37,37] 37 #[sv,.slice (some ad) 0 cp]).run Try.prog w=.ok sv w:=by
 rcases h.2 with ⟨hv,h0⟩|⟨g',c',cur,hv,hb,hh,h1,h2,h3,h4⟩
 ·rw[hv];simp[Builtin.append_,go_sem]
 ·rw[hv];simp[Builtin.append_,go_sem];intro h;omega
theorem zID(l:List Nat):(wdL l).length=l.length:=by simp[wdL]
theorem zOD(l:List Nat):∀ u∈wdL l,u.oneCell'=true:=by
 intro u hu
 simp only[wdL,List.mem_map] at hu
 obtain⟨i,-,rfl⟩:=hu
 rfl
theorem zOC(a b:List Nat):wdL a++wdL b=wdL (a++b):=by simp[wdL]
theorem zQ6{l:List Nat}{j:Nat}{u:Value}(h:(wdL l)[j]?=some u):j < l.length∧u=.int .u32 (uP l j):=by
 have hj:j < l.length:=by
  rcases Nat.lt_or_ge j l.length with k|k
  ·exact k
  ·rw[List.getElem?_eq_none (by rw[zID];exact k)] at h;cases h
 refine⟨hj,?_⟩
 simp only[wdL,List.getElem?_map,List.getElem?_eq_getElem hj,Option.map_some,Option.some.injEq] at h
 rw[← h]
 simp[uP,hj]
theorem zF7(base M Q n:Nat)(bp:Option Addr)(cap pcap regs:Nat)(f:Nat→zL)(g:G)(sv:Value)(x:Cd)(w:World)(hG:GW w base M Q n bp cap pcap regs f g sv)(h1:x.k < 4294967296)(h2:x.x < 4294967296)(hl:g.l.length≤100000) :
  Calls Try.prog 25 #[.pointer (some ⟨M,0,none⟩),cdV x] w fun e w'=>e=.returned (.tuple #[])∧(∃ sv',GW w' base M Q n bp cap pcap regs f (zBw g x) sv')∧Kx base M Q w w':=by
 obtain⟨ex,HX⟩:∃ ex,Hid (vZ x=ex):=⟨_,rfl⟩
 obtain⟨sa,sn,sc,rfl⟩:∃ sa sn sc,sv=.slice sa sn sc:=by
  rcases hG.wd.2 with ⟨hv,h0⟩|⟨g',c',cur,hv,-⟩
  ·exact⟨_,_,_,hv⟩
  ·exact⟨_,_,_,hv⟩
 have HG:Hid _:=hG
 have HLL:Hid (g.l.length≤100000):=hl
 obtain⟨i0,hi,hz0,hz1,hz2⟩:=info_parts zSc
 have hb0:Below w.heap.size w (w.alloc (.cells (cdA x) 80)):=aB.alloc aL _
 have HB0:Hid _:=hb0
 clear hG hl hb0
 go_enter Try.func25,Try.ntmps25
 go_upto_region 2 with (go_at_call 49;refine(zHe x _ h1 h2).mono ?_;rintro e w1 ⟨sx,rfl,hL,hb⟩;rw[HX.out];rw[HX.out] at hL;have HL:Hid _:=hL;have HB:Hid _:=hb;clear hL hb)
 have hB1:Below w.heap.size w w1:=HB0.out.trans (HB.out.mono HB0.out.size)
 have hG1:=HG.out.below hB1
 have HK1:Hid (Kx base M Q w w1):=Kx.of_below hB1 HG.out.bw
 have HG1:Hid _:=hG1
 have HLY:Hid (zBw g x={ g with l:=g.l++ex.2 }):=show zBw g x=_ by unfold zBw;rw[HX.out]
 have cw:w1.cell? ⟨M,2099,none⟩=some (.slice sa sn sc):=hG1.mb.cell (i:=2099) aO
 have fw:w1.frozen? ⟨M,2099,none⟩=false:=hG1.mb.frozen 2099
 have lM:=hG1.mb.lt
 have bM:=hG1.bM
 clear hG1 hB1 HB0
 rcases HL.out with ⟨he,rfl⟩|⟨b,cp,rfl,hbb,hcp,h3,hr⟩
 ·clear HL HB
  go_wp2_with (at_builtin;refine zEU rfl _ _ 37 rfl (.slice sa sn sc) _ (.slice sa sn sc) rfl rfl (zTj base g.l.length (.slice sa sn sc) (wdL g.l) w1 HG1.out.wd) ?_)
  go_end0
  refine⟨rfl,⟨.slice sa sn sc,?_⟩,HK1.out.setIn (.inl rfl) bM _ _⟩
  rw[HLY.out,he,List.append_nil]
  exact HG1.out.setM 2099 (.slice sa sn sc) g (by funext j;by_cases e:j=2099<;>simp[e,zRb]) rfl rfl
 ·have HM:Hid (0 < ex.2.length∨ex.2.length=0):=show _∨_ by omega
  rcases HM.out with hp|h0
  rotate_left
  ·have he:ex.2=[]:=List.length_eq_zero_iff.1 h0
   rw[h0]
   clear HL HB hr
   go_wp2_with (at_builtin;refine zEU rfl _ _ 37 rfl (.slice sa sn sc) (.slice (some ⟨b,0,none⟩) 0 cp) (.slice sa sn sc) rfl rfl ?_ ?_;(focus(exact zTk base g.l.length (.slice sa sn sc) (wdL g.l) _ _ w1 HG1.out.wd)))
   go_end0
   refine⟨rfl,⟨.slice sa sn sc,?_⟩,HK1.out.setIn (.inl rfl) bM _ _⟩
   rw[HLY.out,he,List.append_nil]
   exact HG1.out.setM 2099 (.slice sa sn sc) g (by funext j;by_cases e:j=2099<;>simp[e,zRb]) rfl rfl
  ·have HNW:Hid (∀ j u,(wdL ex.2)[j]?=some u→w1.cell? ((⟨b,0,none⟩:Addr).add j)=some u):=show ∀ j u,_ from fun j u hu=>by
    obtain⟨hj,rfl⟩:=zQ6 hu
    rw[Addr.add_mid];exact hr.cell j hj
   have H63:Hid (g.l.length+ex.2.length≤maxLen):=show _≤maxLen by unfold maxLen;have:=HLL.out;omega
   have HBY:Hid ((g.l.length+ex.2.length)*4≤140737488355328):=show _≤_ by have:=HLL.out;omega
   have HP:Hid (0 < ex.2.length):=hp
   have HLE:Hid ((wdL ex.2).length=ex.2.length*1):=show _=_ by rw[zID];omega
   clear hr hp HL HB hbb hcp h3
   go_wp2_with (at_builtin;refine wpList_append_lies _ rfl _ _ _ rfl base 22 i0 _ 1 4 Try.underlying37 hi hz0 hz1 hz2 rfl aD (.slice sa sn sc) g.l.length (wdL g.l) rfl HG1.out.wd ⟨b,0,none⟩ ex.2.length cp (wdL ex.2) rfl HLE.out HNW.out (zOD _) HP.out H63.out HBY.out HG1.out.bw w1.heap.size rfl ?_;intro k cap2 w2 hown hgr hgg hlt;have HOW:Hid _:=hown;have HGR:Hid _:=hgr;have HGG:Hid _:=hgg;have HMM:Hid (w2.rowIs M 77 2100 _):=HG1.out.mb.of_block (hgr.block M lM (fun e=>(HG1.out.ow e.symm).1 rfl));have d2:w2.cell? ⟨M,2099,none⟩=some (.slice sa sn sc):=HMM.out.cell (i:=2099) aO;have df:w2.frozen? ⟨M,2099,none⟩=false:=HMM.out.frozen 2099;have dl:=HMM.out.lt;clear hown hgr hgg)
   go_end0
   have hkM:k≠M:=fun e=>by
    rcases HGG.out with h|h
    ·exact(HG1.out.ow h).1 e
    ·omega
   have lQ:=HG1.out.pl.lt
   have hkQ:k≠Q:=fun e=>by
    rcases HGG.out with h|h
    ·exact(HG1.out.ow h).2 e
    ·omega
   have hbel:Below base w1 w2:=Below.grown (Below.refl base w1) HGR.out HG1.out.bw (fun k hk=>(zB0 HG1.out.wd hk).1)
   have hK2:Kx base M Q w1 w2:=⟨hbel,fun i A T e1 e2 e3 e4=>(HGR.out.block i (zE e1) (fun e=>by obtain⟨-,cur,hh⟩:=zB0 HG1.out.wd e.symm;rw[hh] at e1;cases e1;exact e4 rfl)).trans e1,HGR.out.size⟩
   refine⟨rfl,⟨.slice (some ⟨k,0,none⟩) (g.l.length+ex.2.length) cap2,?_⟩,(HK1.out.trans hK2).setIn (.inl rfl) bM _ _⟩
   rw[HLY.out]
   refine⟨(HMM.out.set 2099 _).congr (fun j hj=>zSg _ _ (.slice sa sn sc) _ regs g _ _ j hj rfl),?_,(HG1.out.pl.of_block (HGR.out.block Q lQ (fun e=>(HG1.out.ow e.symm).2 rfl))).setOther (fun e=>HG1.out.ne e.symm) _,zBe HG1.out.ops (hbel.setCell bM _) HG1.out.ob,HG1.out.ob,bM,HG1.out.bQ,by simpa using Nat.le_trans HG1.out.bw HGR.out.size⟩
   show World.ownsRow _ base 22 1 _ (g.l++ex.2).length (wdL (g.l++ex.2))
   rw[← zOC,List.length_append]
   exact zAS HOW.out (fun g' hg'=>by cases hg';exact zQ hkM _)
def uY(g:G)(v:Nat):Nat→Nat→Option Nat
 | 0,_=>none
 | m+1,r=>if g.hf r=true∧g.hv r=v then some r else uY g v m (r+1)
theorem zEk(base M Q n:Nat)(bp:Option Addr)(cap pcap regs:Nat)(f:Nat→zL)(g:G)(sv:Value)(v:Nat)(w:World)(hG:GW w base M Q n bp cap pcap regs f g sv)(hr:regs≤16) :
  Calls Try.prog 73 #[.pointer (some ⟨M,0,none⟩),.int .i64 v] w fun e w'=>e=.returned (.tuple #[.int .i64 ((uY g v regs 0).getD 0:Nat),.bool (uY g v regs 0).isSome])∧w=w':=by
 obtain⟨E,HE⟩:∃ E,Hid (uY g v regs 0=E):=⟨_,rfl⟩
 have HG:Hid _:=hG
 have c2:w.cell? ⟨M,2,none⟩=some (.int .i64 regs):=hG.mb.cell (i:=2) aO
 have lM:=hG.mb.lt
 have r16:(regs:Int)≤16:=aO
 have HR:Hid (regs≤16):=hr
 rw[HE.out]
 clear hG hr
 go_enter Try.func73,Try.ntmps73
 go_wp2
 go_loopw [11] (fun i wr=>∃ j:Nat,i=.int .i64 j∧j≤regs∧uY g v (regs - j) j=E∧wr=w) (fun i _=>regs - (intOf i).toNat)
 case atStart=>exact⟨0,rfl,by omega,HE.out,rfl⟩
 case round=>
  obtain⟨j,rfl,hj,hsc,rfl⟩:=hrel
  have HSC:Hid _:=hsc
  clear hsc
  by_cases hlt:j < regs
  ·have hji:(j:Int) < (regs:Int):=aO
   have j16:(j:Int) < 16:=aO
   have dj:decide ((j:Int) < (regs:Int))=true:=decide_eq_true hji
   have j0:(0:Int)≤(j:Int):=aO
   have hR:=HR.out
   have m0:=HG.out.mb.cell (i:=3+j*2) aO
   rw[zOU _ _ _ _ _ _ aO] at m0
   have m1:=HG.out.mb.cell (i:=3+j*2+1) aO
   rw[zHW _ _ _ _ _ _ aO] at m1
   have HST:Hid (uY g v ((regs - (j+1))+1) j=E):=(show regs - j=(regs - (j+1))+1 by omega)▸HSC.out
   have HLT:Hid _:=hlt
   clear hlt hR
   by_cases hf:g.hf j=true
   ·rw[hf] at m0
    by_cases hv:g.hv j=v
    ·have hv':(g.hv j:Int)=(v:Int):=aO
     have HN:Hid (E=some j):=by
      show _=_
      have:=HST.out
      simp only[uY,hf,hv,and_self,if_true] at this
      exact this.symm
     rw[hv] at m1
     clear hv' hv hf
     go_wp2
     all_goals first|(exfalso;omega)|skip
     go_ret2
     exact⟨by rw[HN.out];rfl,rfl⟩
    ·have hv':¬(g.hv j:Int)=(v:Int):=aO
     have HN:Hid (uY g v (regs - (j+1)) (j+1)=E):=by
      show _=_
      have:=HST.out
      simp only[uY,hf,hv,and_false,if_false] at this
      exact this
     clear hf
     go_wp2
     all_goals first|(exfalso;omega)|skip
     go_round
     case rel=>exact⟨j+1,by go_num,HLT.out,HN.out,by first|rfl|trivial⟩
     case measure=>have:=HLT.out;simp[intOf];omega
   ·have hf':g.hf j=false:=by simpa using hf
    rw[hf'] at m0
    have HN:Hid (uY g v (regs - (j+1)) (j+1)=E):=by
     show _=_
     have:=HST.out
     simp only[uY,hf',Bool.false_eq_true,false_and,if_false] at this
     exact this
    clear hf hf'
    go_wp2
    go_round
    case rel=>exact⟨j+1,by go_num,HLT.out,HN.out,by first|rfl|trivial⟩
    case measure=>have:=HLT.out;simp[intOf];omega
  ·obtain rfl:j=regs:=aO
   have dj:decide ((j:Int) < (j:Int))=false:=aF
   have HN:Hid (E=none):=by
    show _=_
    have:=HSC.out
    rw[Nat.sub_self] at this
    exact this.symm
   clear HSC hlt
   go_wp2
   go_ret2
   exact⟨by rw[HN.out];rfl,rfl⟩
def zCV(g:G)(r:Nat):Cd:=⟨9,0,r,0,0,g.hv r,0,0⟩
def zAp(g:G)(r:Nat):G:=if g.sv (g.hv r)=false∧(g.P (g.hv r)).lazy=false then { zBw g (zCV g r) with sv:=upd g.sv (g.hv r) true } else g
theorem zMr(base M Q n:Nat)(bp:Option Addr)(cap pcap regs:Nat)(f:Nat→zL)(g:G)(sv:Value)(r:Nat)(w:World)(hG:GW w base M Q n bp cap pcap regs f g sv)(hr:r < 16)(hv:g.hv r < n)(hn:n≤2048)(hl:g.l.length≤100000) :
  Calls Try.prog 92 #[.pointer (some ⟨M,0,none⟩),.int .i64 r] w fun e w'=>e=.returned (.tuple #[])∧(∃ sv',GW w' base M Q n bp cap pcap regs f (zAp g r) sv')∧Kx base M Q w w':=by
 obtain⟨v,HV⟩:∃ v,Hid (g.hv r=v):=⟨_,rfl⟩
 have hvn:v < n:=HV.out▸hv
 have m1:=hG.mb.cell (i:=3+r*2+1) aO
 rw[zHW _ _ _ _ _ _ hr,HV.out] at m1
 have m2:=hG.mb.cell (i:=51+v) aO
 rw[zRa _ _ _ _ _ _ aO] at m2
 have m3:w.cell? ⟨M,1,none⟩=some (.slice (some ⟨Q,0,none⟩) n pcap):=hG.mb.cell (i:=1) aO
 have m4:=hG.pl.cell (i:=v*8+7) aO
 rw[vO _ _ _ aO] at m4
 have m4':w.cell? ⟨Q,v*8+7,none⟩=some (.bool (g.P v).lazy):=m4
 have lM:=hG.mb.lt
 have lQ:=hG.pl.lt
 have r0:(0:Int)≤(r:Int):=aO
 have r1:(r:Int) < 16:=aO
 have v0:(0:Int)≤(v:Int):=aO
 have v1:(v:Int) < (n:Int):=aO
 have v2:(v:Int) < 2048:=aO
 have HSX:Hid (zCV g r=⟨9,0,r,0,0,v,0,0⟩):=show zCV g r=_ by unfold zCV;rw[HV.out]
 have HG:Hid _:=hG
 have HL:Hid (g.l.length≤100000):=hl
 have HVN:Hid (v < 2048):=show v < 2048 by omega
 clear m4 hG hv hvn hn hl hr
 by_cases h1:g.sv v=true
 ·have HE:Hid (zAp g r=g):=show zAp g r=g by unfold zAp;rw[HV.out];exact if_neg (fun h=>by rw[h1] at h;exact absurd h.1 aD)
  rw[h1] at m2
  rw[HE.out]
  clear h1
  go_enter Try.func92,Try.ntmps92
  go_wp2
  go_end0
  exact⟨rfl,⟨sv,HG.out⟩,Kx.refl _ _ _ _⟩
 have h1:g.sv v=false:=by simpa using h1
 by_cases h2:(g.P v).lazy=true
 ·have HE:Hid (zAp g r=g):=show zAp g r=g by unfold zAp;rw[HV.out];exact if_neg (fun h=>by rw[h2] at h;exact absurd h.2 aD)
  rw[h1] at m2
  rw[h2] at m4'
  rw[HE.out]
  clear h1 h2
  go_enter Try.func92,Try.ntmps92
  go_wp2
  go_end0
  exact⟨rfl,⟨sv,HG.out⟩,Kx.refl _ _ _ _⟩
 have h2:(g.P v).lazy=false:=by simpa using h2
 have HE:Hid (zAp g r={ zBw g (zCV g r) with sv:=upd g.sv v true }):=show zAp g r=_ by unfold zAp;rw[HV.out];exact if_pos ⟨h1,h2⟩
 rw[h1] at m2
 rw[h2] at m4'
 rw[HE.out,HSX.out]
 clear h1 h2
 go_enter Try.func92,Try.ntmps92
 go_wp2_with (go_at_call 25;refine(zF7 base M Q n bp cap pcap regs f g sv ⟨9,0,r,0,0,v,0,0⟩ _ HG.out (Nat.zero_lt_succ _) (Nat.zero_lt_succ _) HL.out).mono ?_;rintro e w1 ⟨rfl,⟨sv1,hG1⟩,hK1⟩;have HG1:Hid _:=hG1;have HK1:Hid _:=hK1;have q2:=hG1.mb.cell (i:=51+v) (by have:=HVN.out;omega);rw[zRa _ _ _ _ _ _ HVN.out] at q2;have q3:=hG1.mb.frozen (51+v);have q4:=hG1.mb.lt;clear hG1 hK1)
 go_end0
 exact⟨rfl,⟨sv1,HG1.out.setM (51+v) (.bool true) _ (zSf _ _ _ _ _ v true HVN.out) rfl rfl⟩,HK1.out.setIn (.inl rfl) HG1.out.bM _ _⟩
def uK(g:G):Nat→Nat→Nat→Nat→Nat × Bool
 | 0,_,best,_=>(best,false)
 | m+1,r,best,far=>if g.bz r=true then uK g m (r+1) best far else if g.hf r=false then(r,true) else if far < (g.P (g.hv r)).next then uK g m (r+1) r (g.P (g.hv r)).next else uK g m (r+1) best far
def yA(g:G)(regs:Nat):Nat:=(uK g regs 0 0 0).1
def yO(g:G)(regs:Nat):G:=if(uK g regs 0 0 0).2=true then g else zAp g (yA g regs)
theorem zDn(g:G)(regs:Nat):∀ m r best far,r+m=regs→best < regs→(uK g m r best far).1 < regs
 | 0,_,best,_,_,h=>h
 | m+1,r,best,far,h,hb=>by
  unfold uK
  split
  ·exact zDn g regs m (r+1) best far aO hb
  ·split
   ·show r < regs;omega
   ·split
    ·exact zDn g regs m (r+1) r _ aO aO
    ·exact zDn g regs m (r+1) best far aO hb
theorem zAC(g:G)(regs:Nat)(h:0 < regs):yA g regs < regs:=zDn g regs regs 0 0 0 aO h
theorem yU(w:World)(k:Nat):Below w.heap.size w (w.drewN k):=⟨rfl,rfl,rfl,Nat.le_refl _,fun _ _=>rfl⟩
theorem zEy(base M Q n:Nat)(bp:Option Addr)(cap pcap regs:Nat)(f:Nat→zL)(g:G)(sv:Value)(w:World)(hG:GW w base M Q n bp cap pcap regs f g sv)(h0:0 < regs)(hr:regs≤16)(hv:∀ r,r < 16→g.hv r < n)(hn:n≤2048)(hl:g.l.length≤100000) :
  Calls Try.prog 74 #[.pointer (some ⟨M,0,none⟩)] w fun e w'=>e=.returned (.int .i64 (yA g regs))∧(∃ sv',GW w' base M Q n bp cap pcap regs f (yO g regs) sv')∧Kx base M Q w w':=by
 obtain⟨E,HE⟩:∃ E,Hid (uK g regs 0 0 0=E):=⟨_,rfl⟩
 have HN0:Hid (yA g regs=E.1):=show yA g regs=E.1 by unfold yA;rw[HE.out]
 have HN1:Hid (yO g regs=if E.2=true then g else zAp g E.1):=show yO g regs=_ by unfold yO;rw[HN0.out,HE.out]
 have HG:Hid _:=hG
 have c2:w.cell? ⟨M,2,none⟩=some (.int .i64 regs):=hG.mb.cell (i:=2) aO
 have lM:=hG.mb.lt
 have r16:(regs:Int)≤16:=aO
 have HR:Hid (regs≤16):=hr
 have HR0:Hid (0 < regs):=h0
 have HV:Hid _:=hv
 have HNN:Hid (n≤2048):=hn
 have HL:Hid (g.l.length≤100000):=hl
 clear hG hr h0 hv hn hl
 go_enter Try.func74,Try.ntmps74
 go_wp2
 go_loopw [11,3,4] (fun i bi fi wr=>∃ j best far:Nat,i=.int .i64 j∧bi=.int .i64 best∧fi=.int .i64 far∧best < regs∧j≤regs∧uK g (regs - j) j best far=E∧Below w.heap.size w wr) (fun i _ _ _=>regs - (intOf i).toNat)
 case atStart=>exact⟨0,0,0,rfl,rfl,rfl,HR0.out,by omega,HE.out,Below.refl _ _⟩
 case round=>
  obtain⟨j,best,far,rfl,rfl,rfl,hbl,hj,hsc,hbel⟩:=hrel
  have HSC:Hid _:=hsc
  have HBL:Hid _:=hbl
  have HBE:Hid _:=hbel
  have hG:=HG.out.below hbel
  have lM':=hG.mb.lt
  have lQ':=hG.pl.lt
  have HGr:Hid _:=hG
  clear hsc hbl hbel
  by_cases hlt:j < regs
  ·have hji:(j:Int) < (regs:Int):=aO
   have j16:(j:Int) < 16:=by have:=HR.out;omega
   have dj:decide ((j:Int) < (regs:Int))=true:=decide_eq_true hji
   have j0:(0:Int)≤(j:Int):=aO
   have hR:=HR.out
   have HLT:Hid _:=hlt
   have m0:=hG.mb.cell (i:=3+j*2) aO
   rw[zOU _ _ _ _ _ _ aO] at m0
   have m1:=hG.mb.cell (i:=3+j*2+1) aO
   rw[zHW _ _ _ _ _ _ aO] at m1
   have m2:=hG.mb.cell (i:=35+j) aO
   rw[zCo _ _ _ _ _ _ aO] at m2
   have m3:wr.cell? ⟨M,1,none⟩=some (.slice (some ⟨Q,0,none⟩) n pcap):=hG.mb.cell (i:=1) aO
   have HST:Hid (uK g ((regs - (j+1))+1) j best far=E):=(show regs - j=(regs - (j+1))+1 by omega)▸HSC.out
   obtain⟨v,HVV⟩:∃ v,Hid (g.hv j=v):=⟨_,rfl⟩
   have hvn:v < n:=HVV.out▸HV.out j aO
   rw[HVV.out] at m1
   have v0:(0:Int)≤(v:Int):=aO
   have v1:(v:Int) < (n:Int):=aO
   have m4:=hG.pl.cell (i:=v*8+5) aO
   rw[vO _ _ _ aO] at m4
   have m5:wr.cell? ⟨Q,v*8+5,none⟩=some (.int .i64 ((g.P v).next:Nat)):=m4
   clear hlt hR m4 hG hvn
   by_cases hb:g.bz j=true
   ·have HN:Hid (uK g (regs - (j+1)) (j+1) best far=E):=by
     show _=_
     have:=HST.out
     simp only[uK,hb,if_true] at this
     exact this
    rw[hb] at m2
    clear hb
    go_wp2
    go_round
    case rel=>exact⟨j+1,best,far,by go_num,rfl,rfl,HBL.out,HLT.out,HN.out,HBE.out⟩
    case measure=>have:=HLT.out;simp[intOf];omega
   have hb:g.bz j=false:=by simpa using hb
   rw[hb] at m2
   by_cases hf:g.hf j=false
   ·have HN:Hid (E=(j,true)):=by
     show _=_
     have:=HST.out
     simp only[uK,hb,hf,Bool.false_eq_true,if_false,if_true] at this
     exact this.symm
    rw[hf] at m0
    clear hb hf
    go_wp2
    go_ret
    exact⟨by rw[HN0.out,HN.out];rfl,⟨sv,by rw[HN1.out,HN.out];exact HGr.out⟩,Kx.of_below HBE.out HG.out.bw⟩
   have hf:g.hf j=true:=by simpa using hf
   rw[hf] at m0
   obtain⟨nx,HNX⟩:∃ nx,Hid ((g.P v).next=nx):=⟨_,rfl⟩
   rw[HNX.out] at m5
   by_cases hx:far < nx
   ·have dx:decide ((far:Int) < (nx:Int))=true:=aT
    have HN:Hid (uK g (regs - (j+1)) (j+1) j nx=E):=by
     show _=_
     have:=HST.out
     simp only[uK,hb,hf,Bool.false_eq_true,reduceCtorEq,if_false,HVV.out,HNX.out,if_pos hx] at this
     exact this
    clear hb hf
    go_upto_region 8 with fail
    go_quiet (fail)
    go_wp2
    all_goals first|(exfalso;omega)|skip
    go_roundw
    case rel=>exact⟨j+1,j,nx,by go_num,rfl,rfl,HLT.out,HLT.out,HN.out,HBE.out.trans (Below.mono (yU _ _) HBE.out.size)⟩
    case measure=>have:=HLT.out;simp[intOf];omega
   ·have dx:decide ((far:Int) < (nx:Int))=false:=aF
    have HN:Hid (uK g (regs - (j+1)) (j+1) best far=E):=by
     show _=_
     have:=HST.out
     simp only[uK,hb,hf,Bool.false_eq_true,reduceCtorEq,if_false,HVV.out,HNX.out,if_neg hx] at this
     exact this
    clear hb hf
    go_upto_region 8 with fail
    go_quiet (fail)
    go_wp2
    all_goals first|(exfalso;omega)|skip
    go_roundw
    case rel=>exact⟨j+1,best,far,by go_num,rfl,rfl,HBL.out,HLT.out,HN.out,HBE.out.trans (Below.mono (yU _ _) HBE.out.size)⟩
    case measure=>have:=HLT.out;simp[intOf];omega
  ·obtain rfl:j=regs:=aO
   have dj:decide ((j:Int) < (j:Int))=false:=aF
   have HN:Hid (E=(best,false)):=by
    show _=_
    have:=HSC.out
    rw[Nat.sub_self] at this
    exact this.symm
   clear HSC hlt hG
   go_wp2_with (go_at_call 92;refine(zMr base M Q n bp cap pcap j f g sv best _ HGr.out (Nat.lt_of_lt_of_le HBL.out HR.out) (HV.out best (Nat.lt_of_lt_of_le HBL.out HR.out)) HNN.out HL.out).mono ?_;rintro e w1 ⟨rfl,hG1,hK1⟩;have HG1:Hid _:=hG1;have HK1:Hid _:=hK1;clear hG1 hK1)
   go_ret
   exact⟨by rw[HN0.out,HN.out];rfl,by rw[HN1.out,HN.out];exact HG1.out,(Kx.of_below HBE.out HG.out.bw).trans HK1.out⟩
def isE(ws:Nat→Nat)(len:Nat)(a:Int):Bool:=decide ((yB ws len a).e=0) && decide ((yB ws len a).x.op=1)
structure BC(n:Nat)(w:World)(B:Nat)(f:Nat→Value):Prop where
 c:∀ o,o < n→w.cell? ⟨B,o,none⟩=some (f o)
 fz:∀ o,w.frozen? ⟨B,o,none⟩=false
 lt:B < w.heap.size
theorem BC.set{n:Nat}{w:World}{R:Nat}{f:Nat→Value}(h:BC n w R f)(o:Nat)(ho:o < n)(v:Value):BC n (w.setCell ⟨R,o,none⟩ v) R (upd f o v):=by
 refine⟨fun o' ho'=>?_,fun o'=>?_,by simpa using h.lt⟩
 ·by_cases e:o'=o
  ·subst e;rw[World.cell?_setCell_same _ _ _ (h.c o' ho)];simp[upd]
  ·rw[World.cell?_setCell_other _ _ _ _ (by intro h;cases h;exact e rfl),h.c o' ho'];simp[upd,e]
 ·rw[World.frozen?_setCell];exact h.fz o'
theorem BC.chg{n:Nat}{S:List Nat}{w w':World}{R:Nat}{f:Nat→Value}(h:BC n w R f)(c:zJ S w w')(hR:R∉S):BC n w' R f:=
 ⟨fun o ho=>(World.cell?_of_block (w:=w) (c.block R h.lt hR)).trans (h.c o ho),fun o=>(World.frozen?_of_block (w:=w) (c.block R h.lt hR)).trans (h.fz o),Nat.lt_of_lt_of_le h.lt c.size⟩
theorem BC.other{n:Nat}{w:World}{R B:Nat}{f:Nat→Value}(h:BC n w R f)(hn:¬B=R)(o:Nat)(v:Value):BC n (w.setCell ⟨B,o,none⟩ v) R f:=
 ⟨fun o' ho=>(World.cell?_setCell_other _ _ _ _ (by intro e;cases e;exact hn rfl)).trans (h.c o' ho),fun o'=>by rw[World.frozen?_setCell];exact h.fz o',by simpa using h.lt⟩
structure HQ where
 c:Nat→Nat
 at_:Int
 left:Int
 done:Int
 ran:Int
 reg:Nat→Nat
 has:Nat→Bool
 sp:Nat→Nat
 held:Nat→Bool
 stuck:Bool
structure QB where
 h:Nat
 r:Nat
 g:Nat
 s:Nat
 d:Nat
def hqF(k:QB)(ws tb mp:Value)(q:HQ)(o:Nat):Value:=
 if o=0 then ws else if o=1 then .int .i64 q.at_ else if o < 14 then .int .u32 (q.c (o - 2)) else if o=14 then mp else if o=15 then .int .i64 q.left else if o=16 then .int .i64 q.done else if o=17 then tb
 else if o=18 then .slice (some ⟨k.r,0,none⟩) 16 16 else if o=19 then .slice (some ⟨k.g,0,none⟩) 16 16 else if o=20 then .slice (some ⟨k.s,0,none⟩) 2048 2048 else if o=21 then .slice (some ⟨k.d,0,none⟩) 2048 2048
 else if o=22 then .int .i64 q.ran else .bool q.stuck
structure QW(w:World)(k:QB)(ws tb mp:Value)(q:HQ):Prop where
 h:BC 24 w k.h (hqF k ws tb mp q)
 r:BC 16 w k.r (fun i=>.int .u32 (q.reg i))
 g:BC 16 w k.g (fun i=>.bool (q.has i))
 s:BC 2048 w k.s (fun i=>.int .u32 (q.sp i))
 d:BC 2048 w k.d (fun i=>.bool (q.held i))
 hr:k.h≠k.r
 hg:k.h≠k.g
 hs:k.h≠k.s
 hd:k.h≠k.d
 rg:k.r≠k.g
 rs:k.r≠k.s
 rd:k.r≠k.d
 gs:k.g≠k.s
 gd:k.g≠k.d
 sd:k.s≠k.d
theorem BC.congr{n:Nat}{w:World}{R:Nat}{f g:Nat→Value}(h:BC n w R f)(e:∀ o,o < n→f o=g o):BC n w R g:=⟨fun o ho=>(h.c o ho).trans (by rw[e o ho]),h.fz,h.lt⟩
theorem QW.put{w:World}{k:QB}{ws tb mp:Value}{q:HQ}(h:QW w k ws tb mp q)(r v:Nat)(hr:r < 16):QW ((w.setCell ⟨k.r,r,none⟩ (.int .u32 v)).setCell ⟨k.g,r,none⟩ (.bool true)) k ws tb mp { q with reg:=upd q.reg r v,has:=upd q.has r true }:=
 ⟨(h.h.other (fun e=>h.hr e.symm) _ _).other (fun e=>h.hg e.symm) _ _,((h.r.set r hr (.int .u32 v)).congr (fun o ho=>by by_cases e:o=r<;>simp[upd,e])).other (fun e=>h.rg e.symm) _ _,((h.g.other h.rg _ _).set r hr (.bool true)).congr (fun o ho=>by by_cases e:o=r<;>simp[upd,e]),(h.s.other h.rs _ _).other h.gs _ _,(h.d.other h.rd _ _).other h.gd _ _,h.hr,h.hg,h.hs,h.hd,h.rg,h.rs,h.rd,h.gs,h.gd,h.sd⟩
theorem zAq(k:QB)(ws tb mp:Value)(q:HQ)(r v:Nat)(w:World)(hq:QW w k ws tb mp q)(hr:r < 16) :
  Calls Try.prog 86 #[.pointer (some ⟨k.h,0,none⟩),.int .i64 r,.int .u32 v] w fun e w'=>e=.returned (.tuple #[])∧QW w' k ws tb mp { q with reg:=upd q.reg r v,has:=upd q.has r true }∧zJ [k.r,k.g] w w':=by
 have c18:w.cell? ⟨k.h,18,none⟩=some (.slice (some ⟨k.r,0,none⟩) 16 16):=hq.h.c 18 aO
 have c19:w.cell? ⟨k.h,19,none⟩=some (.slice (some ⟨k.g,0,none⟩) 16 16):=hq.h.c 19 aO
 have cr:=hq.r.c r hr
 have cg:=hq.g.c r hr
 have fr:=hq.r.fz r
 have fg:=hq.g.fz r
 have lh:=hq.h.lt
 have lr:=hq.r.lt
 have lg:=hq.g.lt
 have n1:¬k.h=k.r:=hq.hr
 have n2:¬k.r=k.h:=fun e=>hq.hr e.symm
 have n3:¬k.r=k.g:=hq.rg
 have n4:¬k.g=k.r:=fun e=>hq.rg e.symm
 have n5:¬k.h=k.g:=hq.hg
 have n6:¬k.g=k.h:=fun e=>hq.hg e.symm
 have r0:(0:Int)≤r:=aO
 have r1:(r:Int) < 16:=aO
 have HQ':Hid _:=hq
 have HR:Hid _:=hr
 clear hq hr
 go_enter Try.func86,Try.ntmps86
 go_wp2
 go_end0
 exact⟨rfl,HQ'.out.put r v HR.out,((zJ.refl [k.r,k.g] w).set aS _ _).set aS _ _⟩
theorem zHI(k:QB)(a:Option Addr)(len cap:Nat)(tb mp:Value)(q:HQ)(at':Int)(ws:Nat→Nat)(w:World)(hq:QW w k (.slice a len cap) tb mp q)(hw:Wds w a len cap ws) :
  Calls Try.prog 33 #[.pointer (some ⟨k.h,0,none⟩),.int .i64 at'] w fun e w'=>e=.returned (.bool (isE ws len at'))∧Below w.heap.size w w':=by
 have c0:w.cell? ⟨k.h,0,none⟩=some (.slice a len cap):=hq.h.c 0 aO
 have lh:=hq.h.lt
 have HC:Hid _:=zCD a len cap at' ws w hw
 clear hq hw
 unfold isE
 generalize eD:yB ws len at'=D at *
 by_cases h0:D.e=0
 ·have g0:(D.e==0)=true:=by simp[h0]
  go_enter Try.func33,Try.ntmps33
  go_wp2_with (go_at_call 34;refine Calls.mono HC.out ?_;rintro e w1 ⟨rfl,hb1⟩;have HB1:Hid _:=hb1;clear hb1)
  go_ret
  refine⟨?_,HB1.out.alloc HB1.out.size _⟩
  rw[decide_eq_true h0,Bool.true_and]
  by_cases h1:D.x.op=1<;>simp[h1]
 ·have g0:(D.e==0)=false:=by simp[h0]
  go_enter Try.func33,Try.ntmps33
  go_wp2_with (go_at_call 34;refine Calls.mono HC.out ?_;rintro e w1 ⟨rfl,hb1⟩;have HB1:Hid _:=hb1;clear hb1)
  go_ret
  refine⟨?_,HB1.out.alloc HB1.out.size _⟩
  rw[decide_eq_false h0];rfl
theorem zOO:(Try.prog.info? 22).map (fun i=>(i.zero,i.size,i.bytes))=some (some (.int .u32 0),1,4):=by kernel_rfl
theorem zON:(Try.prog.info? 4).map (fun i=>(i.zero,i.size,i.bytes))=some (some (.bool false),1,1):=by kernel_rfl
theorem zLR(z:Value)(n i:Nat)(h:i < n):(madeCells #[z] n)[i]?=some z:=by
 rw[← Array.getElem?_toList,toList_madeCells_one,List.getElem?_replicate,if_pos h]
theorem zDY(w:World)(z:Value)(n:Nat)(T:TypeId):BC n (w.alloc (.cells (madeCells #[z] n) T)) w.heap.size (fun _=>z):=
 ⟨fun o ho=>(zA (heap_alloc_last w _) o).trans (zLR z n o ho),fun o=>zD (heap_alloc_last w _) o,by simp⟩
theorem BC.al{n:Nat}{w:World}{R:Nat}{f:Nat→Value}(h:BC n w R f)(o:Obj):BC n (w.alloc o) R f:=h.chg (S:=[]) ((zJ.refl _ _).alloc o) aS
theorem zQb(k k':QB)(ws tb mp:Value)(q q':HQ)(e1:q'.c=q.c)(e2:q'.at_=q.at_)(e3:q'.left=q.left)(e4:q'.done=q.done)(e5:q'.ran=q.ran)(e6:q'.stuck=q.stuck)(o:Nat)(ho:o < 24) :
  upd (upd (upd (upd (hqF k ws tb mp q) 18 (.slice (some ⟨k'.r,0,none⟩) 16 16)) 19 (.slice (some ⟨k'.g,0,none⟩) 16 16)) 20 (.slice (some ⟨k'.s,0,none⟩) 2048 2048)) 21 (.slice (some ⟨k'.d,0,none⟩) 2048 2048) o=hqF k' ws tb mp q' o:=by
 rcases(by omega:o=0∨o=1∨(2≤o∧o < 14)∨o=14∨o=15∨o=16∨o=17∨o=18∨o=19∨o=20∨o=21∨o=22∨o=23) with rfl|rfl|h|rfl|rfl|rfl|rfl|rfl|rfl|rfl|rfl|rfl|rfl
 ·rfl
 ·simp[upd,hqF,e2]
 ·unfold upd hqF
  simp only[show ¬o=0 by omega,show ¬o=1 by omega,show ¬o=18 by omega,show ¬o=19 by omega,show ¬o=20 by omega,show ¬o=21 by omega,h.2,if_true,if_false,e1]
 all_goals simp[upd,hqF,e3,e4,e5,e6]
theorem zMD{f g:Nat→Value}(hf:∀ o,o < 18∨21 < o→f o=g o){a b c d:Value}(o:Nat):upd (upd (upd (upd f 18 a) 19 b) 20 c) 21 d o=upd (upd (upd (upd g 18 a) 19 b) 20 c) 21 d o:=by
 unfold upd
 by_cases h:o < 18∨21 < o
 ·rw[hf o h]
 ·rcases(by omega:o=18∨o=19∨o=20∨o=21) with rfl|rfl|rfl|rfl<;>rfl
theorem zGl(k:QB)(ws tb mp:Value)(q:HQ)(f:Nat→Value)(w:World)(hq:BC 24 w k.h f)(hf:∀ o,o < 18∨21 < o→f o=hqF k ws tb mp q o) :
  Calls Try.prog 32 #[.pointer (some ⟨k.h,0,none⟩)] w fun e w'=>e=.returned (.tuple #[])∧QW w' ⟨k.h,w.heap.size,w.heap.size+1,w.heap.size+1+1,w.heap.size+1+1+1⟩ ws tb mp { q with reg:=fun _=>0,has:=fun _=>false,sp:=fun _=>0,held:=fun _=>false }∧zJ [k.h] w w':=by
 have m1:∀ w:World,(Instr.makeSlice 37 (.int .i64 16) (.int .i64 16)).run Try.prog w=.ok (.slice (some ⟨w.heap.size,0,none⟩) 16 16) (w.alloc (.cells (madeCells #[.int .u32 0] 16) 22)):=fun w=>run_make_row' (P:=Try.prog) 37 22 (.int .u32 0) 4 Try.underlying37 zOO rfl .i64 .i64 16 aD aD w
 have m2:∀ w:World,(Instr.makeSlice 82 (.int .i64 16) (.int .i64 16)).run Try.prog w=.ok (.slice (some ⟨w.heap.size,0,none⟩) 16 16) (w.alloc (.cells (madeCells #[.bool false] 16) 4)):=fun w=>run_make_row' (P:=Try.prog) 82 4 (.bool false) 1 Try.underlying82 zON rfl .i64 .i64 16 aD aD w
 have m3:∀ w:World,(Instr.makeSlice 37 (.int .i64 2048) (.int .i64 2048)).run Try.prog w=.ok (.slice (some ⟨w.heap.size,0,none⟩) 2048 2048) (w.alloc (.cells (madeCells #[.int .u32 0] 2048) 22)):=fun w=>run_make_row' (P:=Try.prog) 37 22 (.int .u32 0) 4 Try.underlying37 zOO rfl .i64 .i64 2048 aD aD w
 have m4:∀ w:World,(Instr.makeSlice 82 (.int .i64 2048) (.int .i64 2048)).run Try.prog w=.ok (.slice (some ⟨w.heap.size,0,none⟩) 2048 2048) (w.alloc (.cells (madeCells #[.bool false] 2048) 4)):=fun w=>run_make_row' (P:=Try.prog) 82 4 (.bool false) 1 Try.underlying82 zON rfl .i64 .i64 2048 aD aD w
 have lh:=hq.lt
 have c18:w.cell? ⟨k.h,18,none⟩=some (f 18):=hq.c 18 aO
 have c19:w.cell? ⟨k.h,19,none⟩=some (f 19):=hq.c 19 aO
 have c20:w.cell? ⟨k.h,20,none⟩=some (f 20):=hq.c 20 aO
 have c21:w.cell? ⟨k.h,21,none⟩=some (f 21):=hq.c 21 aO
 have f18:=hq.fz 18
 have f19:=hq.fz 19
 have f20:=hq.fz 20
 have f21:=hq.fz 21
 have n0:¬k.h=w.heap.size:=aO
 have l1:k.h < w.heap.size+1:=aO
 have l2:k.h < w.heap.size+1+1:=aO
 have l3:k.h < w.heap.size+1+1+1:=aO
 have l4:k.h < w.heap.size+1+1+1+1:=aO
 have HQ':Hid _:=hq
 clear hq
 go_enter Try.func32,Try.ntmps32
 go_wp2
 go_end0
 refine⟨rfl,⟨?_,?_,?_,?_,?_,?_,?_,?_,?_,?_,?_,?_,?_,?_,?_⟩,?_⟩
 ·have hB:=((((HQ'.out.set 18 aO (.slice (some ⟨w.heap.size,0,none⟩) 16 16)).set 19 aO (.slice (some ⟨w.heap.size+1,0,none⟩) 16 16)).set 20 aO (.slice (some ⟨w.heap.size+1+1,0,none⟩) 2048 2048)).set 21 aO (.slice (some ⟨w.heap.size+1+1+1,0,none⟩) 2048 2048)).congr (fun o ho=>(zMD hf o).trans (zQb k ⟨k.h,w.heap.size,w.heap.size+1,w.heap.size+1+1,w.heap.size+1+1+1⟩ ws tb mp q { q with reg:=fun _=>0,has:=fun _=>false,sp:=fun _=>0,held:=fun _=>false } rfl rfl rfl rfl rfl rfl o ho))
  exact(((hB.al _).al _).al _).al _
 ·have hB:=zDY ((((w.setCell ⟨k.h,18,none⟩ (.slice (some ⟨w.heap.size,0,none⟩) 16 16)).setCell ⟨k.h,19,none⟩ (.slice (some ⟨w.heap.size+1,0,none⟩) 16 16)).setCell ⟨k.h,20,none⟩ (.slice (some ⟨w.heap.size+1+1,0,none⟩) 2048 2048)).setCell ⟨k.h,21,none⟩ (.slice (some ⟨w.heap.size+1+1+1,0,none⟩) 2048 2048)) (.int .u32 0) 16 22
  simp only[World.size_setCell] at hB
  exact((hB.al _).al _).al _
 ·have hB:=zDY (((((w.setCell ⟨k.h,18,none⟩ (.slice (some ⟨w.heap.size,0,none⟩) 16 16)).setCell ⟨k.h,19,none⟩ (.slice (some ⟨w.heap.size+1,0,none⟩) 16 16)).setCell ⟨k.h,20,none⟩ (.slice (some ⟨w.heap.size+1+1,0,none⟩) 2048 2048)).setCell ⟨k.h,21,none⟩ (.slice (some ⟨w.heap.size+1+1+1,0,none⟩) 2048 2048)).alloc (.cells (madeCells #[.int .u32 0] 16) 22)) (.bool false) 16 4
  simp only[World.size_setCell,World.size_alloc] at hB
  exact(hB.al _).al _
 ·have hB:=zDY ((((((w.setCell ⟨k.h,18,none⟩ (.slice (some ⟨w.heap.size,0,none⟩) 16 16)).setCell ⟨k.h,19,none⟩ (.slice (some ⟨w.heap.size+1,0,none⟩) 16 16)).setCell ⟨k.h,20,none⟩ (.slice (some ⟨w.heap.size+1+1,0,none⟩) 2048 2048)).setCell ⟨k.h,21,none⟩ (.slice (some ⟨w.heap.size+1+1+1,0,none⟩) 2048 2048)).alloc (.cells (madeCells #[.int .u32 0] 16) 22)).alloc (.cells (madeCells #[.bool false] 16) 4)) (.int .u32 0) 2048 22
  simp only[World.size_setCell,World.size_alloc] at hB
  exact hB.al _
 ·have hB:=zDY (((((((w.setCell ⟨k.h,18,none⟩ (.slice (some ⟨w.heap.size,0,none⟩) 16 16)).setCell ⟨k.h,19,none⟩ (.slice (some ⟨w.heap.size+1,0,none⟩) 16 16)).setCell ⟨k.h,20,none⟩ (.slice (some ⟨w.heap.size+1+1,0,none⟩) 2048 2048)).setCell ⟨k.h,21,none⟩ (.slice (some ⟨w.heap.size+1+1+1,0,none⟩) 2048 2048)).alloc (.cells (madeCells #[.int .u32 0] 16) 22)).alloc (.cells (madeCells #[.bool false] 16) 4)).alloc (.cells (madeCells #[.int .u32 0] 2048) 22)) (.bool false) 2048 4
  simp only[World.size_setCell,World.size_alloc] at hB
  exact hB
 all_goals first|(dsimp only;omega)|exact((((((((zJ.refl [k.h] w).set aS _ _).set aS _ _).set aS _ _).set aS _ _).alloc _).alloc _).alloc _).alloc _
theorem zIR(k:QB)(ws tb mp:Value)(q:HQ)(w:World)(hq:BC 24 w k.h (hqF k ws tb mp q)) :
  Calls Try.prog 32 #[.pointer (some ⟨k.h,0,none⟩)] w fun e w'=>e=.returned (.tuple #[])∧QW w' ⟨k.h,w.heap.size,w.heap.size+1,w.heap.size+1+1,w.heap.size+1+1+1⟩ ws tb mp { q with reg:=fun _=>0,has:=fun _=>false,sp:=fun _=>0,held:=fun _=>false }∧zJ [k.h] w w':=zGl k ws tb mp q _ w hq (fun _ _=>rfl)
end Go.Proofs.Ytkmjenjahbicpaa.Ho
