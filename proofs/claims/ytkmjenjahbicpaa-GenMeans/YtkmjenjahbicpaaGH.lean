import Derived.Test.YtkmjenjahbicpaaGG
set_option linter.unusedVariables false
set_option linter.unusedSimpArgs false
namespace Go.Proofs.Ytkmjenjahbicpaa.Ho
open Go.RowKit
set_option maxRecDepth 100000
def zAn(o:zL):Nat→Int
 | 0=>o.a
 | 1=>o.b
 | _=>o.c
def zX(o:zL)(j:Nat):Nat:=(zAn o j).toNat
def aft(p:PL):Nat→Nat
 | 0=>p.a0
 | 1=>p.a1
 | _=>p.a2
def zAF(g:G)(v x:Nat):G:={ g with P:=upd g.P v { g.P v with next:=x } }
def vV(f:Nat→zL)(regs i:Nat)(g:G):Nat→G
 | 0=>g
 | j+1=>zAF (yG f (vV f regs i g j) regs (zX (f i) j)) (zX (f i) j) (aft ((yG f (vV f regs i g j) regs (zX (f i) j)).P i) j)
def tkρ(f:Nat→zL)(regs i:Nat)(g:G):Nat→Nat→Nat
 | 0=>fun _=>0
 | j+1=>upd (tkρ f regs i g j) j (zAg (vV f regs i g j) regs (zX (f i) j))
def yQ(o:zL)(ρ:Nat→Nat):Cd:=if o.kind=10 then { yF o with a:=ρ 0,b:=0,c:=ρ 2,d:=ρ 1 } else { yF o with a:=ρ 0,b:=ρ 1,c:=ρ 2 }
def zBK(regs i:Nat)(g:G)(X:Cd):G:=if(g.P i).gives=true then zBw (zBE g regs i) { X with d:=yA g regs } else zBw g X
def opG(f:Nat→zL)(regs:Nat)(g:G)(i:Nat):G:=
 if(g.P i).lazy=true then g else zBK regs i (zAo (vV f regs i g (g.P i).takes)) (yQ (f i) (tkρ f regs i g (g.P i).takes))
theorem zHh(f:Nat→zL)(g:G)(regs v n:Nat)(h:∀ r,r < 16→g.hv r < n)(hv:v < n):(∀ r,r < 16→(yG f g regs v).hv r < n)∧(yG f g regs v).l.length≤g.l.length+6:=by
 unfold yG
 split
 ·exact⟨h,by show g.l.length≤_;omega⟩
 ·obtain⟨e1,e2,e3,e4,e5⟩:=vK g regs
  refine⟨fun r hr=>?_,?_⟩
  ·show upd (yO g regs).hv _ v r < n
   unfold upd
   split
   ·exact hv
   ·rw[e2];exact h r hr
  ·show(zBw (yO g regs) _).l.length≤_
   have:=zCB (yO g regs) (zAy f (yO g regs) v (yA g regs))
   omega
theorem zBf(f:Nat→zL)(regs i n:Nat)(g:G)(h:∀ r,r < 16→g.hv r < n):∀ j,(∀ q,q < j→zX (f i) q < n)→(∀ r,r < 16→(vV f regs i g j).hv r < n)∧(vV f regs i g j).l.length≤g.l.length+6*j
 | 0,_=>⟨h,by show g.l.length≤_;omega⟩
 | j+1,hq=>by
  obtain⟨a,b⟩:=zBf f regs i n g h j (fun q e=>hq q aO)
  obtain⟨c,d⟩:=zHh f (vV f regs i g j) regs (zX (f i) j) n a (hq j aO)
  exact⟨c,by show(yG f (vV f regs i g j) regs (zX (f i) j)).l.length≤_;omega⟩
theorem zCC(g:G)(n:Nat)(h:∀ r,r < 16→g.hv r < n):∀ r,r < 16→(zAo g).hv r < n:=fun r hr=>by
 show(if r < 16∧zAA g r=true then 0 else g.hv r) < n
 split
 ·have:=h r hr;omega
 ·exact h r hr
structure OW(w W:World)(base M Q n:Nat)(bp:Option Addr)(cap pcap regs:Nat)(f:Nat→zL)(g:G)(sv:Value)(BX BR BL:Nat)(X:Cd)(ρ:Nat→Nat)(o:zL):Prop where
 gw:GW W base M Q n bp cap pcap regs f g sv
 kx:Kx base M Q w W
 x:W.heap[BX]?=some (.cells (cdA X) 80)
 rg:W.rowIs BR 116 3 (fun q=>.int .i64 (ρ q))
 ls:W.rowIs BL 116 3 (fun q=>.int .i64 (zAn o q))
 nx:w.heap.size≤BX
 nr:w.heap.size≤BR
 nl:w.heap.size≤BL
 xr:BX≠BR
 rl:BR≠BL
 xl:BX≠BL
 bw:base≤w.heap.size
theorem zBM{w:World}{b:Nat}{t t':TypeId}{A A':Array Value}(h:w.heap[b]?=some (.cells A t))(h':w.heap[b]?=some (.cells A' t')):t=t':=by rw[h] at h';cases h';rfl
theorem OW.neX{w W:World}{base M Q n:Nat}{bp:Option Addr}{cap pcap regs:Nat}{f:Nat→zL}{g:G}{sv:Value}{BX BR BL:Nat}{X:Cd}{ρ:Nat→Nat}{o:zL}(h:OW w W base M Q n bp cap pcap regs f g sv BX BR BL X ρ o):BX≠M∧BX≠Q∧sv.ownBlock≠some BX:=by
 obtain⟨c,hc,-⟩:=h.gw.mb
 obtain⟨d,hd,-⟩:=h.gw.pl
 refine⟨fun e=>?_,fun e=>?_,fun e=>?_⟩
 ·rw[← e] at hc;exact absurd (zBM h.x hc) aD
 ·rw[← e] at hd;exact absurd (zBM h.x hd) aD
 ·obtain⟨-,cur,hh⟩:=zB0 h.gw.wd e;exact absurd (zBM h.x hh) aD
theorem OW.neR{w W:World}{base M Q n:Nat}{bp:Option Addr}{cap pcap regs:Nat}{f:Nat→zL}{g:G}{sv:Value}{BX BR BL:Nat}{X:Cd}{ρ:Nat→Nat}{o:zL}(h:OW w W base M Q n bp cap pcap regs f g sv BX BR BL X ρ o):BR≠M∧BR≠Q∧sv.ownBlock≠some BR:=by
 obtain⟨c,hc,-⟩:=h.gw.mb
 obtain⟨d,hd,-⟩:=h.gw.pl
 obtain⟨x,hx,-⟩:=h.rg
 refine⟨fun e=>?_,fun e=>?_,fun e=>?_⟩
 ·rw[← e] at hc;exact absurd (zBM hx hc) aD
 ·rw[← e] at hd;exact absurd (zBM hx hd) aD
 ·obtain⟨-,cur,hh⟩:=zB0 h.gw.wd e;exact absurd (zBM hx hh) aD
theorem OW.neL{w W:World}{base M Q n:Nat}{bp:Option Addr}{cap pcap regs:Nat}{f:Nat→zL}{g:G}{sv:Value}{BX BR BL:Nat}{X:Cd}{ρ:Nat→Nat}{o:zL}(h:OW w W base M Q n bp cap pcap regs f g sv BX BR BL X ρ o):BL≠M∧BL≠Q:=by
 obtain⟨c,hc,-⟩:=h.gw.mb
 obtain⟨d,hd,-⟩:=h.gw.pl
 obtain⟨x,hx,-⟩:=h.ls
 refine⟨fun e=>?_,fun e=>?_⟩
 ·rw[← e] at hc;exact absurd (zBM hx hc) aD
 ·rw[← e] at hd;exact absurd (zBM hx hd) aD
theorem OW.call{w W W':World}{base M Q n:Nat}{bp:Option Addr}{cap pcap regs:Nat}{f:Nat→zL}{g g':G}{sv sv':Value}{BX BR BL:Nat}{X:Cd}{ρ:Nat→Nat}{o:zL}(h:OW w W base M Q n bp cap pcap regs f g sv BX BR BL X ρ o)(hg:GW W' base M Q n bp cap pcap regs f g' sv')(k:Kx base M Q W W'):OW w W' base M Q n bp cap pcap regs f g' sv' BX BR BL X ρ o:=
 ⟨hg,h.kx.trans k,k.blk _ _ _ h.x h.neX.1 h.neX.2.1 aD,k.row h.rg h.neR.1 h.neR.2.1 aD,k.row h.ls h.neL.1 h.neL.2 aD,h.nx,h.nr,h.nl,h.xr,h.rl,h.xl,h.bw⟩
theorem OW.below{w W W':World}{base M Q n:Nat}{bp:Option Addr}{cap pcap regs:Nat}{f:Nat→zL}{g:G}{sv:Value}{BX BR BL:Nat}{X:Cd}{ρ:Nat→Nat}{o:zL}(h:OW w W base M Q n bp cap pcap regs f g sv BX BR BL X ρ o)(k:Below W.heap.size W W'):OW w W' base M Q n bp cap pcap regs f g sv BX BR BL X ρ o:=
 h.call (h.gw.below k) (Kx.of_below k h.gw.bw)
theorem OW.setX{w W:World}{base M Q n:Nat}{bp:Option Addr}{cap pcap regs:Nat}{f:Nat→zL}{g:G}{sv:Value}{BX BR BL:Nat}{X:Cd}{ρ:Nat→Nat}{o:zL}(h:OW w W base M Q n bp cap pcap regs f g sv BX BR BL X ρ o)(Y:Cd)(q:Nat)(u:Value)(e:(cdA X).setIfInBounds q u=cdA Y):OW w (W.setCell ⟨BX,q,none⟩ u) base M Q n bp cap pcap regs f g sv BX BR BL Y ρ o:=
 ⟨h.gw.setOther h.neX.1 h.neX.2.1 h.neX.2.2 (Nat.le_trans h.bw h.nx) q u,h.kx.setIn (.inr (.inr h.nx)) (Nat.le_trans h.bw h.nx) q u,(yE h.x u).trans (by rw[e]),h.rg.setOther (fun e=>h.xr e.symm) u,h.ls.setOther (fun e=>h.xl e.symm) u,h.nx,h.nr,h.nl,h.xr,h.rl,h.xl,h.bw⟩
theorem OW.setR{w W:World}{base M Q n:Nat}{bp:Option Addr}{cap pcap regs:Nat}{f:Nat→zL}{g:G}{sv:Value}{BX BR BL:Nat}{X:Cd}{ρ:Nat→Nat}{o:zL}(h:OW w W base M Q n bp cap pcap regs f g sv BX BR BL X ρ o)(j r:Nat):OW w (W.setCell ⟨BR,j,none⟩ (.int .i64 r)) base M Q n bp cap pcap regs f g sv BX BR BL X (upd ρ j r) o:=
 ⟨h.gw.setOther h.neR.1 h.neR.2.1 h.neR.2.2 (Nat.le_trans h.bw h.nr) j _,h.kx.setIn (.inr (.inr h.nr)) (Nat.le_trans h.bw h.nr) j _,(zQ h.xr _).trans h.x,(h.rg.set j _).congr (fun i hi=>by unfold upd;split<;>rfl),h.ls.setOther (fun e=>h.rl e.symm) _,h.nx,h.nr,h.nl,h.xr,h.rl,h.xl,h.bw⟩
theorem OW.setN{w W:World}{base M Q n:Nat}{bp:Option Addr}{cap pcap regs:Nat}{f:Nat→zL}{g:G}{sv:Value}{BX BR BL:Nat}{X:Cd}{ρ:Nat→Nat}{o:zL}(h:OW w W base M Q n bp cap pcap regs f g sv BX BR BL X ρ o)(v x:Nat):OW w (W.setCell ⟨Q,v*8+5,none⟩ (.int .i64 x)) base M Q n bp cap pcap regs f (zAF g v x) sv BX BR BL X ρ o:=
 ⟨h.gw.setP v 5 _ _ aO rfl (fun q hq hne=>by
  match q,hq,hne with
  | 0,_,_|1,_,_|2,_,_|3,_,_|4,_,_|6,_,_|7,_,_=>rfl
  | 5,_,h=>exact absurd rfl h),h.kx.setIn (.inr (.inl rfl)) h.gw.bQ _ _,(zQ h.neX.2.1 _).trans h.x,h.rg.setOther (fun e=>h.neR.2.1 e) _,h.ls.setOther (fun e=>h.neL.2 e) _,h.nx,h.nr,h.nl,h.xr,h.rl,h.xl,h.bw⟩
theorem zEu{w w1 w2:World}{base M Q n:Nat}{bp:Option Addr}{cap pcap regs:Nat}{f:Nat→zL}{g:G}{sv:Value}(X:Cd)(o:zL)(hG:GW w base M Q n bp cap pcap regs f g sv)(h1:Below w.heap.size w w1)(h2:Below ((w1.alloc (.cells (cdA X) 80)).alloc (.cells #[.int .i64 0,.int .i64 0,.int .i64 0] 116)).heap.size ((w1.alloc (.cells (cdA X) 80)).alloc (.cells #[.int .i64 0,.int .i64 0,.int .i64 0] 116)) w2) :
  OW w (w2.alloc (.cells #[.int .i64 o.a,.int .i64 o.b,.int .i64 o.c] 116)) base M Q n bp cap pcap regs f g sv w1.heap.size (w1.heap.size+1) w2.heap.size X (fun _=>0) o:=by
 have s1:=h1.size
 have s2:=h2.size
 simp at s2
 obtain⟨a1,a2⟩:=al2 w1 (.cells (cdA X) 80) (.cells #[.int .i64 0,.int .i64 0,.int .i64 0] 116)
 have hB:Below w.heap.size w (w2.alloc (.cells #[.int .i64 o.a,.int .i64 o.b,.int .i64 o.c] 116)):=(((h1.alloc s1 _).alloc zq19 _).trans (h2.mono zq19)).alloc aO _
 have k1:(w2.alloc (.cells #[.int .i64 o.a,.int .i64 o.b,.int .i64 o.c] 116)).heap[w1.heap.size]?=some (.cells (cdA X) 80):=by
  rw[Below.heap_alloc _ _ _ aO,h2.block _ zq19];exact a1
 have k2:(w2.alloc (.cells #[.int .i64 o.a,.int .i64 o.b,.int .i64 o.c] 116)).heap[w1.heap.size+1]?=some (.cells #[.int .i64 0,.int .i64 0,.int .i64 0] 116):=by
  rw[Below.heap_alloc _ _ _ aO,h2.block _ aS];exact a2
 refine⟨hG.below hB,Kx.of_below hB hG.bw,k1,⟨_,k2,rfl,fun i hi=>?_⟩,⟨_,heap_alloc_last _ _,rfl,fun i hi=>?_⟩,by omega,by omega,by omega,by omega,by omega,by omega,hG.bw⟩
 ·match i,hi with
  | 0,_|1,_|2,_=>rfl
 ·match i,hi with
  | 0,_|1,_|2,_=>rfl
end Go.Proofs.Ytkmjenjahbicpaa.Ho
