import Derived.Test.YtkmjenjahbicpaaGL
import Derived.Deep.RegionHeld3
set_option linter.unusedVariables false
set_option linter.unusedSimpArgs false
set_option maxHeartbeats 4000000
namespace Go.Proofs.Ytkmjenjahbicpaa.Ho
open Go.RowKit
set_option maxRecDepth 100000
def zCX:List Value:=[.bool false,.int .i64 0,.bool false,.int .i64 0,.bool false,.int .i64 0,.bool false,.int .i64 0,.bool false,.int .i64 0,.bool false,.int .i64 0,.bool false,.int .i64 0,.bool false,.int .i64 0,.bool false,.int .i64 0,.bool false,.int .i64 0,.bool false,.int .i64 0,.bool false,.int .i64 0,.bool false,.int .i64 0,.bool false,.int .i64 0,.bool false,.int .i64 0,.bool false,.int .i64 0]++(List.replicate 2064 (.bool false)++[.slice none 0 0])
def mkA(ov pv rv:Value):Array Value:=(ov :: pv :: rv :: zCX).toArray
def mkZ:Array Value:=mkA (.slice none 0 0) (.slice none 0 0) (.int .i64 0)
theorem zFV:(Try.prog.info? 77).map (fun i=>(i.zero,i.size))=some (some (.agg mkZ),2100):=by kernel_rfl
theorem zBB(ov pv rv:Value):(mkA ov pv rv).size=2100:=by
 show(ov :: pv :: rv :: zCX).length=2100
 simp[zCX]
theorem zRo(place:Nat→Option (Nat × Nat))(Z:Array Value)(v0 v1 v2:Value)(h0:place 0=some (0,1))(h1:place 1=some (1,1))(h2:place 2=some (2,1))(c0:v0.cells=#[v0])(c1:v1.cells=#[v1])(c2:v2.cells=#[v2])(hz:3≤Z.size) :
  Instr.fill place Z [(0,v0),(1,v1),(2,v2)]=some (((Z.setIfInBounds 0 v0).setIfInBounds 1 v1).setIfInBounds 2 v2):=by
 have e0:¬Z.size < 1:=aO
 have e1:¬Z.size < 2:=aO
 have e2:¬Z.size < 3:=aO
 simp[Instr.fill,h0,h1,h2,c0,c1,c2,e0,e1,e2]
 all_goals omega
def zTA:List (Nat × Nat):=[(0,1),(1,1),(2,1),(3,32),(35,16),(51,2048),(2099,1)]
theorem zSe:∃ fs,Try.prog.underlying 77=some (.struct fs)∧fs.toList.mapM (fun f=>(Try.prog.info? f.type).map fun i=>(f.offset,i.size))=some zTA:=⟨_,Try.underlying77,by kernel_rfl⟩
theorem zLU(bp:Option Addr)(n cap regs Q:Nat):Try.prog.built 77 [(0,.slice bp n cap),(1,.slice (some ⟨Q,0,none⟩) n n),(2,.int .i64 regs)]=some (mkA (.slice bp n cap) (.slice (some ⟨Q,0,none⟩) n n) (.int .i64 regs)):=by
 obtain⟨fs,h1,h2⟩:=zSe
 have hi:=zFV
 cases hit:Try.prog.info? 77 with
 | none=>rw[hit] at hi;cases hi
 | some it=>
  rw[hit] at hi
  simp only[Option.map_some,Option.some.injEq,Prod.mk.injEq] at hi
  unfold Program.built
  rw[hit,h1]
  simp only[hi.1,h2]
  rw[show(Value.agg mkZ).cells=mkZ from rfl,zRo _ mkZ _ _ _ rfl rfl rfl rfl rfl rfl (by unfold mkZ;rw[zBB];decide)]
  unfold mkZ mkA
  simp only[List.setIfInBounds_toArray,List.set_cons_zero,List.set_cons_succ]
theorem zKv(bp:Option Addr)(n cap regs Q:Nat):(mkA (.slice bp n cap) (.slice (some ⟨Q,0,none⟩) n n) (.int .i64 regs)).all (·.oneCell')=true:=by
 unfold mkA
 rw[List.all_toArray]
 show(true && (true && (true && zCX.all (·.oneCell'))))=true
 unfold zCX
 rw[List.all_append,List.all_append,List.all_replicate]
 rfl
def g0(P:Nat→PL):G:=⟨fun _=>false,fun _=>0,fun _=>false,fun _=>false,P,[]⟩
theorem zHB(j:Nat)(hj:j < 2097):zCX[j]?=some (mkF (.slice none 0 0) (.slice none 0 0) (.slice none 0 0) 0 (g0 (fun _=>zC9)) (j+3)):=by
 unfold zCX mkF
 rw[if_neg aO,if_neg aO,if_neg aO]
 by_cases h1:j < 32
 ·rw[if_pos aO,List.getElem?_append_left (by simpa using h1)]
  match j,h1 with
  | 0,_=>rfl
  | 1,_=>rfl
  | 2,_=>rfl
  | 3,_=>rfl
  | 4,_=>rfl
  | 5,_=>rfl
  | 6,_=>rfl
  | 7,_=>rfl
  | 8,_=>rfl
  | 9,_=>rfl
  | 10,_=>rfl
  | 11,_=>rfl
  | 12,_=>rfl
  | 13,_=>rfl
  | 14,_=>rfl
  | 15,_=>rfl
  | 16,_=>rfl
  | 17,_=>rfl
  | 18,_=>rfl
  | 19,_=>rfl
  | 20,_=>rfl
  | 21,_=>rfl
  | 22,_=>rfl
  | 23,_=>rfl
  | 24,_=>rfl
  | 25,_=>rfl
  | 26,_=>rfl
  | 27,_=>rfl
  | 28,_=>rfl
  | 29,_=>rfl
  | 30,_=>rfl
  | 31,_=>rfl
  | n+32,h=>exact absurd h aO
 ·rw[if_neg aO,List.getElem?_append_right zq19]
  by_cases h2:j < 2096
  ·rw[List.getElem?_append_left zq19,List.getElem?_replicate,if_pos zq19]
   by_cases h3:j+3 < 51
   ·rw[if_pos h3];rfl
   ·rw[if_neg h3,if_pos aO];rfl
  ·obtain rfl:j=2096:=aO
   rw[List.getElem?_append_right aS]
   simp
theorem zKw(ov pv:Value)(regs:Nat)(P:Nat→PL)(o:Nat)(ho:o < 2100):(mkA ov pv (.int .i64 regs))[o]?=some (mkF ov pv (.slice none 0 0) regs (g0 P) o):=by
 unfold mkA
 rw[List.getElem?_toArray]
 rcases o with _|_|_|o
 ·rfl
 ·rfl
 ·rfl
 ·simp only[List.getElem?_cons_succ]
  rw[zHB o aO]
  unfold mkF
  simp only[if_neg (show ¬o+1+1+1=0 by omega),if_neg (show ¬o+3=0 by omega),if_neg (show ¬o+1+1+1=1 by omega),if_neg (show ¬o+3=1 by omega),if_neg (show ¬o+1+1+1=2 by omega),if_neg (show ¬o+3=2 by omega)]
  rfl
theorem zM9(g:G)(regs i:Nat):(zBE g regs i).P=g.P:=(vK g regs).2.2.2.1
theorem zKk(regs i:Nat)(g:G)(X:Cd):(zBK regs i g X).P=g.P:=by
 unfold zBK
 split
 ·exact zM9 g regs i
 ·rfl
theorem zSl(f:Nat→zL)(regs:Nat)(g:G)(i q:Nat):zBq ((opG f regs g i).P q) (g.P q):=by
 unfold opG
 split
 ·exact zBq.refl _
 ·rw[zKk,zEe];exact zCW f regs i g q _
theorem zK9(regs i n:Nat)(g:G)(X:Cd)(h:∀ r,r < 16→g.hv r < n)(hi:i < n):(∀ r,r < 16→(zBK regs i g X).hv r < n)∧(zBK regs i g X).l.length≤g.l.length+6:=by
 unfold zBK
 split
 ·obtain⟨e1,e2,e3,e4,e5⟩:=vK g regs
  refine⟨fun r hr=>?_,?_⟩
  ·show upd (yO g regs).hv _ i r < n
   unfold upd
   split
   ·exact hi
   ·rw[e2];exact h r hr
  ·have:=zCB (zBE g regs i) { X with d:=yA g regs }
   have e:(zBE g regs i).l=(yO g regs).l:=rfl
   rw[e] at this
   omega
 ·exact⟨h,by have:=zCB g X;omega⟩
theorem zN5(f:Nat→zL)(regs n i:Nat)(g:G)(h:∀ r,r < 16→g.hv r < n)(hi:i < n)(t3:(g.P i).takes≤3)(tk:∀ q,q < (g.P i).takes→zX (f i) q < n):(∀ r,r < 16→(opG f regs g i).hv r < n)∧(opG f regs g i).l.length≤g.l.length+24:=by
 unfold opG
 split
 ·exact⟨h,by omega⟩
 ·obtain⟨a,b⟩:=zBf f regs i n g h (g.P i).takes tk
  obtain⟨c,d⟩:=zK9 regs i n (zAo (vV f regs i g (g.P i).takes)) (yQ (f i) (tkρ f regs i g (g.P i).takes)) (zCC _ n a) hi
  refine⟨c,?_⟩
  have e:(zAo (vV f regs i g (g.P i).takes)).l=(vV f regs i g (g.P i).takes).l:=rfl
  rw[e] at d
  omega
theorem zEG(P:Nat→PL)(i:Nat)(o:zL)(t q:Nat):(zCS P i o t q).takes=(P q).takes∧(zCS P i o t q).gives=(P q).gives∧(zCS P i o t q).lazy=(P q).lazy:=by
 unfold zCS
 obtain⟨a,b,c⟩:=zEF (zAx P i o t) i o q t
 obtain⟨d,e,f⟩:=zCe P i o q t
 exact⟨a.trans d,b.trans e,c.trans f⟩
theorem zGQ(f:Nat→zL)(s:PS)(i q:Nat):((uR f s i).P q).takes=(if q=i then(ru (f i).kind).takes.toNat else(s.P q).takes)∧((uR f s i).P q).gives=(if q=i then(ru (f i).kind).gives else(s.P q).gives):=by
 have h:∀ P':Nat→PL,(∀ q,(P' q).takes=(upd s.P i (vS f s i) q).takes∧(P' q).gives=(upd s.P i (vS f s i) q).gives)→(P' q).takes=(if q=i then(ru (f i).kind).takes.toNat else(s.P q).takes)∧(P' q).gives=(if q=i then(ru (f i).kind).gives else(s.P q).gives):=fun P' hp=>by
  rw[(hp q).1,(hp q).2]
  unfold upd
  split
  ·exact⟨rfl,rfl⟩
  ·exact⟨rfl,rfl⟩
 unfold uR
 by_cases hl:zAj (f i) (s.P i) s.puts=true
 ·simp only[if_pos hl];exact h _ (fun q=>⟨rfl,rfl⟩)
 ·simp only[if_neg hl];exact h _ (fun q=>⟨(zEG _ i (f i) _ q).1,(zEG _ i (f i) _ q).2.1⟩)
theorem zDQ(f:Nat→zL)(n:Nat):∀ m,m≤n→∀ q,n - m≤q→q < n→((uZ f n m).P q).takes=(ru (f q).kind).takes.toNat∧((uZ f n m).P q).gives=(ru (f q).kind).gives
 | 0,_,q,h,h'=>absurd h' aO
 | m+1,hm,q,h,h'=>by
  obtain⟨a,b⟩:=zGQ f (uZ f n m) (n - 1 - m) q
  show((uR f (uZ f n m) (n - 1 - m)).P q).takes=_∧((uR f (uZ f n m) (n - 1 - m)).P q).gives=_
  rw[a,b]
  by_cases e:q=n - 1 - m
  ·rw[if_pos e,if_pos e,← e];exact⟨rfl,rfl⟩
  ·rw[if_neg e,if_neg e];exact zDQ f n m aO q aO h'
def vQ(count:Int)(pc:Nat):Cd:=⟨1,0,0,0,0,count,pc,0⟩
def vW(f:Nat→zL)(n regs:Nat)(count:Int)(pc:Nat):Nat→G
 | 0=>zBw (g0 (uZ f n n).P) (vQ count pc)
 | i+1=>opG f regs (vW f n regs count pc i) i
theorem zE8(k:Int):(ru k).takes.toNat≤3:=by
 unfold ru ruT
 split<;>decide
theorem zFM(f:Nat→zL)(n regs:Nat)(count:Int)(pc q:Nat):∀ i,zBq ((vW f n regs count pc i).P q) ((uZ f n n).P q)
 | 0=>zBq.refl _
 | i+1=>(zSl f regs _ i q).trans (zFM f n regs count pc q i)
theorem zAr(f:Nat→zL)(n regs:Nat)(count:Int)(pc q i:Nat)(hq:q < n):((vW f n regs count pc i).P q).takes=(ru (f q).kind).takes.toNat∧((vW f n regs count pc i).P q).gives=(ru (f q).kind).gives:=by
 obtain⟨a,b,-⟩:=zFM f n regs count pc q i
 obtain⟨c,d⟩:=zDQ f n n aL q aO hq
 exact⟨a.trans c,b.trans d⟩
theorem zEz(f:Nat→zL)(n regs:Nat)(count:Int)(pc:Nat)(hB:uX n f):∀ i,i≤n→(∀ r,r < 16→(vW f n regs count pc i).hv r < n)∧(vW f n regs count pc i).l.length≤3+24*i
 | 0,_=>⟨fun r _=>hB.n1,by have:=zCB (g0 (uZ f n n).P) (vQ count pc);show(zBw (g0 (uZ f n n).P) (vQ count pc)).l.length≤_;have e:(g0 (uZ f n n).P).l.length=0:=rfl;omega⟩
 | i+1,hi=>by
  obtain⟨a,b⟩:=zEz f n regs count pc hB i aO
  have ht:=(zAr f n regs count pc i i aO).1
  obtain⟨c,d⟩:=zN5 f regs n i (vW f n regs count pc i) a aO (by rw[ht];exact zE8 _) (fun q hq=>by rw[ht] at hq;have:=(hB.tk i aO q hq).2;omega)
  exact⟨c,by show(opG f regs (vW f n regs count pc i) i).l.length≤_;omega⟩
theorem zIt(f:Nat→zL)(n regs:Nat)(count:Int)(pc:Nat)(hB:uX n f)(h3:3≤regs)(h16:regs≤16)(i:Nat)(hi:i < n):zJ7 n i f (vW f n regs count pc i) regs ((vW f n regs count pc i).P i).takes:=by
 obtain⟨a,b⟩:=zEz f n regs count pc hB i aO
 have ht:=(zAr f n regs count pc i i hi).1
 have hn:=hB.hn
 exact⟨by omega,h16,a,hi,hn,by omega,hB.ok,rfl,by rw[ht];exact zE8 _,fun j hj=>by rw[ht] at hj;have:=hB.tk i hi j hj;exact⟨this.1,by omega⟩⟩
theorem zIs(f:Nat→zL)(n regs:Nat)(count:Int)(pc i:Nat)(hi:i < n)(h:(f i).kind=10):((vW f n regs count pc i).P i).gives=false:=by
 rw[(zAr f n regs count pc i i hi).2,h];rfl
theorem zGy{P:Program}{o:Oper}{a:Act}{w:World}{K:Act→World→Prop}{Q:Exit→Act→World→Prop}(t:TypeId)(ho:o.op=.alloc t)(cs:Array Value)(hz:∀ w,(zeroValue t).run P w=.ok (.agg cs) w)(H:Nat)(hH:w.heap.size=H)
  (h:K (a.put o.dst (.pointer (some ⟨H,0,none⟩))) (w.alloc (.cells cs t))):o.wp P a w K Q:=by
 subst hH
 unfold Oper.wp execOp
 simp[ho,hz,Instr.alloc,go_sem]
 exact h
theorem zKI(a:Act)(o:Oper)(parts:Array (Nat × Operand))(ho:o.op=.build 77 parts)(bp:Option Addr)(n cap regs Q:Nat)(hp:(parts.map fun (i,x)=>(i,a.eval x)).toList=[(0,.slice bp n cap),(1,.slice (some ⟨Q,0,none⟩) n n),(2,.int .i64 regs)])(w:World):(execOp a.eval o).run Try.prog w=.ok (.value (.agg (mkA (.slice bp n cap) (.slice (some ⟨Q,0,none⟩) n n) (.int .i64 regs)))) w:=by
 unfold execOp
 simp only[ho,Sem.run_bind,run_build w 77 _ _ (hp▸zLU bp n cap regs Q),Result.andThen_ok,Sem.run_pure]
theorem zEN(n cap:Nat)(bp:Option Addr)(f:Nat→zL)(w:World)(H:Nat)(hH:w.heap.size=H)(hO:vN w bp n f)(ob:∀ b off,bp=some ⟨b,off,none⟩→b < w.heap.size)(hB:uX n f) :
  Calls Try.prog 24 #[.slice bp n cap] w fun e w'=>e=.returned (.slice (some ⟨H,0,none⟩) n n)∧w'.rowIs H 118 (n*8) (plF (uZ f n n).P)∧Below w.heap.size w w':=hH▸zGL n cap bp f w hO ob hB
structure CV(w W:World)(M Q n:Nat)(bp:Option Addr)(cap regs:Nat)(f:Nat→zL)(g:G)(sv:Value)(pc:Nat)(count bytes:Int):Prop where
 gw:GW W w.heap.size M Q n bp cap n regs f g sv
 bx:W.heap[w.heap.size]?=some (.cells #[.int .u32 pc,.int .i64 count,.int .i64 bytes,.slice bp n cap] 25)
 bel:Below w.heap.size w W
theorem CV.ne{w W:World}{M Q n:Nat}{bp:Option Addr}{cap regs:Nat}{f:Nat→zL}{g:G}{sv:Value}{pc:Nat}{count bytes:Int}(h:CV w W M Q n bp cap regs f g sv pc count bytes):w.heap.size≠M∧w.heap.size≠Q:=by
 obtain⟨c,hc,-⟩:=h.gw.mb
 obtain⟨d,hd,-⟩:=h.gw.pl
 exact⟨fun e=>by(rw[← e] at hc;exact absurd (zBM h.bx hc) aD),fun e=>by(rw[← e] at hd;exact absurd (zBM h.bx hd) aD)⟩
theorem CV.call{w W W':World}{M Q n:Nat}{bp:Option Addr}{cap regs:Nat}{f:Nat→zL}{g g':G}{sv sv':Value}{pc:Nat}{count bytes:Int}(h:CV w W M Q n bp cap regs f g sv pc count bytes)(hg:GW W' w.heap.size M Q n bp cap n regs f g' sv')(k:Kx w.heap.size M Q W W'):CV w W' M Q n bp cap regs f g' sv' pc count bytes:=
 ⟨hg,k.blk _ _ _ h.bx h.ne.1 h.ne.2 aD,h.bel.trans k.bel⟩
theorem zTl{w W w2:World}{n:Nat}{bp:Option Addr}{cap regs:Nat}{f:Nat→zL}{P:Nat→PL}{pc:Nat}{count bytes:Int}(hO:vN w bp n f)(ob:∀ b off,bp=some ⟨b,off,none⟩→b < w.heap.size)(hW:CW w W pc count bytes bp n cap)(hp:w2.rowIs W.heap.size 118 (n*8) (plF P))(hb:Below W.drew.heap.size W.drew w2) :
  CV w ((w2.alloc (.cells mkZ 77)).setRow w2.heap.size (mkA (.slice bp n cap) (.slice (some ⟨W.heap.size,0,none⟩) n n) (.int .i64 regs))) w2.heap.size W.heap.size n bp cap regs f (g0 P) (.slice none 0 0) pc count bytes:=by
 have sb:=hW.bel.size
 have s2:=hb.size
 have e:W.drew.heap.size=W.heap.size:=rfl
 rw[e] at s2
 rw[World.setRow_alloc_new]
 have hB2:Below w.heap.size w w2:=(hW.bel.drew).trans (hb.mono (by rw[e];exact sb))
 have hB:Below w.heap.size w (w2.alloc (.cells (mkA (.slice bp n cap) (.slice (some ⟨W.heap.size,0,none⟩) n n) (.int .i64 regs)) 77)):=hB2.alloc aO _
 refine⟨⟨⟨_,heap_alloc_last _ _,zBB _ _ _,fun i hi=>zKw _ _ regs P i hi⟩,World.ownsRow_nil _ _ _ _,hp.alloc _,hO.below hB aL,ob,by omega,sb,by simp;omega⟩,?_,hB⟩
 have l1:=zE hW.b1
 rw[Below.heap_alloc _ _ _ aO,hb.block _ (by rw[e];exact l1)]
 exact hW.b1
theorem zJY{w:World}{g:Nat}{old cs:Array Value}{t:TypeId}(h:w.heap[g]?=some (.cells old t)):(w.setRow g cs).heap[g]?=some (.cells cs t):=setRow_heap w g old cs t (0,0) h
theorem setRow_other{w:World}{g i:Nat}{cs:Array Value}(h:i≠g):(w.setRow g cs).heap[i]?=w.heap[i]?:=by
 simp only[World.setRow]
 rw[Array.getElem?_modify]
 simp[Ne.symm h]
theorem zTm{w W w2:World}{n:Nat}{bp:Option Addr}{cap regs:Nat}{f:Nat→zL}{P:Nat→PL}{pc:Nat}{count bytes:Int}(hO:vN w bp n f)(ob:∀ b off,bp=some ⟨b,off,none⟩→b < w.heap.size)(hW:CW w W pc count bytes bp n cap)(hp:w2.rowIs (W.heap.size+1) 118 (n*8) (plF P))(hb:Below (W.drew.alloc (.cells mkZ 77)).heap.size (W.drew.alloc (.cells mkZ 77)) w2) :
  CV w (w2.setRow W.heap.size (mkA (.slice bp n cap) (.slice (some ⟨W.heap.size+1,0,none⟩) n n) (.int .i64 regs))) W.heap.size (W.heap.size+1) n bp cap regs f (g0 P) (.slice none 0 0) pc count bytes:=by
 have sb:=hW.bel.size
 have s2:=hb.size
 have e:(W.drew.alloc (.cells mkZ 77)).heap.size=W.heap.size+1:=by simp
 have e':W.drew.heap.size=W.heap.size:=rfl
 rw[e] at s2
 have hm:w2.heap[W.heap.size]?=some (.cells mkZ 77):=(hb.block _ (by rw[e];omega)).trans (heap_alloc_last W.drew _)
 have hB2:Below w.heap.size w w2:=((hW.bel.drew).alloc sb _).trans (hb.mono (by rw[e];omega))
 have hB:Below w.heap.size w (w2.setRow W.heap.size (mkA (.slice bp n cap) (.slice (some ⟨W.heap.size+1,0,none⟩) n n) (.int .i64 regs))):=hB2.trans ⟨rfl,rfl,rfl,by simp[World.setRow],fun i hi=>setRow_other aO⟩
 have l1:=zE hW.b1
 refine⟨⟨⟨_,zJY hm,zBB _ _ _,fun i hi=>zKw _ _ regs P i hi⟩,World.ownsRow_nil _ _ _ _,hp.of_block (setRow_other aO),hO.below hB aL,ob,sb,by omega,hB.size⟩,?_,hB⟩
 rw[setRow_other aO,hb.block _ (by rw[e];omega),Below.heap_alloc _ _ _ (by rw[e'];exact l1)]
 exact hW.b1
theorem zMV(pc:Nat)(count bytes:Int)(bp:Option Addr)(n cap:Nat)(f:Nat→zL)(regs:Nat)(w:World)(hO:vN w bp n f)(ob:∀ b off,bp=some ⟨b,off,none⟩→b < w.heap.size)(hcap:n≤cap)(hB:uX n f)(he:(yH count bytes n f).1=0)(h3:3≤regs)(h16:regs≤16)(hpc:pc < 4294967296) :
  Calls Try.prog 6 #[.agg #[.int .u32 pc,.int .i64 count,.int .i64 bytes,.slice bp n cap],.int .i64 regs] w fun e w'=>∃ sv,e=.returned (.tuple #[sv,.int .i64 0])∧w'.ownsRow w.heap.size 22 1 sv (vW f n regs count pc n).l.length (wdL (vW f n regs count pc n).l)∧Below w.heap.size w w':=by
 obtain⟨E,HE⟩:∃ E,Hid (yH count bytes n f=E):=⟨_,rfl⟩
 rw[HE.out] at he
 obtain⟨E1,E2⟩:=E
 have he:E1=0:=he
 subst he
 have hn:=hB.hn
 have d3:decide ((regs:Int) < 3)=false:=aF
 have d16:decide (16 < (regs:Int))=false:=aF
 have hb0:Below w.heap.size w (w.alloc (.cells #[.int .u32 pc,.int .i64 count,.int .i64 bytes,.slice bp n cap] 25)):=aB.alloc aL _
 have HW0:Hid (CW w (w.alloc (.cells #[.int .u32 pc,.int .i64 count,.int .i64 bytes,.slice bp n cap] 25)) pc count bytes bp n cap):=⟨heap_alloc_last w _,hb0⟩
 have HO0:Hid _:=hO
 have HOB:Hid _:=ob
 have HO:Hid _:=hO.below hb0 aL
 have HC:Hid (n≤cap):=hcap
 have HN:Hid (n < 9223372036854775807):=show n < _ by omega
 have HBK:Hid _:=hB
 have H3:Hid (3≤regs):=h3
 have H16:Hid (regs≤16):=h16
 have HPC:Hid (pc < 4294967296):=hpc
 have n0:(0:Int)≤(n:Int):=aO
 have n2:(n:Int)≤2048:=aO
 have zM:=(Go.zero_of_info zFV).1
 have HZM:Hid _:=zM
 have HSZ:Hid ((Try.prog.info? 77).map (·.size)=some 2100):=(Go.zero_of_info zFV).2
 clear hO hcap hb0 ob hB h3 h16 hpc hn zM
 go_enter Try.func6,Try.ntmps6
 go_upto_region 6 with (go_at_call 23;refine(zIQ pc count bytes bp n cap f _ HO.out HC.out HN.out).mono ?_;rintro e w1 ⟨rfl,hb1⟩;rw[HE.out];have HB1:Hid _:=hb1;clear hb1)
 refine zI (fun W'=>CW w W' pc count bytes bp n cap) (HW0.out.next HB1.out) ?_
 clear HB1 HO d3 d16 HE
 intro W hW
 have m3:W.cell? ⟨w.heap.size,3,none⟩=some (.slice bp n cap):=zA hW.b1 3
 have lW:=zE hW.b1
 have HW:Hid _:=hW
 have HOW:Hid (vN W.drew bp n f):=show vN W.drew bp n f from vN.below HO0.out hW.bel.drew aL
 have HOA:Hid (vN (W.drew.alloc (.cells mkZ 77)) bp n f):=show vN _ bp n f from vN.below HO0.out (hW.bel.drew.alloc hW.bel.size _) aL
 have HOBW:Hid (∀ b off,bp=some ⟨b,off,none⟩→b < W.drew.heap.size):=show ∀ b off,_ from fun b off e=>Nat.lt_of_lt_of_le (HOB.out b off e) hW.bel.size
 have HOBA:Hid (∀ b off,bp=some ⟨b,off,none⟩→b < (W.drew.alloc (.cells mkZ 77)).heap.size):=show ∀ b off,_ from fun b off e=>by have:=HOB.out b off e;have:=hW.bel.size;simp;omega
 have HSA:Hid ((W.drew.alloc (.cells mkZ 77)).heap.size=W.heap.size+1):=show _=_ by simp
 clear hW
 refine wp_region_held_drew (S:=fun W'=>W'.cell? ⟨w.heap.size,3,none⟩=some (.slice bp n cap)) (by kernel_rfl) (by simp[go_sem,m3]) (fun hHeld=>?_)
 refine wpAnyH_take (i:=0) (oi:=_) (v:=?vA0) rfl (by kernel_rfl) (by kernel_rfl) (by kernel_rfl) (fun _ _ _ h=>h) (Or.inl ⟨by rfl,?hyA0⟩) (by assumption) ?restA0
 case hyA0=>(intro w hSw;(try dsimp only at hSw);go_simp;(try with_reducible rfl))
 simp only[Act.put,aP]
 refine wpAnyH_take (i:=1) (oi:=_) (v:=?vA1) rfl (by kernel_rfl) (by kernel_rfl) (by kernel_rfl) (fun _ _ _ h=>h) (Or.inl ⟨by rfl,?hyA1⟩) (by assumption) ?restA1
 case hyA1=>(intro w hSw;(try dsimp only at hSw);go_simp;(try with_reducible rfl))
 simp only[Act.put,aP]
 refine wpAnyH_take (i:=2) (oi:=_) (v:=?vA2) rfl (by kernel_rfl) (by kernel_rfl) (by kernel_rfl) (fun _ _ _ h=>h) (Or.inl ⟨by rfl,?hyA2⟩) (by assumption) ?restA2
 case hyA2=>(intro w hSw;(try dsimp only at hSw);go_simp;(try with_reducible rfl))
 simp only[Act.put,aP]
 refine wpAnyH_take (i:=3) (oi:=_) (v:=?vA3) rfl (by kernel_rfl) (by kernel_rfl) (by kernel_rfl) (fun _ _ _ h=>h) (Or.inl ⟨by rfl,?hyA3⟩) (by assumption) ?restA3
 case hyA3=>(intro w hSw;(try dsimp only at hSw);go_simp;(try with_reducible rfl))
 simp only[Act.put,aP]
 refine wpAnyH_take (i:=5) (oi:=_) (v:=?vA5) rfl (by kernel_rfl) (by kernel_rfl) (by kernel_rfl) (fun _ _ _ h=>h) (Or.inl ⟨by rfl,?hyA5⟩) (by assumption) ?restA5
 case hyA5=>(intro w hSw;(try dsimp only at hSw);go_simp;(try with_reducible rfl))
 simp only[Act.put,aP]
 refine wpAnyH_ready (rs:=[4,7]) (by kernel_rfl) aS ?_
 refine AllReadyH.cons (o:=_) rfl (fun K hK=>?_) (AllReadyH.cons (o:=_) rfl (fun K hK=>?_) AllReadyH.nil)
 ·go_simp
  go_at_call 24
  refine(zEN n cap bp f W.drew W.heap.size rfl HOW.out HOBW.out HBK.out).mono ?_
  rintro e w2 ⟨rfl,hp2,hb2⟩
  have hS2:w2.cell? ⟨w.heap.size,3,none⟩=some (.slice bp n cap):=(hb2.cell (p:=⟨w.heap.size,3,none⟩) lW).trans m3
  have HLT2:Hid (w.heap.size < w2.heap.size):=Nat.lt_of_lt_of_le lW hb2.size
  have HCV:Hid _:=zTl (regs:=regs) HO0.out HOB.out HW.out hp2 hb2
  clear hp2 hb2
  refine hK.out _ _ hS2 (fun hHeld=>?_)
  clear hK K
  (try simp only[Act.put,aP])
  refine wpAnyH_take (i:=6) (oi:=_) (v:=.agg (mkA (.slice bp n cap) (.slice (some ⟨W.heap.size,0,none⟩) n n) (.int .i64 regs))) rfl (by kernel_rfl) (by kernel_rfl) (by kernel_rfl) (fun _ _ _ h=>h) (Or.inl ⟨by rfl,fun w _=>zKI _ _ _ rfl bp n cap regs W.heap.size (by kernel_rfl) w⟩) (by assumption) ?rest6
  (try simp only[Act.put,aP])
  refine wpAnyH_ready (rs:=[7]) (by kernel_rfl) aS ?_
  refine AllReadyH.cons (o:=_) rfl (fun K hK=>?_) AllReadyH.nil
  rw[if_pos (by rfl)]
  refine zGy 77 rfl mkZ HZM.out w2.heap.size rfl ?_
  refine hK.out _ _ ((World.cell?_alloc_past _ _ _ HLT2.out).trans hS2) (fun hHeld=>?_)
  clear hK K
  (try simp only[Act.put,aP])
  refine wpAnyH_ready (rs:=[8]) (by kernel_rfl) aS ?_
  refine AllReadyH.cons (o:=_) rfl (fun K hK=>?_) AllReadyH.nil
  rw[if_pos (by rfl)]
  refine wp_store_row 77 _ _ rfl w2.heap.size (mkA (.slice bp n cap) (.slice (some ⟨W.heap.size,0,none⟩) n n) (.int .i64 regs)) (by rfl) (by rfl) 77 mkZ (heap_alloc_last _ _) (by rw[zBB];exact HSZ.out) (by unfold mkZ;rw[zBB,zBB]) (zKv bp n cap regs _) ?_
  refine hK.out _ _ (zA HCV.out.bx 3) (fun hHeld=>?_)
  clear hK K
  (try simp only[Act.put,aP])
  refine wpAnyH_done (by kernel_rfl) ?_ _
  go_upto_region 7 with fail
  refine zI (fun W'=>CV w W' w2.heap.size W.heap.size n bp cap regs f (g0 (uZ f n n).P) (.slice none 0 0) pc count bytes) HCV.out ?_
  obtain⟨M,hM⟩:∃ M,w2.heap.size=M:=⟨_,rfl⟩
  obtain⟨Q,hQ⟩:∃ Q,W.heap.size=Q:=⟨_,rfl⟩
  rw[hM,hQ]
  clear hM hQ HCV m3 lW hS2 HLT2
  intro A hA
  have c0:A.cell? ⟨w.heap.size,0,none⟩=some (.int .u32 pc):=zA hA.bx 0
  have c1:A.cell? ⟨w.heap.size,1,none⟩=some (.int .i64 count):=zA hA.bx 1
  have lA:=zE hA.bx
  have HA:Hid _:=hA
  clear hA
  go_upto_region 8 with (go_at_call 25;refine(zF7 w.heap.size M Q n bp cap n regs f (g0 (uZ f n n).P) (.slice none 0 0) (vQ count pc) _ HA.out.gw HPC.out (Nat.zero_lt_succ _) (Nat.zero_le _)).mono ?_;rintro e w5 ⟨rfl,⟨sv5,hG5⟩,hK5⟩;have HC5:Hid _:=HA.out.call hG5 hK5;clear hG5 hK5)
  refine zI (fun W'=>CV w W' M Q n bp cap regs f (vW f n regs count pc 0) sv5 pc count bytes) HC5.out ?_
  clear HC5 HA c0 c1 lA
  intro B hB
  have c3:B.cell? ⟨w.heap.size,3,none⟩=some (.slice bp n cap):=zA hB.bx 3
  have lB:=zE hB.bx
  have HBB:Hid _:=hB
  clear hB
  go_upto_region 9 with fail
  go_loopw [40] (fun iv wr=>∃ i:Nat,iv=.int .i64 i∧i≤n∧∃ sv',CV w wr M Q n bp cap regs f (vW f n regs count pc i) sv' pc count bytes) (fun iv _=>n - (intOf iv).toNat)
  case atStart=>exact⟨0,rfl,by omega,sv5,HBB.out⟩
  case round=>
   obtain⟨i,rfl,hi,sv1,hr⟩:=hrel
   clear HBB c3 lB
   have HR:Hid _:=hr
   by_cases hlt:i < n
   ·have HLT:Hid (i < n):=hlt
    have hii:(i:Int) < (n:Int):=aO
    have i0:(0:Int)≤(i:Int):=aO
    have dj:decide ((i:Int) < (n:Int))=true:=decide_eq_true hii
    clear hr hlt hi
    go_wp2_with (go_at_call 26;refine(zKB w.heap.size M Q n bp cap n regs f (vW f n regs count pc i) sv1 i _ HR.out.gw (zIt f n regs count pc HBK.out H3.out H16.out i HLT.out) (zIs f n regs count pc i HLT.out)).mono ?_;rintro e w6 ⟨rfl,⟨sv6,hG6⟩,hK6⟩;have HC6:Hid _:=HR.out.call hG6 hK6;clear hG6 hK6)
    go_round
    case rel=>exact⟨i+1,by go_num,HLT.out,sv6,HC6.out⟩
    case measure=>have:=HLT.out;simp[intOf];omega
   ·obtain rfl:i=n:=aO
    have dj:decide ((i:Int) < (i:Int))=false:=aF
    have c4:wr.cell? ⟨M,2099,none⟩=some sv1:=hr.gw.mb.cell (i:=2099) aO
    have lM:=hr.gw.mb.lt
    obtain⟨sa,sn,sc,rfl⟩:∃ sa sn sc,sv1=.slice sa sn sc:=by
     rcases hr.gw.wd.2 with ⟨hv,h0⟩|⟨g',c',cur,hv,-⟩
     ·exact⟨_,_,_,hv⟩
     ·exact⟨_,_,_,hv⟩
    clear hr hlt hi
    go_wp2
    go_ret2
    exact⟨_,rfl,HR.out.gw.wd,HR.out.bel⟩
 ·rw[if_pos (by rfl)]
  refine zGy 77 rfl mkZ HZM.out W.heap.size rfl ?_
  refine hK.out _ _ ((World.cell?_alloc_past _ _ _ lW).trans m3) (fun hHeld=>?_)
  clear hK K
  (try simp only[Act.put,aP])
  refine wpAnyH_ready (rs:=[4]) (by kernel_rfl) aS ?_
  refine AllReadyH.cons (o:=_) rfl (fun K hK=>?_) AllReadyH.nil
  go_simp
  go_at_call 24
  refine(zEN n cap bp f (W.drew.alloc (.cells mkZ 77)) (W.heap.size+1) HSA.out HOA.out HOBA.out HBK.out).mono ?_
  rintro e w2 ⟨rfl,hp2,hb2⟩
  have hS2:w2.cell? ⟨w.heap.size,3,none⟩=some (.slice bp n cap):=(hb2.cell (p:=⟨w.heap.size,3,none⟩) (by simp;exact Nat.lt_succ_of_lt lW)).trans ((World.cell?_alloc_past _ _ _ lW).trans m3)
  have HMM:Hid (w2.heap[W.heap.size]?=some (.cells mkZ 77)):=(hb2.block _ aS).trans (heap_alloc_last W.drew _)
  have HCV:Hid _:=zTm (regs:=regs) HO0.out HOB.out HW.out hp2 hb2
  clear hp2 hb2
  refine hK.out _ _ hS2 (fun hHeld=>?_)
  clear hK K
  (try simp only[Act.put,aP])
  refine wpAnyH_take (i:=6) (oi:=_) (v:=.agg (mkA (.slice bp n cap) (.slice (some ⟨W.heap.size+1,0,none⟩) n n) (.int .i64 regs))) rfl (by kernel_rfl) (by kernel_rfl) (by kernel_rfl) (fun _ _ _ h=>h) (Or.inl ⟨by rfl,fun w _=>zKI _ _ _ rfl bp n cap regs (W.heap.size+1) (by kernel_rfl) w⟩) (by assumption) ?rest6b
  (try simp only[Act.put,aP])
  refine wpAnyH_ready (rs:=[8]) (by kernel_rfl) aS ?_
  refine AllReadyH.cons (o:=_) rfl (fun K hK=>?_) AllReadyH.nil
  rw[if_pos (by rfl)]
  refine wp_store_row 77 _ _ rfl W.heap.size (mkA (.slice bp n cap) (.slice (some ⟨W.heap.size+1,0,none⟩) n n) (.int .i64 regs)) (by rfl) (by rfl) 77 mkZ HMM.out (by rw[zBB];exact HSZ.out) (by unfold mkZ;rw[zBB,zBB]) (zKv bp n cap regs _) ?_
  refine hK.out _ _ (zA HCV.out.bx 3) (fun hHeld=>?_)
  clear hK K
  (try simp only[Act.put,aP])
  refine wpAnyH_done (by kernel_rfl) ?_ _
  go_upto_region 7 with fail
  refine zI (fun W'=>CV w W' W.heap.size (W.heap.size+1) n bp cap regs f (g0 (uZ f n n).P) (.slice none 0 0) pc count bytes) HCV.out ?_
  obtain⟨M,hM⟩:∃ M,W.heap.size=M:=⟨_,rfl⟩
  obtain⟨Q,hQ⟩:∃ Q,W.heap.size+1=Q:=⟨_,rfl⟩
  rw[hQ,hM]
  clear hM hQ HCV m3 lW hS2 HMM
  intro A hA
  have c0:A.cell? ⟨w.heap.size,0,none⟩=some (.int .u32 pc):=zA hA.bx 0
  have c1:A.cell? ⟨w.heap.size,1,none⟩=some (.int .i64 count):=zA hA.bx 1
  have lA:=zE hA.bx
  have HA:Hid _:=hA
  clear hA
  go_upto_region 8 with (go_at_call 25;refine(zF7 w.heap.size M Q n bp cap n regs f (g0 (uZ f n n).P) (.slice none 0 0) (vQ count pc) _ HA.out.gw HPC.out (Nat.zero_lt_succ _) (Nat.zero_le _)).mono ?_;rintro e w5 ⟨rfl,⟨sv5,hG5⟩,hK5⟩;have HC5:Hid _:=HA.out.call hG5 hK5;clear hG5 hK5)
  refine zI (fun W'=>CV w W' M Q n bp cap regs f (vW f n regs count pc 0) sv5 pc count bytes) HC5.out ?_
  clear HC5 HA c0 c1 lA
  intro B hB
  have c3:B.cell? ⟨w.heap.size,3,none⟩=some (.slice bp n cap):=zA hB.bx 3
  have lB:=zE hB.bx
  have HBB:Hid _:=hB
  clear hB
  go_upto_region 9 with fail
  go_loopw [40] (fun iv wr=>∃ i:Nat,iv=.int .i64 i∧i≤n∧∃ sv',CV w wr M Q n bp cap regs f (vW f n regs count pc i) sv' pc count bytes) (fun iv _=>n - (intOf iv).toNat)
  case atStart=>exact⟨0,rfl,by omega,sv5,HBB.out⟩
  case round=>
   obtain⟨i,rfl,hi,sv1,hr⟩:=hrel
   clear HBB c3 lB
   have HR:Hid _:=hr
   by_cases hlt:i < n
   ·have HLT:Hid (i < n):=hlt
    have hii:(i:Int) < (n:Int):=aO
    have i0:(0:Int)≤(i:Int):=aO
    have dj:decide ((i:Int) < (n:Int))=true:=decide_eq_true hii
    clear hr hlt hi
    go_wp2_with (go_at_call 26;refine(zKB w.heap.size M Q n bp cap n regs f (vW f n regs count pc i) sv1 i _ HR.out.gw (zIt f n regs count pc HBK.out H3.out H16.out i HLT.out) (zIs f n regs count pc i HLT.out)).mono ?_;rintro e w6 ⟨rfl,⟨sv6,hG6⟩,hK6⟩;have HC6:Hid _:=HR.out.call hG6 hK6;clear hG6 hK6)
    go_round
    case rel=>exact⟨i+1,by go_num,HLT.out,sv6,HC6.out⟩
    case measure=>have:=HLT.out;simp[intOf];omega
   ·obtain rfl:i=n:=aO
    have dj:decide ((i:Int) < (i:Int))=false:=aF
    have c4:wr.cell? ⟨M,2099,none⟩=some sv1:=hr.gw.mb.cell (i:=2099) aO
    have lM:=hr.gw.mb.lt
    obtain⟨sa,sn,sc,rfl⟩:∃ sa sn sc,sv1=.slice sa sn sc:=by
     rcases hr.gw.wd.2 with ⟨hv,h0⟩|⟨g',c',cur,hv,-⟩
     ·exact⟨_,_,_,hv⟩
     ·exact⟨_,_,_,hv⟩
    clear hr hlt hi
    go_wp2
    go_ret2
    exact⟨_,rfl,HR.out.gw.wd,HR.out.bel⟩
end Go.Proofs.Ytkmjenjahbicpaa.Ho
