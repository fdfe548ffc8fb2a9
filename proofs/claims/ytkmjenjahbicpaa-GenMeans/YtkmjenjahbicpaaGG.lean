import Derived.Test.YtkmjenjahbicpaaGF
import Derived.Lib.SliceRun
set_option linter.unusedVariables false
set_option linter.unusedSimpArgs false
set_option maxHeartbeats 4000000
namespace Go.Proofs.Ytkmjenjahbicpaa.Ho
open Go.RowKit
set_option maxRecDepth 100000
def zBE(g:G)(regs i:Nat):G:=zC7 (yO g regs) (yA g regs) i ((g.P i).next !=0)
theorem zLh(base M Q n:Nat)(bp:Option Addr)(cap pcap regs:Nat)(f:Nat→zL)(g:G)(sv:Value)(i:Nat)(w:World)(hG:GW w base M Q n bp cap pcap regs f g sv)(h0:0 < regs)(hr:regs≤16)(hv:∀ r,r < 16→g.hv r < n)(hi:i < n)(hn:n≤2048)(hl:g.l.length≤100000) :
  Calls Try.prog 53 #[.pointer (some ⟨M,0,none⟩),.int .i64 i] w fun e w'=>e=.returned (.int .i64 (yA g regs))∧(∃ sv',GW w' base M Q n bp cap pcap regs f (zBE g regs i) sv')∧Kx base M Q w w':=by
 have hrl:=zAC g regs h0
 obtain⟨r,HRN⟩:∃ r,Hid (yA g regs=r):=⟨_,rfl⟩
 obtain⟨g1,HG1N⟩:∃ g1,Hid (yO g regs=g1):=⟨_,rfl⟩
 rw[HRN.out] at hrl
 have e4:=(vK g regs).2.2.2.1
 rw[HG1N.out] at e4
 obtain⟨nx,HNX⟩:∃ nx,Hid ((g1.P i).next=nx):=⟨_,rfl⟩
 obtain⟨bn,hbn⟩:∃ bn,((nx:Int) !=0)=bn:=⟨_,rfl⟩
 have HGV:Hid (zBE g regs i=zC7 g1 r i bn):=show zBE g regs i=_ by
  unfold zBE;rw[HRN.out,HG1N.out,← e4,HNX.out,← hbn]
  congr 1
  by_cases h:nx=0
  ·subst h;rfl
  ·have:((nx:Int) !=0)=true:=by simp;omega
   rw[this];simpa using h
 have HG:Hid _:=hG
 have HR:Hid (regs≤16):=hr
 have HR0:Hid (0 < regs):=h0
 have HV:Hid _:=hv
 have HNN:Hid (n≤2048):=hn
 have HL:Hid (g.l.length≤100000):=hl
 have HR2:Hid (r < 16):=show r < 16 by omega
 have HIN:Hid (i < n):=hi
 have r0:(0:Int)≤(r:Int):=aO
 have r1:(r:Int) < 16:=aO
 have v0:(0:Int)≤(i:Int):=aO
 have v1:(i:Int) < (n:Int):=aO
 clear hG hr h0 hv hn hl hrl hi e4
 rw[HRN.out,HGV.out]
 go_enter Try.func53,Try.ntmps53
 go_upto_region 2 with (go_at_call 74;refine(zEy base M Q n bp cap pcap regs f g sv _ HG.out HR0.out HR.out HV.out HNN.out HL.out).mono ?_;rintro e w1 ⟨rfl,⟨sv1,hG1⟩,hK1⟩;rw[HRN.out];rw[HG1N.out] at hG1;have HG1:Hid _:=hG1;have HK1:Hid _:=hK1;clear hG1 hK1)
 have m3:w1.cell? ⟨M,1,none⟩=some (.slice (some ⟨Q,0,none⟩) n pcap):=HG1.out.mb.cell (i:=1) aO
 have m4:=HG1.out.pl.cell (i:=i*8+5) zq22
 rw[vO _ _ _ aO] at m4
 have m4':w1.cell? ⟨Q,i*8+5,none⟩=some (.int .i64 (nx:Nat)):=m4.trans (by show some (Value.int .i64 ((g1.P i).next:Nat))=_;rw[HNX.out])
 have p0:=HG1.out.mb.cell (i:=3+r*2) (by have:=HR2.out;omega)
 have p1:=HG1.out.mb.cell (i:=3+r*2+1) (by have:=HR2.out;omega)
 have p3:=HG1.out.mb.frozen (3+r*2)
 have p4:=HG1.out.mb.frozen (3+r*2+1)
 have lM:=HG1.out.mb.lt
 have lQ:=HG1.out.pl.lt
 have nMQ:=HG1.out.ne
 clear m4
 go_region
 all_goals go_wp2
 all_goals go_ret
 all_goals exact⟨rfl,⟨sv1,(HG1.out.setReg r i bn HR2.out).below (aB.drew)⟩,((HK1.out.setIn (.inl rfl) HG1.out.bM _ _).setIn (.inl rfl) HG1.out.bM _ _).trans (Kx.of_below (aB.drew) (by have:=HG1.out.bw;simpa using this))⟩
def zAA(g:G)(r:Nat):Bool:=g.bz r && ((g.P (g.hv r)).next==0)
def zCp(g:G)(j:Nat):G:={ g with hf:=fun r=>if r < j∧zAA g r=true then false else g.hf r,hv:=fun r=>if r < j∧zAA g r=true then 0 else g.hv r }
def zAo(g:G):G:={ zCp g 16 with bz:=fun _=>false }
theorem zJP(g:G):zCp g 0=g:=by
 unfold zCp
 have h1:(fun r=>if r < 0∧zAA g r=true then false else g.hf r)=g.hf:=by funext r;rw[if_neg aO]
 have h2:(fun r=>if r < 0∧zAA g r=true then 0 else g.hv r)=g.hv:=by funext r;rw[if_neg aO]
 rw[h1,h2]
theorem zIo(g:G)(j:Nat)(h:zAA g j=false):zCp g (j+1)=zCp g j:=by
 unfold zCp
 have e:∀ r,(r < j+1∧zAA g r=true)↔(r < j∧zAA g r=true):=fun r=>by
  constructor
  ·rintro ⟨a,b⟩
   refine⟨?_,b⟩
   by_cases e:r=j
   ·subst e;rw[h] at b;cases b
   ·omega
  ·rintro ⟨a,b⟩;exact⟨by omega,b⟩
 simp only[e]
theorem zMh(g:G)(j:Nat)(h:zAA g j=true):zCp g (j+1)=zC7 (zCp g j) j 0 false:=by
 unfold zCp zC7
 have h1:(fun r=>if r < j+1∧zAA g r=true then false else g.hf r)=upd (fun r=>if r < j∧zAA g r=true then false else g.hf r) j false:=by
  funext r;unfold upd
  by_cases e:r=j
  ·subst e;rw[if_pos rfl,if_pos ⟨by omega,h⟩]
  ·rw[if_neg e]
   show(if r < j+1∧zAA g r=true then _ else _)=(if r < j∧zAA g r=true then _ else _)
   by_cases e2:r < j∧zAA g r=true
   ·rw[if_pos e2,if_pos ⟨by omega,e2.2⟩]
   ·rw[if_neg e2,if_neg (fun k=>e2 ⟨by omega,k.2⟩)]
 have h2:(fun r=>if r < j+1∧zAA g r=true then 0 else g.hv r)=upd (fun r=>if r < j∧zAA g r=true then 0 else g.hv r) j 0:=by
  funext r;unfold upd
  by_cases e:r=j
  ·subst e;rw[if_pos rfl,if_pos ⟨by omega,h⟩]
  ·rw[if_neg e]
   show(if r < j+1∧zAA g r=true then _ else _)=(if r < j∧zAA g r=true then _ else _)
   by_cases e2:r < j∧zAA g r=true
   ·rw[if_pos e2,if_pos ⟨by omega,e2.2⟩]
   ·rw[if_neg e2,if_neg (fun k=>e2 ⟨by omega,k.2⟩)]
 rw[h1,h2]
theorem zFp{b t n:Nat}(z:Value):∀ (m o:Nat) (w:World) (f:Nat→Value),w.rowIs b t n f→(w.setCells b o (List.replicate m z)).rowIs b t n (fun j=>if o≤j∧j < o+m then z else f j)
 | 0,o,w,f,h=>h.congr (fun i hi=>by rw[if_neg aO])
 | m+1,o,w,f,h=>by
  have:=zFp z m (o+1) _ _ (h.set o z)
  refine this.congr (fun i hi=>?_)
  by_cases e:i=o
  ·subst e;rw[if_neg aO,if_pos rfl,if_pos aO]
  ·by_cases e2:o+1≤i∧i < o+1+m
   ·rw[if_pos e2,if_pos aO]
   ·rw[if_neg e2,if_neg e,if_neg aO]
theorem zA7{i b:Nat}(h:i≠b):∀ (vs:List Value) (o:Nat) (w:World),(w.setCells b o vs).heap[i]?=w.heap[i]?
 | [],_,_=>rfl
 | v :: vs,o,w=>(zA7 h vs (o+1) _).trans (zQ h v)
theorem zCk{n b:Nat}(h:n≤b):∀ (vs:List Value) (o:Nat) (w w':World),Below n w w'→Below n w (w'.setCells b o vs)
 | [],_,_,_,k=>k
 | v :: vs,o,w,w',k=>zCk h vs (o+1) w _ (k.setCell h v)
theorem setCells_size{b:Nat}:∀ (vs:List Value) (o:Nat) (w:World),(w.setCells b o vs).heap.size=w.heap.size
 | [],_,_=>rfl
 | v :: vs,o,w=>(setCells_size vs (o+1) _).trans aS
theorem zLV(ov pv wv:Value)(regs:Nat)(g:G):(fun j=>if 35≤j∧j < 35+16 then .bool false else mkF ov pv wv regs g j)=mkF ov pv wv regs { g with bz:=fun _=>false }:=by
 funext o
 unfold mkF
 by_cases h3:o < 35
 ·rw[if_neg aO];simp only[if_pos h3]
 by_cases h4:o < 51
 ·rw[if_pos aO,if_neg aO,if_neg aO,if_neg aO,if_neg h3,if_pos h4]
 ·rw[if_neg aO];simp only[if_neg h3,if_neg h4]
structure zGX(w:World)(b off n:Nat):Prop where
 hc:∀ j,j < n→(w.cell? ⟨b,off+j,none⟩).isSome=true
 hf:∀ j,j < n→w.frozen? ⟨b,off+j,none⟩=false
theorem zF5{P:Program}{w:World}{ops:Array Oper}{rest:List Oper}{o:Oper}{a:Act}{Q:Exit→Act→World→Prop}(hgd:o.guard=none)(hd:o.dst=none)(x:Operand)(t:TypeId)
  (ho:o.op=.call { callee:=.builtin .clear,args:=#[x],argTypes:=#[t] }) (e:TypeId) (z:Value) (ht:P.underlying t=some (.slice e)) (hv:∀ w,(zeroValue e).run P w=.ok z w) (hz:z.cells=#[z]) (h1:z.oneCell'=true)
  (b off n c:Nat) (hn:0 < n) (hx:a.eval x=.slice (some ⟨b,off,none⟩) n c) (hp:zGX w b off n)
  (L:List Value) (hL:L=List.replicate n z) (h':∀ w',w'=w.setCells b off L→wpList P ops Q rest a w'):wpList P ops Q (o :: rest) a w:=by
 have h:=h' _ rfl
 clear h'
 subst hL
 refine wpList_plain hgd fun K hK=>?_
 have uF:=Go.Lib.run_clear_slice (P:=P) w t e o.type z ht hv hz h1 b off n c hn hp.hc hp.hf
 unfold Oper.wp
 simp only[execOp,ho,resolve,invoke,builtin,hx,Sem.run_bind,Sem.run_pure,Result.andThen_ok,List.map_toArray,List.map_cons,List.map_nil,uF]
 have:=hK _ _ h
 show K (a.put o.dst (.tuple #[])) _
 rw[hd]
 exact this
abbrev bzA(b:Nat→Bool):Array Value:=#[.bool (b 0),.bool (b 1),.bool (b 2),.bool (b 3),.bool (b 4),.bool (b 5),.bool (b 6),.bool (b 7),.bool (b 8),.bool (b 9),.bool (b 10),.bool (b 11),.bool (b 12),.bool (b 13),.bool (b 14),.bool (b 15)]
theorem zO3(b:Nat→Bool)(j:Nat)(hj:j < 16)(w:World):(Instr.index 74 (.agg (bzA b)) (.int .i64 j)).run Try.prog w=.ok (.bool (b j)) w:=by
 match j,hj with
 | 0,_|1,_|2,_|3,_|4,_|5,_|6,_|7,_|8,_|9,_|10,_|11,_|12,_|13,_|14,_|15,_=>simp[Instr.index,Try.underlying74,go_sem,part,asAgg]
 | n+16,h=>exact absurd h aO
def noB:List Value:=List.replicate 16 (.bool false)
theorem GW.clear{w:World}{base M Q n:Nat}{bp:Option Addr}{cap pcap regs:Nat}{f:Nat→zL}{g:G}{sv:Value}(h:GW w base M Q n bp cap pcap regs f g sv):GW (w.setCells M 35 noB) base M Q n bp cap pcap regs f { g with bz:=fun _=>false } sv:=
 ⟨zLV _ _ _ _ _▸zFp (.bool false) 16 35 _ _ h.mb,zAS h.wd (fun g hg=>zA7 (fun e=>(h.ow hg).1 e) _ _ _),h.pl.of_block (zA7 (fun e=>h.ne e.symm) _ _ _),zBe h.ops (zCk h.bM _ _ _ _ (Below.refl base w)) h.ob,h.ob,h.bM,h.bQ,by rw[setCells_size];exact h.bw⟩
theorem Kx.clear{base M Q:Nat}{w w':World}(k:Kx base M Q w w')(hb:base≤M):Kx base M Q w (w'.setCells M 35 noB):=
 ⟨zCk hb _ _ _ _ k.bel,fun i A T h1 h2 h3 h4=>(zA7 h2 _ _ _).trans (k.blk i A T h1 h2 h3 h4),by rw[setCells_size];exact k.size⟩
theorem zCF(base M Q n:Nat)(bp:Option Addr)(cap pcap regs:Nat)(f:Nat→zL)(g:G)(sv:Value)(w:World)(hG:GW w base M Q n bp cap pcap regs f g sv)(hv:∀ r,r < 16→g.hv r < n) :
  Calls Try.prog 52 #[.pointer (some ⟨M,0,none⟩)] w fun e w'=>e=.returned (.tuple #[])∧GW w' base M Q n bp cap pcap regs f (zAo g) sv∧Kx base M Q w w':=by
 have b0:=hG.mb.cell (i:=35+0) aO
 rw[zCo _ _ _ _ _ _ aO] at b0
 have b1:=hG.mb.cell (i:=35+1) aO
 rw[zCo _ _ _ _ _ _ aO] at b1
 have b2:=hG.mb.cell (i:=35+2) aO
 rw[zCo _ _ _ _ _ _ aO] at b2
 have b3:=hG.mb.cell (i:=35+3) aO
 rw[zCo _ _ _ _ _ _ aO] at b3
 have b4:=hG.mb.cell (i:=35+4) aO
 rw[zCo _ _ _ _ _ _ aO] at b4
 have b5:=hG.mb.cell (i:=35+5) aO
 rw[zCo _ _ _ _ _ _ aO] at b5
 have b6:=hG.mb.cell (i:=35+6) aO
 rw[zCo _ _ _ _ _ _ aO] at b6
 have b7:=hG.mb.cell (i:=35+7) aO
 rw[zCo _ _ _ _ _ _ aO] at b7
 have b8:=hG.mb.cell (i:=35+8) aO
 rw[zCo _ _ _ _ _ _ aO] at b8
 have b9:=hG.mb.cell (i:=35+9) aO
 rw[zCo _ _ _ _ _ _ aO] at b9
 have b10:=hG.mb.cell (i:=35+10) aO
 rw[zCo _ _ _ _ _ _ aO] at b10
 have b11:=hG.mb.cell (i:=35+11) aO
 rw[zCo _ _ _ _ _ _ aO] at b11
 have b12:=hG.mb.cell (i:=35+12) aO
 rw[zCo _ _ _ _ _ _ aO] at b12
 have b13:=hG.mb.cell (i:=35+13) aO
 rw[zCo _ _ _ _ _ _ aO] at b13
 have b14:=hG.mb.cell (i:=35+14) aO
 rw[zCo _ _ _ _ _ _ aO] at b14
 have b15:=hG.mb.cell (i:=35+15) aO
 rw[zCo _ _ _ _ _ _ aO] at b15
 have HG:Hid _:=hG
 have HV:Hid _:=hv
 have lM:=hG.mb.lt
 have zb:∀ w,(zeroValue 4).run Try.prog w=.ok (.bool false) w:=fun w=>by simp[go_sem]
 have HZB:Hid _:=zb
 clear hG hv zb
 go_enter Try.func52,Try.ntmps52
 go_wp2
 clear b0 b1 b2 b3 b4 b5 b6 b7 b8 b9 b10 b11 b12 b13 b14 b15
 go_loopw [8] (fun i wr=>∃ j:Nat,i=.int .i64 j∧j≤16∧GW wr base M Q n bp cap pcap regs f (zCp g j) sv∧Kx base M Q w wr) (fun i _=>16 - (intOf i).toNat)
 case atStart=>exact⟨0,rfl,by omega,by rw[zJP];exact HG.out,Kx.refl _ _ _ _⟩
 case round=>
  obtain⟨j,rfl,hj,hGr,hK⟩:=hrel
  have HGr:Hid _:=hGr
  have HK:Hid _:=hK
  have lM':=hGr.mb.lt
  have lQ':=hGr.pl.lt
  by_cases hlt:j < 16
  ·have HLT:Hid (j < 16):=hlt
   have j16:(j:Int) < 16:=aO
   have j0:(0:Int)≤(j:Int):=aO
   have dj:decide ((j:Int) < 16)=true:=decide_eq_true j16
   have m0:=hGr.mb.cell (i:=3+j*2) aO
   have f0:=hGr.mb.frozen (3+j*2)
   have f1:=hGr.mb.frozen (3+j*2+1)
   have m1:=hGr.mb.cell (i:=3+j*2+1) aO
   rw[zHW _ _ _ _ _ _ hlt] at m1
   have ehv:(zCp g j).hv j=g.hv j:=if_neg aO
   rw[ehv] at m1
   obtain⟨v,HVV⟩:∃ v,Hid (g.hv j=v):=⟨_,rfl⟩
   rw[HVV.out] at m1
   have hvn:v < n:=HVV.out▸HV.out j hlt
   have v0:(0:Int)≤(v:Int):=aO
   have v1:(v:Int) < (n:Int):=aO
   have m3:wr.cell? ⟨M,1,none⟩=some (.slice (some ⟨Q,0,none⟩) n pcap):=hGr.mb.cell (i:=1) aO
   have m4:=hGr.pl.cell (i:=v*8+5) aO
   rw[vO _ _ _ aO] at m4
   obtain⟨nx,HNX⟩:∃ nx,Hid ((g.P v).next=nx):=⟨_,rfl⟩
   have m5:wr.cell? ⟨Q,v*8+5,none⟩=some (.int .i64 (nx:Nat)):=m4.trans (by show some (Value.int .i64 ((g.P v).next:Nat))=_;rw[HNX.out])
   have HRB:Hid (zAA g j=(g.bz j && (nx==0))):=show zAA g j=_ by unfold zAA;rw[HVV.out,HNX.out]
   obtain⟨bj,HBJ⟩:∃ bj,Hid (g.bz j=bj):=⟨_,rfl⟩
   rw[HBJ.out] at HRB
   clear m4 hGr hK hlt ehv hvn
   cases bj with
   | false=>
    have HN:Hid (zCp g (j+1)=zCp g j):=zIo g j (by rw[HRB.out];rfl)
    go_upto_region 3 with (refine zU rfl 74 (.tmp 7) (.tmp 8) rfl _ _ (.bool false) rfl rfl (fun w=>by have:=zO3 g.bz j HLT.out w;rw[HBJ.out] at this;exact this) ?_)
    go_quiet (fail)
    go_wp2
    go_roundw
    case rel=>exact⟨j+1,by go_num,HLT.out,by rw[HN.out];exact HGr.out.below (yU _ _),HK.out.next (yU _ _) HG.out.bw⟩
    case measure=>have:=HLT.out;simp[intOf];omega
   | true=>
    by_cases hx:nx=0
    ·subst hx
     have HN:Hid (zCp g (j+1)=zC7 (zCp g j) j 0 false):=zMh g j (by rw[HRB.out];rfl)
     go_upto_region 3 with (refine zU rfl 74 (.tmp 7) (.tmp 8) rfl _ _ (.bool true) rfl rfl (fun w=>by have:=zO3 g.bz j HLT.out w;rw[HBJ.out] at this;exact this) ?_)
     go_quiet (fail)
     go_wp2
     go_roundw
     case rel=>exact⟨j+1,by go_num,HLT.out,by rw[HN.out];exact(HGr.out.below (yU _ _)).setReg j 0 false HLT.out,((HK.out.next (yU _ _) HG.out.bw).setIn (.inl rfl) HG.out.bM _ _).setIn (.inl rfl) HG.out.bM _ _⟩
     case measure=>have:=HLT.out;simp[intOf];omega
    ·have dx:((nx:Int)==0)=false:=by simp;omega
     have HN:Hid (zCp g (j+1)=zCp g j):=zIo g j (by rw[HRB.out];simpa using hx)
     go_upto_region 3 with (refine zU rfl 74 (.tmp 7) (.tmp 8) rfl _ _ (.bool true) rfl rfl (fun w=>by have:=zO3 g.bz j HLT.out w;rw[HBJ.out] at this;exact this) ?_)
     go_quiet (fail)
     go_wp2
     all_goals first|(exfalso;omega)|skip
     go_roundw
     case rel=>exact⟨j+1,by go_num,HLT.out,by rw[HN.out];exact HGr.out.below (yU _ _),HK.out.next (yU _ _) HG.out.bw⟩
     case measure=>have:=HLT.out;simp[intOf];omega
  ·obtain rfl:j=16:=aO
   have HCP:Hid (zGX wr M 35 16):=show zGX wr M 35 16 from⟨fun q hq=>by rw[hGr.mb.cell (i:=35+q) aO];rfl,fun q hq=>hGr.mb.frozen _⟩
   clear hGr hK hlt
   go_wp2_with (refine zF5 rfl rfl (.tmp 40) 82 rfl 4 (.bool false) Try.underlying82 HZB.out rfl rfl M 35 16 16 aD rfl HCP.out noB rfl ?_;intro w2 hw2;have HW2:Hid _:=hw2;clear hw2)
   go_end0
   exact⟨rfl,by rw[HW2.out];exact HGr.out.clear,by rw[HW2.out];exact HK.out.clear HG.out.bM⟩
end Go.Proofs.Ytkmjenjahbicpaa.Ho
