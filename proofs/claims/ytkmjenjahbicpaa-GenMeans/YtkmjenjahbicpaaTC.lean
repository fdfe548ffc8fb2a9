import Derived.Test.YtkmjenjahbicpaaWER
import Derived.Deep.LoopGhost
import Derived.Deep.MidRow
set_option linter.unusedVariables false
set_option linter.unusedSimpArgs false
namespace Go.Proofs.Ytkmjenjahbicpaa.Ho
open Go.RowKit
set_option maxRecDepth 100000
theorem zKA(o:zL)(ρ:Nat→Nat)(hw:WOk o):(yQ o ρ).op≠96:=by rw[zCw];exact(zHZ o hw).2.2.1
theorem zIq(g:G)(regs:Nat):∀ x∈zBI g regs,x.op≠96:=by
 unfold zBI
 split
 ·intro x hx;cases hx
 ·unfold zDx
  split
  ·intro x hx;rw[List.mem_singleton] at hx;subst hx;show(9:Int)≠96;decide
  ·intro x hx;cases hx
theorem zKV(f:Nat→zL)(g:G)(regs v:Nat)(hw:WOk (f v)):∀ x∈zA2 f g regs v,x.op≠96:=by
 unfold zA2
 split
 ·intro x hx;cases hx
 ·intro x hx
  rcases List.mem_append.1 hx with hx|hx
  ·exact zIq g regs x hx
  ·rw[List.mem_singleton] at hx
   subst hx
   unfold zAy
   split
   ·exact(zHZ (f v) hw).2.2.1
   ·show(8:Int)≠96;decide
theorem zO0(f:Nat→zL)(regs i n:Nat)(g:G)(hw:∀ v,v < n→WOk (f v)):∀ j,(∀ q,q < j→zX (f i) q < n)→∀ x∈zDw f regs i g j,x.op≠96
 | 0,_=>fun x hx=>by cases hx
 | j+1,hq=>fun x hx=>by
  rcases List.mem_append.1 (show x∈zDw f regs i g j++zA2 f (vV f regs i g j) regs (zX (f i) j) from hx) with hx|hx
  ·exact zO0 f regs i n g hw j (fun q e=>hq q aO) x hx
  ·exact zKV f _ regs _ (hw _ (hq j aO)) x hx
theorem zGn{n:Nat}{f:Nat→zL}(hB:uX n f)(hW:∀ v,v < n→WOk (f v))(regs:Nat)(count:Int)(pc:Nat):∀ i,i≤n→∀ x∈zAY f n regs count pc i,x.op≠96
 | 0,_=>fun x hx=>by cases hx
 | i+1,hi=>fun x hx=>by
  rcases List.mem_append.1 (show x∈zAY f n regs count pc i++zDv f regs (vW f n regs count pc i) i from hx) with hx|hx
  ·exact zGn hB hW regs count pc i aO x hx
  ·obtain⟨ht,hg⟩:=zAr f n regs count pc i i aO
   unfold zDv at hx
   split at hx
   ·cases hx
   ·rcases List.mem_append.1 hx with hx|hx
    ·exact zO0 f regs i n _ hW _ (fun q hq=>by rw[ht] at hq;have:=(hB.tk i aO q hq).2;omega) x hx
    ·unfold zC5 at hx
     split at hx
     ·rcases List.mem_append.1 hx with hx|hx
      ·exact zIq _ regs x hx
      ·rw[List.mem_singleton] at hx;subst hx;exact zKA _ _ (hW i aO)
     ·rw[List.mem_singleton] at hx;subst hx;exact zKA _ _ (hW i aO)
theorem zGF(k:QB)(kk:Va.RB)(ws:Value)(q:HQ)(h:HS Va.MS)(x:Cd)(w:World)(hx:zAz x)(h96:x.op≠96)(hkx:x.k < 4294967296)(hns:yD yY x h≠.stuck)(hq:QW w k ws (.slice none 0 0) (.pointer (some ⟨kk.y,0,none⟩)) q)(hm:Va.RM w kk h.m)(H:uW q h)(hdj:∀ x∈k.own,x∉kk.y :: kk.all) :
  Calls Try.prog 35 #[.pointer (some ⟨k.h,0,none⟩),cdV x] w fun e w'=>Stepped k kk ws (.slice none 0 0) q w e w' (yD yY x h):=by
 obtain⟨kf,op,d,a,b,c,n,e1,e2,e3,e4,e5,e6,F⟩:=hx
 obtain⟨xo,xd,xa,xb,xc,xn,kx,xx⟩:=x
 simp only at e1 e2 e3 e4 e5 e6 h96 hkx F
 subst e1 e2 e3 e4 e5 e6
 have h256:=F.fo
 have hh:(hit ((⟨op,h256⟩:Fin 256).val:Int)).isSome=true:=by show(hit (op:Int)).isSome=true;rw[F.hk];rfl
 have hc:=zNA ⟨op,h256⟩ hh
 simp only at hc
 rcases hc with hc|hc|hc|hc|hc|hc|hc|hc|hc
 ·have hc':op=0∨op=1∨op=2∨op=3∨op=4∨op=5∨op=6∨op=7∨op=8∨op=9∨op=10∨op=11∨op=12∨op=13∨op=14∨op=15:=aO
  rcases hc' with rfl|rfl|rfl|rfl|rfl|rfl|rfl|rfl|rfl|rfl|rfl|rfl|rfl|rfl|rfl|rfl
  ·exact absurd (show yD yY ⟨(0:Nat),d,a,b,c,n,kx,xx⟩ h=.stuck by simp[yD]) hns
  ·exact absurd (show yD yY ⟨(1:Nat),d,a,b,c,n,kx,xx⟩ h=.stuck by simp[yD]) hns
  ·exact zS7 k kk ws (.slice none 0 0) q h kf d a b c n kx xx w F hq hm H hdj hkx hns
  ·exact absurd (show yD yY ⟨(3:Nat),d,a,b,c,n,kx,xx⟩ h=.stuck by simp[yD]) hns
  ·exact zJ0 k kk ws q h kf d a b c n kx xx w F hq hm H hdj hns
  ·exact zQ0 k kk ws (.slice none 0 0) q h kf d a b c n kx xx w F hq hm H hdj hns
  ·exact zQX k kk ws (.slice none 0 0) q h kf d a b c n kx xx w F hq hm H hdj hns
  ·exact zQ2 k kk ws (.slice none 0 0) q h kf d a b c n kx xx w F hq hm H hdj hns
  ·exact zQY k kk ws (.slice none 0 0) q h kf d a b c n kx xx w F hq hm H hdj hns
  ·exact zQ3 k kk ws (.slice none 0 0) q h kf d a b c n kx xx w F hq hm H hdj hns
  ·exact zMy k kk ws (.slice none 0 0) q h kf d a b c n kx xx w F hq hm H hdj hns
  ·exact zS6 k kk ws (.slice none 0 0) q h kf d a b c n kx xx w F hq hm H hdj hns
  ·exact zOs k kk ws (.slice none 0 0) q h kf d a b c n kx xx w F hq hm H hdj hns
  ·exact zQ1 k kk ws (.slice none 0 0) q h kf d a b c n kx xx w F hq hm H hdj hns
  ·exact zMw k kk ws (.slice none 0 0) q h kf d a b c n kx xx w F hq hm H hdj hns
  ·exact absurd (show yD yY ⟨(15:Nat),d,a,b,c,n,kx,xx⟩ h=.stuck by simp[yD]) hns
 ·exact zQW k kk ws (.slice none 0 0) q h kf op d a b c n kx xx w F hq hm H hdj hc.1 hc.2 hns
 ·exact zS8 k kk ws (.slice none 0 0) q h kf op d a b c n kx xx w F hq hm H hdj hc.1 hc.2 hns
 ·exact zMv k kk ws (.slice none 0 0) q h kf op d a b c n kx xx w F hq hm H hdj hc.1 hc.2 hns
 ·exact zOq k kk ws (.slice none 0 0) q h kf op d a b c n kx xx w F hq hm H hdj hc.1 hc.2 hns
 ·exact zOr k kk ws (.slice none 0 0) q h kf op d a b c n kx xx w F hq hm H hdj hc.1 hc.2 hns
 ·exact zMx k kk ws (.slice none 0 0) q h kf op d a b c n kx xx w F hq hm H hdj hc.1 hc.2 hns
 ·exact absurd aO h96
 ·subst hc;exact zQZ k kk ws (.slice none 0 0) q h kf d a b c n kx xx w F hq hm H hdj hns
theorem zPg(ws:Nat→Nat)(len:Nat)(a:Int)(h:∀ i,ws i < 4294967296):(yB ws len a).x.k < 4294967296:=by
 have z:zC.k < 4294967296:=by decide
 unfold yB
 by_cases h1:a < 0∨(len:Int) < a
 ·rw[if_pos h1];exact z
 rw[if_neg h1]
 by_cases h2:a=len
 ·rw[if_pos h2];exact z
 rw[if_neg h2]
 cases hit ((ws a.toNat%256:Nat):Int) with
 | none=>exact z
 | some k=>
  dsimp only
  by_cases h3:(len:Int) < a+vR (zH k).has
  ·rw[if_pos h3];exact z
  rw[if_neg h3]
  by_cases h4:dcE (zH k) (ws a.toNat) (rdX (zH k).has (ws a.toNat) (if 1 < vR (zH k).has then ws (a.toNat+1) else 0) (if 2 < vR (zH k).has then ws (a.toNat+2) else 0))=0
  ·rw[if_pos h4]
   show(if 1 < vR (zH k).has then ws (a.toNat+1) else 0) < 4294967296
   split
   ·exact h _
   ·decide
  ·rw[if_neg h4];exact z
theorem zJ.into{S T:List Nat}{a b c:World}(h:zJ S a b)(k:zJ T b c)(hT:∀ x∈T,x∈S∨a.heap.size≤x):zJ S a c:=
 ⟨k.os.trans h.os,k.tape.trans h.tape,k.output.trans h.output,Nat.le_trans h.size k.size,fun i hi hs=>(k.block i (Nat.lt_of_lt_of_le hi h.size) (fun e=>by
  rcases hT i e with h1|h1
  ·exact hs h1
  ·omega)).trans (h.block i hi hs)⟩
theorem zR7(k:QB)(ws tb mp:Value)(q:HQ)(v:Int)(o:Nat)(ho:o < 24):upd (hqF k ws tb mp q) 1 (.int .i64 v) o=hqF k ws tb mp { q with at_:=v } o:=by
 unfold upd hqF
 by_cases e:o=1
 ·subst e;rfl
 ·simp only[if_neg e]
theorem zQc(k:QB)(ws tb mp:Value)(q:HQ)(v:Int)(o:Nat)(ho:o < 24):upd (hqF k ws tb mp q) 22 (.int .i64 v) o=hqF k ws tb mp { q with ran:=v } o:=by
 unfold upd hqF
 by_cases e:o=22
 ·subst e;rfl
 ·simp only[if_neg e]
theorem QW.setAt{w:World}{k:QB}{ws tb mp:Value}{q:HQ}(h:QW w k ws tb mp q)(v:Int):QW (w.setCell ⟨k.h,1,none⟩ (.int .i64 v)) k ws tb mp { q with at_:=v }:=
 ⟨(h.h.set 1 aO _).congr (fun o ho=>zR7 k ws tb mp q v o ho),h.r.other h.hr _ _,h.g.other h.hg _ _,h.s.other h.hs _ _,h.d.other h.hd _ _,h.hr,h.hg,h.hs,h.hd,h.rg,h.rs,h.rd,h.gs,h.gd,h.sd⟩
theorem QW.setRan{w:World}{k:QB}{ws tb mp:Value}{q:HQ}(h:QW w k ws tb mp q)(v:Int):QW (w.setCell ⟨k.h,22,none⟩ (.int .i64 v)) k ws tb mp { q with ran:=v }:=
 ⟨(h.h.set 22 aO _).congr (fun o ho=>zQc k ws tb mp q v o ho),h.r.other h.hr _ _,h.g.other h.hg _ _,h.s.other h.hs _ _,h.d.other h.hd _ _,h.hr,h.hg,h.hs,h.hd,h.rg,h.rs,h.rd,h.gs,h.gd,h.sd⟩
theorem zF0{S:List Nat}{w w':World}{a:Option Addr}{len cap:Nat}{ws:Nat→Nat}(h:Wds w a len cap ws)(c:zJ S w w')(hS:len=0∨∃ b off,a=some ⟨b,off,none⟩∧b∉S):Wds w' a len cap ws:=by
 rcases h with h|⟨B,off,ha,h1,h2,h3⟩
 ·exact .inl h
 ·rcases hS with h0|⟨b,o,e,hb⟩
  ·exact .inl h0
  ·rw[ha] at e;cases e
   exact .inr ⟨B,off,ha,h1,h2,fun i hi=>(World.cell?_of_block (w:=w) (c.block B h3.lb hb)).trans (h3.cell i hi),h3.lt,Nat.lt_of_lt_of_le h3.lb c.size⟩
structure RW(w wr:World)(k:QB)(kk:Va.RB)(a:Option Addr)(cap:Nat)(l:List Nat)(q:HQ)(h:HS Va.MS):Prop where
 qw:QW wr k (.slice a l.length cap) (.slice none 0 0) (.pointer (some ⟨kk.y,0,none⟩)) q
 m:Va.RM wr kk h.m
 H:uW q h
 wd:Wds wr a l.length cap (uP l)
 b1:wr.heap[w.heap.size+1]?=some (.cells #[.int .u32 0,.int .u32 0,.int .u32 0,.int .u32 0,.int .u32 0,.int .u32 0,.int .u32 0,.int .u32 0,.int .u32 0,.int .u32 0,.int .u32 0,.int .u32 0] 27)
 b2:wr.heap[w.heap.size+1+1]?=some (.cells (lfC 0 0 0 0 0 0) 48)
 ch:zJ kk.all w wr
 ow:∀ x∈k.own,w.heap.size+1+1 < x
 kl:∀ x∈kk.y :: kk.all,x < w.heap.size
 wl:l.length=0∨∃ b off,a=some ⟨b,off,none⟩∧b < w.heap.size∧b∉kk.all
theorem RW.step{w wr:World}{k:QB}{kk:Va.RB}{a:Option Addr}{cap:Nat}{l:List Nat}{q:HQ}{h:HS Va.MS}(h0:RW w wr k kk a cap l q h){k':QB}{q':HQ}{h':HS Va.MS}{w':World}{T:List Nat}(hq:QW w' k' (.slice a l.length cap) (.slice none 0 0) (.pointer (some ⟨kk.y,0,none⟩)) q')(hm:Va.RM w' kk h'.m)(H:uW q' h')(c:zJ T wr w')(hT:∀ x∈T,x∈kk.all∨w.heap.size+1+1 < x)(hk:∀ x∈k'.own,w.heap.size+1+1 < x):RW w w' k' kk a cap l q' h':=by
 have n1:w.heap.size+1∉T:=fun e=>by
  rcases hT _ e with h1|h1
  ·have:=h0.kl _ (aM _ h1);omega
  ·omega
 have n2:w.heap.size+1+1∉T:=fun e=>by
  rcases hT _ e with h1|h1
  ·have:=h0.kl _ (aM _ h1);omega
  ·omega
 refine⟨hq,hm,H,zF0 h0.wd c ?_,(c.block _ (ltb h0.b1) n1).trans h0.b1,(c.block _ (ltb h0.b2) n2).trans h0.b2,h0.ch.into c (fun x hx=>?_),hk,h0.kl,h0.wl⟩
 ·rcases h0.wl with e|⟨b,off,e,hb,hn⟩
  ·exact .inl e
  ·refine .inr ⟨b,off,e,fun ht=>?_⟩
   rcases hT _ ht with h1|h1
   ·exact hn h1
   ·omega
 ·rcases hT x hx with h1|h1
  ·exact .inl h1
  ·exact .inr aO
theorem RW.bel{w wr:World}{k:QB}{kk:Va.RB}{a:Option Addr}{cap:Nat}{l:List Nat}{q:HQ}{h:HS Va.MS}(h0:RW w wr k kk a cap l q h){w':World}(b:Below wr.heap.size wr w'):RW w w' k kk a cap l q h:=
 h0.step (T:=[]) (h0.qw.chg (S:=[]) (zJ.bel b) (fun _ _=>by simp)) (h0.m.below b aL) h0.H (zJ.bel b) (fun x hx=>by cases hx) h0.ow
theorem RW.al{w wr:World}{k:QB}{kk:Va.RB}{a:Option Addr}{cap:Nat}{l:List Nat}{q:HQ}{h:HS Va.MS}(h0:RW w wr k kk a cap l q h)(o:Obj):RW w (wr.alloc o) k kk a cap l q h:=h0.bel (aB.alloc aL o)
theorem RW.dj{w wr:World}{k:QB}{kk:Va.RB}{a:Option Addr}{cap:Nat}{l:List Nat}{q:HQ}{h:HS Va.MS}(h0:RW w wr k kk a cap l q h):∀ x∈k.own,x∉kk.y :: kk.all:=fun x hx hy=>by have h1:=h0.ow x hx;have h2:=h0.kl x hy;omega
theorem RW.setAt{w wr:World}{k:QB}{kk:Va.RB}{a:Option Addr}{cap:Nat}{l:List Nat}{q:HQ}{h:HS Va.MS}(h0:RW w wr k kk a cap l q h)(v:Int):RW w (wr.setCell ⟨k.h,1,none⟩ (.int .i64 v)) k kk a cap l { q with at_:=v } h:=
 have c:zJ [k.h] wr (wr.setCell ⟨k.h,1,none⟩ (.int .i64 v)):=(zJ.refl _ _).set aC _ _
 h0.step (h0.qw.setAt v) (h0.m.keep (vC c) (fun x hx e=>by rw[List.mem_singleton] at e;subst e;exact h0.dj _ (zDJ k) hx)) ⟨h0.H.r,h0.H.sp,h0.H.c,h0.H.st,h0.H.dn,h0.H.rb,h0.H.sb,h0.H.cb,h0.H.mo⟩ c (fun x hx=>by rw[List.mem_singleton] at hx;subst hx;exact .inr (h0.ow _ (zDJ k))) h0.ow
theorem RW.setRan{w wr:World}{k:QB}{kk:Va.RB}{a:Option Addr}{cap:Nat}{l:List Nat}{q:HQ}{h:HS Va.MS}(h0:RW w wr k kk a cap l q h)(v:Int):RW w (wr.setCell ⟨k.h,22,none⟩ (.int .i64 v)) k kk a cap l { q with ran:=v } h:=
 have c:zJ [k.h] wr (wr.setCell ⟨k.h,22,none⟩ (.int .i64 v)):=(zJ.refl _ _).set aC _ _
 h0.step (h0.qw.setRan v) (h0.m.keep (vC c) (fun x hx e=>by rw[List.mem_singleton] at e;subst e;exact h0.dj _ (zDJ k) hx)) ⟨h0.H.r,h0.H.sp,h0.H.c,h0.H.st,h0.H.dn,h0.H.rb,h0.H.sb,h0.H.cb,h0.H.mo⟩ c (fun x hx=>by rw[List.mem_singleton] at hx;subst hx;exact .inr (h0.ow _ (zDJ k))) h0.ow
def zHV(w:World)(k:QB)(kk:Va.RB)(a:Option Addr)(cap:Nat)(l:List Nat)(q:HQ)(h h1:HS Va.MS)(x:Cd):Prop:=∀ W,RW w W k kk a cap l q h→Calls Try.prog 35 #[.pointer (some ⟨k.h,0,none⟩),cdV x] W fun e w'=>e=.returned (.agg (lfC 0 0 0 0 0 0))∧∃ k' q',k'.h=k.h∧RW w w' k' kk a cap l q' h1∧q'.at_=q.at_∧q'.ran=q.ran
def zJ9(w:World)(k:QB)(kk:Va.RB)(a:Option Addr)(cap:Nat)(l:List Nat)(q:HQ)(h h1:HS Va.MS)(x:Cd)(ex:Ex):Prop:=∀ W,RW w W k kk a cap l q h→Calls Try.prog 35 #[.pointer (some ⟨k.h,0,none⟩),cdV x] W fun e w'=>e=.returned (.agg (lfC (km ex.kind) ex.sk ex.arg ex.pc ex.n 0))∧∃ q',RW w w' k kk a cap l q' h1
theorem zKE{k:QB}{kk:Va.RB}{n:Nat}(h:∀ x∈k.own,n < x):∀ x∈k.own++kk.all,x∈kk.all∨n < x:=fun x hx=>by
 rcases List.mem_append.1 hx with e|e
 ·exact .inr (h x e)
 ·exact .inl e
theorem zMz(w:World)(k:QB)(kk:Va.RB)(a:Option Addr)(cap:Nat)(l:List Nat)(q:HQ)(h h1:HS Va.MS)(x:Cd)(hx:zAz x)(h96:x.op≠96)(hkx:x.k < 4294967296)(hh:yD yY x h=.go h1):zHV w k kk a cap l q h h1 x:=fun W hW=>by
 refine(zGF k kk _ q h x W hx h96 hkx (by rw[hh];intro e;cases e) hW.qw hW.m hW.H hW.dj).mono ?_
 intro e w' hs
 rw[hh] at hs
 obtain⟨rfl,q',hq',hm',H',e1,e2,hc⟩:=hs
 exact⟨rfl,k,q',rfl,hW.step hq' hm' H' hc (zKE hW.ow) hW.ow,e1,e2⟩
theorem zMA(w:World)(k:QB)(kk:Va.RB)(a:Option Addr)(cap:Nat)(l:List Nat)(q:HQ)(h h1:HS Va.MS)(x:Cd)(ex:Ex)(hx:zAz x)(h96:x.op≠96)(hkx:x.k < 4294967296)(hh:yD yY x h=.out ex h1):zJ9 w k kk a cap l q h h1 x ex:=fun W hW=>by
 refine(zGF k kk _ q h x W hx h96 hkx (by rw[hh];intro e;cases e) hW.qw hW.m hW.H hW.dj).mono ?_
 intro e w' hs
 rw[hh] at hs
 obtain⟨rfl,q',hq',hm',H',hc⟩:=hs
 exact⟨rfl,q',hW.step hq' hm' H' hc (zKE hW.ow) hW.ow⟩
def hs0(c:Nat→Nat)(s:Va.MS):HS Va.MS:=⟨fun _=>none,fun _=>none,c,s⟩
theorem stepG_enter(w:World)(k:QB)(kk:Va.RB)(a:Option Addr)(cap:Nat)(l:List Nat)(q:HQ)(c:Nat→Nat)(s:Va.MS)(count:Int)(pc:Nat)(ht:Va.zAi s=false)(c0:0≤count)(c1:count≤64)(hl:q.left=count)(hr:q.ran < 1048576):zHV w k kk a cap l q (hs0 c s) (hs0 c s) (vQ count pc):=fun W hW=>by
 have hd:=hW.H.dn
 refine(zHQ k _ _ (.pointer (some ⟨kk.y,0,none⟩)) q 0 0 0 0 count pc 0 W hW.qw (by rw[hd];omega) (by rw[hd];omega) (fun W' hc=>?_) (by rw[hd,hl];omega) (by rw[hd,hl];omega) (by rw[hd,hl];omega) hr).mono ?_
 ·have h1:=Va.zBC kk s W' (hW.m.keep (vC hc) (fun _ _=>by simp))
  rw[ht] at h1;exact h1
 ·rintro e w' ⟨rfl,⟨k',hk',ho,hq'⟩,hc⟩
  have hkh:=hW.ow _ (zDJ k)
  refine⟨rfl,k',_,hk',hW.step hq' (hW.m.keep (vC hc) (fun x hx e=>by rw[List.mem_singleton] at e;subst e;exact hW.dj _ (zDJ k) hx)) ⟨fun i u e=>(by cases e),fun i u e=>(by cases e),hW.H.c,hW.H.st,hd,fun i u e=>(by cases e),fun i u e=>(by cases e),hW.H.cb,hW.H.mo⟩ hc (fun x hx=>by rw[List.mem_singleton] at hx;subst hx;exact .inr hkh) (fun x hx=>?_),rfl,rfl⟩
  have:=ltb hW.b2
  rcases ho x hx with e|e
  ·rw[e];exact hkh
  ·omega
def zEZ(l:List Nat)(ex:Ex)(h' h:HS Va.MS)(at' gk:Nat):Prop:=∃ xs,zFu l at' xs∧(∀ x∈xs,zAz x∧x.op≠96)∧uF yY xs h=.out ex h'∧xs.length≤gk
theorem zIj{l:List Nat}{a:Nat}{xs:List Cd}(h:zFu l a xs):a≤l.length:=by
 cases h with
 | done=>exact Nat.le_refl _
 | step _ x xs h=>exact Nat.le_of_lt h
structure Nx(w:World)(k:QB)(kk:Va.RB)(a:Option Addr)(cap:Nat)(l:List Nat)(q:HQ)(h h':HS Va.MS)(ex:Ex)(at' gk:Nat)(x:Cd)(n:Nat):Prop where
 de:(yB (uP l) l.length at').e=0
 dx:(yB (uP l) l.length at').x=x
 dn:(yB (uP l) l.length at').n=n
 le:at'+n≤l.length
 n0:0 < n
 st:(∃ h1 g,zHV w k kk a cap l { q with at_:=((at':Int)+n) } h h1 x∧g < gk∧zEZ l ex h' h1 (at'+n) g)∨zJ9 w k kk a cap l { q with at_:=((at':Int)+n) } h h' x ex
theorem zSj(w:World)(k:QB)(kk:Va.RB)(a:Option Addr)(cap:Nat)(l:List Nat)(q:HQ)(h h':HS Va.MS)(ex:Ex)(at' gk:Nat)(hl:∀ i,uP l i < 4294967296)(hA:zEZ l ex h' h at' gk):∃ x n,Nx w k kk a cap l q h h' ex at' gk x n:=by
 obtain⟨xs,hL,hF,hr,hg⟩:=hA
 cases hL with
 | done=>cases hr
 | step _ x xs h1 h2 h3 h4 h5=>
  have hx:=hF x aC
  have hk:x.k < 4294967296:=by rw[← h3];exact zPg _ _ _ hl
  refine⟨x,_,h2,h3,rfl,zIj h5,h4,?_⟩
  simp only[uF] at hr
  cases hh:yD yY x h with
  | go h1'=>
   rw[hh] at hr
   exact .inl ⟨h1',xs.length,zMz _ _ _ _ _ _ _ _ _ _ hx.1 hx.2 hk hh,hg,xs,h5,fun y hy=>hF y (aM _ hy),hr,Nat.le_refl _⟩
  | out e1 h1'=>
   rw[hh] at hr
   cases hr
   exact .inr (zMA _ _ _ _ _ _ _ _ _ _ _ hx.1 hx.2 hk hh)
  | stuck=>rw[hh] at hr;cases hr
structure RL(w wr:World)(kk:Va.RB)(a:Option Addr)(cap:Nat)(l:List Nat)(h':HS Va.MS)(ex:Ex)(gk:Nat)(k:QB)(q:HQ)(h:HS Va.MS)(at':Nat):Prop where
 rw_:RW w wr k kk a cap l q h
 at_:q.at_=at'
 r0:0≤q.ran
 r1:q.ran≤at'
 nx:∃ x n,Nx w k kk a cap l q h h' ex at' gk x n
theorem lfk(e:Int):(km e==0)=false:=by unfold km;split<;>(try split)<;>decide
theorem hp4(w:World)(o1 o2 o3 o4:Obj):((((w.alloc o1).alloc o2).alloc o3).alloc o4).heap[w.heap.size+1]?=some o2∧((((w.alloc o1).alloc o2).alloc o3).alloc o4).heap[w.heap.size+1+1]?=some o3∧((((w.alloc o1).alloc o2).alloc o3).alloc o4).heap[w.heap.size+1+1+1]?=some o4:=by
 refine⟨?_,?_,?_⟩
 ·show((((w.heap.push o1).push o2).push o3).push o4)[w.heap.size+1]?=some o2
  rw[Array.getElem?_push,if_neg aS,Array.getElem?_push,if_neg aS,Array.getElem?_push,if_pos aS]
 ·show((((w.heap.push o1).push o2).push o3).push o4)[w.heap.size+1+1]?=some o3
  rw[Array.getElem?_push,if_neg aS,Array.getElem?_push,if_pos aS]
 ·show((((w.heap.push o1).push o2).push o3).push o4)[w.heap.size+1+1+1]?=some o4
  rw[Array.getElem?_push,if_pos aS]
def hqR(K:QB)(ws mp:Value)(q:HQ)(o:Nat):Value:=if 18≤o∧o≤21 then .slice none 0 0 else hqF K ws (.slice none 0 0) mp q o
abbrev hq0(c:Nat→Nat)(count:Int):HQ:=⟨c,0,count,0,0,fun _=>0,fun _=>false,fun _=>0,fun _=>false,false⟩
theorem zRh(K:QB){W:World}{B:Nat}{ws mp:Value}{c:Nat→Nat}{count:Int}(h:W.heap[B]?=some (.cells #[ws,.int .i64 0,.int .u32 (c 0),.int .u32 (c 1),.int .u32 (c 2),.int .u32 (c 3),.int .u32 (c 4),.int .u32 (c 5),.int .u32 (c 6),.int .u32 (c 7),.int .u32 (c 8),.int .u32 (c 9),.int .u32 (c 10),.int .u32 (c 11),mp,.int .i64 count,.int .i64 0,.slice none 0 0,.slice none 0 0,.slice none 0 0,.slice none 0 0,.slice none 0 0,.int .i64 0,.bool false] 97)):BC 24 W B (hqR K ws mp (hq0 c count)):=
 ⟨fun o ho=>(yI h o).trans (match o,ho with
  | 0,_|1,_|2,_|3,_|4,_|5,_|6,_|7,_|8,_|9,_|10,_|11,_|12,_|13,_|14,_|15,_|16,_|17,_|18,_|19,_|20,_|21,_|22,_|23,_=>rfl
  | m+24,h=>absurd h aO),fun o=>fro h o,ltb h⟩
theorem zMq{w w1:World}{kk:Va.RB}{a:Option Addr}{cap:Nat}{l:List Nat}{c:Nat→Nat}{s:Va.MS}{count:Int}{k:QB}{o1 o4:Obj}
  (hq:QW w1 k (.slice a l.length cap) (.slice none 0 0) (.pointer (some ⟨kk.y,0,none⟩)) (hq0 c count)) (hc:zJ [w.heap.size+1+1+1] ((((w.alloc o1).alloc (.cells #[.int .u32 0,.int .u32 0,.int .u32 0,.int .u32 0,.int .u32 0,.int .u32 0,.int .u32 0,.int .u32 0,.int .u32 0,.int .u32 0,.int .u32 0,.int .u32 0] 27)).alloc (.cells (lfC 0 0 0 0 0 0) 48)).alloc o4) w1) (hk:∀ x∈k.own,w.heap.size+1+1 < x)
  (hp:∀ W,zJ [] w W→Wds W a l.length cap (uP l)∧Va.RM W kk s) (H:uW (hq0 c count) (hs0 c s)) (hkl:∀ x∈kk.y :: kk.all,x < w.heap.size) (hwl:∃ b off,a=some ⟨b,off,none⟩∧b < w.heap.size∧b∉kk.all):RW w w1 k kk a cap l (hq0 c count) (hs0 c s):=by
 have h4:=hp4 w o1 (.cells #[.int .u32 0,.int .u32 0,.int .u32 0,.int .u32 0,.int .u32 0,.int .u32 0,.int .u32 0,.int .u32 0,.int .u32 0,.int .u32 0,.int .u32 0,.int .u32 0] 27) (.cells (lfC 0 0 0 0 0 0) 48) o4
 have c0:zJ [] w ((((w.alloc o1).alloc (.cells #[.int .u32 0,.int .u32 0,.int .u32 0,.int .u32 0,.int .u32 0,.int .u32 0,.int .u32 0,.int .u32 0,.int .u32 0,.int .u32 0,.int .u32 0,.int .u32 0] 27)).alloc (.cells (lfC 0 0 0 0 0 0) 48)).alloc o4):=((((zJ.refl _ _).alloc _).alloc _).alloc _).alloc _
 have c1:zJ [] w w1:=c0.into hc (fun x hx=>by rw[List.mem_singleton] at hx;exact .inr aO)
 exact⟨hq,(hp w1 c1).2,H,(hp w1 c1).1,(hc.block _ (ltb h4.1) aS).trans h4.1,(hc.block _ (ltb h4.2.1) aS).trans h4.2.1,c1.mono aS,hk,hkl,.inr hwl⟩
theorem zSd(count bytes:Int)(n:Nat)(f:Nat→zL)(h:(yH count bytes n f).1=0)(hk:∀ v,v < n→(f v).k < 4294967296)(regs pc:Nat)(h3:3≤regs)(h16:regs≤16)(hpc:pc < 4294967296)(c:Nat→Nat)(s:Va.MS) :
  ∃ (l:List Nat),(vW f n regs count pc n).l=l∧2≤l.length∧l.length≤140737488355328∧(∀ y∈l,y < 4294967296)∧(yB (uP l) l.length ((0:Nat):Int)).e=0∧(yB (uP l) l.length ((0:Nat):Int)).x=vQ count pc∧(yB (uP l) l.length ((0:Nat):Int)).n=2∧
  ∃ (j:Nat) (e:Ex) (h':HS Va.MS) (g:Nat),j < n∧(Va.zBx f n 0 ⟨c,s,fun _=>0⟩).2.2=(j:Int)∧zEZ l e h' (hs0 c s) 2 g∧h'.c=(Va.zBx f n 0 ⟨c,s,fun _=>0⟩).1.c∧h'.m=(Va.zBx f n 0 ⟨c,s,fun _=>0⟩).1.s∧ExM e (Va.zBx f n 0 ⟨c,s,fun _=>0⟩).2.1 (f j).kind:=by
 obtain⟨hB,hW,c0,c1⟩:=zGZ count bytes n f h hk
 have hf:=(zGq count bytes n f h).2
 have hl:=zOY f n regs count pc n
 have hee:=zFf count pc c0 c1
 rw[hee] at hl
 obtain⟨d1,d2,d3⟩:=zIY count pc c0 c1 (yT (zAY f n regs count pc n))
 have hx:=zIe f n regs count pc hB aO hW n aL
 have hfit:=zFc hB hW regs count pc hf c1 aO h16 n aL
 have hno:=zGn hB hW regs count pc n aL
 have hlie:=zJ5 (zAY f n regs count pc n) hfit [1+count.toNat*65536,pc]
 obtain⟨j,e,h',hj,b1,b2,b3,b4,b5⟩:=zIS count bytes n f h hk regs pc h3 h16 c s
 refine⟨_,hl,by simp,?_,?_,d1,d2,d3,j,e,h',_,hj,b1,⟨_,hlie,fun x hx=>⟨hfit x hx,hno x hx⟩,b2,Nat.le_refl _⟩,b3,b4,b5⟩
 ·obtain⟨r,e1,e2,e3⟩:=hx
  rw[← hl,e1,hee,List.length_append]
  have:=hB.hn
  simp only[List.length_cons,List.length_nil]
  omega
 ·obtain⟨r,e1,e2,e3⟩:=hx
  rw[← hl,e1,hee]
  intro y hy
  rcases List.mem_append.1 hy with hy|hy
  ·simp only[List.mem_cons,List.not_mem_nil,or_false] at hy
   rcases hy with rfl|rfl
   ·omega
   ·exact hpc
  ·exact e2.small y hy
end Go.Proofs.Ytkmjenjahbicpaa.Ho
