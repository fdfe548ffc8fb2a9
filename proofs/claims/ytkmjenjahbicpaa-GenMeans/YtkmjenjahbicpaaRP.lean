import Derived.Test.YtkmjenjahbicpaaTC
set_option linter.unusedVariables false
set_option linter.unusedSimpArgs false
set_option maxHeartbeats 8000000
namespace Go.Proofs.Ytkmjenjahbicpaa.Ho
open Go.RowKit
set_option maxRecDepth 100000
theorem zGH{w:World}{b:Nat}(h:w.heap[b]?=some (.cells #[.int .u32 0,.int .u32 0,.int .u32 0,.int .u32 0,.int .u32 0,.int .u32 0,.int .u32 0,.int .u32 0,.int .u32 0,.int .u32 0,.int .u32 0,.int .u32 0] 27)):w.there b 0 12:=fun j hj=>by
 refine⟨?_,fro h _⟩
 rw[yI h]
 simp only[Nat.zero_add]
 rw[Array.getElem?_eq_getElem (by simpa using hj)]
 rfl
theorem zSk(c:Nat→Nat):∀ v∈[Value.int IntKind.u32 (c 0),Value.int IntKind.u32 (c 1),Value.int IntKind.u32 (c 2),Value.int IntKind.u32 (c 3),Value.int IntKind.u32 (c 4),Value.int IntKind.u32 (c 5),Value.int IntKind.u32 (c 6),Value.int IntKind.u32 (c 7),Value.int IntKind.u32 (c 8),Value.int IntKind.u32 (c 9),Value.int IntKind.u32 (c 10),Value.int IntKind.u32 (c 11)],v.oneCell'=true:=by
 intro v hv
 simp only[List.mem_cons,List.not_mem_nil,or_false] at hv
 rcases hv with rfl|rfl|rfl|rfl|rfl|rfl|rfl|rfl|rfl|rfl|rfl|rfl<;>rfl
theorem zMt(w:World)(b o:Nat)(vs:List Value)(x:Addr)(h:¬x.block=b):(w.setCells b o vs).cell? x=w.cell? x:=World.cell?_setCells_out b vs o w x (fun e=>absurd e h)
theorem zMu(w:World)(b o:Nat)(vs:List Value)(x:Addr):(w.setCells b o vs).frozen? x=w.frozen? x:=World.frozen?_setCells b vs o w x
theorem zEB(w:World)(b o:Nat)(vs:List Value):(w.setCells b o vs).heap.size=w.heap.size:=by
 induction vs generalizing o w with
 | nil=>rfl
 | cons v vs ih=>exact(ih _ (o+1)).trans aS
theorem zF2{S:List Nat}{a w:World}{b:Nat}(h:zJ S a w)(hb:b∈S)(o:Nat)(vs:List Value):zJ S a (w.setCells b o vs):=by
 induction vs generalizing o w with
 | nil=>exact h
 | cons v vs ih=>exact ih (h.set hb _ _) (o+1)
structure FN(w wx:World)(kk:Va.RB)(a:Option Addr)(cap:Nat)(l:List Nat)(q2:HQ)(h':HS Va.MS)(ex:Ex)(D:Nat)(at':Int)(k:QB):Prop where
 rw_:RW w wx k kk a cap l q2 h'
 bD:wx.heap[D]?=some (.cells (lfC (km ex.kind) ex.sk ex.arg ex.pc ex.n at') 48)
 lD:w.heap.size+1+1 < D
structure FV(w V wx:World)(q2:HQ)(ex:Ex)(B D:Nat)(at':Int):Prop where
 m:∀ j:Fin 12,V.cell? ⟨w.heap.size+1,j.val,none⟩=some (.int .u32 (q2.c j.val))
 ch:zJ [w.heap.size+1] wx V
 nB:w.heap.size+1+1 < B
 nD:w.heap.size+1+1 < D
 bl:B < V.heap.size
 s:V.rangeAt B 2 [.int .u32 (q2.c 0),.int .u32 (q2.c 1),.int .u32 (q2.c 2),.int .u32 (q2.c 3),.int .u32 (q2.c 4),.int .u32 (q2.c 5),.int .u32 (q2.c 6),.int .u32 (q2.c 7),.int .u32 (q2.c 8),.int .u32 (q2.c 9),.int .u32 (q2.c 10),.int .u32 (q2.c 11)]∧V.cell? ⟨D,0,none⟩=some (.int .i64 (km ex.kind))∧V.cell? ⟨D,1,none⟩=some (.int .i64 ex.sk)∧V.cell? ⟨D,2,none⟩=some (.int .u32 ex.arg)∧V.cell? ⟨D,3,none⟩=some (.int .u32 ex.pc)∧V.cell? ⟨D,4,none⟩=some (.int .i64 ex.n)∧V.cell? ⟨D,5,none⟩=some (.int .i64 at')
 kl:D < V.heap.size
 y0:V.cell? ⟨w.heap.size+1+1,0,none⟩=some (.int .i64 0)
 y1:V.cell? ⟨w.heap.size+1+1,1,none⟩=some (.int .i64 0)
 y2:V.cell? ⟨w.heap.size+1+1,2,none⟩=some (.int .u32 0)
 y3:V.cell? ⟨w.heap.size+1+1,3,none⟩=some (.int .u32 0)
 y4:V.cell? ⟨w.heap.size+1+1,4,none⟩=some (.int .i64 0)
 y5:V.cell? ⟨w.heap.size+1+1,5,none⟩=some (.int .i64 0)
 yf:∀ o,V.frozen? ⟨w.heap.size+1+1,o,none⟩=false
 yl:w.heap.size+1+1 < V.heap.size
theorem zTp{w wx:World}{kk:Va.RB}{a:Option Addr}{cap:Nat}{l:List Nat}{q2:HQ}{h':HS Va.MS}{ex:Ex}{D:Nat}{at':Int}{k:QB}(h:FN w wx kk a cap l q2 h' ex D at' k):FV w (wx.drew.setCells (w.heap.size+1) 0 [.int .u32 (q2.c 0),.int .u32 (q2.c 1),.int .u32 (q2.c 2),.int .u32 (q2.c 3),.int .u32 (q2.c 4),.int .u32 (q2.c 5),.int .u32 (q2.c 6),.int .u32 (q2.c 7),.int .u32 (q2.c 8),.int .u32 (q2.c 9),.int .u32 (q2.c 10),.int .u32 (q2.c 11)]) wx q2 ex k.h D at':=by
 have hk:=h.rw_.ow _ (zDJ k)
 have hd:=h.lD
 have far:∀ X o,X≠w.heap.size+1→(wx.drew.setCells (w.heap.size+1) 0 [.int .u32 (q2.c 0),.int .u32 (q2.c 1),.int .u32 (q2.c 2),.int .u32 (q2.c 3),.int .u32 (q2.c 4),.int .u32 (q2.c 5),.int .u32 (q2.c 6),.int .u32 (q2.c 7),.int .u32 (q2.c 8),.int .u32 (q2.c 9),.int .u32 (q2.c 10),.int .u32 (q2.c 11)]).cell? ⟨X,o,none⟩=wx.cell? ⟨X,o,none⟩:=fun X o hX=>(zMt _ _ _ _ _ hX).trans rfl
 have e2:=fun o=>(far (w.heap.size+1+1) o aO).trans (yI h.rw_.b2 o)
 have eD:=fun o=>(far D o aO).trans (yI h.bD o)
 have hth:wx.drew.there (w.heap.size+1) 0 12:=(World.there_drew _ _ _ _).2 (zGH h.rw_.b1)
 have hsame:=World.rangeAt_setCells_same wx.drew (w.heap.size+1) 0 [.int .u32 (q2.c 0),.int .u32 (q2.c 1),.int .u32 (q2.c 2),.int .u32 (q2.c 3),.int .u32 (q2.c 4),.int .u32 (q2.c 5),.int .u32 (q2.c 6),.int .u32 (q2.c 7),.int .u32 (q2.c 8),.int .u32 (q2.c 9),.int .u32 (q2.c 10),.int .u32 (q2.c 11)] hth
 refine⟨fun j=>?_,zF2 ((zJ.refl _ _).drew) aC _ _,hk,hd,by rw[zEB];exact h.rw_.qw.h.lt,⟨World.rangeAt_setCells_apart ((World.rangeAt_drew _ _ _ _).2 (zGe q2 h.rw_.qw rfl)) _ _ _ (.inl aO),eD 0,eD 1,eD 2,eD 3,eD 4,eD 5⟩,?_,e2 0,e2 1,e2 2,e2 3,e2 4,e2 5,fun o=>(zMu _ _ _ _ _).trans (fro h.rw_.b2 o),?_⟩
 ·have h1:=hsame j.val (.int .u32 (q2.c j.val)) (by
   obtain⟨j,hj⟩:=j
   match j,hj with
   | 0,_|1,_|2,_|3,_|4,_|5,_|6,_|7,_|8,_|9,_|10,_|11,_=>rfl
   | m+12,h=>omega)
  rw[Nat.zero_add] at h1;exact h1
 ·rw[zEB];exact ltb h.bD
 ·rw[zEB];exact ltb h.rw_.b2
theorem zKQ{P:Program}{md:Region.Mode}{ops:Array Oper}{Q:Exit→Act→World→Prop}{S:World→Prop}{fuel:Nat}{ls:Array Bool}{a:Act}{W:World}(p:World→Prop)(h:p W)(k:∀ w',p w'→wpAnyH P md ops Q S fuel ls a w'):wpAnyH P md ops Q S fuel ls a W:=k W h
theorem FV.nx{w V V' wx:World}{q2:HQ}{ex:Ex}{B D:Nat}{at':Int}(h:FV w V wx q2 ex B D at')(c:zJ [w.heap.size+1+1] V V'):V'.rangeAt B 2 [.int .u32 (q2.c 0),.int .u32 (q2.c 1),.int .u32 (q2.c 2),.int .u32 (q2.c 3),.int .u32 (q2.c 4),.int .u32 (q2.c 5),.int .u32 (q2.c 6),.int .u32 (q2.c 7),.int .u32 (q2.c 8),.int .u32 (q2.c 9),.int .u32 (q2.c 10),.int .u32 (q2.c 11)]∧V'.cell? ⟨D,0,none⟩=some (.int .i64 (km ex.kind))∧V'.cell? ⟨D,1,none⟩=some (.int .i64 ex.sk)∧V'.cell? ⟨D,2,none⟩=some (.int .u32 ex.arg)∧V'.cell? ⟨D,3,none⟩=some (.int .u32 ex.pc)∧V'.cell? ⟨D,4,none⟩=some (.int .i64 ex.n)∧V'.cell? ⟨D,5,none⟩=some (.int .i64 at'):=by
 have hB:B∉[w.heap.size+1+1]:=by have:=h.nB;simp;omega
 have hD:D∉[w.heap.size+1+1]:=by have:=h.nD;simp;omega
 have cB:=fun o=>World.cell?_of_block (w:=V) (a:=⟨B,o,none⟩) (c.block B h.bl hB)
 have cD:=fun o=>World.cell?_of_block (w:=V) (a:=⟨D,o,none⟩) (c.block D h.kl hD)
 obtain⟨s0,s1,s2,s3,s4,s5,s6⟩:=h.s
 exact⟨fun j v hv=>(cB _).trans (s0 j v hv),(cD 0).trans s1,(cD 1).trans s2,(cD 2).trans s3,(cD 3).trans s4,(cD 4).trans s5,(cD 5).trans s6⟩
theorem zJ.trans'{a b:Nat}{u v x:World}(h:zJ [a] u v)(k:zJ [b] v x):zJ [a,b] u x:=(h.mono aS).trans (k.mono aS)
theorem FN.fin{w wx:World}{kk:Va.RB}{a:Option Addr}{cap:Nat}{l:List Nat}{q2:HQ}{h':HS Va.MS}{ex:Ex}{D:Nat}{at':Int}{k:QB}(h:FN w wx kk a cap l q2 h' ex D at' k){V:World}(c:zJ [w.heap.size+1,w.heap.size+1+1] wx V):Va.RM V kk h'.m∧zJ kk.all w V:=
 ⟨h.rw_.m.keep (vC c) (fun x hx e=>by have:=h.rw_.kl x hx;simp at e;omega),h.rw_.ch.into c (fun x hx=>by simp at hx;exact .inr aO)⟩
theorem zDd(a:Option Addr)(cap:Nat)(c:Nat→Nat)(kk:Va.RB)(s:Va.MS)(count:Int)(w:World)(l:List Nat)(ex:Ex)(h':HS Va.MS)(pc g:Nat)
  (hw:Wds w a l.length cap (uP l)) (hr:Va.RM w kk s) (hs:s.Ok) (hc:Va.zC3 c) (ht:Va.zAi s=false) (hc0:0≤count) (hc1:count≤64)
  (wl:∃ b off,a=some ⟨b,off,none⟩∧b < w.heap.size∧b∉kk.all) (hl:∀ i,uP l i < 4294967296)
  (he:(yB (uP l) l.length ((0:Nat):Int)).e=0) (hx:(yB (uP l) l.length ((0:Nat):Int)).x=vQ count pc) (hn:(yB (uP l) l.length ((0:Nat):Int)).n=2) (hA:zEZ l ex h' (hs0 c s) 2 g) :
  Calls Try.prog 9 #[.slice a l.length cap,.int .i64 0,Va.cxV c,.pointer (some ⟨kk.y,0,none⟩),.int .i64 count,.slice none 0 0] w fun r w'=>(∃ at',r=.returned (.tuple #[Va.cxV h'.c,.agg (lfC (km ex.kind) ex.sk ex.arg ex.pc ex.n at')]))∧Va.RM w' kk h'.m∧zJ kk.all w w':=by
 have hkl:∀ x∈kk.y :: kk.all,x < w.heap.size:=hr.lt
 have HA0:Hid _:=hA
 have HDE:Hid _:=he
 have HDX:Hid _:=hx
 have HDN:Hid _:=hn
 have HLL:Hid (∀ i,uP l i < 4294967296):=hl
 have hlen:l.length≤140737488355328:=by
  rcases hw with h0|⟨_,_,_,_,h0,_⟩
  ·omega
  ·exact h0
 have h2l:2≤l.length:=by
  obtain⟨xs,hL,-⟩:=hA
  exact zIj hL
 have HLEN:Hid (l.length≤140737488355328):=hlen
 have H2L:Hid (2≤l.length):=h2l
 have HT:Hid _:=ht
 have HC0:Hid _:=hc0
 have HC1:Hid _:=hc1
 have HP:Hid (∀ W,zJ [] w W→Wds W a l.length cap (uP l)∧Va.RM W kk s):=show ∀ W,zJ [] w W→_ from fun W hW=>⟨zF0 hw hW (.inr (by obtain⟨b,off,e,-,-⟩:=wl;exact⟨b,off,e,by simp⟩)),hr.keep (vC hW) (fun _ _=>by simp)⟩
 have HWL:Hid _:=wl
 have HKL:Hid _:=hkl
 have HH0:Hid (uW (hq0 c count) (hs0 c s)):=⟨fun i u e=>(by cases e),fun i u e=>(by cases e),rfl,rfl,rfl,fun i u e=>(by cases e),fun i u e=>(by cases e),hc,hs⟩
 have HIE:Hid (isE (uP l) l.length 0=true):=show isE (uP l) l.length 0=true by unfold isE;rw[decide_eq_true (show(yB (uP l) l.length 0).e=0 from he),show(yB (uP l) l.length 0).x=vQ count pc from hx];rfl
 clear hA he hx hn hl hlen h2l ht hc0 hc1 hw hr wl hkl hc hs
 go_enter Try.func9,Try.ntmps9
 go_upto_region 2 with fail
 have H4:Hid _:=hp4 w
 go_upto_region 3 with (go_at_call 32;refine Calls.mono (zGl ⟨w.heap.size+1+1+1,0,0,0,0⟩ (.slice a l.length cap) (.slice none 0 0) (.pointer (some ⟨kk.y,0,none⟩)) (hq0 c count) _ _ (zRh ⟨w.heap.size+1+1+1,0,0,0,0⟩ (H4.out _ _ _ _).2.2) (fun o ho=>if_neg aO)) ?_;rintro e w1 ⟨rfl,hq1,hcc1⟩;have HW1:Hid (∃ k:QB,k.h=w.heap.size+1+1+1∧RW w w1 k kk a cap l (hq0 c count) (hs0 c s)):=⟨_,rfl,zMq hq1 hcc1 (fun x hx=>by simp[QB.own] at hx;omega) HP.out HH0.out HKL.out HWL.out⟩;clear hq1 hcc1)
 obtain⟨⟨kh,kr,kg,ks,kd⟩,hk,hW⟩:=HW1.out
 clear HW1 HP H4 HH0
 simp only at hk
 subst hk
 have HW:Hid _:=hW
 clear hW
 go_wp2_with (go_at_call 33;refine Calls.mono (zHI ⟨w.heap.size+1+1+1,kr,kg,ks,kd⟩ a l.length cap (.slice none 0 0) (.pointer (some ⟨kk.y,0,none⟩)) (hq0 c count) 0 (uP l) _ HW.out.qw HW.out.wd) ?_;rintro e w2 ⟨rfl,hb2⟩;rw[show isE (uP l) l.length 0=true from HIE.out];have HW2:Hid _:=HW.out.bel hb2;clear hb2)
 clear HW
 go_loopg [18] (g+1) (fun gk _ wr=>∃ (k:QB) (q:HQ) (h:HS Va.MS) (at':Nat),k.h=w.heap.size+1+1+1∧RL w wr kk a cap l h' ex gk k q h at')
 case atStart=>
  exact⟨_,_,_,0,rfl,HW2.out,rfl,Int.le_refl _,Int.le_refl _,vQ count pc,2,HDE.out,HDX.out,HDN.out,H2L.out,by decide,.inl ⟨hs0 c s,g,stepG_enter _ _ _ _ _ _ _ c s count pc HT.out HC0.out HC1.out rfl (by show(0:Int) < 1048576;decide),Nat.lt_succ_self _,HA0.out⟩⟩
 case round=>
  clear HW2 HDE HDX HDN HA0 HIE
  obtain⟨⟨kh,kr,kg,ks,kd⟩,q,h,at',hk,hW,hat,r0,r1,x,n,hN⟩:=hrel
  simp only at hk
  subst hk
  have HW:Hid _:=hW
  have HDE:Hid _:=hN.de
  have HDX:Hid _:=hN.dx
  have HDN:Hid _:=hN.dn
  have hle:=hN.le
  have hle2:=HLEN.out
  have c1:wr.cell? ⟨w.heap.size+1+1+1,1,none⟩=some (.int .i64 at'):=(hW.qw.h.c 1 aO).trans (by show some (Value.int .i64 q.at_)=_;rw[hat])
  have lh:w.heap.size+1+1+1 < wr.heap.size:=hW.qw.h.lt
  have s0:(0:Int)≤(at':Int)+n:=aO
  have s1:(at':Int)+n≤9223372036854775807:=aO
  have HR0:Hid _:=r0
  have HR1:Hid _:=r1
  have HN0:Hid _:=hN.n0
  have HLE:Hid _:=hle
  have yD:=hN.st
  clear hW hN hle hle2 r0 r1
  rcases yD with ⟨h1,gg,hG,hlt,hAh⟩|hO
  ·have HG:Hid (zHV _ _ _ _ _ _ _ _ _ _):=hG
   have HLT:Hid _:=hlt
   have HAH:Hid (zEZ _ _ _ _ _ _):=hAh
   clear hG hlt hAh
   go_wp2_with first
    | (go_at_call 34;refine Calls.mono (zCD a l.length cap at' (uP l) _ HW.out.wd) ?_;rintro e w2 ⟨rfl,hb2⟩;rw[HDE.out,HDX.out,HDN.out];have HW2:Hid (RW w w2 ⟨w.heap.size+1+1+1,kr,kg,ks,kd⟩ kk a cap l q h):=HW.out.bel hb2;have e1:w2.cell? ⟨w.heap.size+1+1+1,1,none⟩=some (.int .i64 at'):=(HW2.out.qw.h.c 1 aO).trans (by show some (Value.int .i64 q.at_)=_;rw[hat]);have ef:w2.frozen? ⟨w.heap.size+1+1+1,1,none⟩=false:=HW2.out.qw.h.fz 1;have el:w.heap.size+1+1+1 < w2.heap.size:=HW2.out.qw.h.lt;have el2:=Nat.lt_succ_of_lt el;clear hb2 c1 lh)
    | (go_at_call 35;refine Calls.mono (HG.out _ ?_) ?_;(focus(first|exact(HW2.out.al _).setAt _|exact(HW2.out.setAt _).al _));rintro e w3 ⟨rfl,⟨kh',kr',kg',ks',kd'⟩,q',hk',hW3,e3,e4⟩;simp only at hk' e3 e4;subst hk';have HW3:Hid _:=hW3;have f23:w3.cell? ⟨w.heap.size+1+1+1,23,none⟩=some (.bool false):=(hW3.qw.h.c 23 aO).trans (by show some (Value.bool q'.stuck)=_;rw[hW3.H.st]);have f22:w3.cell? ⟨w.heap.size+1+1+1,22,none⟩=some (.int .i64 q.ran):=(hW3.qw.h.c 22 aO).trans (by show some (Value.int .i64 q'.ran)=_;rw[e4]);have ff:w3.frozen? ⟨w.heap.size+1+1+1,22,none⟩=false:=hW3.qw.h.fz 22;have fl:w.heap.size+1+1+1 < w3.heap.size:=hW3.qw.h.lt;have fl2:=Nat.lt_succ_of_lt fl;have rr0:0≤q.ran+1:=(by have:=HR0.out;omega);have rr1:q.ran+1≤9223372036854775807:=(by have:=HR1.out;have:=HLEN.out;have:=HLE.out;omega);have HE3:Hid _:=e3;clear hW3 e3 e4 e1 ef el el2)
   go_roundg gg
   case measure=>exact HLT.out
   case rel=>
    refine⟨⟨w.heap.size+1+1+1,kr',kg',ks',kd'⟩,{ q' with ran:=q.ran+1 },h1,at'+n,rfl,?_,(show q'.at_=((at'+n:Nat):Int) by rw[HE3.out];omega),rr0,(show q.ran+1≤((at'+n:Nat):Int) by have:=HR1.out;have:=HN0.out;omega),zSj _ _ _ _ _ _ _ _ _ _ _ _ HLL.out HAH.out⟩
    first|exact(HW3.out.al _).setRan _|exact(HW3.out.setRan _).al _
  ·have HO:Hid (zJ9 _ _ _ _ _ _ _ _ _ _ _):=hO
   have HKM:(km ex.kind==0)=false:=lfk ex.kind
   clear hO
   go_upto_region 15 with first
    | (go_at_call 34;refine Calls.mono (zCD a l.length cap at' (uP l) _ HW.out.wd) ?_;rintro e w2 ⟨rfl,hb2⟩;rw[HDE.out,HDX.out,HDN.out];have HW2:Hid (RW w w2 ⟨w.heap.size+1+1+1,kr,kg,ks,kd⟩ kk a cap l q h):=HW.out.bel hb2;have e1:w2.cell? ⟨w.heap.size+1+1+1,1,none⟩=some (.int .i64 at'):=(HW2.out.qw.h.c 1 aO).trans (by show some (Value.int .i64 q.at_)=_;rw[hat]);have ef:w2.frozen? ⟨w.heap.size+1+1+1,1,none⟩=false:=HW2.out.qw.h.fz 1;have el:w.heap.size+1+1+1 < w2.heap.size:=HW2.out.qw.h.lt;have el2:=Nat.lt_succ_of_lt el;clear hb2 c1 lh)
    | (go_at_call 35;refine Calls.mono (HO.out _ ?_) ?_;(focus(first|exact(HW2.out.al _).setAt _|exact(HW2.out.setAt _).al _));rintro e w3 ⟨rfl,q2,hW3⟩;have HW3:Hid _:=hW3;have f23:w3.cell? ⟨w.heap.size+1+1+1,23,none⟩=some (.bool false):=(hW3.qw.h.c 23 aO).trans (by show some (Value.bool q2.stuck)=_;rw[hW3.H.st]);have fl:w.heap.size+1+1+1 < w3.heap.size:=hW3.qw.h.lt;have fl2:=Nat.lt_succ_of_lt fl;clear hW3 e1 ef el el2)
   refine zI (fun W'=>FN w W' kk a cap l q2 h' ex w3.heap.size (at':Int) ⟨w.heap.size+1+1+1,kr,kg,ks,kd⟩) ⟨HW3.out.al _,heap_alloc_last _ _,Nat.lt_of_lt_of_le (ltb HW3.out.b2) aL⟩ ?_
   intro wx hF
   generalize w3.heap.size=D at hF ⊢
   have HF:Hid _:=hF
   have gr:wx.rangeAt (w.heap.size+1+1+1) 2 [.int .u32 (q2.c 0),.int .u32 (q2.c 1),.int .u32 (q2.c 2),.int .u32 (q2.c 3),.int .u32 (q2.c 4),.int .u32 (q2.c 5),.int .u32 (q2.c 6),.int .u32 (q2.c 7),.int .u32 (q2.c 8),.int .u32 (q2.c 9),.int .u32 (q2.c 10),.int .u32 (q2.c 11)]:=zGe q2 hF.rw_.qw rfl
   have g0:wx.cell? ⟨D,0,none⟩=some (.int .i64 (km ex.kind)):=yI hF.bD 0
   have g1:wx.cell? ⟨D,1,none⟩=some (.int .i64 ex.sk):=yI hF.bD 1
   have g2:wx.cell? ⟨D,2,none⟩=some (.int .u32 ex.arg):=yI hF.bD 2
   have g3:wx.cell? ⟨D,3,none⟩=some (.int .u32 ex.pc):=yI hF.bD 3
   have g4:wx.cell? ⟨D,4,none⟩=some (.int .i64 ex.n):=yI hF.bD 4
   have g5:wx.cell? ⟨D,5,none⟩=some (.int .i64 at'):=yI hF.bD 5
   have gl:=ltb hF.bD
   have gm:w.heap.size+1+1+1 < wx.heap.size:=hF.rw_.qw.h.lt
   have U27:=u27
   have I27:(Try.prog.info? 27).map (·.size)=some ([.int .u32 (q2.c 0),.int .u32 (q2.c 1),.int .u32 (q2.c 2),.int .u32 (q2.c 3),.int .u32 (q2.c 4),.int .u32 (q2.c 5),.int .u32 (q2.c 6),.int .u32 (q2.c 7),.int .u32 (q2.c 8),.int .u32 (q2.c 9),.int .u32 (q2.c 10),.int .u32 (q2.c 11)]:List Value).length:=i27
   have I27':(Try.prog.info? 27).map (·.size)=some ([.int .u32 (q2.c 0),.int .u32 (q2.c 1),.int .u32 (q2.c 2),.int .u32 (q2.c 3),.int .u32 (q2.c 4),.int .u32 (q2.c 5),.int .u32 (q2.c 6),.int .u32 (q2.c 7),.int .u32 (q2.c 8),.int .u32 (q2.c 9),.int .u32 (q2.c 10),.int .u32 (q2.c 11)]:List Value).toArray.size:=i27
   have hth:wx.drew.there (w.heap.size+1) 0 12:=(World.there_drew _ _ _ _).2 (zGH hF.rw_.b1)
   clear hF fl fl2 f23
   have hV:=zTp HF.out
   refine wp_region_held_drew (S:=fun W'=>W'.rangeAt (w.heap.size+1+1+1) 2 [.int .u32 (q2.c 0),.int .u32 (q2.c 1),.int .u32 (q2.c 2),.int .u32 (q2.c 3),.int .u32 (q2.c 4),.int .u32 (q2.c 5),.int .u32 (q2.c 6),.int .u32 (q2.c 7),.int .u32 (q2.c 8),.int .u32 (q2.c 9),.int .u32 (q2.c 10),.int .u32 (q2.c 11)]∧W'.cell? ⟨D,0,none⟩=some (.int .i64 (km ex.kind))∧W'.cell? ⟨D,1,none⟩=some (.int .i64 ex.sk)∧W'.cell? ⟨D,2,none⟩=some (.int .u32 ex.arg)∧W'.cell? ⟨D,3,none⟩=some (.int .u32 ex.pc)∧W'.cell? ⟨D,4,none⟩=some (.int .i64 ex.n)∧W'.cell? ⟨D,5,none⟩=some (.int .i64 at')) (by kernel_rfl) (by simp[go_sem,gr,g0,g1,g2,g3,g4,g5,gl,gm]) (fun hHeld=>?_)
   refine wpAnyH_take (i:=0) (oi:=_) (v:=?v0) rfl (by kernel_rfl) (by kernel_rfl) (by kernel_rfl) (fun _ _ _ h=>h) (Or.inl ⟨by rfl,?hy0⟩) (by assumption) ?rest0
   case hy0=>(intro w hSw;(try dsimp only at hSw);go_simp;(try with_reducible rfl))
   simp only[Act.put,aP]
   refine wpAnyH_take (i:=1) (oi:=_) (v:=?v1) rfl (by kernel_rfl) (by kernel_rfl) (by kernel_rfl) (fun _ _ _ h=>h) (Or.inl ⟨by rfl,?hy1⟩) (by assumption) ?rest1
   case hy1=>(intro w hSw;(try dsimp only at hSw);go_simp;(try with_reducible rfl))
   simp only[Act.put,aP]
   refine wpAnyH_take (i:=2) (oi:=_) (v:=?v2) rfl (by kernel_rfl) (by kernel_rfl) (by kernel_rfl) (fun _ _ _ h=>h) (Or.inl ⟨by rfl,?hy2⟩) (by assumption) ?rest2
   case hy2=>(intro w hSw;(try dsimp only at hSw);go_simp;(try with_reducible rfl))
   simp only[Act.put,aP]
   refine wpAnyH_take (i:=3) (oi:=_) (v:=_) rfl (by kernel_rfl) (by kernel_rfl) (by kernel_rfl) (fun _ _ _ h=>h) (yieldsIf_load_mid (by rfl) _ _ rfl _ _ rfl _ _ (fun w hSw=>hSw.1) U27 rfl I27) (by assumption) ?rest3
   simp only[Act.put,aP]
   refine wpAnyH_take (i:=4) (oi:=_) (v:=?v4) rfl (by kernel_rfl) (by kernel_rfl) (by kernel_rfl) (fun _ _ _ h=>h) (Or.inl ⟨by rfl,?hy4⟩) (by assumption) ?rest4
   case hy4=>(intro w hSw;(try dsimp only at hSw);go_simp;(try with_reducible rfl))
   simp only[Act.put,aP]
   refine wpAnyH_ready (rs:=[5]) (by kernel_rfl) aS ?_
   refine AllReadyH.cons (o:=_) rfl (fun K hK=>?_) AllReadyH.nil
   rw[if_pos (by rfl)]
   refine wp_store_mid 27 _ _ rfl (w.heap.size+1) 0 ([.int .u32 (q2.c 0),.int .u32 (q2.c 1),.int .u32 (q2.c 2),.int .u32 (q2.c 3),.int .u32 (q2.c 4),.int .u32 (q2.c 5),.int .u32 (q2.c 6),.int .u32 (q2.c 7),.int .u32 (q2.c 8),.int .u32 (q2.c 9),.int .u32 (q2.c 10),.int .u32 (q2.c 11)]:List Value).toArray rfl rfl hth I27' (all_oneCell_toArray (zSk q2.c)) ?_
   refine hK.out _ _ hV.s (fun hHeld=>?_)
   clear hK K hHeld
   simp only[Act.put,aP]
   refine zKQ (fun W'=>FV w W' wx q2 ex (w.heap.size+1+1+1) D (at':Int)) hV ?_
   clear hV hth gr g0 g1 g2 g3 g4 g5 gl gm U27 I27 I27' hHeld
   intro V hV
   have HV:Hid _:=hV
   have y0:=hV.y0;have y1:=hV.y1;have y2:=hV.y2;have y3:=hV.y3;have y4:=hV.y4;have y5:=hV.y5;have yf:=hV.yf;have yl:=hV.yl;have kl:=hV.kl
   have m0:V.cell? ⟨w.heap.size+1,0,none⟩=some (.int .u32 (q2.c 0)):=hV.m 0;have m1:V.cell? ⟨w.heap.size+1,1,none⟩=some (.int .u32 (q2.c 1)):=hV.m 1;have m2:V.cell? ⟨w.heap.size+1,2,none⟩=some (.int .u32 (q2.c 2)):=hV.m 2;have m3:V.cell? ⟨w.heap.size+1,3,none⟩=some (.int .u32 (q2.c 3)):=hV.m 3;have m4:V.cell? ⟨w.heap.size+1,4,none⟩=some (.int .u32 (q2.c 4)):=hV.m 4;have m5:V.cell? ⟨w.heap.size+1,5,none⟩=some (.int .u32 (q2.c 5)):=hV.m 5;have m6:V.cell? ⟨w.heap.size+1,6,none⟩=some (.int .u32 (q2.c 6)):=hV.m 6;have m7:V.cell? ⟨w.heap.size+1,7,none⟩=some (.int .u32 (q2.c 7)):=hV.m 7;have m8:V.cell? ⟨w.heap.size+1,8,none⟩=some (.int .u32 (q2.c 8)):=hV.m 8;have m9:V.cell? ⟨w.heap.size+1,9,none⟩=some (.int .u32 (q2.c 9)):=hV.m 9;have m10:V.cell? ⟨w.heap.size+1,10,none⟩=some (.int .u32 (q2.c 10)):=hV.m 10;have m11:V.cell? ⟨w.heap.size+1,11,none⟩=some (.int .u32 (q2.c 11)):=hV.m 11
   have ml:w.heap.size+1 < V.heap.size:=aO
   have hHeld:=hV.s
   clear hV
   refine wpAnyH_ready (rs:=[6]) (by kernel_rfl) aS ?_
   refine AllReadyH.cons (o:=_) rfl (fun K hK=>?_) AllReadyH.nil
   go_simp
   refine hK.out _ _ ?_ (fun hHeld=>?_)
   ·exact HV.out.nx ((((((((zJ.refl [w.heap.size+1+1] V).set aC _ _).set aC _ _).set aC _ _).set aC _ _).set aC _ _).set aC _ _))
   clear hK K hHeld
   (try simp only[Act.put,aP])
   refine wpAnyH_done (by kernel_rfl) ?_ _
   go_wp2
   have he:=HF.out.rw_.H.c
   exact bodyPost_ret (v:=.tuple #[Va.cxV h'.c,.agg (lfC (km ex.kind) ex.sk ex.arg ex.pc ex.n at')]) (by rw[← he];simp[results,Try.results9,go_sem,m0,m1,m2,m3,m4,m5,m6,m7,m8,m9,m10,m11,ml,y0,y1,y2,y3,y4,y5,yl,yf]) rfl ⟨⟨_,rfl⟩,HF.out.fin (HV.out.ch.trans' ((((((((zJ.refl [w.heap.size+1+1] V).set aC _ _).set aC _ _).set aC _ _).set aC _ _).set aC _ _).set aC _ _)))⟩
end Go.Proofs.Ytkmjenjahbicpaa.Ho
