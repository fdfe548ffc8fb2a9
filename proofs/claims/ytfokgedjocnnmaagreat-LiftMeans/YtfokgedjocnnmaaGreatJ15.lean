import Derived.Test.YtfokgedjocnnmaaGreatJ11
import Derived.Test.YtfokgedjocnnmaaGreatJ12
import Derived.Test.YtfokgedjocnnmaaGreatJ13
import Derived.Test.YtfokgedjocnnmaaGreatJ14
set_option linter.unusedVariables false
set_option linter.unusedSimpArgs false
set_option maxHeartbeats 2000000
namespace Go.Proofs.YtfokgedjocnnmaaGreat.Gu
open Go.RowKit
def combos:List (Int × Int × Int):=[(0,0,0),(0,0,1),(0,0,2),(0,0,3),(0,1,0),(0,1,2),(0,3,0),(0,4,0),(0,4,2),(1,0,2),(1,0,3),(1,2,2),(1,2,3),(1,4,0),(1,4,2),(2,0,0),(3,0,0),(3,0,3)]
def chR(regs:Int):List Int:=if regs=1 then [101] else if regs=2 then [100] else if regs=3 then [99] else if regs=4 then [112] else []
def chI(imm:Int):List Int:=if imm=1 then [98] else if imm=2 then [115] else if imm=3 then [119] else []
def s0F(field low:Int):St:=⟨1,if field=3 then low else 0,if field=2 then low else 0,if field=1 then low else 0,0⟩
def rd(zs:List Int)(first field regs imm:Int):St:=(chR regs++chI imm).foldl (stp zs) (s0F field (zs.getD 0 0 - first))
theorem read_any(b off n cap:Nat)(zs:List Int)(w:World)(hr:Row w b off n cap zs)(op first count field regs imm:Int)(hc:(field,regs,imm)∈combos)(hn:sizeN regs imm≤n)
  (o0:0≤op) (o1:op≤255) (f0:0≤first) (f1:first≤255) :
  Calls Tryz.prog 71 #[.agg #[.int .u8 op,.int .u8 first,.int .u8 count,.int .u8 field,.int .u8 regs,.int .u8 imm],.slice (some ⟨b,off,none⟩) n cap] w
   fun e w'=>e=.returned (.agg #[.int .i64 op,.int .i64 (rd zs first field regs imm).D,.int .i64 (rd zs first field regs imm).S,.int .i64 (rd zs first field regs imm).O,.int .u32 (rd zs first field regs imm).imm])∧Below w.heap.size w w':=by
 have hm:(n:Int)≤9223372036854775807:=by have:=hr.max;have:=hr.le;unfold maxLen at *;omega
 have hle:=hr.le
 simp only[combos,List.mem_cons,Prod.mk.injEq,List.not_mem_nil,or_false] at hc
 rcases hc with ⟨rfl,rfl,rfl⟩|⟨rfl,rfl,rfl⟩|⟨rfl,rfl,rfl⟩|⟨rfl,rfl,rfl⟩|⟨rfl,rfl,rfl⟩|⟨rfl,rfl,rfl⟩|⟨rfl,rfl,rfl⟩|⟨rfl,rfl,rfl⟩|⟨rfl,rfl,rfl⟩|⟨rfl,rfl,rfl⟩|⟨rfl,rfl,rfl⟩|⟨rfl,rfl,rfl⟩|⟨rfl,rfl,rfl⟩|⟨rfl,rfl,rfl⟩|⟨rfl,rfl,rfl⟩|⟨rfl,rfl,rfl⟩|⟨rfl,rfl,rfl⟩|⟨rfl,rfl,rfl⟩
 ·have hn':(1:Int)≤n:=hn
  exact read_000 b off n cap (zs.getD 0 0) w hr.lt hn' hm op first count o0 o1 f0 f1 (hr.cell 0 zo) (hr.bd 0).1 (hr.bd 0).2
 ·have hn':(2:Int)≤n:=hn
  exact read_001 b off n cap (zs.getD 0 0) (zs.getD 1 0) w hr.lt hn' hm op first count o0 o1 f0 f1 (hr.cell 0 zo) (hr.cell 1 zo) (hr.bd 0).1 (hr.bd 0).2 (hr.bd 1).1 (hr.bd 1).2
 ·have hn':(2:Int)≤n:=hn
  exact read_002 b off n cap (zs.getD 0 0) (zs.getD 1 0) w hr.lt hn' hm op first count o0 o1 f0 f1 (hr.cell 0 zo) (hr.cell 1 zo) (hr.bd 0).1 (hr.bd 0).2 (hr.bd 1).1 (hr.bd 1).2
 ·have hn':(5:Int)≤n:=hn
  exact read_003 b off n cap (zs.getD 0 0) (zs.getD 1 0) (zs.getD 2 0) (zs.getD 3 0) (zs.getD 4 0) w hr.lt hn' hm op first count o0 o1 f0 f1 (hr.cell 0 zo) (hr.cell 1 zo) (hr.cell 2 zo) (hr.cell 3 zo) (hr.cell 4 zo) (hr.bd 0).1 (hr.bd 0).2 (hr.bd 1).1 (hr.bd 1).2 (hr.bd 2).1 (hr.bd 2).2 (hr.bd 3).1 (hr.bd 3).2 (hr.bd 4).1 (hr.bd 4).2
 ·have hn':(2:Int)≤n:=hn
  exact read_010 b off n cap (zs.getD 0 0) (zs.getD 1 0) w hr.lt hn' hm op first count o0 o1 f0 f1 (hr.cell 0 zo) (hr.cell 1 zo) (hr.bd 0).1 (hr.bd 0).2 (hr.bd 1).1 (hr.bd 1).2
 ·have hn':(3:Int)≤n:=hn
  exact read_012 b off n cap (zs.getD 0 0) (zs.getD 1 0) (zs.getD 2 0) w hr.lt hn' hm op first count o0 o1 f0 f1 (hr.cell 0 zo) (hr.cell 1 zo) (hr.cell 2 zo) (hr.bd 0).1 (hr.bd 0).2 (hr.bd 1).1 (hr.bd 1).2 (hr.bd 2).1 (hr.bd 2).2
 ·have hn':(2:Int)≤n:=hn
  exact read_030 b off n cap (zs.getD 0 0) (zs.getD 1 0) w hr.lt hn' hm op first count o0 o1 f0 f1 (hr.cell 0 zo) (hr.cell 1 zo) (hr.bd 0).1 (hr.bd 0).2 (hr.bd 1).1 (hr.bd 1).2
 ·have hn':(2:Int)≤n:=hn
  exact read_040 b off n cap (zs.getD 0 0) (zs.getD 1 0) w hr.lt hn' hm op first count o0 o1 f0 f1 (hr.cell 0 zo) (hr.cell 1 zo) (hr.bd 0).1 (hr.bd 0).2 (hr.bd 1).1 (hr.bd 1).2
 ·have hn':(3:Int)≤n:=hn
  exact read_042 b off n cap (zs.getD 0 0) (zs.getD 1 0) (zs.getD 2 0) w hr.lt hn' hm op first count o0 o1 f0 f1 (hr.cell 0 zo) (hr.cell 1 zo) (hr.cell 2 zo) (hr.bd 0).1 (hr.bd 0).2 (hr.bd 1).1 (hr.bd 1).2 (hr.bd 2).1 (hr.bd 2).2
 ·have hn':(2:Int)≤n:=hn
  exact read_102 b off n cap (zs.getD 0 0) (zs.getD 1 0) w hr.lt hn' hm op first count o0 o1 f0 f1 (hr.cell 0 zo) (hr.cell 1 zo) (hr.bd 0).1 (hr.bd 0).2 (hr.bd 1).1 (hr.bd 1).2
 ·have hn':(5:Int)≤n:=hn
  exact read_103 b off n cap (zs.getD 0 0) (zs.getD 1 0) (zs.getD 2 0) (zs.getD 3 0) (zs.getD 4 0) w hr.lt hn' hm op first count o0 o1 f0 f1 (hr.cell 0 zo) (hr.cell 1 zo) (hr.cell 2 zo) (hr.cell 3 zo) (hr.cell 4 zo) (hr.bd 0).1 (hr.bd 0).2 (hr.bd 1).1 (hr.bd 1).2 (hr.bd 2).1 (hr.bd 2).2 (hr.bd 3).1 (hr.bd 3).2 (hr.bd 4).1 (hr.bd 4).2
 ·have hn':(3:Int)≤n:=hn
  exact read_122 b off n cap (zs.getD 0 0) (zs.getD 1 0) (zs.getD 2 0) w hr.lt hn' hm op first count o0 o1 f0 f1 (hr.cell 0 zo) (hr.cell 1 zo) (hr.cell 2 zo) (hr.bd 0).1 (hr.bd 0).2 (hr.bd 1).1 (hr.bd 1).2 (hr.bd 2).1 (hr.bd 2).2
 ·have hn':(6:Int)≤n:=hn
  exact read_123 b off n cap (zs.getD 0 0) (zs.getD 1 0) (zs.getD 2 0) (zs.getD 3 0) (zs.getD 4 0) (zs.getD 5 0) w hr.lt hn' hm op first count o0 o1 f0 f1 (hr.cell 0 zo) (hr.cell 1 zo) (hr.cell 2 zo) (hr.cell 3 zo) (hr.cell 4 zo) (hr.cell 5 zo) (hr.bd 0).1 (hr.bd 0).2 (hr.bd 1).1 (hr.bd 1).2 (hr.bd 2).1 (hr.bd 2).2 (hr.bd 3).1 (hr.bd 3).2 (hr.bd 4).1 (hr.bd 4).2 (hr.bd 5).1 (hr.bd 5).2
 ·have hn':(2:Int)≤n:=hn
  exact read_140 b off n cap (zs.getD 0 0) (zs.getD 1 0) w hr.lt hn' hm op first count o0 o1 f0 f1 (hr.cell 0 zo) (hr.cell 1 zo) (hr.bd 0).1 (hr.bd 0).2 (hr.bd 1).1 (hr.bd 1).2
 ·have hn':(3:Int)≤n:=hn
  exact read_142 b off n cap (zs.getD 0 0) (zs.getD 1 0) (zs.getD 2 0) w hr.lt hn' hm op first count o0 o1 f0 f1 (hr.cell 0 zo) (hr.cell 1 zo) (hr.cell 2 zo) (hr.bd 0).1 (hr.bd 0).2 (hr.bd 1).1 (hr.bd 1).2 (hr.bd 2).1 (hr.bd 2).2
 ·have hn':(1:Int)≤n:=hn
  exact read_200 b off n cap (zs.getD 0 0) w hr.lt hn' hm op first count o0 o1 f0 f1 (hr.cell 0 zo) (hr.bd 0).1 (hr.bd 0).2
 ·have hn':(1:Int)≤n:=hn
  exact read_300 b off n cap (zs.getD 0 0) w hr.lt hn' hm op first count o0 o1 f0 f1 (hr.cell 0 zo) (hr.bd 0).1 (hr.bd 0).2
 ·have hn':(5:Int)≤n:=hn
  exact read_303 b off n cap (zs.getD 0 0) (zs.getD 1 0) (zs.getD 2 0) (zs.getD 3 0) (zs.getD 4 0) w hr.lt hn' hm op first count o0 o1 f0 f1 (hr.cell 0 zo) (hr.cell 1 zo) (hr.cell 2 zo) (hr.cell 3 zo) (hr.cell 4 zo) (hr.bd 0).1 (hr.bd 0).2 (hr.bd 1).1 (hr.bd 1).2 (hr.bd 2).1 (hr.bd 2).2 (hr.bd 3).1 (hr.bd 3).2 (hr.bd 4).1 (hr.bd 4).2
theorem row_combos:∀ k:Fin 32,(tg k.val 3,tg k.val 4,tg k.val 5)∈combos:=by decide +kernel
theorem row_bd:∀ k:Fin 32,0≤tg k.val 0∧tg k.val 0≤255∧0≤tg k.val 1∧tg k.val 1≤255∧0≤tg k.val 5∧tg k.val 5≤3∧1≤sizeN (tg k.val 4) (tg k.val 5)∧sizeN (tg k.val 4) (tg k.val 5)≤6:=by decide +kernel
theorem hitB_lt{x:Int}{k:Nat}(h:hitB x=some k):k < 32:=by
 have:=List.mem_of_find?_eq_some h
 simpa using this
theorem Row.later{w w':World}{b off len cap:Nat}{zs:List Int}(h:Row w b off len cap zs)(hb:Below w.heap.size w w')(n:Nat)(hn:n≤len):Row w' b off n cap zs:=
 ⟨Nat.le_trans hn h.le,h.max,fun i hi=>(hb.cell (p:=⟨b,off+i,none⟩) h.lt).trans (h.cell i zo),h.bd,Nat.lt_of_lt_of_le h.lt hb.size⟩
def rdK(zs:List Int)(k:Nat):St:=rd zs (tg k 1) (tg k 3) (tg k 4) (tg k 5)
def guestDec(zs:List Int)(len:Nat):DecR:=
 if len=0 then decErr 1 else
  match hitB (zs.getD 0 0) with
  | none=>decErr 2
  | some k=>
   if(len:Int) < sizeN (tg k 4) (tg k 5) then decErr 1
   else if 7 < (rdK zs k).D∨7 < (rdK zs k).S then decErr 3
   else⟨tg k 0,(rdK zs k).D,(rdK zs k).S,(rdK zs k).O,(rdK zs k).imm,sizeN (tg k 4) (tg k 5),0⟩
set_option maxRecDepth 100000 in
theorem dec_ok(b off len cap:Nat)(zs:List Int)(w:World)(hr:Row w b off len cap zs)(hl:0 < len)(k:Nat)(hk:hitB (zs.getD 0 0)=some k)(hn:sizeN (tg k 4) (tg k 5)≤len) :
  Calls Tryz.prog 44 #[.slice (some ⟨b,off,none⟩) len cap] w fun e w'=>e=.returned (decV (guestDec zs len))∧Below w.heap.size w w':=by
 have hres:guestDec zs len=if 7 < (rdK zs k).D∨7 < (rdK zs k).S then decErr 3 else⟨tg k 0,(rdK zs k).D,(rdK zs k).S,(rdK zs k).O,(rdK zs k).imm,sizeN (tg k 4) (tg k 5),0⟩:=by
  unfold guestDec
  rw[if_neg zo,hk]
  simp only
  rw[if_neg zo]
 have HRES:Hid (guestDec zs len=if 7 < (rdK zs k).D∨7 < (rdK zs k).S then decErr 3 else⟨tg k 0,(rdK zs k).D,(rdK zs k).S,(rdK zs k).O,(rdK zs k).imm,sizeN (tg k 4) (tg k 5),0⟩):=hres
 clear hres
 have hc0:w.cell? ⟨b,off,none⟩=some (.int .u8 (zs.getD 0 0)):=by simpa using hr.cell 0 hl
 have hmax:=hr.max
 have hle:=hr.le
 have hblt:=hr.lt
 unfold maxLen at hmax
 have hlt:=hitB_lt hk
 obtain⟨q0,q1,q2,q3,q4,q5,q6,q7⟩:=row_bd ⟨k,hlt⟩
 have hco:=row_combos ⟨k,hlt⟩
 simp only at q0 q1 q2 q3 q4 q5 q6 q7 hco
 have hne:((len:Int)==0)=false:=by simp;omega
 have hpos:(0:Int) < (len:Int):=zo
 obtain⟨n,hnn⟩:=Int.eq_ofNat_of_zero_le (show(0:Int)≤sizeN (tg k 4) (tg k 5) by omega)
 have hn1:(n:Int)≤len:=zo
 have hn2:(n:Int)≤cap:=zo
 have hn0:(0:Int)≤n:=zo
 have hshort:decide ((len:Int) < n)=false:=by simp;omega
 have HR:Hid (∀ w',Below w.heap.size w w'→Calls Tryz.prog 71 #[.agg #[.int .u8 (tg k 0),.int .u8 (tg k 1),.int .u8 (tg k 2),.int .u8 (tg k 3),.int .u8 (tg k 4),.int .u8 (tg k 5)],.slice (some ⟨b,off,none⟩) n cap] w'
   fun e w''=>e=.returned (.agg #[.int .i64 (tg k 0),.int .i64 (rdK zs k).D,.int .i64 (rdK zs k).S,.int .i64 (rdK zs k).O,.int .u32 (rdK zs k).imm])∧Below w'.heap.size w' w''):=
  fun w' hb=>read_any b off n cap zs w' (hr.later hb n zo) (tg k 0) (tg k 1) (tg k 2) (tg k 3) (tg k 4) (tg k 5) hco zo q0 q1 q2 q3
 generalize rdK zs k=st at HR HRES
 obtain⟨sa,D,S,O,im⟩:=st
 simp only at HR HRES
 have e0:rg (hitB (zs.getD 0 0)) 0=tg k 0:=by rw[hk];rfl
 have e1:rg (hitB (zs.getD 0 0)) 1=tg k 1:=by rw[hk];rfl
 have e2:rg (hitB (zs.getD 0 0)) 2=tg k 2:=by rw[hk];rfl
 have e3:rg (hitB (zs.getD 0 0)) 3=tg k 3:=by rw[hk];rfl
 have e4:rg (hitB (zs.getD 0 0)) 4=tg k 4:=by rw[hk];rfl
 have e5:rg (hitB (zs.getD 0 0)) 5=tg k 5:=by rw[hk];rfl
 have es:(hitB (zs.getD 0 0)).isSome=true:=by rw[hk];rfl
 clear hk hn
 generalize zs.getD 0 0=y at e0 e1 e2 e3 e4 e5 es hc0
 go_enter Tryz.func44,Tryz.ntmps44
 go_wp2_with (first|(go_at_call 69;refine(rowOfByte_any _ _).mono ?_;rintro e w1 ⟨rfl,hb1⟩;rw[es];unfold rowV;rw[e0,e1,e2,e3,e4,e5])|(go_at_call 70;refine(size_any _ _ _ _ _ _ _ q4 q5).mono ?_;rintro e w2 ⟨rfl,hb2⟩;rw[hnn]))
 have s1:=hb1.size
 have s2:=hb2.size
 simp only[World.size_alloc] at s1 s2
 have hR2:=(hb2.block w1.heap.size (by simp)).trans (heap_alloc_last w1 _)
 have hT2:w2.heap[w.heap.size]?=some (insB 0 0 0 0 0):=(hb2.block w.heap.size zq12).trans ((Below.heap_alloc w1 _ w.heap.size zo).trans ((hb1.block w.heap.size (by simp)).trans (heap_alloc_last w _)))
 have hB2:Below w.heap.size w w2:=(((Below.refl _ _).alloc (Nat.le_refl _) _).trans (hb1.mono (by simp))).trans (((Below.refl _ _).alloc zo _).trans (hb2.mono zq12))
 have r0:=cell_of_row _ _ 0 _ _ _ hR2
 have r1:=cell_of_row _ _ 1 _ _ _ hR2
 have r2:=cell_of_row _ _ 2 _ _ _ hR2
 have r3:=cell_of_row _ _ 3 _ _ _ hR2
 have r4:=cell_of_row _ _ 4 _ _ _ hR2
 have r5:=cell_of_row _ _ 5 _ _ _ hR2
 simp at r0 r1 r2 r3 r4 r5
 have hw12:w1.heap.size < w2.heap.size:=zo
 clear hb1 hb2 hR2
 go_region_with (go_at_call 71;refine(HR.out _ ?_).mono ?_;(focus(first|exact hB2.drew|exact hB2.drew.alloc (by show w.heap.size≤w2.heap.size;omega) _|exact(hB2.alloc zo _).drew));rintro e w3 ⟨rfl,hb3⟩;obtain⟨hc3,hf3⟩:=bcell hb3;have hz3:=hb3.size;simp only[World.size_alloc,World.size_drew] at hc3 hf3 hz3;have hB3:Below w.heap.size w w3:=(by first|exact hB2.trans (((Below.refl _ _).drew).trans (hb3.mono (by simp only[World.size_drew];omega)))|exact hB2.trans ((((Below.refl _ _).alloc zo _).drew).trans (hb3.mono (by simp only[World.size_alloc,World.size_drew];omega)))|exact hB2.trans ((((Below.refl _ _).drew).alloc (by simp only[World.size_drew];omega) _).trans (hb3.mono (by simp only[World.size_alloc,World.size_drew];omega))));clear hb3)
 all_goals
  obtain⟨t0,t1,t2,t3,t4⟩:=ins_cells hT2
  obtain⟨tz0,tz1,tz2,tz3,tz4⟩:=ins_frozen hT2
  have hzw:w.heap.size < w2.heap.size:=zo
  have hzz:w.heap.size < w3.heap.size:=zo
  have hnq:¬w2.heap.size=w.heap.size:=zo
  have hnq':¬w.heap.size=w2.heap.size:=zo
  have hzx:w.heap.size < w2.heap.size+1:=zo
  clear hT2
  by_cases hD:7 < D
  ·go_wp2
   refine bodyPost_ret (v:=decV (decErr 3)) (by simp[results,Tryz.results44,go_sem,t0,t1,t2,t3,t4,decErr,hzz,hzw,hzx,hnq,hnq',hc3]) rfl ⟨by rw[HRES.out,if_pos (Or.inl hD)],?_⟩
   repeat(first|with_reducible exact hB3|with_reducible refine Below.drew ?_|with_reducible refine Below.alloc ?_ zq34 _|with_reducible refine Below.setCell ?_ zq28 _)
  ·by_cases hS:7 < S
   ·go_wp2
    refine bodyPost_ret (v:=decV (decErr 3)) (by simp[results,Tryz.results44,go_sem,t0,t1,t2,t3,t4,decErr,hzz,hzw,hzx,hnq,hnq',hc3]) rfl ⟨by rw[HRES.out,if_pos (Or.inr hS)],?_⟩
    repeat(first|with_reducible exact hB3|with_reducible refine Below.drew ?_|with_reducible refine Below.alloc ?_ zq34 _|with_reducible refine Below.setCell ?_ zq28 _)
   ·go_wp2
    refine bodyPost_ret (v:=decV ⟨tg k 0,D,S,O,im,n,0⟩) (by simp[results,Tryz.results44,go_sem,t0,t1,t2,t3,t4,hzz,hzw,hzx,hnq,hnq',hc3]) rfl ⟨by rw[HRES.out,if_neg zo,hnn],?_⟩
    repeat(first|with_reducible exact hB3|with_reducible refine Below.drew ?_|with_reducible refine Below.alloc ?_ zq34 _|with_reducible refine Below.setCell ?_ zq28 _)
set_option maxRecDepth 100000 in
theorem dec_any(b off len cap:Nat)(zs:List Int)(w:World)(hr:Row w b off len cap zs)(hl:0 < len) :
  Calls Tryz.prog 44 #[.slice (some ⟨b,off,none⟩) len cap] w fun e w'=>e=.returned (decV (guestDec zs len))∧Below w.heap.size w w':=by
 have hc0:w.cell? ⟨b,off,none⟩=some (.int .u8 (zs.getD 0 0)):=by simpa using hr.cell 0 hl
 have hmax:=hr.max
 have hle:=hr.le
 have hblt:=hr.lt
 have hne:((len:Int)==0)=false:=by simp;omega
 have hpos:(0:Int) < (len:Int):=zo
 unfold maxLen at hmax
 cases hk:hitB (zs.getD 0 0) with
 | some k=>
  by_cases hn:sizeN (tg k 4) (tg k 5)≤len
  ·exact dec_ok b off len cap zs w hr hl k hk hn
  ·have hres:guestDec zs len=decErr 1:=by
    unfold guestDec
    rw[if_neg zo,hk]
    simp only
    rw[if_pos zo]
   rw[hres]
   have hlt:=hitB_lt hk
   obtain⟨q0,q1,q2,q3,q4,q5,q6,q7⟩:=row_bd ⟨k,hlt⟩
   simp only at q0 q1 q2 q3 q4 q5 q6 q7
   have e4:rg (hitB (zs.getD 0 0)) 4=tg k 4:=by rw[hk];rfl
   have e5:rg (hitB (zs.getD 0 0)) 5=tg k 5:=by rw[hk];rfl
   have es:(hitB (zs.getD 0 0)).isSome=true:=by rw[hk];rfl
   have hshort:decide ((len:Int) < sizeN (tg k 4) (tg k 5))=true:=by simp;omega
   clear hk hres
   generalize zs.getD 0 0=y at e4 e5 es hc0
   go_enter Tryz.func44,Tryz.ntmps44
   go_wp2_with (first|(go_at_call 69;refine(rowOfByte_any _ _).mono ?_;rintro e w1 ⟨rfl,hb1⟩;rw[es];unfold rowV;rw[e4,e5])|(go_at_call 70;refine(size_any _ _ _ _ _ _ _ q4 q5).mono ?_;rintro e w2 ⟨rfl,hb2⟩;have s1:=hb1.size;simp only[World.size_alloc] at s1;have hT2:w2.heap[w.heap.size]?=some (insB 0 0 0 0 0):=(hb2.block w.heap.size zq12).trans ((Below.heap_alloc w1 _ w.heap.size zo).trans ((hb1.block w.heap.size (by simp)).trans (heap_alloc_last w _)));obtain⟨t0,t1,t2,t3,t4⟩:=ins_cells hT2;obtain⟨tz0,tz1,tz2,tz3,tz4⟩:=ins_frozen hT2))
   have hB2:Below w.heap.size w w2:=(((Below.refl _ _).alloc (Nat.le_refl _) _).trans (hb1.mono (by simp))).trans (((Below.refl _ _).alloc zo _).trans (hb2.mono zq12))
   refine bodyPost_ret (v:=decV (decErr 1)) (by simp[results,Tryz.results44,go_sem,t0,t1,t2,t3,t4,decErr]) rfl ⟨rfl,?_⟩
   exact((((hB2.setCell (by simp) _).setCell (by simp) _).setCell (by simp) _).setCell (by simp) _).setCell (by simp) _
 | none=>
  have hres:guestDec zs len=decErr 2:=by
   unfold guestDec
   rw[if_neg zo,hk]
  rw[hres]
  have es:(hitB (zs.getD 0 0)).isSome=false:=by rw[hk];rfl
  clear hk hres
  generalize zs.getD 0 0=y at es hc0
  go_enter Tryz.func44,Tryz.ntmps44
  go_wp2_with (go_at_call 69;refine(rowOfByte_any _ _).mono ?_;rintro e w1 ⟨rfl,hb1⟩;rw[es];have s1:=hb1.size;simp only[World.size_alloc] at s1;have hT1:w1.heap[w.heap.size]?=some (insB 0 0 0 0 0):=(hb1.block w.heap.size (by simp)).trans (heap_alloc_last w _);obtain⟨t0,t1,t2,t3,t4⟩:=ins_cells hT1;obtain⟨tz0,tz1,tz2,tz3,tz4⟩:=ins_frozen hT1;have hzw:w.heap.size < w1.heap.size:=by omega)
  have hB1:Below w.heap.size w w1:=((Below.refl _ _).alloc (Nat.le_refl _) _).trans (hb1.mono (by simp))
  refine bodyPost_ret (v:=decV (decErr 2)) (by simp[results,Tryz.results44,go_sem,t0,t1,t2,t3,t4,hzw,decErr]) rfl ⟨rfl,?_⟩
  repeat(first|with_reducible exact hB1|with_reducible refine Below.drew ?_|with_reducible refine Below.alloc ?_ zq34 _|with_reducible refine Below.setCell ?_ zq28 _)
set_option maxRecDepth 100000 in
theorem dec_nil(a:Option Addr)(cap:Nat)(zs:List Int)(w:World) :
  Calls Tryz.prog 44 #[.slice a 0 cap] w fun e w'=>e=.returned (decV (guestDec zs 0))∧Below w.heap.size w w':=by
 have hres:guestDec zs 0=decErr 1:=by unfold guestDec;rw[if_pos rfl]
 rw[hres]
 clear hres
 go_enter Tryz.func44,Tryz.ntmps44
 go_wp2
 refine bodyPost_ret (v:=decV (decErr 1)) (by simp[results,Tryz.results44,go_sem,decErr]) rfl ⟨rfl,?_⟩
 exact(Below.refl _ _).alloc (Nat.le_refl _) _
theorem hit_same:∀ n:Fin 256,hitB ((n.val:Nat):Int)=hitF ((n.val:Nat):Int):=by decide +kernel
theorem hit_eq(x:Int)(h0:0≤x)(h1:x≤255):hitB x=hitF x:=by
 have:=hit_same ⟨x.toNat,by omega⟩
 simp only[Int.toNat_of_nonneg h0] at this
 exact this
theorem row_form:∀ k:Fin 32,formB k.val=chR (tg k.val 4)++chI (tg k.val 5)∧sizeN (tg k.val 4) (tg k.val 5)=1+szL (formB k.val)∧tg k.val 0=((k.val:Nat):Int)∧tg k.val 1=formI k.val 0∧
  (formS k.val 2=⟨#[]⟩∧tg k.val 3=0∨formS k.val 2=⟨#[68]⟩∧tg k.val 3=3∨formS k.val 2=⟨#[83]⟩∧tg k.val 3=2∨formS k.val 2=⟨#[79]⟩∧tg k.val 3=1):=by decide +kernel
theorem st_eq(zs:List Int)(k:Nat)(hk:k < 32):rdK zs k=stF zs k:=by
 obtain⟨h1,-,-,h4,h5⟩:=row_form ⟨k,hk⟩
 simp only at h1 h4 h5
 unfold rdK rd stF
 rw[h1,h4]
 congr 1
 rcases h5 with ⟨h,h'⟩|⟨h,h'⟩|⟨h,h'⟩|⟨h,h'⟩
 ·rw[h',st0_n _ h];rfl
 ·rw[h',st0_D _ h];rfl
 ·rw[h',st0_S _ h];rfl
 ·rw[h',st0_O _ h];rfl
theorem dec_eq(zs:List Int)(len:Nat)(hb:0≤zs.getD 0 0∧zs.getD 0 0≤255):guestDec zs len=refDec zs len:=by
 unfold guestDec refDec
 by_cases hl:len=0
 ·rw[if_pos hl,if_pos hl]
 ·rw[if_neg hl,if_neg hl,hit_eq _ hb.1 hb.2]
  cases hk:hitF (zs.getD 0 0) with
  | none=>rfl
  | some k=>
   have hlt:=hitF_lt hk
   obtain⟨-,h2,h3,-,-⟩:=row_form ⟨k,hlt⟩
   simp only at h2 h3
   simp only[h2,h3,st_eq zs k hlt]
theorem size_eq(x:Int)(h0:0≤x)(h1:x≤255):sizeB x=sizeF x:=by
 unfold sizeB sizeF
 rw[hit_eq x h0 h1]
 cases hk:hitF x with
 | none=>rfl
 | some k=>exact(row_form ⟨k,hitF_lt hk⟩).2.1
end Go.Proofs.YtfokgedjocnnmaaGreat.Gu
