import Derived.Test.YthcpipfmicbnmaaGreatWED
import Derived.Test.YthcpipfmicbnmaaGreatWEC
set_option linter.unusedVariables false
set_option linter.unusedSimpArgs false
set_option maxHeartbeats 1000000
namespace Go.Proofs.YthcpipfmicbnmaaGreat.Ho
open Go.RowKit
set_option maxRecDepth 100000
theorem QP.vl{w u:World}{R X:Nat}{ws tb:Value}{p:HP}{m:Va.MS}(hm:Va.PM w X m)(hXR:X≠R)(hr:RB u R (yB ws tb X p))(hc:zI [R] w u):QP w R X ws tb p m u:=
 ⟨hr,hm.keep (zQ hc) (by simpa using hXR),hc.mono aS⟩
theorem zDG(kd wv:Int)(k a b c:Nat)(W:World)(hH:Va.vY)(ha:a < 4294967296)(hb:b < 4294967296)(hc:c < 4294967296)(hk:kd=4∧0≤wv∧wv≤15∨kd=5∧0≤wv∧wv≤6∨kd=6∧wv=0∨kd=7∧0≤wv∧wv≤12∨kd=8∧0≤wv∧wv≤15) :
  (Calls Tryz.prog 50 #[.agg #[.int .i64 kd,.int .i64 wv,.int .i64 0,.int .i64 0,.int .i64 0,.int .u32 k,.int .i64 0],.int .u32 a,.int .u32 b,.int .u32 c] W fun e w'=>e=.returned (.int .u32 ((uV.val kd wv a b c:Nat):Int))∧Below W.heap.size W w')∧uV.val kd wv a b c < 4294967296:=by
 have hb0:=Va.zFe ⟨kd,wv,0,0,0,0,0⟩ (fun _=>0) a b c (fun _=>by show 0 < 4294967296;decide) ha hb hc zq70
 have e0:Va.zC5 ⟨kd,wv,0,0,0,0,0⟩ (fun _=>0) a b c=Va.yC ⟨kd,wv,0,0,0,0,0⟩ a b c:=by
  unfold Va.zC5
  rw[if_neg (show ¬kd=2 by omega),if_neg (show ¬kd=17 by omega)]
 rw[e0] at hb0
 have e1:((uV.val kd wv a b c:Nat):Int)=Va.yC ⟨kd,wv,0,0,0,0,0⟩ a b c:=Int.toNat_of_nonneg hb0.1
 have e2:Va.yC ⟨kd,wv,0,0,0,0,0⟩ a b c=Va.yC ⟨kd,wv,0,0,0,k,0⟩ a b c:=by
  unfold Va.yC;rw[if_neg (show ¬kd=1 by omega),if_neg (show ¬kd=1 by omega)]
 have hw:Va.zBR ⟨kd,wv,0,0,0,k,0⟩:=⟨fun h=>by have h:kd=4:=h;show 0≤wv∧wv≤15;omega,fun h=>by have h:kd=5:=h;show 0≤wv∧wv≤6;omega⟩
 refine⟨?_,by omega⟩
 rw[e1,e2]
 have w8:wv≤9223372036854775807:=aO
 rcases hk with ⟨rfl,_⟩|⟨rfl,_⟩|⟨rfl,_⟩|⟨rfl,_⟩|⟨rfl,_⟩
 ·exact Va.zQA ⟨4,wv,0,0,0,k,0⟩ a b c W hH ha hb hc rfl hw w8
 ·exact Va.zQB ⟨5,wv,0,0,0,k,0⟩ a b c W hH ha hb hc rfl hw w8
 ·exact Va.zQC ⟨6,wv,0,0,0,k,0⟩ a b c W hH ha hb hc rfl hw w8
 ·exact Va.zQD ⟨7,wv,0,0,0,k,0⟩ a b c W hH ha hb hc rfl hw w8
 ·exact Va.zQE ⟨8,wv,0,0,0,k,0⟩ a b c W hH ha hb hc rfl hw w8
theorem zN7(R X I:Nat)(ca:Option Addr)(cap:Nat)(ta:Option Addr)(tcap:Nat)(T:PT)(p:HP)(s:HS Va.MS)(op d a b c n kk xx:Nat)(nw:Int)(w:World)(P:PC w R X I ca cap ta tcap T p s ⟨op,d,a,b,c,n,kk,xx⟩ (zG 16) nw)(ld:d < 16)(la:a < 16)(lb:b < 16)(lc:c < 16)(ln:n < 65536)(hH:Va.vY)(l0:32≤op)(l1:op≤38) :
  Calls Tryz.prog 34 #[.pointer (some ⟨R,0,none⟩),.pointer (some ⟨I,0,none⟩),.pointer (some ⟨I,8,none⟩)] w fun e w'=>Did w R X (.slice ca T.len cap) (.slice ta T.tl tcap) p s e w' (zU T p.count ⟨op,d,a,b,c,n,kk,xx⟩ s p.done):=by
 have lX:=P.m.lt
 have g:=vR R X I a b c d n (.slice ca T.len cap) (.slice ta T.tl tcap) ⟨op,d,a,b,c,n,kk,xx⟩ (zG 16) nw p
 cases hra:s.R a with
 | none=>
  have hs:=P.h.none hra
  rw[show zU T p.count ⟨op,d,a,b,c,n,kk,xx⟩ s p.done=.stuck by simp only[zU,yZ,HS.get,Int.toNat_natCast,if_neg (show ¬(op:Int)=1 by omega),if_neg (show ¬(op:Int)=15 by omega),if_neg (show ¬(op:Int)=96 by omega),if_neg (show ¬(op:Int)=4 by omega),if_neg (show ¬(op:Int)=3 by omega),if_neg (show ¬(op:Int)=2 by omega),if_neg (show ¬(op:Int)=6 by omega),if_neg (show ¬(op:Int)=7 by omega),if_neg (show ¬(op:Int)=8 by omega),if_neg (show ¬(op:Int)=9 by omega),if_neg (show ¬(op:Int)=97 by omega),if_neg (show ¬(op:Int)=10 by omega),if_neg (show ¬(op:Int)=11 by omega),if_neg (show ¬(op:Int)=12 by omega),if_neg (show ¬(op:Int)=13 by omega),if_neg (show ¬(op:Int)=14 by omega),if_neg (show ¬(op:Int)=5 by omega),if_neg (show ¬88≤(op:Int) by omega),if_neg (show ¬80≤(op:Int) by omega),if_neg (show ¬64≤(op:Int) by omega),if_neg (show ¬48≤(op:Int) by omega),if_pos (show 32≤(op:Int) by omega),hra]]
  refine(g ⟨5,0,0,0,0,0⟩ (QP w R X (.slice ca T.len cap) (.slice ta T.tl tcap) p s.m) w P.r P.i rfl rfl rfl rfl rfl la lb lc ld lX P.ir (fun e=>absurd e zq29) ⟨.inl ⟨by rw[if_neg (show ¬(op:Int)=8 by omega)];rw[show hb (zG 16).has 1=true by decide,show hb (zG 16).has 2=false by decide,show hb (zG 16).has 4=false by decide,show hb (zG 16).has 128=false by decide];simp[hs],rfl,⟨P.r,P.m,zI.refl _ _⟩⟩,QP.st P.r.lt lX⟩).mono ?_
  rintro e w' ⟨rfl,q⟩
  exact⟨rfl,q.r,q.m,q.c⟩
 | some ua=>
  obtain⟨ha1,ha2,ha3⟩:=P.h.some hra
  obtain⟨hv,hvb⟩:=zDG 5 ((op:Int) - 32) kk ua 0 0 w hH ha3 aD aD aO
  rw[show zU T p.count ⟨op,d,a,b,c,n,kk,xx⟩ s p.done=.go (s.set d (uV.val 5 ((op:Int) - 32) ua 0 0)) p.done none by simp only[zU,yZ,HS.get,Int.toNat_natCast,if_neg (show ¬(op:Int)=1 by omega),if_neg (show ¬(op:Int)=15 by omega),if_neg (show ¬(op:Int)=96 by omega),if_neg (show ¬(op:Int)=4 by omega),if_neg (show ¬(op:Int)=3 by omega),if_neg (show ¬(op:Int)=2 by omega),if_neg (show ¬(op:Int)=6 by omega),if_neg (show ¬(op:Int)=7 by omega),if_neg (show ¬(op:Int)=8 by omega),if_neg (show ¬(op:Int)=9 by omega),if_neg (show ¬(op:Int)=97 by omega),if_neg (show ¬(op:Int)=10 by omega),if_neg (show ¬(op:Int)=11 by omega),if_neg (show ¬(op:Int)=12 by omega),if_neg (show ¬(op:Int)=13 by omega),if_neg (show ¬(op:Int)=14 by omega),if_neg (show ¬(op:Int)=5 by omega),if_neg (show ¬88≤(op:Int) by omega),if_neg (show ¬80≤(op:Int) by omega),if_neg (show ¬64≤(op:Int) by omega),if_neg (show ¬48≤(op:Int) by omega),if_pos (show 32≤(op:Int) by omega),hra]]
  refine(g ⟨0,0,0,0,0,0⟩ (QP w R X (.slice ca T.len cap) (.slice ta T.tl tcap) (p.reg d (uV.val 5 ((op:Int) - 32) ua 0 0)) s.m) w P.r P.i rfl rfl rfl rfl rfl la lb lc ld lX P.ir (fun e=>absurd e zq29) ⟨.inr (.inl ⟨?_,by decide,rfl,by show ¬(op:Int)=8;omega,5,(op:Int) - 32,uV.val 5 ((op:Int) - 32) ua 0 0,by decide,by decide,by decide,by decide,by decide,by show(op:Int) - (zG 16).first=_;rw[show(zG 16).first=32 by decide],by omega,by omega,fun W=>?_,fun u hr hc=>QP.vl P.m P.xr hr hc⟩),QP.st P.r.lt lX⟩).mono ?_
  ·rw[if_neg (show ¬(op:Int)=8 by omega)];rw[show hb (zG 16).has 1=true by decide,show hb (zG 16).has 2=false by decide,show hb (zG 16).has 4=false by decide,show hb (zG 16).has 128=false by decide];simp[ha2,yY]
  ·rw[show hb (zG 16).has 1=true by decide,show hb (zG 16).has 2=false by decide,show hb (zG 16).has 4=false by decide];simp only[ha1,zDT];exact(zDG 5 ((op:Int) - 32) kk ua 0 0 W hH ha3 aD aD aO).1
  ·rintro e w' ⟨rfl,q⟩
   exact⟨rfl,⟨_,q.r,P.h.reg d _ hvb,rfl,rfl,rfl,rfl,.inl rfl⟩,q.m,q.c⟩
theorem zKD(R X I:Nat)(ca:Option Addr)(cap:Nat)(ta:Option Addr)(tcap:Nat)(T:PT)(p:HP)(s:HS Va.MS)(op d a b c n kk xx:Nat)(nw:Int)(w:World)(P:PC w R X I ca cap ta tcap T p s ⟨op,d,a,b,c,n,kk,xx⟩ (zG 18) nw)(ld:d < 16)(la:a < 16)(lb:b < 16)(lc:c < 16)(ln:n < 65536)(hH:Va.vY)(l0:64≤op)(l1:op≤79) :
  Calls Tryz.prog 34 #[.pointer (some ⟨R,0,none⟩),.pointer (some ⟨I,0,none⟩),.pointer (some ⟨I,8,none⟩)] w fun e w'=>Did w R X (.slice ca T.len cap) (.slice ta T.tl tcap) p s e w' (zU T p.count ⟨op,d,a,b,c,n,kk,xx⟩ s p.done):=by
 have lX:=P.m.lt
 have g:=vR R X I a b c d n (.slice ca T.len cap) (.slice ta T.tl tcap) ⟨op,d,a,b,c,n,kk,xx⟩ (zG 18) nw p
 cases hra:s.R a with
 | none=>
  have hs:=P.h.none hra
  rw[show zU T p.count ⟨op,d,a,b,c,n,kk,xx⟩ s p.done=.stuck by simp only[zU,yZ,HS.get,Int.toNat_natCast,if_neg (show ¬(op:Int)=1 by omega),if_neg (show ¬(op:Int)=15 by omega),if_neg (show ¬(op:Int)=96 by omega),if_neg (show ¬(op:Int)=4 by omega),if_neg (show ¬(op:Int)=3 by omega),if_neg (show ¬(op:Int)=2 by omega),if_neg (show ¬(op:Int)=6 by omega),if_neg (show ¬(op:Int)=7 by omega),if_neg (show ¬(op:Int)=8 by omega),if_neg (show ¬(op:Int)=9 by omega),if_neg (show ¬(op:Int)=97 by omega),if_neg (show ¬(op:Int)=10 by omega),if_neg (show ¬(op:Int)=11 by omega),if_neg (show ¬(op:Int)=12 by omega),if_neg (show ¬(op:Int)=13 by omega),if_neg (show ¬(op:Int)=14 by omega),if_neg (show ¬(op:Int)=5 by omega),if_neg (show ¬88≤(op:Int) by omega),if_neg (show ¬80≤(op:Int) by omega),if_pos (show 64≤(op:Int) by omega),hra]]
  refine(g ⟨5,0,0,0,0,0⟩ (QP w R X (.slice ca T.len cap) (.slice ta T.tl tcap) p s.m) w P.r P.i rfl rfl rfl rfl rfl la lb lc ld lX P.ir (fun e=>absurd e zq29) ⟨.inl ⟨by rw[if_neg (show ¬(op:Int)=8 by omega)];rw[show hb (zG 18).has 1=true by decide,show hb (zG 18).has 2=false by decide,show hb (zG 18).has 4=false by decide,show hb (zG 18).has 128=false by decide];simp[hs],rfl,⟨P.r,P.m,zI.refl _ _⟩⟩,QP.st P.r.lt lX⟩).mono ?_
  rintro e w' ⟨rfl,q⟩
  exact⟨rfl,q.r,q.m,q.c⟩
 | some ua=>
  obtain⟨ha1,ha2,ha3⟩:=P.h.some hra
  obtain⟨hv,hvb⟩:=zDG 8 ((op:Int) - 64) kk ua 0 0 w hH ha3 aD aD aO
  rw[show zU T p.count ⟨op,d,a,b,c,n,kk,xx⟩ s p.done=.go (s.set d (uV.val 8 ((op:Int) - 64) ua 0 0)) p.done none by simp only[zU,yZ,HS.get,Int.toNat_natCast,if_neg (show ¬(op:Int)=1 by omega),if_neg (show ¬(op:Int)=15 by omega),if_neg (show ¬(op:Int)=96 by omega),if_neg (show ¬(op:Int)=4 by omega),if_neg (show ¬(op:Int)=3 by omega),if_neg (show ¬(op:Int)=2 by omega),if_neg (show ¬(op:Int)=6 by omega),if_neg (show ¬(op:Int)=7 by omega),if_neg (show ¬(op:Int)=8 by omega),if_neg (show ¬(op:Int)=9 by omega),if_neg (show ¬(op:Int)=97 by omega),if_neg (show ¬(op:Int)=10 by omega),if_neg (show ¬(op:Int)=11 by omega),if_neg (show ¬(op:Int)=12 by omega),if_neg (show ¬(op:Int)=13 by omega),if_neg (show ¬(op:Int)=14 by omega),if_neg (show ¬(op:Int)=5 by omega),if_neg (show ¬88≤(op:Int) by omega),if_neg (show ¬80≤(op:Int) by omega),if_pos (show 64≤(op:Int) by omega),hra]]
  refine(g ⟨0,0,0,0,0,0⟩ (QP w R X (.slice ca T.len cap) (.slice ta T.tl tcap) (p.reg d (uV.val 8 ((op:Int) - 64) ua 0 0)) s.m) w P.r P.i rfl rfl rfl rfl rfl la lb lc ld lX P.ir (fun e=>absurd e zq29) ⟨.inr (.inl ⟨?_,by decide,rfl,by show ¬(op:Int)=8;omega,8,(op:Int) - 64,uV.val 8 ((op:Int) - 64) ua 0 0,by decide,by decide,by decide,by decide,by decide,by show(op:Int) - (zG 18).first=_;rw[show(zG 18).first=64 by decide],by omega,by omega,fun W=>?_,fun u hr hc=>QP.vl P.m P.xr hr hc⟩),QP.st P.r.lt lX⟩).mono ?_
  ·rw[if_neg (show ¬(op:Int)=8 by omega)];rw[show hb (zG 18).has 1=true by decide,show hb (zG 18).has 2=false by decide,show hb (zG 18).has 4=false by decide,show hb (zG 18).has 128=false by decide];simp[ha2,yY]
  ·rw[show hb (zG 18).has 1=true by decide,show hb (zG 18).has 2=false by decide,show hb (zG 18).has 4=false by decide];simp only[ha1,zDT];exact(zDG 8 ((op:Int) - 64) kk ua 0 0 W hH ha3 aD aD aO).1
  ·rintro e w' ⟨rfl,q⟩
   exact⟨rfl,⟨_,q.r,P.h.reg d _ hvb,rfl,rfl,rfl,rfl,.inl rfl⟩,q.m,q.c⟩
theorem zL7(R X I:Nat)(ca:Option Addr)(cap:Nat)(ta:Option Addr)(tcap:Nat)(T:PT)(p:HP)(s:HS Va.MS)(op d a b c n kk xx:Nat)(nw:Int)(w:World)(P:PC w R X I ca cap ta tcap T p s ⟨op,d,a,b,c,n,kk,xx⟩ (zG 15) nw)(ld:d < 16)(la:a < 16)(lb:b < 16)(lc:c < 16)(ln:n < 65536)(hH:Va.vY)(l0:16≤op)(l1:op≤31) :
  Calls Tryz.prog 34 #[.pointer (some ⟨R,0,none⟩),.pointer (some ⟨I,0,none⟩),.pointer (some ⟨I,8,none⟩)] w fun e w'=>Did w R X (.slice ca T.len cap) (.slice ta T.tl tcap) p s e w' (zU T p.count ⟨op,d,a,b,c,n,kk,xx⟩ s p.done):=by
 have lX:=P.m.lt
 have g:=vR R X I a b c d n (.slice ca T.len cap) (.slice ta T.tl tcap) ⟨op,d,a,b,c,n,kk,xx⟩ (zG 15) nw p
 cases hra:s.R a with
 | none=>
  have hs:=P.h.none hra
  rw[show zU T p.count ⟨op,d,a,b,c,n,kk,xx⟩ s p.done=.stuck by simp only[zU,yZ,HS.get,Int.toNat_natCast,if_neg (show ¬(op:Int)=1 by omega),if_neg (show ¬(op:Int)=15 by omega),if_neg (show ¬(op:Int)=96 by omega),if_neg (show ¬(op:Int)=4 by omega),if_neg (show ¬(op:Int)=3 by omega),if_neg (show ¬(op:Int)=2 by omega),if_neg (show ¬(op:Int)=6 by omega),if_neg (show ¬(op:Int)=7 by omega),if_neg (show ¬(op:Int)=8 by omega),if_neg (show ¬(op:Int)=9 by omega),if_neg (show ¬(op:Int)=97 by omega),if_neg (show ¬(op:Int)=10 by omega),if_neg (show ¬(op:Int)=11 by omega),if_neg (show ¬(op:Int)=12 by omega),if_neg (show ¬(op:Int)=13 by omega),if_neg (show ¬(op:Int)=14 by omega),if_neg (show ¬(op:Int)=5 by omega),if_neg (show ¬88≤(op:Int) by omega),if_neg (show ¬80≤(op:Int) by omega),if_neg (show ¬64≤(op:Int) by omega),if_neg (show ¬48≤(op:Int) by omega),if_neg (show ¬32≤(op:Int) by omega),if_pos (show 16≤(op:Int) by omega),hra]]
  refine(g ⟨5,0,0,0,0,0⟩ (QP w R X (.slice ca T.len cap) (.slice ta T.tl tcap) p s.m) w P.r P.i rfl rfl rfl rfl rfl la lb lc ld lX P.ir (fun e=>absurd e zq29) ⟨.inl ⟨by rw[if_neg (show ¬(op:Int)=8 by omega)];rw[show hb (zG 15).has 1=true by decide,show hb (zG 15).has 2=true by decide,show hb (zG 15).has 4=false by decide,show hb (zG 15).has 128=false by decide];simp[hs],rfl,⟨P.r,P.m,zI.refl _ _⟩⟩,QP.st P.r.lt lX⟩).mono ?_
  rintro e w' ⟨rfl,q⟩
  exact⟨rfl,q.r,q.m,q.c⟩
 | some ua=>
  obtain⟨ha1,ha2,ha3⟩:=P.h.some hra
  cases hrb:s.R b with
  | none=>
   have hs:=P.h.none hrb
   rw[show zU T p.count ⟨op,d,a,b,c,n,kk,xx⟩ s p.done=.stuck by simp only[zU,yZ,HS.get,Int.toNat_natCast,if_neg (show ¬(op:Int)=1 by omega),if_neg (show ¬(op:Int)=15 by omega),if_neg (show ¬(op:Int)=96 by omega),if_neg (show ¬(op:Int)=4 by omega),if_neg (show ¬(op:Int)=3 by omega),if_neg (show ¬(op:Int)=2 by omega),if_neg (show ¬(op:Int)=6 by omega),if_neg (show ¬(op:Int)=7 by omega),if_neg (show ¬(op:Int)=8 by omega),if_neg (show ¬(op:Int)=9 by omega),if_neg (show ¬(op:Int)=97 by omega),if_neg (show ¬(op:Int)=10 by omega),if_neg (show ¬(op:Int)=11 by omega),if_neg (show ¬(op:Int)=12 by omega),if_neg (show ¬(op:Int)=13 by omega),if_neg (show ¬(op:Int)=14 by omega),if_neg (show ¬(op:Int)=5 by omega),if_neg (show ¬88≤(op:Int) by omega),if_neg (show ¬80≤(op:Int) by omega),if_neg (show ¬64≤(op:Int) by omega),if_neg (show ¬48≤(op:Int) by omega),if_neg (show ¬32≤(op:Int) by omega),if_pos (show 16≤(op:Int) by omega),hra,hrb]]
   refine(g ⟨5,0,0,0,0,0⟩ (QP w R X (.slice ca T.len cap) (.slice ta T.tl tcap) p s.m) w P.r P.i rfl rfl rfl rfl rfl la lb lc ld lX P.ir (fun e=>absurd e zq29) ⟨.inl ⟨by rw[if_neg (show ¬(op:Int)=8 by omega)];rw[show hb (zG 15).has 1=true by decide,show hb (zG 15).has 2=true by decide,show hb (zG 15).has 4=false by decide,show hb (zG 15).has 128=false by decide];simp[hs],rfl,⟨P.r,P.m,zI.refl _ _⟩⟩,QP.st P.r.lt lX⟩).mono ?_
   rintro e w' ⟨rfl,q⟩
   exact⟨rfl,q.r,q.m,q.c⟩
  | some ub=>
   obtain⟨hb1,hb2,hb3⟩:=P.h.some hrb
   obtain⟨hv,hvb⟩:=zDG 4 ((op:Int) - 16) kk ua ub 0 w hH ha3 hb3 aD aO
   rw[show zU T p.count ⟨op,d,a,b,c,n,kk,xx⟩ s p.done=.go (s.set d (uV.val 4 ((op:Int) - 16) ua ub 0)) p.done none by simp only[zU,yZ,HS.get,Int.toNat_natCast,if_neg (show ¬(op:Int)=1 by omega),if_neg (show ¬(op:Int)=15 by omega),if_neg (show ¬(op:Int)=96 by omega),if_neg (show ¬(op:Int)=4 by omega),if_neg (show ¬(op:Int)=3 by omega),if_neg (show ¬(op:Int)=2 by omega),if_neg (show ¬(op:Int)=6 by omega),if_neg (show ¬(op:Int)=7 by omega),if_neg (show ¬(op:Int)=8 by omega),if_neg (show ¬(op:Int)=9 by omega),if_neg (show ¬(op:Int)=97 by omega),if_neg (show ¬(op:Int)=10 by omega),if_neg (show ¬(op:Int)=11 by omega),if_neg (show ¬(op:Int)=12 by omega),if_neg (show ¬(op:Int)=13 by omega),if_neg (show ¬(op:Int)=14 by omega),if_neg (show ¬(op:Int)=5 by omega),if_neg (show ¬88≤(op:Int) by omega),if_neg (show ¬80≤(op:Int) by omega),if_neg (show ¬64≤(op:Int) by omega),if_neg (show ¬48≤(op:Int) by omega),if_neg (show ¬32≤(op:Int) by omega),if_pos (show 16≤(op:Int) by omega),hra,hrb]]
   refine(g ⟨0,0,0,0,0,0⟩ (QP w R X (.slice ca T.len cap) (.slice ta T.tl tcap) (p.reg d (uV.val 4 ((op:Int) - 16) ua ub 0)) s.m) w P.r P.i rfl rfl rfl rfl rfl la lb lc ld lX P.ir (fun e=>absurd e zq29) ⟨.inr (.inl ⟨?_,by decide,rfl,by show ¬(op:Int)=8;omega,4,(op:Int) - 16,uV.val 4 ((op:Int) - 16) ua ub 0,by decide,by decide,by decide,by decide,by decide,by show(op:Int) - (zG 15).first=_;rw[show(zG 15).first=16 by decide],by omega,by omega,fun W=>?_,fun u hr hc=>QP.vl P.m P.xr hr hc⟩),QP.st P.r.lt lX⟩).mono ?_
   ·rw[if_neg (show ¬(op:Int)=8 by omega)];rw[show hb (zG 15).has 1=true by decide,show hb (zG 15).has 2=true by decide,show hb (zG 15).has 4=false by decide,show hb (zG 15).has 128=false by decide];simp[ha2,hb2,yY]
   ·rw[show hb (zG 15).has 1=true by decide,show hb (zG 15).has 2=true by decide,show hb (zG 15).has 4=false by decide];simp only[ha1,hb1,zDT];exact(zDG 4 ((op:Int) - 16) kk ua ub 0 W hH ha3 hb3 aD aO).1
   ·rintro e w' ⟨rfl,q⟩
    exact⟨rfl,⟨_,q.r,P.h.reg d _ hvb,rfl,rfl,rfl,rfl,.inl rfl⟩,q.m,q.c⟩
theorem zIR(R X I:Nat)(ca:Option Addr)(cap:Nat)(ta:Option Addr)(tcap:Nat)(T:PT)(p:HP)(s:HS Va.MS)(op d a b c n kk xx:Nat)(nw:Int)(w:World)(P:PC w R X I ca cap ta tcap T p s ⟨op,d,a,b,c,n,kk,xx⟩ (zG 17) nw)(ld:d < 16)(la:a < 16)(lb:b < 16)(lc:c < 16)(ln:n < 65536)(hH:Va.vY)(l0:48≤op)(l1:op≤60) :
  Calls Tryz.prog 34 #[.pointer (some ⟨R,0,none⟩),.pointer (some ⟨I,0,none⟩),.pointer (some ⟨I,8,none⟩)] w fun e w'=>Did w R X (.slice ca T.len cap) (.slice ta T.tl tcap) p s e w' (zU T p.count ⟨op,d,a,b,c,n,kk,xx⟩ s p.done):=by
 have lX:=P.m.lt
 have g:=vR R X I a b c d n (.slice ca T.len cap) (.slice ta T.tl tcap) ⟨op,d,a,b,c,n,kk,xx⟩ (zG 17) nw p
 cases hra:s.R a with
 | none=>
  have hs:=P.h.none hra
  rw[show zU T p.count ⟨op,d,a,b,c,n,kk,xx⟩ s p.done=.stuck by simp only[zU,yZ,HS.get,Int.toNat_natCast,if_neg (show ¬(op:Int)=1 by omega),if_neg (show ¬(op:Int)=15 by omega),if_neg (show ¬(op:Int)=96 by omega),if_neg (show ¬(op:Int)=4 by omega),if_neg (show ¬(op:Int)=3 by omega),if_neg (show ¬(op:Int)=2 by omega),if_neg (show ¬(op:Int)=6 by omega),if_neg (show ¬(op:Int)=7 by omega),if_neg (show ¬(op:Int)=8 by omega),if_neg (show ¬(op:Int)=9 by omega),if_neg (show ¬(op:Int)=97 by omega),if_neg (show ¬(op:Int)=10 by omega),if_neg (show ¬(op:Int)=11 by omega),if_neg (show ¬(op:Int)=12 by omega),if_neg (show ¬(op:Int)=13 by omega),if_neg (show ¬(op:Int)=14 by omega),if_neg (show ¬(op:Int)=5 by omega),if_neg (show ¬88≤(op:Int) by omega),if_neg (show ¬80≤(op:Int) by omega),if_neg (show ¬64≤(op:Int) by omega),if_pos (show 48≤(op:Int) by omega),hra]]
  refine(g ⟨5,0,0,0,0,0⟩ (QP w R X (.slice ca T.len cap) (.slice ta T.tl tcap) p s.m) w P.r P.i rfl rfl rfl rfl rfl la lb lc ld lX P.ir (fun e=>absurd e zq29) ⟨.inl ⟨by rw[if_neg (show ¬(op:Int)=8 by omega)];rw[show hb (zG 17).has 1=true by decide,show hb (zG 17).has 2=true by decide,show hb (zG 17).has 4=true by decide,show hb (zG 17).has 128=false by decide];simp[hs],rfl,⟨P.r,P.m,zI.refl _ _⟩⟩,QP.st P.r.lt lX⟩).mono ?_
  rintro e w' ⟨rfl,q⟩
  exact⟨rfl,q.r,q.m,q.c⟩
 | some ua=>
  obtain⟨ha1,ha2,ha3⟩:=P.h.some hra
  cases hrb:s.R b with
  | none=>
   have hs:=P.h.none hrb
   rw[show zU T p.count ⟨op,d,a,b,c,n,kk,xx⟩ s p.done=.stuck by simp only[zU,yZ,HS.get,Int.toNat_natCast,if_neg (show ¬(op:Int)=1 by omega),if_neg (show ¬(op:Int)=15 by omega),if_neg (show ¬(op:Int)=96 by omega),if_neg (show ¬(op:Int)=4 by omega),if_neg (show ¬(op:Int)=3 by omega),if_neg (show ¬(op:Int)=2 by omega),if_neg (show ¬(op:Int)=6 by omega),if_neg (show ¬(op:Int)=7 by omega),if_neg (show ¬(op:Int)=8 by omega),if_neg (show ¬(op:Int)=9 by omega),if_neg (show ¬(op:Int)=97 by omega),if_neg (show ¬(op:Int)=10 by omega),if_neg (show ¬(op:Int)=11 by omega),if_neg (show ¬(op:Int)=12 by omega),if_neg (show ¬(op:Int)=13 by omega),if_neg (show ¬(op:Int)=14 by omega),if_neg (show ¬(op:Int)=5 by omega),if_neg (show ¬88≤(op:Int) by omega),if_neg (show ¬80≤(op:Int) by omega),if_neg (show ¬64≤(op:Int) by omega),if_pos (show 48≤(op:Int) by omega),hra,hrb]]
   refine(g ⟨5,0,0,0,0,0⟩ (QP w R X (.slice ca T.len cap) (.slice ta T.tl tcap) p s.m) w P.r P.i rfl rfl rfl rfl rfl la lb lc ld lX P.ir (fun e=>absurd e zq29) ⟨.inl ⟨by rw[if_neg (show ¬(op:Int)=8 by omega)];rw[show hb (zG 17).has 1=true by decide,show hb (zG 17).has 2=true by decide,show hb (zG 17).has 4=true by decide,show hb (zG 17).has 128=false by decide];simp[hs],rfl,⟨P.r,P.m,zI.refl _ _⟩⟩,QP.st P.r.lt lX⟩).mono ?_
   rintro e w' ⟨rfl,q⟩
   exact⟨rfl,q.r,q.m,q.c⟩
  | some ub=>
   obtain⟨hb1,hb2,hb3⟩:=P.h.some hrb
   cases hrc:s.R c with
   | none=>
    have hs:=P.h.none hrc
    rw[show zU T p.count ⟨op,d,a,b,c,n,kk,xx⟩ s p.done=.stuck by simp only[zU,yZ,HS.get,Int.toNat_natCast,if_neg (show ¬(op:Int)=1 by omega),if_neg (show ¬(op:Int)=15 by omega),if_neg (show ¬(op:Int)=96 by omega),if_neg (show ¬(op:Int)=4 by omega),if_neg (show ¬(op:Int)=3 by omega),if_neg (show ¬(op:Int)=2 by omega),if_neg (show ¬(op:Int)=6 by omega),if_neg (show ¬(op:Int)=7 by omega),if_neg (show ¬(op:Int)=8 by omega),if_neg (show ¬(op:Int)=9 by omega),if_neg (show ¬(op:Int)=97 by omega),if_neg (show ¬(op:Int)=10 by omega),if_neg (show ¬(op:Int)=11 by omega),if_neg (show ¬(op:Int)=12 by omega),if_neg (show ¬(op:Int)=13 by omega),if_neg (show ¬(op:Int)=14 by omega),if_neg (show ¬(op:Int)=5 by omega),if_neg (show ¬88≤(op:Int) by omega),if_neg (show ¬80≤(op:Int) by omega),if_neg (show ¬64≤(op:Int) by omega),if_pos (show 48≤(op:Int) by omega),hra,hrb,hrc]]
    refine(g ⟨5,0,0,0,0,0⟩ (QP w R X (.slice ca T.len cap) (.slice ta T.tl tcap) p s.m) w P.r P.i rfl rfl rfl rfl rfl la lb lc ld lX P.ir (fun e=>absurd e zq29) ⟨.inl ⟨by rw[if_neg (show ¬(op:Int)=8 by omega)];rw[show hb (zG 17).has 1=true by decide,show hb (zG 17).has 2=true by decide,show hb (zG 17).has 4=true by decide,show hb (zG 17).has 128=false by decide];simp[hs],rfl,⟨P.r,P.m,zI.refl _ _⟩⟩,QP.st P.r.lt lX⟩).mono ?_
    rintro e w' ⟨rfl,q⟩
    exact⟨rfl,q.r,q.m,q.c⟩
   | some uc=>
    obtain⟨hc1,hc2,hc3⟩:=P.h.some hrc
    obtain⟨hv,hvb⟩:=zDG 7 ((op:Int) - 48) kk ua ub uc w hH ha3 hb3 hc3 aO
    rw[show zU T p.count ⟨op,d,a,b,c,n,kk,xx⟩ s p.done=.go (s.set d (uV.val 7 ((op:Int) - 48) ua ub uc)) p.done none by simp only[zU,yZ,HS.get,Int.toNat_natCast,if_neg (show ¬(op:Int)=1 by omega),if_neg (show ¬(op:Int)=15 by omega),if_neg (show ¬(op:Int)=96 by omega),if_neg (show ¬(op:Int)=4 by omega),if_neg (show ¬(op:Int)=3 by omega),if_neg (show ¬(op:Int)=2 by omega),if_neg (show ¬(op:Int)=6 by omega),if_neg (show ¬(op:Int)=7 by omega),if_neg (show ¬(op:Int)=8 by omega),if_neg (show ¬(op:Int)=9 by omega),if_neg (show ¬(op:Int)=97 by omega),if_neg (show ¬(op:Int)=10 by omega),if_neg (show ¬(op:Int)=11 by omega),if_neg (show ¬(op:Int)=12 by omega),if_neg (show ¬(op:Int)=13 by omega),if_neg (show ¬(op:Int)=14 by omega),if_neg (show ¬(op:Int)=5 by omega),if_neg (show ¬88≤(op:Int) by omega),if_neg (show ¬80≤(op:Int) by omega),if_neg (show ¬64≤(op:Int) by omega),if_pos (show 48≤(op:Int) by omega),hra,hrb,hrc]]
    refine(g ⟨0,0,0,0,0,0⟩ (QP w R X (.slice ca T.len cap) (.slice ta T.tl tcap) (p.reg d (uV.val 7 ((op:Int) - 48) ua ub uc)) s.m) w P.r P.i rfl rfl rfl rfl rfl la lb lc ld lX P.ir (fun e=>absurd e zq29) ⟨.inr (.inl ⟨?_,by decide,rfl,by show ¬(op:Int)=8;omega,7,(op:Int) - 48,uV.val 7 ((op:Int) - 48) ua ub uc,by decide,by decide,by decide,by decide,by decide,by show(op:Int) - (zG 17).first=_;rw[show(zG 17).first=48 by decide],by omega,by omega,fun W=>?_,fun u hr hc=>QP.vl P.m P.xr hr hc⟩),QP.st P.r.lt lX⟩).mono ?_
    ·rw[if_neg (show ¬(op:Int)=8 by omega)];rw[show hb (zG 17).has 1=true by decide,show hb (zG 17).has 2=true by decide,show hb (zG 17).has 4=true by decide,show hb (zG 17).has 128=false by decide];simp[ha2,hb2,hc2,yY]
    ·rw[show hb (zG 17).has 1=true by decide,show hb (zG 17).has 2=true by decide,show hb (zG 17).has 4=true by decide];simp only[ha1,hb1,hc1,zDT];exact(zDG 7 ((op:Int) - 48) kk ua ub uc W hH ha3 hb3 hc3 aO).1
    ·rintro e w' ⟨rfl,q⟩
     exact⟨rfl,⟨_,q.r,P.h.reg d _ hvb,rfl,rfl,rfl,rfl,.inl rfl⟩,q.m,q.c⟩
theorem zMc(R X I:Nat)(ca:Option Addr)(cap:Nat)(ta:Option Addr)(tcap:Nat)(T:PT)(p:HP)(s:HS Va.MS)(d a b c n kk xx:Nat)(nw:Int)(w:World)(P:PC w R X I ca cap ta tcap T p s ⟨5,d,a,b,c,n,kk,xx⟩ (zG 4) nw)(ld:d < 16)(la:a < 16)(lb:b < 16)(lc:c < 16)(ln:n < 65536)(hH:Va.vY) :
  Calls Tryz.prog 34 #[.pointer (some ⟨R,0,none⟩),.pointer (some ⟨I,0,none⟩),.pointer (some ⟨I,8,none⟩)] w fun e w'=>Did w R X (.slice ca T.len cap) (.slice ta T.tl tcap) p s e w' (zU T p.count ⟨5,d,a,b,c,n,kk,xx⟩ s p.done):=by
 have lX:=P.m.lt
 have g:=vR R X I a b c d n (.slice ca T.len cap) (.slice ta T.tl tcap) ⟨5,d,a,b,c,n,kk,xx⟩ (zG 4) nw p
 cases hra:s.R a with
 | none=>
  have hs:=P.h.none hra
  rw[show zU T p.count ⟨5,d,a,b,c,n,kk,xx⟩ s p.done=.stuck by simp[zU,yZ,HS.get,hra]]
  refine(g ⟨5,0,0,0,0,0⟩ (QP w R X (.slice ca T.len cap) (.slice ta T.tl tcap) p s.m) w P.r P.i rfl rfl rfl rfl rfl la lb lc ld lX P.ir (fun e=>by simp at e) ⟨.inl ⟨by rw[if_neg aS];rw[show hb (zG 4).has 1=true by decide,show hb (zG 4).has 2=true by decide,show hb (zG 4).has 4=true by decide,show hb (zG 4).has 128=false by decide];simp[hs],rfl,⟨P.r,P.m,zI.refl _ _⟩⟩,QP.st P.r.lt lX⟩).mono ?_
  rintro e w' ⟨rfl,q⟩
  exact⟨rfl,q.r,q.m,q.c⟩
 | some ua=>
  obtain⟨ha1,ha2,ha3⟩:=P.h.some hra
  cases hrb:s.R b with
  | none=>
   have hs:=P.h.none hrb
   rw[show zU T p.count ⟨5,d,a,b,c,n,kk,xx⟩ s p.done=.stuck by simp[zU,yZ,HS.get,hra,hrb]]
   refine(g ⟨5,0,0,0,0,0⟩ (QP w R X (.slice ca T.len cap) (.slice ta T.tl tcap) p s.m) w P.r P.i rfl rfl rfl rfl rfl la lb lc ld lX P.ir (fun e=>by simp at e) ⟨.inl ⟨by rw[if_neg aS];rw[show hb (zG 4).has 1=true by decide,show hb (zG 4).has 2=true by decide,show hb (zG 4).has 4=true by decide,show hb (zG 4).has 128=false by decide];simp[hs],rfl,⟨P.r,P.m,zI.refl _ _⟩⟩,QP.st P.r.lt lX⟩).mono ?_
   rintro e w' ⟨rfl,q⟩
   exact⟨rfl,q.r,q.m,q.c⟩
  | some ub=>
   obtain⟨hb1,hb2,hb3⟩:=P.h.some hrb
   cases hrc:s.R c with
   | none=>
    have hs:=P.h.none hrc
    rw[show zU T p.count ⟨5,d,a,b,c,n,kk,xx⟩ s p.done=.stuck by simp[zU,yZ,HS.get,hra,hrb,hrc]]
    refine(g ⟨5,0,0,0,0,0⟩ (QP w R X (.slice ca T.len cap) (.slice ta T.tl tcap) p s.m) w P.r P.i rfl rfl rfl rfl rfl la lb lc ld lX P.ir (fun e=>by simp at e) ⟨.inl ⟨by rw[if_neg aS];rw[show hb (zG 4).has 1=true by decide,show hb (zG 4).has 2=true by decide,show hb (zG 4).has 4=true by decide,show hb (zG 4).has 128=false by decide];simp[hs],rfl,⟨P.r,P.m,zI.refl _ _⟩⟩,QP.st P.r.lt lX⟩).mono ?_
    rintro e w' ⟨rfl,q⟩
    exact⟨rfl,q.r,q.m,q.c⟩
   | some uc=>
    obtain⟨hc1,hc2,hc3⟩:=P.h.some hrc
    rw[show zU T p.count ⟨5,d,a,b,c,n,kk,xx⟩ s p.done=.go (s.set d (uV.val 6 0 ua ub uc)) p.done none by simp[zU,yZ,HS.get,hra,hrb,hrc]]
    refine(g ⟨0,0,0,0,0,0⟩ (QP w R X (.slice ca T.len cap) (.slice ta T.tl tcap) (p.reg d (uV.val 6 0 ua ub uc)) s.m) w P.r P.i rfl rfl rfl rfl rfl la lb lc ld lX P.ir (fun e=>by simp at e) ⟨.inr (.inl ⟨?_,by decide,rfl,by simp,6,0,uV.val 6 0 ua ub uc,by decide,by decide,by decide,by decide,by decide,by show(5:Int) - (zG 4).first=0;decide,by decide,by decide,fun W=>?_,fun u hr hc=>QP.vl P.m P.xr hr hc⟩),QP.st P.r.lt lX⟩).mono ?_
    ·rw[if_neg aS];rw[show hb (zG 4).has 1=true by decide,show hb (zG 4).has 2=true by decide,show hb (zG 4).has 4=true by decide,show hb (zG 4).has 128=false by decide];simp[ha2,hb2,hc2,yY]
    ·rw[show hb (zG 4).has 1=true by decide,show hb (zG 4).has 2=true by decide,show hb (zG 4).has 4=true by decide];simp only[ha1,hb1,hc1,zDT];exact(zDG 6 0 kk ua ub uc W hH ha3 hb3 hc3 aO).1
    ·rintro e w' ⟨rfl,q⟩
     exact⟨rfl,⟨_,q.r,P.h.reg d _ (zDG 6 0 kk ua ub uc w hH ha3 hb3 hc3 aO).2,rfl,rfl,rfl,rfl,.inl rfl⟩,q.m,q.c⟩
theorem zN6(R X I:Nat)(ca:Option Addr)(cap:Nat)(ta:Option Addr)(tcap:Nat)(T:PT)(p:HP)(s:HS Va.MS)(d a b c n kk xx:Nat)(nw:Int)(w:World)(P:PC w R X I ca cap ta tcap T p s ⟨2,d,a,b,c,n,kk,xx⟩ (zG 1) nw)(ld:d < 16)(la:a < 16)(lb:b < 16)(lc:c < 16)(ln:n < 65536)(hH:Va.vY)(hkk:kk < 4294967296) :
  Calls Tryz.prog 34 #[.pointer (some ⟨R,0,none⟩),.pointer (some ⟨I,0,none⟩),.pointer (some ⟨I,8,none⟩)] w fun e w'=>Did w R X (.slice ca T.len cap) (.slice ta T.tl tcap) p s e w' (zU T p.count ⟨2,d,a,b,c,n,kk,xx⟩ s p.done):=by
 have lX:=P.m.lt
 have g:=vR R X I a b c d n (.slice ca T.len cap) (.slice ta T.tl tcap) ⟨2,d,a,b,c,n,kk,xx⟩ (zG 1) nw p
 rw[show zU T p.count ⟨2,d,a,b,c,n,kk,xx⟩ s p.done=.go (s.set d (kk)) p.done none by simp[zU,yZ,HS.get]]
 refine(g ⟨0,0,0,0,0,0⟩ (QP w R X (.slice ca T.len cap) (.slice ta T.tl tcap) (p.reg d (kk)) s.m) w P.r P.i rfl rfl rfl rfl rfl la lb lc ld lX P.ir (fun e=>by simp at e) ⟨.inr (.inl ⟨?_,by decide,rfl,by simp,1,0,kk,by decide,by decide,by decide,by decide,by decide,by show(2:Int) - (zG 1).first=0;decide,by decide,by decide,fun W=>?_,fun u hr hc=>QP.vl P.m P.xr hr hc⟩),QP.st P.r.lt lX⟩).mono ?_
 ·rw[if_neg aS];rw[show hb (zG 1).has 1=false by decide,show hb (zG 1).has 2=false by decide,show hb (zG 1).has 4=false by decide,show hb (zG 1).has 128=false by decide];simp[yY]
 ·rw[show hb (zG 1).has 1=false by decide,show hb (zG 1).has 2=false by decide,show hb (zG 1).has 4=false by decide];simp only[zDT];exact(Va.zQz ⟨1,0,0,0,0,kk,0⟩ 0 0 0 W hH aD aD aD rfl ⟨fun h=>absurd h (show ¬(1:Int)=4 by decide),fun h=>absurd h (show ¬(1:Int)=5 by decide)⟩ (show(0:Int)≤9223372036854775807 by decide))
 ·rintro e w' ⟨rfl,q⟩
  exact⟨rfl,⟨_,q.r,P.h.reg d _ hkk,rfl,rfl,rfl,rfl,.inl rfl⟩,q.m,q.c⟩
theorem zDS{W:World}{X:Nat}{s:Va.MS}(h:Va.PM W X s):TC W X (uV.tch s):=fun W' e=>Va.zAZ X s W' (h.of_block e)
theorem zIS(R X I:Nat)(ca:Option Addr)(cap:Nat)(ta:Option Addr)(tcap:Nat)(T:PT)(p:HP)(s:HS Va.MS)(d a b c n kk xx:Nat)(nw:Int)(w:World)(P:PC w R X I ca cap ta tcap T p s ⟨14,d,a,b,c,n,kk,xx⟩ (zG 13) nw)(ld:d < 16)(la:a < 16)(lb:b < 16)(lc:c < 16)(ln:n < 65536)  :
  Calls Tryz.prog 34 #[.pointer (some ⟨R,0,none⟩),.pointer (some ⟨I,0,none⟩),.pointer (some ⟨I,8,none⟩)] w fun e w'=>Did w R X (.slice ca T.len cap) (.slice ta T.tl tcap) p s e w' (zU T p.count ⟨14,d,a,b,c,n,kk,xx⟩ s p.done):=by
 have lX:=P.m.lt
 have g:=vR R X I a b c d n (.slice ca T.len cap) (.slice ta T.tl tcap) ⟨14,d,a,b,c,n,kk,xx⟩ (zG 13) nw p
 rw[show zU T p.count ⟨14,d,a,b,c,n,kk,xx⟩ s p.done=.out ⟨1,0,0,kk,p.done+n,0⟩ s by simp[zU,yZ,HS.get,km]]
 refine(g ⟨1,0,0,kk,p.done+n,0⟩ (QP w R X (.slice ca T.len cap) (.slice ta T.tl tcap) (p) (s.m)) w P.r P.i rfl rfl rfl rfl rfl la lb lc ld lX P.ir (fun e=>by simp at e) ⟨.inr (.inr (.inl ⟨?_,by decide,by decide,by simp,fun W hW hR hI=>?_⟩)),QP.st P.r.lt lX⟩).mono ?_
 ·rw[if_neg aS];rw[show hb (zG 13).has 1=false by decide,show hb (zG 13).has 2=false by decide,show hb (zG 13).has 4=false by decide,show hb (zG 13).has 128=false by decide];simp[yY]
 ·refine(zGd R X I kk _ _ _ _ n _ _ _ _ _ p W hR hI rfl rfl aD zq32).mono ?_
  rintro e w' ⟨rfl,hr',hc'⟩
  exact⟨rfl,QP.mv P.m hW lX P.xr hr' hc',hc'.mono aS⟩
 ·rintro e w' ⟨rfl,q⟩
  exact⟨rfl,⟨_,q.r,P.h.c⟩,q.m,q.c⟩
theorem zIU(R X I:Nat)(ca:Option Addr)(cap:Nat)(ta:Option Addr)(tcap:Nat)(T:PT)(p:HP)(s:HS Va.MS)(d a b c n kk xx:Nat)(nw:Int)(w:World)(P:PC w R X I ca cap ta tcap T p s ⟨10,d,a,b,c,n,kk,xx⟩ (zG 9) nw)(ld:d < 16)(la:a < 16)(lb:b < 16)(lc:c < 16)(ln:n < 65536)  :
  Calls Tryz.prog 34 #[.pointer (some ⟨R,0,none⟩),.pointer (some ⟨I,0,none⟩),.pointer (some ⟨I,8,none⟩)] w fun e w'=>Did w R X (.slice ca T.len cap) (.slice ta T.tl tcap) p s e w' (zU T p.count ⟨10,d,a,b,c,n,kk,xx⟩ s p.done):=by
 have lX:=P.m.lt
 have g:=vR R X I a b c d n (.slice ca T.len cap) (.slice ta T.tl tcap) ⟨10,d,a,b,c,n,kk,xx⟩ (zG 9) nw p
 cases ht:uV.tch s.m with
 | true=>
  rw[show zU T p.count ⟨10,d,a,b,c,n,kk,xx⟩ s p.done=.out ⟨1,0,0,kk,p.done+n,0⟩ s by simp[zU,yZ,HS.get,ht,km]]
  refine(g ⟨1,0,0,kk,p.done+n,0⟩ (QP w R X (.slice ca T.len cap) (.slice ta T.tl tcap) (p) (s.m)) w P.r P.i rfl rfl rfl rfl rfl la lb lc ld lX P.ir (fun e=>by simp at e) ⟨.inr (.inr (.inl ⟨?_,by decide,by decide,by simp,fun W hW hR hI=>?_⟩)),QP.st P.r.lt lX⟩).mono ?_
  ·rw[if_neg aS];rw[show hb (zG 9).has 1=false by decide,show hb (zG 9).has 2=false by decide,show hb (zG 9).has 4=false by decide,show hb (zG 9).has 128=false by decide];simp[yY]
  ·refine(zFy R X I kk _ _ _ _ n _ _ _ _ _ p W hR hI rfl rfl aD zq32 zq60 (Nat.lt_of_lt_of_le lX hW.size) P.xr).mono ?_
   rintro e w' ⟨rfl,hr',hc'⟩
   exact⟨rfl,QP.mv P.m hW lX P.xr hr' hc',hc'.mono aS⟩
  ·rintro e w' ⟨rfl,q⟩
   exact⟨rfl,⟨_,q.r,P.h.c⟩,q.m,q.c⟩
 | false=>
  rw[show zU T p.count ⟨10,d,a,b,c,n,kk,xx⟩ s p.done=.go s p.done none by simp[zU,yZ,HS.get,ht]]
  refine(g ⟨0,0,0,0,0,0⟩ (QP w R X (.slice ca T.len cap) (.slice ta T.tl tcap) (p) (s.m)) w P.r P.i rfl rfl rfl rfl rfl la lb lc ld lX P.ir (fun e=>by simp at e) ⟨.inr (.inr (.inl ⟨?_,by decide,by decide,by simp,fun W hW hR hI=>?_⟩)),QP.st P.r.lt lX⟩).mono ?_
  ·rw[if_neg aS];rw[show hb (zG 9).has 1=false by decide,show hb (zG 9).has 2=false by decide,show hb (zG 9).has 4=false by decide,show hb (zG 9).has 128=false by decide];simp[yY]
  ·refine(zFx R X I kk _ _ _ _ n _ _ _ _ _ p W hR hI rfl rfl aD zq32 zq60 (Nat.lt_of_lt_of_le lX hW.size) P.xr).mono ?_
   rintro e w' ⟨rfl,hr',hc'⟩
   exact⟨rfl,QP.mv P.m hW lX P.xr hr' hc',hc'.mono aS⟩
  ·rintro e w' ⟨rfl,q⟩
   exact⟨rfl,⟨_,q.r,P.h,rfl,rfl,rfl,rfl,.inl rfl⟩,q.m,q.c⟩
theorem zN5(R X I:Nat)(ca:Option Addr)(cap:Nat)(ta:Option Addr)(tcap:Nat)(T:PT)(p:HP)(s:HS Va.MS)(d a b c n kk xx:Nat)(nw:Int)(w:World)(P:PC w R X I ca cap ta tcap T p s ⟨11,d,a,b,c,n,kk,xx⟩ (zG 10) nw)(ld:d < 16)(la:a < 16)(lb:b < 16)(lc:c < 16)(ln:n < 65536)  :
  Calls Tryz.prog 34 #[.pointer (some ⟨R,0,none⟩),.pointer (some ⟨I,0,none⟩),.pointer (some ⟨I,8,none⟩)] w fun e w'=>Did w R X (.slice ca T.len cap) (.slice ta T.tl tcap) p s e w' (zU T p.count ⟨11,d,a,b,c,n,kk,xx⟩ s p.done):=by
 have lX:=P.m.lt
 have g:=vR R X I a b c d n (.slice ca T.len cap) (.slice ta T.tl tcap) ⟨11,d,a,b,c,n,kk,xx⟩ (zG 10) nw p
 cases hr:s.R a with
 | none=>
  have hs:=P.h.none hr
  rw[show zU T p.count ⟨11,d,a,b,c,n,kk,xx⟩ s p.done=.stuck by simp[zU,yZ,HS.get,hr]]
  refine(g ⟨5,0,0,0,0,0⟩ (QP w R X (.slice ca T.len cap) (.slice ta T.tl tcap) p s.m) w P.r P.i rfl rfl rfl rfl rfl la lb lc ld lX P.ir (fun e=>by simp at e) ⟨.inl ⟨by rw[if_neg aS];rw[show hb (zG 10).has 1=true by decide,show hb (zG 10).has 2=false by decide,show hb (zG 10).has 4=false by decide,show hb (zG 10).has 128=false by decide];simp[hs],rfl,⟨P.r,P.m,zI.refl _ _⟩⟩,QP.st P.r.lt lX⟩).mono ?_
  rintro e w' ⟨rfl,q⟩
  exact⟨rfl,q.r,q.m,q.c⟩
 | some u=>
  obtain⟨h1,h2,h3⟩:=P.h.some hr
  by_cases hu:u=0
  ·subst hu
   rw[show zU T p.count ⟨11,d,a,b,c,n,kk,xx⟩ s p.done=.go s p.done none by simp[zU,yZ,HS.get,hr]]
   refine(g ⟨0,0,0,0,0,0⟩ (QP w R X (.slice ca T.len cap) (.slice ta T.tl tcap) (p) (s.m)) w P.r P.i rfl rfl rfl rfl rfl la lb lc ld lX P.ir (fun e=>by simp at e) ⟨.inr (.inr (.inl ⟨?_,by decide,by decide,by simp,fun W hW hR hI=>?_⟩)),QP.st P.r.lt lX⟩).mono ?_
   ·rw[if_neg aS];rw[show hb (zG 10).has 1=true by decide,show hb (zG 10).has 2=false by decide,show hb (zG 10).has 4=false by decide,show hb (zG 10).has 128=false by decide];simp[h2,yY]
   ·rw[show hb (zG 10).has 1=true by decide,h1]
    refine(zI1 R X I kk _ _ _ _ n _ _ _ _ _ p W hR hI rfl rfl aD zq32 rfl).mono ?_
    rintro e w' ⟨rfl,hr',hc'⟩
    exact⟨rfl,QP.mv P.m hW lX P.xr hr' hc',hc'.mono aS⟩
   ·rintro e w' ⟨rfl,q⟩
    exact⟨rfl,⟨_,q.r,P.h,rfl,rfl,rfl,rfl,.inl rfl⟩,q.m,q.c⟩
  ·skip
   rw[show zU T p.count ⟨11,d,a,b,c,n,kk,xx⟩ s p.done=.out ⟨1,0,0,kk,p.done+n,0⟩ s by simp[zU,yZ,HS.get,hr,hu,km]]
   refine(g ⟨1,0,0,kk,p.done+n,0⟩ (QP w R X (.slice ca T.len cap) (.slice ta T.tl tcap) (p) (s.m)) w P.r P.i rfl rfl rfl rfl rfl la lb lc ld lX P.ir (fun e=>by simp at e) ⟨.inr (.inr (.inl ⟨?_,by decide,by decide,by simp,fun W hW hR hI=>?_⟩)),QP.st P.r.lt lX⟩).mono ?_
   ·rw[if_neg aS];rw[show hb (zG 10).has 1=true by decide,show hb (zG 10).has 2=false by decide,show hb (zG 10).has 4=false by decide,show hb (zG 10).has 128=false by decide];simp[h2,yY]
   ·rw[show hb (zG 10).has 1=true by decide,h1]
    refine(zI2 R X I kk _ _ _ _ n _ _ _ _ _ p W hR hI rfl rfl aD zq32 hu).mono ?_
    rintro e w' ⟨rfl,hr',hc'⟩
    exact⟨rfl,QP.mv P.m hW lX P.xr hr' hc',hc'.mono aS⟩
   ·rintro e w' ⟨rfl,q⟩
    exact⟨rfl,⟨_,q.r,P.h.c⟩,q.m,q.c⟩
theorem zKG(R X I:Nat)(ca:Option Addr)(cap:Nat)(ta:Option Addr)(tcap:Nat)(T:PT)(p:HP)(s:HS Va.MS)(d a b c n kk xx:Nat)(nw:Int)(w:World)(P:PC w R X I ca cap ta tcap T p s ⟨12,d,a,b,c,n,kk,xx⟩ (zG 11) nw)(ld:d < 16)(la:a < 16)(lb:b < 16)(lc:c < 16)(ln:n < 65536)(hd0:0 < d) :
  Calls Tryz.prog 34 #[.pointer (some ⟨R,0,none⟩),.pointer (some ⟨I,0,none⟩),.pointer (some ⟨I,8,none⟩)] w fun e w'=>Did w R X (.slice ca T.len cap) (.slice ta T.tl tcap) p s e w' (zU T p.count ⟨12,d,a,b,c,n,kk,xx⟩ s p.done):=by
 have lX:=P.m.lt
 have g:=vR R X I a b c d n (.slice ca T.len cap) (.slice ta T.tl tcap) ⟨12,d,a,b,c,n,kk,xx⟩ (zG 11) nw p
 rw[show zU T p.count ⟨12,d,a,b,c,n,kk,xx⟩ s p.done=.out ⟨3,d,xx,kk,p.done+n,0⟩ s by simp[zU,yZ,HS.get,km]]
 refine(g ⟨3,d,xx,kk,p.done+n,0⟩ (QP w R X (.slice ca T.len cap) (.slice ta T.tl tcap) (p) (s.m)) w P.r P.i rfl rfl rfl rfl rfl la lb lc ld lX P.ir (fun e=>by simp at e) ⟨.inr (.inr (.inl ⟨?_,by decide,by decide,by simp,fun W hW hR hI=>?_⟩)),QP.st P.r.lt lX⟩).mono ?_
 ·rw[if_neg aS];rw[show hb (zG 11).has 1=false by decide,show hb (zG 11).has 2=false by decide,show hb (zG 11).has 4=false by decide,show hb (zG 11).has 128=false by decide];simp[yY]
 ·refine(zDz R X I kk _ _ _ _ n _ _ _ _ _ p W hR hI rfl rfl aD P.ir zq32 d xx ⟨rfl,rfl,rfl,hd0⟩).mono ?_
  rintro e w' ⟨rfl,hr',hc'⟩
  exact⟨rfl,QP.mv P.m hW lX P.xr hr' hc',hc'.mono aS⟩
 ·rintro e w' ⟨rfl,q⟩
  exact⟨rfl,⟨_,q.r,P.h.c⟩,q.m,q.c⟩
theorem zHq(R X I:Nat)(ca:Option Addr)(cap:Nat)(ta:Option Addr)(tcap:Nat)(T:PT)(p:HP)(s:HS Va.MS)(d a b c n kk xx:Nat)(nw:Int)(w:World)(P:PC w R X I ca cap ta tcap T p s ⟨13,d,a,b,c,n,kk,xx⟩ (zG 12) nw)(ld:d < 16)(la:a < 16)(lb:b < 16)(lc:c < 16)(ln:n < 65536)(hd0:0 < d)(hx0:xx=0) :
  Calls Tryz.prog 34 #[.pointer (some ⟨R,0,none⟩),.pointer (some ⟨I,0,none⟩),.pointer (some ⟨I,8,none⟩)] w fun e w'=>Did w R X (.slice ca T.len cap) (.slice ta T.tl tcap) p s e w' (zU T p.count ⟨13,d,a,b,c,n,kk,xx⟩ s p.done):=by
 have lX:=P.m.lt
 have g:=vR R X I a b c d n (.slice ca T.len cap) (.slice ta T.tl tcap) ⟨13,d,a,b,c,n,kk,xx⟩ (zG 12) nw p
 cases hr:s.R a with
 | none=>
  have hs:=P.h.none hr
  rw[show zU T p.count ⟨13,d,a,b,c,n,kk,xx⟩ s p.done=.stuck by simp[zU,yZ,HS.get,hr]]
  refine(g ⟨5,0,0,0,0,0⟩ (QP w R X (.slice ca T.len cap) (.slice ta T.tl tcap) p s.m) w P.r P.i rfl rfl rfl rfl rfl la lb lc ld lX P.ir (fun e=>by simp at e) ⟨.inl ⟨by rw[if_neg aS];rw[show hb (zG 12).has 1=true by decide,show hb (zG 12).has 2=false by decide,show hb (zG 12).has 4=false by decide,show hb (zG 12).has 128=false by decide];simp[hs],rfl,⟨P.r,P.m,zI.refl _ _⟩⟩,QP.st P.r.lt lX⟩).mono ?_
  rintro e w' ⟨rfl,q⟩
  exact⟨rfl,q.r,q.m,q.c⟩
 | some u=>
  obtain⟨h1,h2,h3⟩:=P.h.some hr
  subst hx0
  by_cases hu:u=0
  ·subst hu
   rw[show zU T p.count ⟨13,d,a,b,c,n,kk,0⟩ s p.done=.go s p.done none by simp[zU,yZ,HS.get,hr]]
   refine(g ⟨0,0,0,0,0,0⟩ (QP w R X (.slice ca T.len cap) (.slice ta T.tl tcap) (p) (s.m)) w P.r P.i rfl rfl rfl rfl rfl la lb lc ld lX P.ir (fun e=>by simp at e) ⟨.inr (.inr (.inl ⟨?_,by decide,by decide,by simp,fun W hW hR hI=>?_⟩)),QP.st P.r.lt lX⟩).mono ?_
   ·rw[if_neg aS];rw[show hb (zG 12).has 1=true by decide,show hb (zG 12).has 2=false by decide,show hb (zG 12).has 4=false by decide,show hb (zG 12).has 128=false by decide];simp[h2,yY]
   ·rw[show hb (zG 12).has 1=true by decide,h1]
    refine(zDI R X I kk _ _ _ _ n _ _ _ _ _ p W hR hI rfl rfl aD P.ir zq32 d 0 ⟨rfl,rfl,rfl,hd0,rfl⟩).mono ?_
    rintro e w' ⟨rfl,hr',hc'⟩
    exact⟨rfl,QP.mv P.m hW lX P.xr hr' hc',hc'.mono aS⟩
   ·rintro e w' ⟨rfl,q⟩
    exact⟨rfl,⟨_,q.r,P.h,rfl,rfl,rfl,rfl,.inl rfl⟩,q.m,q.c⟩
  ·skip
   rw[show zU T p.count ⟨13,d,a,b,c,n,kk,0⟩ s p.done=.out ⟨3,d,0,kk,p.done+n,0⟩ s by simp[zU,yZ,HS.get,hr,hu,km]]
   refine(g ⟨3,d,0,kk,p.done+n,0⟩ (QP w R X (.slice ca T.len cap) (.slice ta T.tl tcap) (p) (s.m)) w P.r P.i rfl rfl rfl rfl rfl la lb lc ld lX P.ir (fun e=>by simp at e) ⟨.inr (.inr (.inl ⟨?_,by decide,by decide,by simp,fun W hW hR hI=>?_⟩)),QP.st P.r.lt lX⟩).mono ?_
   ·rw[if_neg aS];rw[show hb (zG 12).has 1=true by decide,show hb (zG 12).has 2=false by decide,show hb (zG 12).has 4=false by decide,show hb (zG 12).has 128=false by decide];simp[h2,yY]
   ·rw[show hb (zG 12).has 1=true by decide,h1]
    refine(zDJ R X I kk _ _ _ _ n _ _ _ _ _ p W hR hI rfl rfl aD P.ir zq32 d 0 ⟨rfl,rfl,rfl,hd0,hu⟩).mono ?_
    rintro e w' ⟨rfl,hr',hc'⟩
    exact⟨rfl,QP.mv P.m hW lX P.xr hr' hc',hc'.mono aS⟩
   ·rintro e w' ⟨rfl,q⟩
    exact⟨rfl,⟨_,q.r,P.h.c⟩,q.m,q.c⟩
theorem zIQ(R X I:Nat)(ca:Option Addr)(cap:Nat)(ta:Option Addr)(tcap:Nat)(T:PT)(p:HP)(s:HS Va.MS)(d a b c n kk xx:Nat)(nw:Int)(w:World)(P:PC w R X I ca cap ta tcap T p s ⟨1,d,a,b,c,n,kk,xx⟩ (zG 0) nw)(ld:d < 16)(la:a < 16)(lb:b < 16)(lc:c < 16)(ln:n < 65536)  :
  Calls Tryz.prog 34 #[.pointer (some ⟨R,0,none⟩),.pointer (some ⟨I,0,none⟩),.pointer (some ⟨I,8,none⟩)] w fun e w'=>Did w R X (.slice ca T.len cap) (.slice ta T.tl tcap) p s e w' (zU T p.count ⟨1,d,a,b,c,n,kk,xx⟩ s p.done):=by
 have lX:=P.m.lt
 have g:=vR R X I a b c d n (.slice ca T.len cap) (.slice ta T.tl tcap) ⟨1,d,a,b,c,n,kk,xx⟩ (zG 0) nw p
 have hlf:=P.lf
 cases ht:uV.tch s.m with
 | true=>
  rw[show zU T p.count ⟨1,d,a,b,c,n,kk,xx⟩ s p.done=.out ⟨1,0,0,kk,p.done,0⟩ s by simp[zU,yZ,HS.get,ht]]
  refine(g ⟨1,0,0,kk,p.done,0⟩ (QP w R X (.slice ca T.len cap) (.slice ta T.tl tcap) (p) (s.m)) w P.r P.i rfl rfl rfl rfl rfl la lb lc ld lX P.ir (fun e=>by simp at e) ⟨.inr (.inr (.inl ⟨?_,by decide,by decide,by simp,fun W hW hR hI=>?_⟩)),QP.st P.r.lt lX⟩).mono ?_
  ·rw[if_neg aS];rw[show hb (zG 0).has 1=false by decide,show hb (zG 0).has 2=false by decide,show hb (zG 0).has 4=false by decide,show hb (zG 0).has 128=false by decide];simp[yY]
  ·refine(zCQ R X I kk _ _ _ _ n _ _ _ _ _ p W hR hI rfl rfl aD P.ir zq32 zq60 (Nat.lt_of_lt_of_le lX hW.size) P.xr).mono ?_
   rintro e w' ⟨rfl,hr',hc'⟩
   exact⟨rfl,QP.mv P.m hW lX P.xr hr' hc',hc'.mono aS⟩
  ·rintro e w' ⟨rfl,q⟩
   exact⟨rfl,⟨_,q.r,P.h.c⟩,q.m,q.c⟩
 | false=>
  by_cases h4:T.left - p.done < n
  ·skip
   rw[show zU T p.count ⟨1,d,a,b,c,n,kk,xx⟩ s p.done=.out ⟨4,0,0,kk,p.done,0⟩ s by simp[zU,yZ,HS.get,ht,h4]]
   refine(g ⟨4,0,0,kk,p.done,0⟩ (QP w R X (.slice ca T.len cap) (.slice ta T.tl tcap) (p) (s.m)) w P.r P.i rfl rfl rfl rfl rfl la lb lc ld lX P.ir (fun e=>by simp at e) ⟨.inr (.inr (.inl ⟨?_,by decide,by decide,by simp,fun W hW hR hI=>?_⟩)),QP.st P.r.lt lX⟩).mono ?_
   ·rw[if_neg aS];rw[show hb (zG 0).has 1=false by decide,show hb (zG 0).has 2=false by decide,show hb (zG 0).has 4=false by decide,show hb (zG 0).has 128=false by decide];simp[yY]
   ·refine(zCw R X I kk _ _ _ _ n _ _ _ _ _ p W hR hI rfl rfl aD P.ir zq32 zq60 (Nat.lt_of_lt_of_le lX hW.size) P.xr (by have:=P.ld;have:=P.lf;omega) (by have:=P.lf;omega)).mono ?_
    rintro e w' ⟨rfl,hr',hc'⟩
    exact⟨rfl,QP.mv P.m hW lX P.xr hr' hc',hc'.mono aS⟩
   ·rintro e w' ⟨rfl,q⟩
    exact⟨rfl,⟨_,q.r,P.h.c⟩,q.m,q.c⟩
  ·by_cases h6:1048576≤p.count
   ·skip
    rw[show zU T p.count ⟨1,d,a,b,c,n,kk,xx⟩ s p.done=.out ⟨6,0,0,kk,p.done,0⟩ s by simp[zU,yZ,HS.get,ht,h4,h6]]
    refine(g ⟨6,0,0,kk,p.done,0⟩ (QP w R X (.slice ca T.len cap) (.slice ta T.tl tcap) (p) (s.m)) w P.r P.i rfl rfl rfl rfl rfl la lb lc ld lX P.ir (fun e=>by simp at e) ⟨.inr (.inr (.inl ⟨?_,by decide,by decide,by simp,fun W hW hR hI=>?_⟩)),QP.st P.r.lt lX⟩).mono ?_
    ·rw[if_neg aS];rw[show hb (zG 0).has 1=false by decide,show hb (zG 0).has 2=false by decide,show hb (zG 0).has 4=false by decide,show hb (zG 0).has 128=false by decide];simp[yY]
    ·refine(zCP R X I kk _ _ _ _ n _ _ _ _ _ p W hR hI rfl rfl aD P.ir zq32 zq60 (Nat.lt_of_lt_of_le lX hW.size) P.xr (by have:=P.ld;have:=P.lf;omega) (by have:=P.lf;omega) h6).mono ?_
     rintro e w' ⟨rfl,hr',hc'⟩
     exact⟨rfl,QP.mv P.m hW lX P.xr hr' hc',hc'.mono aS⟩
    ·rintro e w' ⟨rfl,q⟩
     exact⟨rfl,⟨_,q.r,P.h.c⟩,q.m,q.c⟩
   ·skip
    rw[show zU T p.count ⟨1,d,a,b,c,n,kk,xx⟩ s p.done=.go { s with R:=fun _=>none,Sp:=fun _=>none } p.done none by simp[zU,yZ,HS.get,ht,h4,h6]]
    refine(g ⟨0,0,0,0,0,0⟩ (QP w R X (.slice ca T.len cap) (.slice ta T.tl tcap) (p.enter) (s.m)) w P.r P.i rfl rfl rfl rfl rfl la lb lc ld lX P.ir (fun e=>by simp at e) ⟨.inr (.inr (.inl ⟨?_,by decide,by decide,by simp,fun W hW hR hI=>?_⟩)),QP.st P.r.lt lX⟩).mono ?_
    ·rw[if_neg aS];rw[show hb (zG 0).has 1=false by decide,show hb (zG 0).has 2=false by decide,show hb (zG 0).has 4=false by decide,show hb (zG 0).has 128=false by decide];simp[yY]
    ·refine(zDH R X I kk _ _ _ _ n _ _ _ _ _ p W hR hI rfl rfl aD P.ir zq32 zq60 (Nat.lt_of_lt_of_le lX hW.size) P.xr (by have:=P.ld;have:=P.lf;omega) (by have:=P.lf;omega) h6 ⟨P.h.e0,P.en⟩).mono ?_
     rintro e w' ⟨rfl,hr',hc'⟩
     exact⟨rfl,QP.mv P.m hW lX P.xr hr' hc',hc'.mono aS⟩
    ·rintro e w' ⟨rfl,q⟩
     exact⟨rfl,⟨_,q.r,P.h.enter,rfl,rfl,rfl,rfl,.inr ⟨rfl,Int.lt_of_not_ge h6⟩⟩,q.m,q.c⟩
theorem zIP(R X I:Nat)(ca:Option Addr)(cap:Nat)(ta:Option Addr)(tcap:Nat)(T:PT)(p:HP)(s:HS Va.MS)(d a b c n kk xx:Nat)(nw:Int)(w:World)(P:PC w R X I ca cap ta tcap T p s ⟨15,d,a,b,c,n,kk,xx⟩ (zG 14) nw)(ld:d < 16)(la:a < 16)(lb:b < 16)(lc:c < 16)(ln:n < 65536)(hkk:kk < 4294967296) :
  Calls Tryz.prog 34 #[.pointer (some ⟨R,0,none⟩),.pointer (some ⟨I,0,none⟩),.pointer (some ⟨I,8,none⟩)] w fun e w'=>Did w R X (.slice ca T.len cap) (.slice ta T.tl tcap) p s e w' (zU T p.count ⟨15,d,a,b,c,n,kk,xx⟩ s p.done):=by
 have lX:=P.m.lt
 have g:=vR R X I a b c d n (.slice ca T.len cap) (.slice ta T.tl tcap) ⟨15,d,a,b,c,n,kk,xx⟩ (zG 14) nw p
 cases hE:isE T.ws T.len kk with
 | true=>
  rw[show zU T p.count ⟨15,d,a,b,c,n,kk,xx⟩ s p.done=.go s (p.done+n) (some kk) by simp[zU,yZ,HS.get,hE]]
  refine(g ⟨0,0,0,0,0,0⟩ (QP w R X (.slice ca T.len cap) (.slice ta T.tl tcap) (p.go kk n) (s.m)) w P.r P.i rfl rfl rfl rfl rfl la lb lc ld lX P.ir (fun e=>by simp at e) ⟨.inr (.inr (.inl ⟨?_,by decide,by decide,by simp,fun W hW hR hI=>?_⟩)),QP.st P.r.lt lX⟩).mono ?_
  ·rw[if_neg aS];rw[show hb (zG 14).has 1=false by decide,show hb (zG 14).has 2=false by decide,show hb (zG 14).has 4=false by decide,show hb (zG 14).has 128=false by decide];simp[yY]
  ·refine(zFs R X I kk _ _ _ _ n _ _ _ p W ca T.len cap _ T.ws hR hI rfl rfl aD P.ir zq32 (yD P.wd hW) hE hkk).mono ?_
   rintro e w' ⟨rfl,hr',hc'⟩
   exact⟨rfl,QP.mv P.m hW lX P.xr hr' hc',hc'.mono aS⟩
  ·rintro e w' ⟨rfl,q⟩
   exact⟨rfl,⟨_,q.r,P.h.go kk n,rfl,rfl,rfl,rfl,.inl rfl⟩,q.m,q.c⟩
 | false=>
  rw[show zU T p.count ⟨15,d,a,b,c,n,kk,xx⟩ s p.done=.stuck by simp[zU,yZ,HS.get,hE]]
  refine(g ⟨5,0,0,0,0,0⟩ (QP w R X (.slice ca T.len cap) (.slice ta T.tl tcap) (p) (s.m)) w P.r P.i rfl rfl rfl rfl rfl la lb lc ld lX P.ir (fun e=>by simp at e) ⟨.inr (.inr (.inl ⟨?_,by decide,by decide,by simp,fun W hW hR hI=>?_⟩)),QP.st P.r.lt lX⟩).mono ?_
  ·rw[if_neg aS];rw[show hb (zG 14).has 1=false by decide,show hb (zG 14).has 2=false by decide,show hb (zG 14).has 4=false by decide,show hb (zG 14).has 128=false by decide];simp[yY]
  ·refine(zFr R X I kk _ _ _ _ n _ _ _ p W ca T.len cap _ T.ws hR hI rfl rfl aD P.ir zq32 (yD P.wd hW) hE hkk).mono ?_
   rintro e w' ⟨rfl,hr',hc'⟩
   exact⟨rfl,QP.mv P.m hW lX P.xr hr' hc',hc'.mono aS⟩
  ·rintro e w' ⟨rfl,q⟩
   exact⟨rfl,q.r,q.m,q.c⟩
theorem zKE(R X I:Nat)(ca:Option Addr)(cap:Nat)(ta:Option Addr)(tcap:Nat)(T:PT)(p:HP)(s:HS Va.MS)(d a b c n kk xx:Nat)(nw:Int)(w:World)(P:PC w R X I ca cap ta tcap T p s ⟨96,d,a,b,c,n,kk,xx⟩ (zG 21) nw)(ld:d < 16)(la:a < 16)(lb:b < 16)(lc:c < 16)(ln:n < 65536)(hkk:kk < 4294967296) :
  Calls Tryz.prog 34 #[.pointer (some ⟨R,0,none⟩),.pointer (some ⟨I,0,none⟩),.pointer (some ⟨I,8,none⟩)] w fun e w'=>Did w R X (.slice ca T.len cap) (.slice ta T.tl tcap) p s e w' (zU T p.count ⟨96,d,a,b,c,n,kk,xx⟩ s p.done):=by
 have lX:=P.m.lt
 have g:=vR R X I a b c d n (.slice ca T.len cap) (.slice ta T.tl tcap) ⟨96,d,a,b,c,n,kk,xx⟩ (zG 21) nw p
 cases hr:s.R a with
 | none=>
  have hs:=P.h.none hr
  rw[show zU T p.count ⟨96,d,a,b,c,n,kk,xx⟩ s p.done=.stuck by simp[zU,yZ,HS.get,hr]]
  refine(g ⟨5,0,0,0,0,0⟩ (QP w R X (.slice ca T.len cap) (.slice ta T.tl tcap) p s.m) w P.r P.i rfl rfl rfl rfl rfl la lb lc ld lX P.ir (fun e=>by simp at e) ⟨.inl ⟨by rw[if_neg aS];rw[show hb (zG 21).has 1=true by decide,show hb (zG 21).has 2=false by decide,show hb (zG 21).has 4=false by decide,show hb (zG 21).has 128=false by decide];simp[hs],rfl,⟨P.r,P.m,zI.refl _ _⟩⟩,QP.st P.r.lt lX⟩).mono ?_
  rintro e w' ⟨rfl,q⟩
  exact⟨rfl,q.r,q.m,q.c⟩
 | some u=>
  obtain⟨h1,h2,h3⟩:=P.h.some hr
  by_cases hu:u=0
  ·subst hu
   rw[show zU T p.count ⟨96,d,a,b,c,n,kk,xx⟩ s p.done=.go s p.done none by simp[zU,yZ,HS.get,hr]]
   refine(g ⟨0,0,0,0,0,0⟩ (QP w R X (.slice ca T.len cap) (.slice ta T.tl tcap) (p) (s.m)) w P.r P.i rfl rfl rfl rfl rfl la lb lc ld lX P.ir (fun e=>by simp at e) ⟨.inr (.inr (.inl ⟨?_,by decide,by decide,by simp,fun W hW hR hI=>?_⟩)),QP.st P.r.lt lX⟩).mono ?_
   ·rw[if_neg aS];rw[show hb (zG 21).has 1=true by decide,show hb (zG 21).has 2=false by decide,show hb (zG 21).has 4=false by decide,show hb (zG 21).has 128=false by decide];simp[h2,yY]
   ·rw[show hb (zG 21).has 1=true by decide,h1]
    refine(zGa R X I kk _ _ _ _ n _ _ _ _ _ p W hR hI rfl rfl aD zq32 rfl).mono ?_
    rintro e w' ⟨rfl,hr',hc'⟩
    exact⟨rfl,QP.mv P.m hW lX P.xr hr' hc',hc'.mono aS⟩
   ·rintro e w' ⟨rfl,q⟩
    exact⟨rfl,⟨_,q.r,P.h,rfl,rfl,rfl,rfl,.inl rfl⟩,q.m,q.c⟩
  ·cases hE:isE T.ws T.len kk with
   | true=>
    rw[show zU T p.count ⟨96,d,a,b,c,n,kk,xx⟩ s p.done=.go s (p.done+n) (some kk) by simp[zU,yZ,HS.get,hr,hu,hE]]
    refine(g ⟨0,0,0,0,0,0⟩ (QP w R X (.slice ca T.len cap) (.slice ta T.tl tcap) (p.go kk n) (s.m)) w P.r P.i rfl rfl rfl rfl rfl la lb lc ld lX P.ir (fun e=>by simp at e) ⟨.inr (.inr (.inl ⟨?_,by decide,by decide,by simp,fun W hW hR hI=>?_⟩)),QP.st P.r.lt lX⟩).mono ?_
    ·rw[if_neg aS];rw[show hb (zG 21).has 1=true by decide,show hb (zG 21).has 2=false by decide,show hb (zG 21).has 4=false by decide,show hb (zG 21).has 128=false by decide];simp[h2,yY]
    ·rw[show hb (zG 21).has 1=true by decide,h1]
     refine(zGb R X I kk _ _ _ _ n _ _ _ p W ca T.len cap _ T.ws hR hI rfl rfl aD P.ir zq32 (yD P.wd hW) hE hkk hu).mono ?_
     rintro e w' ⟨rfl,hr',hc'⟩
     exact⟨rfl,QP.mv P.m hW lX P.xr hr' hc',hc'.mono aS⟩
    ·rintro e w' ⟨rfl,q⟩
     exact⟨rfl,⟨_,q.r,P.h.go kk n,rfl,rfl,rfl,rfl,.inl rfl⟩,q.m,q.c⟩
   | false=>
    rw[show zU T p.count ⟨96,d,a,b,c,n,kk,xx⟩ s p.done=.stuck by simp[zU,yZ,HS.get,hr,hu,hE]]
    refine(g ⟨5,0,0,0,0,0⟩ (QP w R X (.slice ca T.len cap) (.slice ta T.tl tcap) (p) (s.m)) w P.r P.i rfl rfl rfl rfl rfl la lb lc ld lX P.ir (fun e=>by simp at e) ⟨.inr (.inr (.inl ⟨?_,by decide,by decide,by simp,fun W hW hR hI=>?_⟩)),QP.st P.r.lt lX⟩).mono ?_
    ·rw[if_neg aS];rw[show hb (zG 21).has 1=true by decide,show hb (zG 21).has 2=false by decide,show hb (zG 21).has 4=false by decide,show hb (zG 21).has 128=false by decide];simp[h2,yY]
    ·rw[show hb (zG 21).has 1=true by decide,h1]
     refine(zGc R X I kk _ _ _ _ n _ _ _ p W ca T.len cap _ T.ws hR hI rfl rfl aD P.ir zq32 (yD P.wd hW) hE hkk hu).mono ?_
     rintro e w' ⟨rfl,hr',hc'⟩
     exact⟨rfl,QP.mv P.m hW lX P.xr hr' hc',hc'.mono aS⟩
    ·rintro e w' ⟨rfl,q⟩
     exact⟨rfl,q.r,q.m,q.c⟩
theorem zHp(R X I:Nat)(ca:Option Addr)(cap:Nat)(ta:Option Addr)(tcap:Nat)(T:PT)(p:HP)(s:HS Va.MS)(d a b c n kk xx:Nat)(nw:Int)(w:World)(P:PC w R X I ca cap ta tcap T p s ⟨4,d,a,b,c,n,kk,xx⟩ (zG 3) nw)(ld:d < 16)(la:a < 16)(lb:b < 16)(lc:c < 16)(ln:n < 65536)  :
  Calls Tryz.prog 34 #[.pointer (some ⟨R,0,none⟩),.pointer (some ⟨I,0,none⟩),.pointer (some ⟨I,8,none⟩)] w fun e w'=>Did w R X (.slice ca T.len cap) (.slice ta T.tl tcap) p s e w' (zU T p.count ⟨4,d,a,b,c,n,kk,xx⟩ s p.done):=by
 have lX:=P.m.lt
 have g:=vR R X I a b c d n (.slice ca T.len cap) (.slice ta T.tl tcap) ⟨4,d,a,b,c,n,kk,xx⟩ (zG 3) nw p
 cases hr:s.R a with
 | none=>
  have hs:=P.h.none hr
  rw[show zU T p.count ⟨4,d,a,b,c,n,kk,xx⟩ s p.done=.stuck by simp[zU,yZ,HS.get,hr]]
  refine(g ⟨5,0,0,0,0,0⟩ (QP w R X (.slice ca T.len cap) (.slice ta T.tl tcap) p s.m) w P.r P.i rfl rfl rfl rfl rfl la lb lc ld lX P.ir (fun e=>by simp at e) ⟨.inl ⟨by rw[if_neg aS];rw[show hb (zG 3).has 1=true by decide,show hb (zG 3).has 2=false by decide,show hb (zG 3).has 4=false by decide,show hb (zG 3).has 128=false by decide];simp[hs],rfl,⟨P.r,P.m,zI.refl _ _⟩⟩,QP.st P.r.lt lX⟩).mono ?_
  rintro e w' ⟨rfl,q⟩
  exact⟨rfl,q.r,q.m,q.c⟩
 | some u=>
  obtain⟨h1,h2,h3⟩:=P.h.some hr
  rcases Nat.eq_zero_or_pos T.tl with ht|ht
  ·skip
   rw[show zU T p.count ⟨4,d,a,b,c,n,kk,xx⟩ s p.done=.out ⟨2,0,0,u,p.done+n,0⟩ s by simp[zU,yZ,HS.get,hr,ht]]
   refine(g ⟨2,0,0,u,p.done+n,0⟩ (QP w R X (.slice ca T.len cap) (.slice ta T.tl tcap) (p) (s.m)) w P.r P.i rfl rfl rfl rfl rfl la lb lc ld lX P.ir (fun e=>by simp at e) ⟨.inr (.inr (.inl ⟨?_,by decide,by decide,by simp,fun W hW hR hI=>?_⟩)),QP.st P.r.lt lX⟩).mono ?_
   ·rw[if_neg aS];rw[show hb (zG 3).has 1=true by decide,show hb (zG 3).has 2=false by decide,show hb (zG 3).has 4=false by decide,show hb (zG 3).has 128=false by decide];simp[h2,yY]
   ·rw[show hb (zG 3).has 1=true by decide,h1]
    refine(zCx R X I kk _ _ _ _ n _ _ _ p W ca T.len cap ta tcap (by rw[ht] at hR;exact hR) hI rfl rfl aD P.ir zq32 trivial).mono ?_
    rintro e w' ⟨rfl,hr',hc'⟩
    rw[← ht] at hr'
    exact⟨rfl,QP.mv P.m hW lX P.xr hr' hc',hc'.mono aS⟩
   ·rintro e w' ⟨rfl,q⟩
    exact⟨rfl,⟨_,q.r,P.h.c⟩,q.m,q.c⟩
  ·obtain⟨tq,toff,rfl,hT,htl⟩:=P.tr.resolve_left aO
   by_cases hp:T.tp (u%T.tl)=u
   ·cases hE:isE T.ws T.len (T.ta (u%T.tl)) with
    | true=>
     rw[show zU T p.count ⟨4,d,a,b,c,n,kk,xx⟩ s p.done=.go s (p.done+n) (some (T.ta (u%T.tl))) by simp[zU,yZ,HS.get,hr,ht,hp,hE]]
     refine(g ⟨0,0,0,0,0,0⟩ (QP w R X (.slice ca T.len cap) (.slice (some ⟨tq,toff,none⟩) T.tl tcap) (p.go (T.ta (u%T.tl)) n) (s.m)) w P.r P.i rfl rfl rfl rfl rfl la lb lc ld lX P.ir (fun e=>by simp at e) ⟨.inr (.inr (.inl ⟨?_,by decide,by decide,by simp,fun W hW hR hI=>?_⟩)),QP.st P.r.lt lX⟩).mono ?_
     ·rw[if_neg aS];rw[show hb (zG 3).has 1=true by decide,show hb (zG 3).has 2=false by decide,show hb (zG 3).has 4=false by decide,show hb (zG 3).has 128=false by decide];simp[h2,yY]
     ·rw[show hb (zG 3).has 1=true by decide,h1]
      refine(zCR R X I kk _ _ _ _ n _ _ _ p W ca T.len cap (u%T.tl) tq toff T.tl tcap T.tp T.ta T.ws hR hI rfl rfl aD P.ir zq32 ⟨hT.keep hW,ht,htl,rfl,h3,yD P.wd hW,hp,hE⟩).mono ?_
      rintro e w' ⟨rfl,hr',hc'⟩
      exact⟨rfl,QP.mv P.m hW lX P.xr hr' hc',hc'.mono aS⟩
     ·rintro e w' ⟨rfl,q⟩
      exact⟨rfl,⟨_,q.r,P.h.go _ n,rfl,rfl,rfl,rfl,.inl rfl⟩,q.m,q.c⟩
    | false=>
     rw[show zU T p.count ⟨4,d,a,b,c,n,kk,xx⟩ s p.done=.out ⟨2,0,0,u,p.done+n,0⟩ s by simp[zU,yZ,HS.get,hr,ht,hp,hE]]
     refine(g ⟨2,0,0,u,p.done+n,0⟩ (QP w R X (.slice ca T.len cap) (.slice (some ⟨tq,toff,none⟩) T.tl tcap) (p) (s.m)) w P.r P.i rfl rfl rfl rfl rfl la lb lc ld lX P.ir (fun e=>by simp at e) ⟨.inr (.inr (.inl ⟨?_,by decide,by decide,by simp,fun W hW hR hI=>?_⟩)),QP.st P.r.lt lX⟩).mono ?_
     ·rw[if_neg aS];rw[show hb (zG 3).has 1=true by decide,show hb (zG 3).has 2=false by decide,show hb (zG 3).has 4=false by decide,show hb (zG 3).has 128=false by decide];simp[h2,yY]
     ·rw[show hb (zG 3).has 1=true by decide,h1]
      refine(zCb R X I kk _ _ _ _ n _ _ _ p W ca T.len cap (u%T.tl) tq toff T.tl tcap T.tp T.ta T.ws hR hI rfl rfl aD P.ir zq32 ⟨hT.keep hW,ht,htl,rfl,h3,yD P.wd hW,hp,hE⟩).mono ?_
      rintro e w' ⟨rfl,hr',hc'⟩
      exact⟨rfl,QP.mv P.m hW lX P.xr hr' hc',hc'.mono aS⟩
     ·rintro e w' ⟨rfl,q⟩
      exact⟨rfl,⟨_,q.r,P.h.c⟩,q.m,q.c⟩
   ·skip
    rw[show zU T p.count ⟨4,d,a,b,c,n,kk,xx⟩ s p.done=.out ⟨2,0,0,u,p.done+n,0⟩ s by simp[zU,yZ,HS.get,hr,ht,hp]]
    refine(g ⟨2,0,0,u,p.done+n,0⟩ (QP w R X (.slice ca T.len cap) (.slice (some ⟨tq,toff,none⟩) T.tl tcap) (p) (s.m)) w P.r P.i rfl rfl rfl rfl rfl la lb lc ld lX P.ir (fun e=>by simp at e) ⟨.inr (.inr (.inl ⟨?_,by decide,by decide,by simp,fun W hW hR hI=>?_⟩)),QP.st P.r.lt lX⟩).mono ?_
    ·rw[if_neg aS];rw[show hb (zG 3).has 1=true by decide,show hb (zG 3).has 2=false by decide,show hb (zG 3).has 4=false by decide,show hb (zG 3).has 128=false by decide];simp[h2,yY]
    ·rw[show hb (zG 3).has 1=true by decide,h1]
     refine(zCc R X I kk _ _ _ _ n _ _ _ p W ca T.len cap (u%T.tl) tq toff T.tl tcap T.tp T.ta T.ws hR hI rfl rfl aD P.ir zq32 ⟨hT.keep hW,ht,htl,rfl,h3,yD P.wd hW,hp⟩).mono ?_
     rintro e w' ⟨rfl,hr',hc'⟩
     exact⟨rfl,QP.mv P.m hW lX P.xr hr' hc',hc'.mono aS⟩
    ·rintro e w' ⟨rfl,q⟩
     exact⟨rfl,⟨_,q.r,P.h.c⟩,q.m,q.c⟩
end Go.Proofs.YthcpipfmicbnmaaGreat.Ho
