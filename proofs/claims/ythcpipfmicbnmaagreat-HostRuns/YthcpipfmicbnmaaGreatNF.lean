import Derived.Test.YthcpipfmicbnmaaGreatND
import Derived.Test.YthcpipfmicbnmaaGreatRA
import Derived.Test.YthcpipfmicbnmaaGreatWC1
import Derived.Deep.MidRow
set_option linter.unusedVariables false
set_option linter.unusedSimpArgs false
set_option maxHeartbeats 8000000
namespace Go.Proofs.YthcpipfmicbnmaaGreat.Ho
open Go.RowKit
set_option maxRecDepth 100000
theorem zBB(o:Option Nat):(((Va.stA o).toNat:Nat):Int)=Va.stA o:=by cases o<;>simp[Va.stA]
theorem zKF(R X I:Nat)(ca:Option Addr)(cap:Nat)(ta:Option Addr)(tcap:Nat)(T:PT)(p:HP)(s:HS Va.MS)(op d a b c n kk xx:Nat)(nw:Int)(w:World)(P:PC w R X I ca cap ta tcap T p s ⟨op,d,a,b,c,n,kk,xx⟩ (zG 19) nw)(ld:d < 16)(la:a < 16)(lb:b < 16)(lc:c < 16)(ln:n < 65536)(l0:80≤op)(l1:op≤84) :
  Calls Tryz.prog 34 #[.pointer (some ⟨R,0,none⟩),.pointer (some ⟨I,0,none⟩),.pointer (some ⟨I,8,none⟩)] w fun e w'=>Did w R X (.slice ca T.len cap) (.slice ta T.tl tcap) p s e w' (zU T p.count ⟨op,d,a,b,c,n,kk,xx⟩ s p.done):=by
 have lX:=P.m.lt
 have g:=vR R X I a b c d n (.slice ca T.len cap) (.slice ta T.tl tcap) ⟨op,d,a,b,c,n,kk,xx⟩ (zG 19) nw p
 cases hr:s.R a with
 | none=>
  have hs:=P.h.none hr
  rw[show zU T p.count ⟨op,d,a,b,c,n,kk,xx⟩ s p.done=.stuck by simp only[zU,yZ,HS.get,Int.toNat_natCast,if_neg (show ¬(op:Int)=1 by omega),if_neg (show ¬(op:Int)=15 by omega),if_neg (show ¬(op:Int)=96 by omega),if_neg (show ¬(op:Int)=4 by omega),if_neg (show ¬(op:Int)=3 by omega),if_neg (show ¬(op:Int)=2 by omega),if_neg (show ¬(op:Int)=6 by omega),if_neg (show ¬(op:Int)=7 by omega),if_neg (show ¬(op:Int)=8 by omega),if_neg (show ¬(op:Int)=9 by omega),if_neg (show ¬(op:Int)=97 by omega),if_neg (show ¬(op:Int)=10 by omega),if_neg (show ¬(op:Int)=11 by omega),if_neg (show ¬(op:Int)=12 by omega),if_neg (show ¬(op:Int)=13 by omega),if_neg (show ¬(op:Int)=14 by omega),if_neg (show ¬(op:Int)=5 by omega),if_neg (show ¬88≤(op:Int) by omega),if_pos (show 80≤(op:Int) by omega),hr]]
  refine(g ⟨5,0,0,0,0,0⟩ (QP w R X (.slice ca T.len cap) (.slice ta T.tl tcap) p s.m) w P.r P.i rfl rfl rfl rfl rfl la lb lc ld lX P.ir (fun e=>absurd e zq29) ⟨.inl ⟨by rw[if_neg (show ¬(op:Int)=8 by omega)];rw[show hb (zG 19).has 1=true by decide,show hb (zG 19).has 2=false by decide,show hb (zG 19).has 4=false by decide,show hb (zG 19).has 128=false by decide];simp[hs],rfl,⟨P.r,P.m,zI.refl _ _⟩⟩,QP.st P.r.lt lX⟩).mono ?_
  rintro e w' ⟨rfl,q⟩
  exact⟨rfl,q.r,q.m,q.c⟩
 | some u=>
  obtain⟨h1,h2,h3⟩:=P.h.some hr
  by_cases hz:Va.vS 5 (Va.yA s.m 1 u (Va.ldN ((op:Int) - 80)).toNat)=0
  ·skip
   rw[show zU T p.count ⟨op,d,a,b,c,n,kk,xx⟩ s p.done=.go (s.set d (Va.ldW s.m ((op:Int) - 80) u)) p.done none by simp only[zU,yZ,HS.get,Int.toNat_natCast,if_neg (show ¬(op:Int)=1 by omega),if_neg (show ¬(op:Int)=15 by omega),if_neg (show ¬(op:Int)=96 by omega),if_neg (show ¬(op:Int)=4 by omega),if_neg (show ¬(op:Int)=3 by omega),if_neg (show ¬(op:Int)=2 by omega),if_neg (show ¬(op:Int)=6 by omega),if_neg (show ¬(op:Int)=7 by omega),if_neg (show ¬(op:Int)=8 by omega),if_neg (show ¬(op:Int)=9 by omega),if_neg (show ¬(op:Int)=97 by omega),if_neg (show ¬(op:Int)=10 by omega),if_neg (show ¬(op:Int)=11 by omega),if_neg (show ¬(op:Int)=12 by omega),if_neg (show ¬(op:Int)=13 by omega),if_neg (show ¬(op:Int)=14 by omega),if_neg (show ¬(op:Int)=5 by omega),if_neg (show ¬88≤(op:Int) by omega),if_pos (show 80≤(op:Int) by omega),hr,if_pos (show(uV.load s.m ((op:Int) - 80) u).2.1=0 from hz)];rfl]
   refine(g ⟨0,0,0,0,0,0⟩ (QP w R X (.slice ca T.len cap) (.slice ta T.tl tcap) (p.reg d (Va.ldW s.m ((op:Int) - 80) u)) s.m) w P.r P.i rfl rfl rfl rfl rfl la lb lc ld lX P.ir (fun e=>absurd e zq29) ⟨.inr (.inr (.inl ⟨?_,by decide,by decide,by show ¬(op:Int)=8;omega,fun W hW hR hI=>?_⟩)),QP.st P.r.lt lX⟩).mono ?_
   ·rw[if_neg (show ¬(op:Int)=8 by omega)];rw[show hb (zG 19).has 1=true by decide,show hb (zG 19).has 2=false by decide,show hb (zG 19).has 4=false by decide,show hb (zG 19).has 128=false by decide];simp[h2,yY]
   ·rw[show hb (zG 19).has 1=true by decide,h1]
    refine zFt R X I kk _ _ _ _ n _ _ _ _ _ p W hR hI rfl rfl aD P.ir zq32 (Va.vS 5 (Va.yA s.m 1 u (Va.ldN ((op:Int) - 80)).toNat)) (Va.stA (Va.yA s.m 1 u (Va.ldN ((op:Int) - 80)).toNat)).toNat zq71 (QP w R X (.slice ca T.len cap) (.slice ta T.tl tcap) (p.reg d (Va.ldW s.m ((op:Int) - 80) u)) s.m) (fun a b q bb=>QP.st P.r.lt lX a b q (bb.mono hW.size)) (Nat.lt_of_lt_of_le lX hW.size) (fun W2 hW2 hR2 hI2=>?_)
    have hw2:Below w.heap.size w W2:=hW.trans (hW2.mono hW.size)
    refine(zD8 R X I d u _ _ _ op ((op:Int) - 80) (Va.vS 5 (Va.yA s.m 1 u (Va.ldN ((op:Int) - 80)).toNat)) ((Va.stA (Va.yA s.m 1 u (Va.ldN ((op:Int) - 80)).toNat)).toNat:Nat) _ _ _ _ _ p W2 hR2 hI2 rfl rfl ld P.ir (fun e=>P.xr e.symm) aD (IntWalk.i64_in _ aO) (Va.ldW s.m ((op:Int) - 80) u) (Nat.lt_of_lt_of_le lX hw2.size) (fun W3 hW3=>?_)).mono ?_
    ·rw[zBB]
     exact Va.zG9 X u ((op:Int) - 80) s.m W3 h3 P.h.mo ((P.m.below hw2 lX).below hW3 (Nat.lt_of_lt_of_le lX hw2.size)) aO
    ·rintro e w' ⟨rfl,hr',hc'⟩
     exact⟨rfl,QP.mv P.m hw2 lX P.xr hr' hc',hc'.mono aS⟩
   ·rintro e w' ⟨rfl,q⟩
    exact⟨rfl,⟨_,q.r,P.h.reg d _ (Va.zIw s.m ((op:Int) - 80) u P.h.mo),rfl,rfl,rfl,rfl,.inl rfl⟩,q.m,q.c⟩
  ·skip
   rw[show zU T p.count ⟨op,d,a,b,c,n,kk,xx⟩ s p.done=.out ⟨3,Va.vS 5 (Va.yA s.m 1 u (Va.ldN ((op:Int) - 80)).toNat),(Va.stA (Va.yA s.m 1 u (Va.ldN ((op:Int) - 80)).toNat)).toNat,kk,p.done+n,0⟩ s by simp only[zU,yZ,HS.get,Int.toNat_natCast,if_neg (show ¬(op:Int)=1 by omega),if_neg (show ¬(op:Int)=15 by omega),if_neg (show ¬(op:Int)=96 by omega),if_neg (show ¬(op:Int)=4 by omega),if_neg (show ¬(op:Int)=3 by omega),if_neg (show ¬(op:Int)=2 by omega),if_neg (show ¬(op:Int)=6 by omega),if_neg (show ¬(op:Int)=7 by omega),if_neg (show ¬(op:Int)=8 by omega),if_neg (show ¬(op:Int)=9 by omega),if_neg (show ¬(op:Int)=97 by omega),if_neg (show ¬(op:Int)=10 by omega),if_neg (show ¬(op:Int)=11 by omega),if_neg (show ¬(op:Int)=12 by omega),if_neg (show ¬(op:Int)=13 by omega),if_neg (show ¬(op:Int)=14 by omega),if_neg (show ¬(op:Int)=5 by omega),if_neg (show ¬88≤(op:Int) by omega),if_pos (show 80≤(op:Int) by omega),hr,if_neg (show ¬(uV.load s.m ((op:Int) - 80) u).2.1=0 from hz)];rfl]
   refine(g ⟨3,Va.vS 5 (Va.yA s.m 1 u (Va.ldN ((op:Int) - 80)).toNat),(Va.stA (Va.yA s.m 1 u (Va.ldN ((op:Int) - 80)).toNat)).toNat,kk,p.done+n,0⟩ (QP w R X (.slice ca T.len cap) (.slice ta T.tl tcap) (p.reg d (Va.ldW s.m ((op:Int) - 80) u)) s.m) w P.r P.i rfl rfl rfl rfl rfl la lb lc ld lX P.ir (fun e=>absurd e zq29) ⟨.inr (.inr (.inl ⟨?_,by decide,by decide,by show ¬(op:Int)=8;omega,fun W hW hR hI=>?_⟩)),QP.st P.r.lt lX⟩).mono ?_
   ·rw[if_neg (show ¬(op:Int)=8 by omega)];rw[show hb (zG 19).has 1=true by decide,show hb (zG 19).has 2=false by decide,show hb (zG 19).has 4=false by decide,show hb (zG 19).has 128=false by decide];simp[h2,yY]
   ·rw[show hb (zG 19).has 1=true by decide,h1]
    refine zFu R X I kk _ _ _ _ n _ _ _ _ _ p W hR hI rfl rfl aD P.ir zq32 (Va.vS 5 (Va.yA s.m 1 u (Va.ldN ((op:Int) - 80)).toNat)) (Va.stA (Va.yA s.m 1 u (Va.ldN ((op:Int) - 80)).toNat)).toNat zq71 (QP w R X (.slice ca T.len cap) (.slice ta T.tl tcap) (p.reg d (Va.ldW s.m ((op:Int) - 80) u)) s.m) (fun a b q bb=>QP.st P.r.lt lX a b q (bb.mono hW.size)) (Nat.lt_of_lt_of_le lX hW.size) (fun W2 hW2 hR2 hI2=>?_)
    have hw2:Below w.heap.size w W2:=hW.trans (hW2.mono hW.size)
    refine(zD8 R X I d u _ _ _ op ((op:Int) - 80) (Va.vS 5 (Va.yA s.m 1 u (Va.ldN ((op:Int) - 80)).toNat)) ((Va.stA (Va.yA s.m 1 u (Va.ldN ((op:Int) - 80)).toNat)).toNat:Nat) _ _ _ _ _ p W2 hR2 hI2 rfl rfl ld P.ir (fun e=>P.xr e.symm) aD (IntWalk.i64_in _ aO) (Va.ldW s.m ((op:Int) - 80) u) (Nat.lt_of_lt_of_le lX hw2.size) (fun W3 hW3=>?_)).mono ?_
    ·rw[zBB]
     exact Va.zG9 X u ((op:Int) - 80) s.m W3 h3 P.h.mo ((P.m.below hw2 lX).below hW3 (Nat.lt_of_lt_of_le lX hw2.size)) aO
    ·rintro e w' ⟨rfl,hr',hc'⟩
     exact⟨rfl,QP.mv P.m hw2 lX P.xr hr' hc',hc'.mono aS⟩
   ·rintro e w' ⟨rfl,q⟩
    exact⟨rfl,⟨_,q.r,P.h.c⟩,q.m,q.c⟩
theorem zIT(R X I:Nat)(ca:Option Addr)(cap:Nat)(ta:Option Addr)(tcap:Nat)(T:PT)(p:HP)(s:HS Va.MS)(op d a b c n kk xx:Nat)(nw:Int)(w:World)(P:PC w R X I ca cap ta tcap T p s ⟨op,d,a,b,c,n,kk,xx⟩ (zG 20) nw)(ld:d < 16)(la:a < 16)(lb:b < 16)(lc:c < 16)(ln:n < 65536)(l0:88≤op)(l1:op≤90) :
  Calls Tryz.prog 34 #[.pointer (some ⟨R,0,none⟩),.pointer (some ⟨I,0,none⟩),.pointer (some ⟨I,8,none⟩)] w fun e w'=>Did w R X (.slice ca T.len cap) (.slice ta T.tl tcap) p s e w' (zU T p.count ⟨op,d,a,b,c,n,kk,xx⟩ s p.done):=by
 have lX:=P.m.lt
 have g:=vR R X I a b c d n (.slice ca T.len cap) (.slice ta T.tl tcap) ⟨op,d,a,b,c,n,kk,xx⟩ (zG 20) nw p
 cases hr:s.R a with
 | none=>
  have hs:=P.h.none hr
  rw[show zU T p.count ⟨op,d,a,b,c,n,kk,xx⟩ s p.done=.stuck by simp only[zU,yZ,HS.get,Int.toNat_natCast,if_neg (show ¬(op:Int)=1 by omega),if_neg (show ¬(op:Int)=15 by omega),if_neg (show ¬(op:Int)=96 by omega),if_neg (show ¬(op:Int)=4 by omega),if_neg (show ¬(op:Int)=3 by omega),if_neg (show ¬(op:Int)=2 by omega),if_neg (show ¬(op:Int)=6 by omega),if_neg (show ¬(op:Int)=7 by omega),if_neg (show ¬(op:Int)=8 by omega),if_neg (show ¬(op:Int)=9 by omega),if_neg (show ¬(op:Int)=97 by omega),if_neg (show ¬(op:Int)=10 by omega),if_neg (show ¬(op:Int)=11 by omega),if_neg (show ¬(op:Int)=12 by omega),if_neg (show ¬(op:Int)=13 by omega),if_neg (show ¬(op:Int)=14 by omega),if_neg (show ¬(op:Int)=5 by omega),if_pos (show 88≤(op:Int) by omega),hr]]
  refine(g ⟨5,0,0,0,0,0⟩ (QP w R X (.slice ca T.len cap) (.slice ta T.tl tcap) p s.m) w P.r P.i rfl rfl rfl rfl rfl la lb lc ld lX P.ir (fun e=>absurd e zq29) ⟨.inl ⟨by rw[if_neg (show ¬(op:Int)=8 by omega)];rw[show hb (zG 20).has 1=true by decide,show hb (zG 20).has 2=false by decide,show hb (zG 20).has 4=false by decide,show hb (zG 20).has 128=true by decide];simp[hs],rfl,⟨P.r,P.m,zI.refl _ _⟩⟩,QP.st P.r.lt lX⟩).mono ?_
  rintro e w' ⟨rfl,q⟩
  exact⟨rfl,q.r,q.m,q.c⟩
 | some u=>
  obtain⟨h1,h2,h3⟩:=P.h.some hr
  cases hrd:s.R d with
  | none=>
   have hs:=P.h.none hrd
   rw[show zU T p.count ⟨op,d,a,b,c,n,kk,xx⟩ s p.done=.stuck by simp only[zU,yZ,HS.get,Int.toNat_natCast,if_neg (show ¬(op:Int)=1 by omega),if_neg (show ¬(op:Int)=15 by omega),if_neg (show ¬(op:Int)=96 by omega),if_neg (show ¬(op:Int)=4 by omega),if_neg (show ¬(op:Int)=3 by omega),if_neg (show ¬(op:Int)=2 by omega),if_neg (show ¬(op:Int)=6 by omega),if_neg (show ¬(op:Int)=7 by omega),if_neg (show ¬(op:Int)=8 by omega),if_neg (show ¬(op:Int)=9 by omega),if_neg (show ¬(op:Int)=97 by omega),if_neg (show ¬(op:Int)=10 by omega),if_neg (show ¬(op:Int)=11 by omega),if_neg (show ¬(op:Int)=12 by omega),if_neg (show ¬(op:Int)=13 by omega),if_neg (show ¬(op:Int)=14 by omega),if_neg (show ¬(op:Int)=5 by omega),if_pos (show 88≤(op:Int) by omega),hr,hrd]]
   refine(g ⟨5,0,0,0,0,0⟩ (QP w R X (.slice ca T.len cap) (.slice ta T.tl tcap) p s.m) w P.r P.i rfl rfl rfl rfl rfl la lb lc ld lX P.ir (fun e=>absurd e zq29) ⟨.inl ⟨by rw[if_neg (show ¬(op:Int)=8 by omega)];rw[show hb (zG 20).has 1=true by decide,show hb (zG 20).has 2=false by decide,show hb (zG 20).has 4=false by decide,show hb (zG 20).has 128=true by decide];simp[hs],rfl,⟨P.r,P.m,zI.refl _ _⟩⟩,QP.st P.r.lt lX⟩).mono ?_
   rintro e w' ⟨rfl,q⟩
   exact⟨rfl,q.r,q.m,q.c⟩
  | some v=>
   obtain⟨d1,d2,d3⟩:=P.h.some hrd
   by_cases hz:Va.vS 6 (Va.sto s.m u (Va.stN ((op:Int) - 88)))=0
   ·skip
    rw[show zU T p.count ⟨op,d,a,b,c,n,kk,xx⟩ s p.done=.go { s with m:=(Va.storeT s.m u (Va.stN ((op:Int) - 88)) v) } p.done none by simp only[zU,yZ,HS.get,Int.toNat_natCast,if_neg (show ¬(op:Int)=1 by omega),if_neg (show ¬(op:Int)=15 by omega),if_neg (show ¬(op:Int)=96 by omega),if_neg (show ¬(op:Int)=4 by omega),if_neg (show ¬(op:Int)=3 by omega),if_neg (show ¬(op:Int)=2 by omega),if_neg (show ¬(op:Int)=6 by omega),if_neg (show ¬(op:Int)=7 by omega),if_neg (show ¬(op:Int)=8 by omega),if_neg (show ¬(op:Int)=9 by omega),if_neg (show ¬(op:Int)=97 by omega),if_neg (show ¬(op:Int)=10 by omega),if_neg (show ¬(op:Int)=11 by omega),if_neg (show ¬(op:Int)=12 by omega),if_neg (show ¬(op:Int)=13 by omega),if_neg (show ¬(op:Int)=14 by omega),if_neg (show ¬(op:Int)=5 by omega),if_pos (show 88≤(op:Int) by omega),hr,hrd,if_pos (show(uV.store s.m ((op:Int) - 88) u v).2.1=0 from hz)];rfl]
    refine(g ⟨0,0,0,0,0,0⟩ (QP w R X (.slice ca T.len cap) (.slice ta T.tl tcap) p (Va.storeT s.m u (Va.stN ((op:Int) - 88)) v)) w P.r P.i rfl rfl rfl rfl rfl la lb lc ld lX P.ir (fun e=>absurd e zq29) ⟨.inr (.inr (.inl ⟨?_,by decide,by decide,by show ¬(op:Int)=8;omega,fun W hW hR hI=>?_⟩)),QP.st P.r.lt lX⟩).mono ?_
    ·rw[if_neg (show ¬(op:Int)=8 by omega)];rw[show hb (zG 20).has 1=true by decide,show hb (zG 20).has 2=false by decide,show hb (zG 20).has 4=false by decide,show hb (zG 20).has 128=true by decide];simp[h2,d2,yY]
    ·rw[if_neg (show ¬(op:Int)=8 by omega),show hb (zG 20).has 1=true by decide,show hb (zG 20).has 128=true by decide,h1,d1]
     refine zFv R X I kk _ _ _ _ n _ _ _ _ _ p W hR hI rfl rfl aD P.ir zq32 (Va.vS 6 (Va.sto s.m u (Va.stN ((op:Int) - 88)))) (Va.stA (Va.sto s.m u (Va.stN ((op:Int) - 88)))).toNat zq71 (QP w R X (.slice ca T.len cap) (.slice ta T.tl tcap) p (Va.storeT s.m u (Va.stN ((op:Int) - 88)) v)) (fun a b q bb=>QP.st P.r.lt lX a b q (bb.mono hW.size)) (Nat.lt_of_lt_of_le lX hW.size) (fun W2 hW2 hR2 hI2=>?_)
     have hw2:Below w.heap.size w W2:=hW.trans (hW2.mono hW.size)
     have lX2:=Nat.lt_of_lt_of_le lX hw2.size
     refine(zDw R X I d u _ _ v op ((op:Int) - 88) (Va.vS 6 (Va.sto s.m u (Va.stN ((op:Int) - 88)))) ((Va.stA (Va.sto s.m u (Va.stN ((op:Int) - 88)))).toNat:Nat) _ _ _ _ _ p W2 hR2 hI2 rfl rfl ld P.ir (fun e=>P.xr e.symm) aD (IntWalk.i64_in _ aO) (QP w R X (.slice ca T.len cap) (.slice ta T.tl tcap) p (Va.storeT s.m u (Va.stN ((op:Int) - 88)) v)) (fun a b q bb=>QP.st P.r.lt lX a b q (bb.mono hw2.size)) lX2 (fun W3 hW3=>?_)).mono ?_
     ·rw[zBB]
      refine(Va.zHc X u v ((op:Int) - 88) s.m W3 h3 d3 P.h.mo ((P.m.below hw2 lX).below hW3 lX2) aO).mono ?_
      rintro e w' ⟨rfl,hm',hc'⟩
      exact⟨rfl,⟨(hR2.bel hW3 hR2.lt).chg (zC2 hc') (by simpa using fun e=>P.xr e.symm),hm',(zI.of_below _ (hw2.trans (hW3.mono hw2.size))).trans ((zC2 hc').mono aS)⟩,zC2 hc'⟩
     ·rintro e w' ⟨rfl,q,hc'⟩
      exact⟨rfl,q,hc'.mono aS⟩
    ·rintro e w' ⟨rfl,q⟩
     exact⟨rfl,⟨_,q.r,P.h.mem (Va.zD1 P.h.mo _ _ _),rfl,rfl,rfl,rfl,.inl rfl⟩,q.m,q.c⟩
   ·skip
    rw[show zU T p.count ⟨op,d,a,b,c,n,kk,xx⟩ s p.done=.out ⟨3,Va.vS 6 (Va.sto s.m u (Va.stN ((op:Int) - 88))),(Va.stA (Va.sto s.m u (Va.stN ((op:Int) - 88)))).toNat,kk,p.done+n,0⟩ { s with m:=(Va.storeT s.m u (Va.stN ((op:Int) - 88)) v) } by simp only[zU,yZ,HS.get,Int.toNat_natCast,if_neg (show ¬(op:Int)=1 by omega),if_neg (show ¬(op:Int)=15 by omega),if_neg (show ¬(op:Int)=96 by omega),if_neg (show ¬(op:Int)=4 by omega),if_neg (show ¬(op:Int)=3 by omega),if_neg (show ¬(op:Int)=2 by omega),if_neg (show ¬(op:Int)=6 by omega),if_neg (show ¬(op:Int)=7 by omega),if_neg (show ¬(op:Int)=8 by omega),if_neg (show ¬(op:Int)=9 by omega),if_neg (show ¬(op:Int)=97 by omega),if_neg (show ¬(op:Int)=10 by omega),if_neg (show ¬(op:Int)=11 by omega),if_neg (show ¬(op:Int)=12 by omega),if_neg (show ¬(op:Int)=13 by omega),if_neg (show ¬(op:Int)=14 by omega),if_neg (show ¬(op:Int)=5 by omega),if_pos (show 88≤(op:Int) by omega),hr,hrd,if_neg (show ¬(uV.store s.m ((op:Int) - 88) u v).2.1=0 from hz)];rfl]
    refine(g ⟨3,Va.vS 6 (Va.sto s.m u (Va.stN ((op:Int) - 88))),(Va.stA (Va.sto s.m u (Va.stN ((op:Int) - 88)))).toNat,kk,p.done+n,0⟩ (QP w R X (.slice ca T.len cap) (.slice ta T.tl tcap) p (Va.storeT s.m u (Va.stN ((op:Int) - 88)) v)) w P.r P.i rfl rfl rfl rfl rfl la lb lc ld lX P.ir (fun e=>absurd e zq29) ⟨.inr (.inr (.inl ⟨?_,by decide,by decide,by show ¬(op:Int)=8;omega,fun W hW hR hI=>?_⟩)),QP.st P.r.lt lX⟩).mono ?_
    ·rw[if_neg (show ¬(op:Int)=8 by omega)];rw[show hb (zG 20).has 1=true by decide,show hb (zG 20).has 2=false by decide,show hb (zG 20).has 4=false by decide,show hb (zG 20).has 128=true by decide];simp[h2,d2,yY]
    ·rw[if_neg (show ¬(op:Int)=8 by omega),show hb (zG 20).has 1=true by decide,show hb (zG 20).has 128=true by decide,h1,d1]
     refine zFw R X I kk _ _ _ _ n _ _ _ _ _ p W hR hI rfl rfl aD P.ir zq32 (Va.vS 6 (Va.sto s.m u (Va.stN ((op:Int) - 88)))) (Va.stA (Va.sto s.m u (Va.stN ((op:Int) - 88)))).toNat zq71 (QP w R X (.slice ca T.len cap) (.slice ta T.tl tcap) p (Va.storeT s.m u (Va.stN ((op:Int) - 88)) v)) (fun a b q bb=>QP.st P.r.lt lX a b q (bb.mono hW.size)) (Nat.lt_of_lt_of_le lX hW.size) (fun W2 hW2 hR2 hI2=>?_)
     have hw2:Below w.heap.size w W2:=hW.trans (hW2.mono hW.size)
     have lX2:=Nat.lt_of_lt_of_le lX hw2.size
     refine(zDw R X I d u _ _ v op ((op:Int) - 88) (Va.vS 6 (Va.sto s.m u (Va.stN ((op:Int) - 88)))) ((Va.stA (Va.sto s.m u (Va.stN ((op:Int) - 88)))).toNat:Nat) _ _ _ _ _ p W2 hR2 hI2 rfl rfl ld P.ir (fun e=>P.xr e.symm) aD (IntWalk.i64_in _ aO) (QP w R X (.slice ca T.len cap) (.slice ta T.tl tcap) p (Va.storeT s.m u (Va.stN ((op:Int) - 88)) v)) (fun a b q bb=>QP.st P.r.lt lX a b q (bb.mono hw2.size)) lX2 (fun W3 hW3=>?_)).mono ?_
     ·rw[zBB]
      refine(Va.zHc X u v ((op:Int) - 88) s.m W3 h3 d3 P.h.mo ((P.m.below hw2 lX).below hW3 lX2) aO).mono ?_
      rintro e w' ⟨rfl,hm',hc'⟩
      exact⟨rfl,⟨(hR2.bel hW3 hR2.lt).chg (zC2 hc') (by simpa using fun e=>P.xr e.symm),hm',(zI.of_below _ (hw2.trans (hW3.mono hw2.size))).trans ((zC2 hc').mono aS)⟩,zC2 hc'⟩
     ·rintro e w' ⟨rfl,q,hc'⟩
      exact⟨rfl,q,hc'.mono aS⟩
    ·rintro e w' ⟨rfl,q⟩
     exact⟨rfl,⟨_,q.r,P.h.c⟩,q.m,q.c⟩
def zNX(op:Fin 256):Bool:=match hit (op.val:Int) with
 | none=>true
 | some k=>decide ((op.val=1∧k=0)∨(op.val=2∧k=1)∨(op.val=3∧k=2)∨(op.val=4∧k=3)∨(op.val=5∧k=4)∨(op.val=6∧k=5)∨(op.val=7∧k=6)∨(op.val=8∧k=7)∨(op.val=9∧k=8)∨(op.val=10∧k=9)∨(op.val=11∧k=10)∨(op.val=12∧k=11)∨(op.val=13∧k=12)∨(op.val=14∧k=13)∨(op.val=15∧k=14)∨(op.val=96∧k=21)∨(op.val=97∧k=22)∨(16≤op.val∧op.val≤31∧k=15)∨(32≤op.val∧op.val≤38∧k=16)∨(48≤op.val∧op.val≤60∧k=17)∨(64≤op.val∧op.val≤79∧k=18)∨(80≤op.val∧op.val≤84∧k=19)∨(88≤op.val∧op.val≤90∧k=20))
theorem zKu:∀ op:Fin 256,zNX op=true:=by decide +kernel
theorem zG5{op k:Nat}(ho:op < 256)(h:hit (op:Int)=some k):(op=1∧k=0)∨(op=2∧k=1)∨(op=3∧k=2)∨(op=4∧k=3)∨(op=5∧k=4)∨(op=6∧k=5)∨(op=7∧k=6)∨(op=8∧k=7)∨(op=9∧k=8)∨(op=10∧k=9)∨(op=11∧k=10)∨(op=12∧k=11)∨(op=13∧k=12)∨(op=14∧k=13)∨(op=15∧k=14)∨(op=96∧k=21)∨(op=97∧k=22)∨(16≤op∧op≤31∧k=15)∨(32≤op∧op≤38∧k=16)∨(48≤op∧op≤60∧k=17)∨(64≤op∧op≤79∧k=18)∨(80≤op∧op≤84∧k=19)∨(88≤op∧op≤90∧k=20):=by
 have:=zKu ⟨op,ho⟩
 unfold zNX at this
 simp only[h] at this
 exact of_decide_eq_true this
theorem zAX{k d n:Nat}{st:Bool}(m:Nat)(h:alB st (d:Int) (n:Int) (zG k).most=true)(hm:(zG k).most=m):n≤m:=by
 unfold alB at h
 rw[hm] at h
 simp only[Bool.and_eq_true,decide_eq_true_eq] at h
 have:=h.1
 omega
theorem zNV{k d n:Nat}(h:alB (hb (zG k).has 256) (d:Int) (n:Int) (zG k).most=true)(hm:hb (zG k).has 256=true):0 < d:=by
 unfold alB at h
 rw[hm] at h
 simp only[Bool.and_eq_true,Bool.not_true,Bool.false_or,decide_eq_true_eq] at h
 have:=h.2.1
 omega
theorem zFW(R X I:Nat)(ca:Option Addr)(cap:Nat)(ta:Option Addr)(tcap:Nat)(T:PT)(p:HP)(s:HS Va.MS)(at':Int)(w:World)(hH:Va.vY)(hws:∀ i,T.ws i < 4294967296)(he:(yG T.ws T.len at').e=0)
  (P:PC w R X I ca cap ta tcap T p s (yG T.ws T.len at').x (yG T.ws T.len at').f (yG T.ws T.len at').n) :
  Calls Tryz.prog 34 #[.pointer (some ⟨R,0,none⟩),.pointer (some ⟨I,0,none⟩),.pointer (some ⟨I,8,none⟩)] w fun e w'=>Did w R X (.slice ca T.len cap) (.slice ta T.tl tcap) p s e w' (zU T p.count (yG T.ws T.len at').x s p.done):=by
 obtain⟨m,k,op,d,a,b,c,n,kk,xx,F⟩:=zAx hws he
 rw[F.ex,F.ef] at P
 rw[F.ex]
 have al:=F.al
 have x1:=F.x1
 rcases zG5 F.fo F.hk with ⟨rfl,rfl⟩|⟨rfl,rfl⟩|⟨rfl,rfl⟩|⟨rfl,rfl⟩|⟨rfl,rfl⟩|⟨rfl,rfl⟩|⟨rfl,rfl⟩|⟨rfl,rfl⟩|⟨rfl,rfl⟩|⟨rfl,rfl⟩|⟨rfl,rfl⟩|⟨rfl,rfl⟩|⟨rfl,rfl⟩|⟨rfl,rfl⟩|⟨rfl,rfl⟩|⟨rfl,rfl⟩|⟨rfl,rfl⟩|⟨l0,l1,rfl⟩|⟨l0,l1,rfl⟩|⟨l0,l1,rfl⟩|⟨l0,l1,rfl⟩|⟨l0,l1,rfl⟩|⟨l0,l1,rfl⟩
 ·exact zIQ R X I ca cap ta tcap T p s d a b c n kk xx _ w P F.fd F.fa F.fb F.fc F.fn
 ·exact zN6 R X I ca cap ta tcap T p s d a b c n kk xx _ w P F.fd F.fa F.fb F.fc F.fn hH F.fk
 ·exact zMa R X I ca cap ta tcap T p s d a b c n kk xx _ w P F.fd F.fa F.fb F.fc F.fn
 ·exact zHp R X I ca cap ta tcap T p s d a b c n kk xx _ w P F.fd F.fa F.fb F.fc F.fn
 ·exact zMc R X I ca cap ta tcap T p s d a b c n kk xx _ w P F.fd F.fa F.fb F.fc F.fn hH
 ·exact zL8 R X I ca cap ta tcap T p s d a b c n kk xx _ w P F.fd F.fa F.fb F.fc F.fn (by have:=zAX 11 al aD;omega)
 ·exact zMd R X I ca cap ta tcap T p s d a b c n kk xx _ w P F.fd F.fa F.fb F.fc F.fn (by have:=zAX 11 al aD;omega)
 ·exact zL9 R X I ca cap ta tcap T p s d a b c n kk xx _ w P F.fd F.fa F.fb F.fc F.fn (by have:=zAX 2047 al aD;omega)
 ·exact zMe R X I ca cap ta tcap T p s d a b c n kk xx _ w P F.fd F.fa F.fb F.fc F.fn (by have:=zAX 2047 al aD;omega)
 ·exact zIU R X I ca cap ta tcap T p s d a b c n kk xx _ w P F.fd F.fa F.fb F.fc F.fn
 ·exact zN5 R X I ca cap ta tcap T p s d a b c n kk xx _ w P F.fd F.fa F.fb F.fc F.fn
 ·exact zKG R X I ca cap ta tcap T p s d a b c n kk xx _ w P F.fd F.fa F.fb F.fc F.fn (zNV al aD)
 ·exact zHq R X I ca cap ta tcap T p s d a b c n kk xx _ w P F.fd F.fa F.fb F.fc F.fn (zNV al aD) (x1 aD)
 ·exact zIS R X I ca cap ta tcap T p s d a b c n kk xx _ w P F.fd F.fa F.fb F.fc F.fn
 ·exact zIP R X I ca cap ta tcap T p s d a b c n kk xx _ w P F.fd F.fa F.fb F.fc F.fn F.fk
 ·exact zKE R X I ca cap ta tcap T p s d a b c n kk xx _ w P F.fd F.fa F.fb F.fc F.fn F.fk
 ·exact zMb R X I ca cap ta tcap T p s d a b c n kk xx _ w P F.fd F.fa F.fb F.fc F.fn
 ·exact zL7 R X I ca cap ta tcap T p s op d a b c n kk xx _ w P F.fd F.fa F.fb F.fc F.fn hH l0 l1
 ·exact zN7 R X I ca cap ta tcap T p s op d a b c n kk xx _ w P F.fd F.fa F.fb F.fc F.fn hH l0 l1
 ·exact zIR R X I ca cap ta tcap T p s op d a b c n kk xx _ w P F.fd F.fa F.fb F.fc F.fn hH l0 l1
 ·exact zKD R X I ca cap ta tcap T p s op d a b c n kk xx _ w P F.fd F.fa F.fb F.fc F.fn hH l0 l1
 ·exact zKF R X I ca cap ta tcap T p s op d a b c n kk xx _ w P F.fd F.fa F.fb F.fc F.fn l0 l1
 ·exact zIT R X I ca cap ta tcap T p s op d a b c n kk xx _ w P F.fd F.fa F.fb F.fc F.fn l0 l1
def zBj(T:PT):Nat→Int→HS Va.MS→Int→Int→LF × HS Va.MS
 | 0,at',s,dn,ran=>(⟨5,0,0,0,0,at'⟩,s)
 | f+1,at',s,dn,ran=>
  if(yG T.ws T.len at').e=0 then
   (match zU T ran (yG T.ws T.len at').x s dn with
   | .stuck=>(⟨5,0,0,0,0,at'⟩,s)
   | .out L s'=>({ L with at_:=at' },s')
   | .go s' dn' nx=>zBj T f (nx.getD (at'+(yG T.ws T.len at').n)) s' dn' (ran+1))
  else(⟨5,0,0,0,0,at'⟩,s)
def phi(T:PT)(at' ran:Int):Nat:=if isE T.ws T.len at'=true∧1048576≤ran then 0 else(1048576 - ran).toNat*(T.len+1)+(T.len - at').toNat+1
theorem zIA{T:PT}{ran dn dn':Int}{x:Cd}{s s':HS Va.MS}{nx:Option Int}(h:zU T ran x s dn=.go s' dn' nx):(x.op=1→ran < 1048576∧nx=none)∧(∀ b,nx=some b→isE T.ws T.len b=true∧x.op≠1)∧(dn'=dn∧nx=none∨dn'=dn+x.n∧nx≠none):=by
 unfold zU at h
 by_cases h1:x.op=1
 ·rw[if_pos h1] at h
  split at h
  ·cases h
  split at h
  ·cases h
  split at h
  ·cases h
  ·rename_i g
   cases h
   exact⟨fun _=>⟨by omega,rfl⟩,fun b e=>(by cases e),.inl ⟨rfl,rfl⟩⟩
 refine⟨fun e=>absurd e h1,?_⟩
 rw[if_neg h1] at h
 split at h
 ·split at h
  ·rename_i g;cases h;exact⟨fun b e=>by cases e;exact⟨g,h1⟩,.inr ⟨rfl,by simp⟩⟩
  ·cases h
 split at h
 ·split at h
  ·cases h
  ·split at h
   ·cases h;exact⟨fun b e=>(by cases e),.inl ⟨rfl,rfl⟩⟩
   ·split at h
    ·rename_i g;cases h;exact⟨fun b e=>by cases e;exact⟨g,h1⟩,.inr ⟨rfl,by simp⟩⟩
    ·cases h
 split at h
 ·split at h
  ·cases h
  ·split at h
   ·rename_i g;cases h;exact⟨fun b e=>by cases e;exact⟨g.2.2,h1⟩,.inr ⟨rfl,by simp⟩⟩
   ·cases h
 split at h
 ·split at h
  ·cases h
  ·cases h;exact⟨fun b e=>(by cases e),.inl ⟨rfl,rfl⟩⟩
 split at h
 ·cases h;exact⟨fun b e=>(by cases e),.inl ⟨rfl,rfl⟩⟩
 ·cases h
 ·cases h
theorem zFb{T:PT}{at' ran dn dn':Int}{s s':HS Va.MS}{nx:Option Int}(hws:∀ i,T.ws i < 4294967296)(he:(yG T.ws T.len at').e=0)(h:zU T ran (yG T.ws T.len at').x s dn=.go s' dn' nx):phi T (nx.getD (at'+(yG T.ws T.len at').n)) (ran+1) < phi T at' ran:=by
 obtain⟨g1,g2,_⟩:=zIA h
 obtain⟨m,k,op,d,a,b,c,n,kk,xx,F⟩:=zAx hws he
 have hz:=zAf (zG k).has
 have hle:=F.le
 have hat:=F.at_
 have hsz:=F.sz
 have hp:phi T at' ran=(1048576 - ran).toNat*(T.len+1)+(T.len - at').toNat+1:=by
  unfold phi
  rw[if_neg]
  rintro ⟨e1,e2⟩
  have:(yG T.ws T.len at').x.op=1:=by unfold isE at e1;simp only[Bool.and_eq_true,decide_eq_true_eq] at e1;exact e1.2
  have:=(g1 this).1
  omega
 rw[hp]
 cases nx with
 | none=>
  show phi T (at'+(yG T.ws T.len at').n) (ran+1) < _
  unfold phi
  split
  ·omega
  ·have:(1048576 - (ran+1)).toNat*(T.len+1)≤(1048576 - ran).toNat*(T.len+1):=Nat.mul_le_mul_right _ aO
   omega
 | some b'=>
  obtain⟨e1,e2⟩:=g2 b' rfl
  show phi T b' (ran+1) < _
  unfold phi
  split
  ·omega
  ·rename_i g
   have hr:¬1048576≤ran+1:=fun e=>g ⟨e1,e⟩
   have hb:0≤b':=by
    unfold isE at e1
    simp only[Bool.and_eq_true,decide_eq_true_eq] at e1
    obtain⟨m',_,_,_,_,_,_,_,_,_,F'⟩:=zAx hws e1.1
    have:=F'.at_
    omega
   have:(1048576 - ran).toNat=(1048576 - (ran+1)).toNat+1:=aO
   rw[this,Nat.succ_mul]
   omega
structure BN(T:PT)(at' done count ent:Int):Prop where
 c0:0≤count
 c1:count≤1048576+T.len+1
 c2:isE T.ws T.len at'=true∨count≤1048576+at'
 d0:0≤done
 d1:done≤65535*count
 d2:done≤T.left∨isE T.ws T.len at'=true∧(done=0∨done≤T.left+65535)
 e1:ent≤count
 e2:ent≤1048576
theorem zGT{T:PT}{at' ran dn dn' ent ent':Int}{s s':HS Va.MS}{nx:Option Int}(hws:∀ i,T.ws i < 4294967296)(he:(yG T.ws T.len at').e=0)(h:zU T ran (yG T.ws T.len at').x s dn=.go s' dn' nx)(B:BN T at' dn ran ent)(hent:ent'=ent∨ent'=ent+1∧ran < 1048576):BN T (nx.getD (at'+(yG T.ws T.len at').n)) dn' (ran+1) ent':=by
 obtain⟨g1,g2,g3⟩:=zIA h
 obtain⟨m,k,op,d,a,b,c,n,kk,xx,F⟩:=zAx hws he
 have hz:=zAf (zG k).has
 have hle:=F.le
 have hat:=F.at_
 have hsz:=F.sz
 have hn:(yG T.ws T.len at').x.n=n:=by rw[F.ex]
 have fn:=F.fn
 have hE:isE T.ws T.len at'=true→(yG T.ws T.len at').x.op=1:=fun e=>by unfold isE at e;simp only[Bool.and_eq_true,decide_eq_true_eq] at e;exact e.2
 have c0:=B.c0
 have c1:=B.c1
 have d0:=B.d0
 have d1:=B.d1
 have e1:=B.e1
 have e2:=B.e2
 have hc:ran < 1048576+T.len:=by
  rcases B.c2 with g|g
  ·have:=(g1 (hE g)).1;omega
  ·omega
 -- behind a passed enter what is done is no more than what is left
 have hd:nx≠none→dn≤T.left:=fun hne=>by
  rcases B.d2 with g|⟨g,_⟩
  ·exact g
  ·exact absurd (g1 (hE g)).2 hne
 have hd2:nx=none→dn≤T.left:=fun _=>by
  rcases B.d2 with g|⟨g,_⟩
  ·exact g
  ·have ho:=hE g
   unfold zU at h
   rw[if_pos ho] at h
   split at h
   ·cases h
   split at h
   ·cases h
   ·omega
 cases nx with
 | none=>
  show BN T (at'+(yG T.ws T.len at').n) dn' (ran+1) ent'
  rcases g3 with ⟨rfl,_⟩|⟨_,g⟩
  ·refine⟨by omega,by omega,.inr ?_,d0,by omega,.inl (hd2 rfl),by omega,by omega⟩
   rcases B.c2 with g|g
   ·have:=(g1 (hE g)).1;omega
   ·omega
  ·exact absurd rfl g
 | some b'=>
  obtain⟨i1,i2⟩:=g2 b' rfl
  have hdl:=hd aS
  show BN T b' dn' (ran+1) ent'
  rcases g3 with ⟨_,g⟩|⟨rfl,_⟩
  ·cases g
  ·exact⟨by omega,by omega,.inl i1,by omega,by omega,.inr ⟨i1,.inr aO⟩,by omega,by omega⟩
structure LVW(w wr:World)(R X:Nat)(ca:Option Addr)(cap:Nat)(ta:Option Addr)(tcap:Nat)(T:PT)(p:HP)(s:HS Va.MS)(at':Int):Prop where
 r:RB wr R (yB (.slice ca T.len cap) (.slice ta T.tl tcap) X p)
 m:Va.PM wr X s.m
 h:HPR p s
 wd:Wds wr ca T.len cap T.ws
 tr:T.tl=0∨∃ tq toff,ta=some ⟨tq,toff,none⟩∧TR wr tq toff T.tl T.tp T.ta∧T.tl≤140737488355328
 o:wr.heap[w.heap.size]?=some (.cells (yE ⟨0,0,0,0,0,0⟩) 37)
 c:zI [R,X] w wr
 b:BN T at' p.done p.count p.ent
 lf:p.left=T.left
 xr:X≠R
theorem WR.chg{S:List Nat}{w w':World}{b off n:Nat}{ws:Nat→Nat}(h:WR w b off n ws)(c:zI S w w')(hb:b∉S):WR w' b off n ws:=
 ⟨fun i hi=>(World.cell?_of_block (w:=w) (c.block b h.lb hb)).trans (h.cell i hi),h.lt,Nat.lt_of_lt_of_le h.lb c.size⟩
theorem vZ{S:List Nat}{w w':World}{a:Option Addr}{len cap:Nat}{ws:Nat→Nat}(h:Wds w a len cap ws)(c:zI S w w')(hn:0 < len→∀ b o,a=some ⟨b,o,none⟩→b∉S):Wds w' a len cap ws:=by
 rcases h with h|⟨b,off,e,h1,h2,hr⟩
 ·exact .inl h
 ·rcases Nat.eq_zero_or_pos len with h0|h0
  ·exact .inl h0
  ·exact .inr ⟨b,off,e,h1,h2,hr.chg c (hn h0 b off e)⟩
theorem TR.chg{S:List Nat}{w w':World}{b off n:Nat}{tp:Nat→Nat}{ta:Nat→Int}(h:TR w b off n tp ta)(c:zI S w w')(hb:b∉S):TR w' b off n tp ta:=
 ⟨fun i hi=>(World.cell?_of_block (w:=w) (c.block b h.lb hb)).trans (h.p i hi),fun i hi=>(World.cell?_of_block (w:=w) (c.block b h.lb hb)).trans (h.a i hi),Nat.lt_of_lt_of_le h.lb c.size⟩
theorem zDa{S:List Nat}{w w':World}{ta:Option Addr}{T:PT}(h:T.tl=0∨∃ tq toff,ta=some ⟨tq,toff,none⟩∧TR w tq toff T.tl T.tp T.ta∧T.tl≤140737488355328)(c:zI S w w')(hn:0 < T.tl→∀ b o,ta=some ⟨b,o,none⟩→b∉S):T.tl=0∨∃ tq toff,ta=some ⟨tq,toff,none⟩∧TR w' tq toff T.tl T.tp T.ta∧T.tl≤140737488355328:=by
 rcases h with h|⟨tq,toff,e,hT,hl⟩
 ·exact .inl h
 ·rcases Nat.eq_zero_or_pos T.tl with h0|h0
  ·exact .inl h0
  ·exact .inr ⟨tq,toff,e,hT.chg c (hn h0 tq toff e),hl⟩
theorem LVW.chg{w wr wx:World}{R X:Nat}{ca:Option Addr}{cap:Nat}{ta:Option Addr}{tcap:Nat}{T:PT}{p p':HP}{s s':HS Va.MS}{at' at2:Int}(h:LVW w wr R X ca cap ta tcap T p s at')(c:zI [R,X] wr wx)(lR:R < w.heap.size)(lX:X < w.heap.size)(hcn:0 < T.len→∀ b o,ca=some ⟨b,o,none⟩→b∉[R,X])(htn:0 < T.tl→∀ b o,ta=some ⟨b,o,none⟩→b∉[R,X])(hr:RB wx R (yB (.slice ca T.len cap) (.slice ta T.tl tcap) X p'))(hm:Va.PM wx X s'.m)(hh:HPR p' s')(hb:BN T at2 p'.done p'.count p'.ent)(hl:p'.left=T.left):LVW w wx R X ca cap ta tcap T p' s' at2:=
 ⟨hr,hm,hh,vZ h.wd c hcn,zDa h.tr c htn,c.keep h.o zq7,h.c.trans c,hb,hl,h.xr⟩
theorem zKZ(ws tb:Value)(X:Nat)(h:HP)(v:Int):upd (yB ws tb X h) 16 (.int .i64 v)=yB ws tb X { h with next:=v }:=by
 funext o
 unfold upd yB hpL
 by_cases e:o=16
 ·subst e;simp
 ·by_cases h1:o < 20
  ·simp only[e,h1,if_false,if_true]
  ·simp only[e,h1,if_false]
theorem zJm(ws tb:Value)(X:Nat)(h:HP)(v:Int):upd (yB ws tb X h) 18 (.int .i64 v)=yB ws tb X { h with count:=v }:=by
 funext o
 unfold upd yB hpL
 by_cases e:o=18
 ·subst e;simp
 ·by_cases h1:o < 20
  ·simp only[e,h1,if_false,if_true]
  ·simp only[e,h1,if_false]
theorem zHd{T:PT}{ran dn:Int}{x:Cd}{s s':HS Va.MS}{L:LF}(h:zU T ran x s dn=.out L s'):L.k≠0:=by
 unfold zU at h
 split at h
 ·split at h
  ·cases h;simp
  split at h
  ·cases h;simp
  split at h
  ·cases h;simp
  ·cases h
 split at h
 ·split at h<;>cases h
 split at h
 ·split at h
  ·cases h
  ·split at h
   ·cases h
   ·split at h<;>cases h
 split at h
 ·split at h
  ·cases h
  ·split at h
   ·cases h
   ·cases h;simp
 split at h
 ·split at h<;>cases h
 split at h
 ·cases h
 ·cases h
  show km _≠0
  unfold km
  split
  ·decide
  split<;>decide
 ·cases h
theorem zEb{w w1:World}{R X:Nat}{ws tb:Value}{p:HP}{L:LF}{s:HS Va.MS}{e:Ending}{v0 v1 v2 v3 v4 v5:Value}(he:e=.returned (.agg (yE L)))(hr:RB w1 R (yB ws tb X p))(hc:p.c=s.c)(hm:Va.PM w1 X s.m)(c:zI [R,X] w w1)(lR:R < w.heap.size)(lX:X < w.heap.size) :
  e=.returned (.agg (yE (L,s).1))∧(∃ p',RB ((((((w1.setCell ⟨w.heap.size,0,none⟩ v0).setCell ⟨w.heap.size,1,none⟩ v1).setCell ⟨w.heap.size,2,none⟩ v2).setCell ⟨w.heap.size,3,none⟩ v3).setCell ⟨w.heap.size,4,none⟩ v4).setCell ⟨w.heap.size,5,none⟩ v5) R (yB ws tb X p')∧p'.c=(L,s).2.c)∧Va.PM ((((((w1.setCell ⟨w.heap.size,0,none⟩ v0).setCell ⟨w.heap.size,1,none⟩ v1).setCell ⟨w.heap.size,2,none⟩ v2).setCell ⟨w.heap.size,3,none⟩ v3).setCell ⟨w.heap.size,4,none⟩ v4).setCell ⟨w.heap.size,5,none⟩ v5) X (L,s).2.m∧zI [R,X] w ((((((w1.setCell ⟨w.heap.size,0,none⟩ v0).setCell ⟨w.heap.size,1,none⟩ v1).setCell ⟨w.heap.size,2,none⟩ v2).setCell ⟨w.heap.size,3,none⟩ v3).setCell ⟨w.heap.size,4,none⟩ v4).setCell ⟨w.heap.size,5,none⟩ v5):=
 have b:Below w.heap.size w1 _:=uM (uM (uM (uM (uM (uM (Below.refl w.heap.size w1) aL 0 v0) aL 1 v1) aL 2 v2) aL 3 v3) aL 4 v4) aL 5 v5
 ⟨he,⟨p,hr.bel b lR,hc⟩,hm.below b lX,c.bel2 b⟩
theorem zIo{w W:World}{R X:Nat}{ws tb:Value}{L:LF}{s:HS Va.MS}{e:Ending}{o:Obj}(h:e=.returned (.agg (yE L))∧(∃ p',RB W R (yB ws tb X p')∧p'.c=s.c)∧Va.PM W X s.m∧zI [R,X] w W)(lX:X < w.heap.size):e=.returned (.agg (yE L))∧(∃ p',RB (W.alloc o) R (yB ws tb X p')∧p'.c=s.c)∧Va.PM (W.alloc o) X s.m∧zI [R,X] w (W.alloc o):=
 ⟨h.1,h.2.1.imp (fun p' q=>⟨q.1.al _,q.2⟩),h.2.2.1.below (aB.alloc aL _) h.2.2.1.lt,h.2.2.2.alloc _⟩
theorem zIi{w wr w2:World}{R X:Nat}{ca:Option Addr}{cap:Nat}{ta:Option Addr}{tcap:Nat}{T:PT}{p:HP}{s:HS Va.MS}{at':Int}{x:Cd}{f:Fo}{n:Int}(h:LVW w wr R X ca cap ta tcap T p s at')(b:Below wr.heap.size wr w2)(hi:w2.heap[wr.heap.size]?=some (.cells (yT x f n) 90))(v:Int)(hcn:0 < T.len→∀ b o,ca=some ⟨b,o,none⟩→b∉[R,X])(htn:0 < T.tl→∀ b o,ta=some ⟨b,o,none⟩→b∉[R,X])(hlen:T.len≤140737488355328)(hlf : -9223372036854775808≤T.left∧T.left≤9223372036854775807) :
  PC (w2.setCell ⟨R,16,none⟩ (.int .i64 v)) R X wr.heap.size ca cap ta tcap T { p with next:=v } s x f n:=by
 have lR:=h.r.lt
 have lX:=h.m.lt
 have c:zI [R] w2 (w2.setCell ⟨R,16,none⟩ (.int .i64 v)):=(zI.refl _ _).set aC _ _
 have B:=h.b
 have c1:=B.c1
 have d1:=B.d1
 have d0:=B.d0
 have e2:=B.e2
 refine⟨by rw[← zKZ];exact(h.r.bel b lR).set 16 aO _,(h.m.below b lX).keep (zQ c) (by simpa using h.xr),c.keep hi zq7,⟨h.h.r,h.h.sp,h.h.c,h.h.rb,h.h.sb,h.h.cb,h.h.mo,h.h.er,h.h.es,h.h.e0⟩,vZ (yD h.wd b) c (fun hl q o e=>by have:=hcn hl q o e;simp at this ⊢;exact this.1),zDa (h.tr.imp id (fun ⟨tq,toff,e,hT,hl⟩=>⟨tq,toff,e,hT.keep b,hl⟩)) c (fun hl q o e=>by have:=htn hl q o e;simp at this ⊢;exact this.1),h.xr,by omega,by omega,⟨d0,?_⟩,h.lf,⟨?_,?_⟩,?_⟩
 ·show p.done≤_;omega
 ·show _≤T.left - p.done
  rcases B.d2 with g|⟨_,g|g⟩<;>omega
 ·show T.left - p.done≤_;omega
 ·show p.ent < _;omega
def zPI(w:World)(R X:Nat)(ca:Option Addr)(cap:Nat)(ta:Option Addr)(tcap:Nat)(T:PT)(rs:LF × HS Va.MS)(k:Nat)(a:Value)(wr:World):Prop:=
 ∃ (p:HP) (s:HS Va.MS) (at':Int),a=.int .i64 at'∧LVW w wr R X ca cap ta tcap T p s at'∧phi T at' p.count < k∧zBj T k at' s p.done p.count=rs
theorem zHD(R X:Nat)(ca:Option Addr)(cap:Nat)(ta:Option Addr)(tcap:Nat)(T:PT)(p:HP)(s:HS Va.MS)(at0:Int)(w:World)(hH:Va.vY)(hws:∀ i,T.ws i < 4294967296)(hR:RB w R (yB (.slice ca T.len cap) (.slice ta T.tl tcap) X p))(hm:Va.PM w X s.m)(hh:HPR p s)(hwd:Wds w ca T.len cap T.ws)
  (htr:T.tl=0∨∃ tq toff,ta=some ⟨tq,toff,none⟩∧TR w tq toff T.tl T.tp T.ta∧T.tl≤140737488355328) (xr:X≠R) (hcn:0 < T.len→∀ b o,ca=some ⟨b,o,none⟩→b∉[R,X]) (htn:0 < T.tl→∀ b o,ta=some ⟨b,o,none⟩→b∉[R,X]) (hp:p.done=0∧p.count=0∧p.ent=0∧p.left=T.left) (hlen:T.len≤140737488355328) (hlf : -9223372036854775808≤T.left∧T.left≤9223372036854775807) (rs:LF × HS Va.MS) (hrs:(if isE T.ws T.len at0=true then zBj T (phi T at0 0+1) at0 s 0 0 else(⟨5,0,0,0,0,at0⟩,s))=rs) :
  Calls Tryz.prog 20 #[.pointer (some ⟨R,0,none⟩),.int .i64 at0] w fun e w'=>e=.returned (.agg (yE rs.1))∧(∃ p',RB w' R (yB (.slice ca T.len cap) (.slice ta T.tl tcap) X p')∧p'.c=rs.2.c)∧Va.PM w' X rs.2.m∧zI [R,X] w w':=by
 have HHH:Hid _:=hH
 have HWS:Hid _:=hws
 have HR:Hid _:=hR
 have HM:Hid _:=hm
 have HH:Hid _:=hh
 have HWD:Hid _:=hwd
 have HTR:Hid _:=htr
 have HXR:Hid _:=xr
 have HCN:Hid _:=hcn
 have HTN:Hid _:=htn
 have HP0:Hid _:=hp
 have HLN:Hid _:=hlen
 have HLF:Hid _:=hlf
 have HRS:Hid _:=hrs
 clear hH hws hR hm hh hwd htr xr hcn htn hp hlen hlf hrs
 go_enter Tryz.func20,Tryz.ntmps20
 cases hE:isE T.ws T.len at0 with
 | false=>
  go_wp2_with (go_at_call 32;refine(zAi R X ca T.len cap (.slice ta T.tl tcap) p at0 T.ws _ (HR.out.al _) (yD HWD.out (aB.alloc aL _))).mono ?_;rintro e w1 ⟨rfl,hb1⟩;rw[hE];have ho:=(zI.of_below ([]:List Nat) hb1).keep (heap_alloc_last w _) aS;have g0:=zA ho 0;have g1:=zA ho 1;have g2:=zA ho 2;have g3:=zA ho 3;have g4:=zA ho 4;have g5:=zA ho 5;have gf:=zD ho;have gl:=zE ho;have HB1:Hid _:=hb1;clear hb1 ho)
  have e:rs=(⟨5,0,0,0,0,at0⟩,s):=by have:=HRS.out;rw[hE] at this;simpa using this.symm
  subst e
  have HB:Hid (Below w.heap.size w w1):=show Below w.heap.size w w1 from(aB.alloc aL _).trans (HB1.out.mono aS)
  refine bodyPost_ret (v:=.agg (yE ⟨5,0,0,0,0,at0⟩)) zq65 rfl (zEb rfl (HR.out.bel HB.out HR.out.lt) HH.out.c (HM.out.below HB.out HM.out.lt) (zI.of_below _ HB.out) HR.out.lt HM.out.lt)
 | true=>
  go_wp2_with (go_at_call 32;refine(zAi R X ca T.len cap (.slice ta T.tl tcap) p at0 T.ws _ (HR.out.al _) (yD HWD.out (aB.alloc aL _))).mono ?_;rintro e w1 ⟨rfl,hb1⟩;rw[hE];have ho:=(zI.of_below ([]:List Nat) hb1).keep (heap_alloc_last w _) aS;have HO:Hid _:=ho;have HB1:Hid (Below w.heap.size w w1):=((aB.alloc aL _).trans (hb1.mono aS));clear hb1 ho)
  go_loopg [1] (phi T at0 0+1) (fun k a wr=>zPI w R X ca cap ta tcap T rs k a wr)
  case atStart=>
   refine⟨p,s,at0,rfl,⟨HR.out.bel HB1.out HR.out.lt,HM.out.below HB1.out HM.out.lt,HH.out,yD HWD.out HB1.out,HTR.out.imp id (fun ⟨tq,toff,e,hT,hl⟩=>⟨tq,toff,e,hT.keep HB1.out,hl⟩),HO.out,zI.of_below _ HB1.out,?_,HP0.out.2.2.2,HXR.out⟩,?_,?_⟩
   ·obtain⟨q1,q2,q3,q4⟩:=HP0.out
    rw[q1,q2,q3]
    exact⟨by decide,by omega,.inl hE,by decide,by decide,.inr ⟨hE,.inl rfl⟩,by decide,by decide⟩
   ·rw[HP0.out.2.1];exact Nat.lt_succ_self _
   ·rw[HP0.out.1,HP0.out.2.1];have:=HRS.out;rw[hE] at this;simpa using this
  case round=>
   obtain⟨p1,s1,at1,rfl,hV,hphi,hrun⟩:=hrel
   obtain⟨fu,rfl⟩:∃ fu,gk=fu+1:=⟨gk - 1,by omega⟩
   have HV:Hid _:=hV
   have c0:wr.cell? ⟨R,0,none⟩=some (.slice ca T.len cap):=hV.r.c 0 aO
   have lR:=hV.r.lt
   have lR1:=Nat.lt_succ_of_lt lR
   have HPH:Hid _:=hphi
   have HRU:Hid _:=hrun
   clear hV hphi hrun
   by_cases he:(yG T.ws T.len at1).e=0
   ·have b0:((yG T.ws T.len at1).e !=0)=false:=by simp[he]
    obtain⟨m,k,op,d,a,b,c,n,kk,xx,F⟩:=zAx HWS.out he
    have wr1:IntKind.i64.wrap (at1+(yG T.ws T.len at1).n)=at1+(yG T.ws T.len at1).n:=IntWalk.i64_in _ (by have:=zAf (zG k).has;have:=F.le;have:=F.at_;have:=F.sz;have:=HLN.out;omega)
    clear F
    cases hps:zU T p1.count (yG T.ws T.len at1).x s1 p1.done with
    | stuck=>
     have HPS:Hid _:=hps
     clear hps
     go_wp2_with (first|(go_at_call 33;refine(zBU ca T.len cap at1 T.ws wr HV.out.wd).mono ?_;rintro e w2 ⟨rfl,h2,hc2⟩;have HI2:Hid _:=h2 he;have HB2:Hid (Below wr.heap.size wr w2):=((aB.alloc aL _).trans (hc2.below aS aS));have i13:=zA (h2 he) 13;have li:=zE (h2 he);have c16:w2.cell? ⟨R,16,none⟩=some (.int .i64 p1.next):=(HV.out.r.bel HB2.out lR).c 16 aO;have f16:=(HV.out.r.bel HB2.out lR).fz 16;have l2:=(HV.out.r.bel HB2.out lR).lt;clear h2 hc2)|(go_at_call 34;refine(zFW R X wr.heap.size ca cap ta tcap T { p1 with next:=at1+(yG T.ws T.len at1).n } s1 at1 _ HHH.out HWS.out he (zIi HV.out HB2.out HI2.out _ HCN.out HTN.out HLN.out HLF.out)).mono ?_;rintro e w3 hD;have hD:Did _ R X (.slice ca T.len cap) (.slice ta T.tl tcap) _ s1 e w3 (.stuck):=(by rw[← HPS.out];exact hD);obtain⟨rfl,hr3,hm3,hc3⟩:=hD;have HC3:Hid (zI [R,X] wr w3):=(((zI.of_below _ HB2.out).set aC _ _).trans hc3);have ho:=HC3.out.keep HV.out.o (by have:=HR.out.lt;have:=HM.out.lt;simp;omega);have HO3:Hid _:=ho;have g0:=zA ho 0;have g1:=zA ho 1;have g2:=zA ho 2;have g3:=zA ho 3;have g4:=zA ho 4;have g5:=zA ho 5;have gf:=zD ho;have gl:=zE ho;have HR3:Hid _:=hr3;have HM3:Hid _:=hm3;clear hr3 hm3;clear hc3 ho))
     have e:rs=(⟨5,0,0,0,0,at1⟩,s1):=by have:=HRU.out;unfold zBj at this;rw[if_pos he,HPS.out] at this;exact this.symm
     subst e
     exact bodyPost_ret (v:=.agg (yE ⟨5,0,0,0,0,at1⟩)) zq65 rfl (zIo (zEb rfl HR3.out HV.out.h.c HM3.out (HV.out.c.trans HC3.out) HR.out.lt HM.out.lt) HM.out.lt)
    | out L s2=>
     have HPS:Hid _:=hps
     have kz:(L.k !=0)=true:=by have:=zHd hps;simpa using this
     clear hps
     go_wp2_with (first|(go_at_call 33;refine(zBU ca T.len cap at1 T.ws wr HV.out.wd).mono ?_;rintro e w2 ⟨rfl,h2,hc2⟩;have HI2:Hid _:=h2 he;have HB2:Hid (Below wr.heap.size wr w2):=((aB.alloc aL _).trans (hc2.below aS aS));have i13:=zA (h2 he) 13;have li:=zE (h2 he);have c16:w2.cell? ⟨R,16,none⟩=some (.int .i64 p1.next):=(HV.out.r.bel HB2.out lR).c 16 aO;have f16:=(HV.out.r.bel HB2.out lR).fz 16;have l2:=(HV.out.r.bel HB2.out lR).lt;clear h2 hc2)|(go_at_call 34;refine(zFW R X wr.heap.size ca cap ta tcap T { p1 with next:=at1+(yG T.ws T.len at1).n } s1 at1 _ HHH.out HWS.out he (zIi HV.out HB2.out HI2.out _ HCN.out HTN.out HLN.out HLF.out)).mono ?_;rintro e w3 hD;have hD:Did _ R X (.slice ca T.len cap) (.slice ta T.tl tcap) _ s1 e w3 (.out L s2):=(by rw[← HPS.out];exact hD);obtain⟨rfl,⟨p3,hr3,hpc⟩,hm3,hc3⟩:=hD;have HC3:Hid (zI [R,X] wr w3):=(((zI.of_below _ HB2.out).set aC _ _).trans hc3);have ho:=HC3.out.keep HV.out.o (by have:=HR.out.lt;have:=HM.out.lt;simp;omega);have HO3:Hid _:=ho;have g0:=zA ho 0;have g1:=zA ho 1;have g2:=zA ho 2;have g3:=zA ho 3;have g4:=zA ho 4;have g5:=zA ho 5;have gf:=zD ho;have gl:=zE ho;have HR3:Hid _:=hr3;have HPC3:Hid _:=hpc;have HM3:Hid _:=hm3;clear hr3 hm3 hpc;clear hc3 ho))
     have e:rs=({ L with at_:=at1 },s2):=by have:=HRU.out;unfold zBj at this;rw[if_pos he,HPS.out] at this;exact this.symm
     subst e
     exact bodyPost_ret (v:=.agg (yE { L with at_:=at1 })) zq65 rfl (zIo (zEb rfl HR3.out HPC3.out HM3.out (HV.out.c.trans HC3.out) HR.out.lt HM.out.lt) HM.out.lt)
    | go s2 dn nx=>
     have HPS:Hid _:=hps
     clear hps
     go_wp2_with (first|(go_at_call 33;refine(zBU ca T.len cap at1 T.ws wr HV.out.wd).mono ?_;rintro e w2 ⟨rfl,h2,hc2⟩;have HI2:Hid _:=h2 he;have HB2:Hid (Below wr.heap.size wr w2):=((aB.alloc aL _).trans (hc2.below aS aS));have i13:=zA (h2 he) 13;have li:=zE (h2 he);have c16:w2.cell? ⟨R,16,none⟩=some (.int .i64 p1.next):=(HV.out.r.bel HB2.out lR).c 16 aO;have f16:=(HV.out.r.bel HB2.out lR).fz 16;have l2:=(HV.out.r.bel HB2.out lR).lt;clear h2 hc2)|(go_at_call 34;refine(zFW R X wr.heap.size ca cap ta tcap T { p1 with next:=at1+(yG T.ws T.len at1).n } s1 at1 _ HHH.out HWS.out he (zIi HV.out HB2.out HI2.out _ HCN.out HTN.out HLN.out HLF.out)).mono ?_;rintro e w3 hD;have hD:Did _ R X (.slice ca T.len cap) (.slice ta T.tl tcap) _ s1 e w3 (.go s2 dn nx):=(by rw[← HPS.out];exact hD);obtain⟨rfl,⟨p3,hr3,hh3,q1,q2,q3,q4,q5⟩,hm3,hc3⟩:=hD;have HC3:Hid (zI [R,X] wr w3):=(((zI.of_below _ HB2.out).set aC _ _).trans hc3);have ho:=HC3.out.keep HV.out.o (by have:=HR.out.lt;have:=HM.out.lt;simp;omega);have HO3:Hid _:=ho;have g0:=zA ho 0;have g1:=zA ho 1;have g2:=zA ho 2;have g3:=zA ho 3;have g4:=zA ho 4;have g5:=zA ho 5;have gf:=zD ho;have gl:=zE ho;have HR3:Hid _:=hr3;have HM3:Hid _:=hm3;have HH3:Hid _:=hh3;have HQ3:Hid _:=And.intro q1 (And.intro q2 (And.intro q3 (And.intro q4 q5)));have c18:w3.cell? ⟨R,18,none⟩=some (.int .i64 p1.count):=(hr3.c 18 aO).trans (by show some (Value.int .i64 p3.count)=_;rw[q3]);have f18:=hr3.fz 18;have c16b:w3.cell? ⟨R,16,none⟩=some (.int .i64 p3.next):=hr3.c 16 aO;have l3:=hr3.lt;have l31:=Nat.lt_succ_of_lt l3;have cw:IntKind.i64.wrap (p1.count+1)=p1.count+1:=IntWalk.i64_in _ (by have:=HV.out.b.c0;have:=HV.out.b.c1;have:=HLN.out;omega);clear hr3 hm3 hh3 q1 q2 q3 q4 q5;clear hc3 ho))
     go_roundg fu
     case measure=>exact Nat.lt_succ_self _
     case rel=>
      obtain⟨q1,q2,q3,q4,q5⟩:=HQ3.out
      have hn:p3.next=nx.getD (at1+(yG T.ws T.len at1).n):=q2
      have cR:zI [R] w3 (w3.setCell ⟨R,18,none⟩ (.int .i64 (p1.count+1))):=(zI.refl _ _).set aC _ _
      refine⟨{ p3 with count:=p1.count+1 },s2,p3.next,rfl,HV.out.chg ((HC3.out.set aC _ _).alloc _) HR.out.lt HM.out.lt HCN.out HTN.out (by rw[← zJm];exact(HR3.out.set 18 aO _).al _) ((HM3.out.keep (zQ cR) zq68).below (aB.alloc aL _) (by have:=HM3.out.lt;simpa using this)) ⟨HH3.out.r,HH3.out.sp,HH3.out.c,HH3.out.rb,HH3.out.sb,HH3.out.cb,HH3.out.mo,HH3.out.er,HH3.out.es,HH3.out.e0⟩ ?_ (q4.trans HV.out.lf),?_,?_⟩
      ·rw[hn]
       show BN T _ p3.done (p1.count+1) p3.ent
       rw[q1]
       exact zGT HWS.out he HPS.out HV.out.b q5
      ·rw[hn]
       have:=zFb HWS.out he HPS.out
       have h2:=HPH.out
       show phi T _ (p1.count+1) < fu
       omega
      ·have:=HRU.out
       unfold zBj at this
       rw[if_pos he,HPS.out] at this
       rw[hn]
       show zBj T fu _ s2 p3.done (p1.count+1)=rs
       rw[q1]
       exact this
   ·have bb:((yG T.ws T.len at1).e !=0)=true:=by simpa using he
    go_wp2_with (go_at_call 33;refine(zBU ca T.len cap at1 T.ws wr HV.out.wd).mono ?_;rintro e w2 ⟨rfl,h2,hc2⟩;have HB2:Hid (Below wr.heap.size wr w2):=((aB.alloc aL _).trans (hc2.below aS aS));have ho:=(zI.of_below ([]:List Nat) HB2.out).keep HV.out.o aS;have g0:=zA ho 0;have g1:=zA ho 1;have g2:=zA ho 2;have g3:=zA ho 3;have g4:=zA ho 4;have g5:=zA ho 5;have gf:=zD ho;have gl:=zE ho;clear h2 hc2 ho)
    have e:rs=(⟨5,0,0,0,0,at1⟩,s1):=by have:=HRU.out;unfold zBj at this;rw[if_neg he] at this;exact this.symm
    subst e
    exact bodyPost_ret (v:=.agg (yE ⟨5,0,0,0,0,at1⟩)) zq65 rfl (zEb rfl (HV.out.r.bel HB2.out lR) HV.out.h.c (HV.out.m.below HB2.out HV.out.m.lt) (HV.out.c.trans (zI.of_below _ HB2.out)) HR.out.lt HM.out.lt)
def prs:Nat→List Value
 | 0=>[]
 | n+1=>.int .u32 0 :: .int .i32 0 :: prs n
theorem zHa:∀ n,(prs n).length=2*n
 | 0=>rfl
 | n+1=>by show(prs n).length+1+1=_;rw[zHa n];omega
theorem zIz:∀ n j,j < 2*n→(prs n)[j]?=some (if j%2=0 then .int .u32 0 else .int .i32 0)
 | 0,j,h=>by omega
 | n+1,0,h=>rfl
 | n+1,1,h=>rfl
 | n+1,j+2,h=>by
  show(prs n)[j]?=_
  rw[zIz n j aO,show(j+2)%2=j%2 by omega]
theorem zHb:∀ n,(prs n).all (·.oneCell')=true
 | 0=>rfl
 | n+1=>by show(true && (true && (prs n).all (·.oneCell')))=true;rw[zHb n];rfl
def hrL(ws mp tb:Value)(left:Int)(c:Nat→Nat)(r:List Value):List Value:=ws :: .int .u32 (c 0) :: .int .u32 (c 1) :: .int .u32 (c 2) :: .int .u32 (c 3) :: .int .u32 (c 4) :: .int .u32 (c 5) :: .int .u32 (c 6) :: .int .u32 (c 7) :: .int .u32 (c 8) :: .int .u32 (c 9) :: .int .u32 (c 10) :: .int .u32 (c 11) :: mp :: .int .i64 left :: tb :: .int .i64 0 :: .int .i64 0 :: .int .i64 0 :: .int .i32 0 :: r
def hrA(ws mp tb:Value)(left:Int)(c:Nat→Nat):Array Value:=(hrL ws mp tb left c (prs 2064)).toArray
def hrZ:Array Value:=hrA (.slice none 0 0) (.pointer none) (.slice none 0 0) 0 (fun _=>0)
theorem zEm:(Tryz.prog.info? 61).map (fun i=>(i.zero,i.size))=some (some (.agg hrZ),4148):=by kernel_rfl
theorem zK2(ws mp tb:Value)(left:Int)(c:Nat→Nat)(r:List Value):(hrL ws mp tb left c r).length=20+r.length:=by
 unfold hrL
 simp only[List.length_cons]
 omega
theorem zEn(ws mp tb:Value)(left:Int)(c:Nat→Nat):(hrA ws mp tb left c).size=4148:=by
 show(hrL ws mp tb left c (prs 2064)).length=4148
 rw[zK2,zHa]
theorem zMK(a ta:Option Addr)(len cap tl tcap X:Nat)(left:Int)(c:Nat→Nat):(hrA (.slice a len cap) (.pointer (some ⟨X,0,none⟩)) (.slice ta tl tcap) left c).all (·.oneCell')=true:=by
 unfold hrA
 rw[List.all_toArray]
 show(true && (true && (true && (true && (true && (true && (true && (true && (true && (true && (true && (true && (true && (true && (true && (true && (true && (true && (true && (true && (prs 2064).all (·.oneCell')))))))))))))))))))))=true
 rw[zHb]
 rfl
def zP7:List (Nat × Nat):=[(0,1),(1,12),(13,1),(14,1),(15,1),(16,1),(17,1),(18,1),(19,1),(20,32),(52,4096)]
theorem zOz:∃ fs,Tryz.prog.underlying 61=some (.struct fs)∧fs.toList.mapM (fun f=>(Tryz.prog.info? f.type).map fun i=>(f.offset,i.size))=some zP7:=⟨_,Tryz.underlying61,by kernel_rfl⟩
theorem zN8(place:Nat→Option (Nat × Nat))(r:List Value)(ws mp tb zw zm zt:Value)(left:Int)(c:Nat→Nat)(h0:place 0=some (0,1))(h1:place 1=some (1,12))(h2:place 2=some (13,1))(h3:place 3=some (14,1))(h4:place 4=some (15,1))(c0:ws.cells=#[ws])(c2:mp.cells=#[mp])(c4:tb.cells=#[tb]) :
  Instr.fill place (hrL zw zm zt 0 (fun _=>0) r).toArray [(0,ws),(1,.agg (Va.cxA c)),(2,mp),(3,.int .i64 left),(4,tb)]=some (hrL ws mp tb left c r).toArray:=by
 have c1:(Value.agg (Va.cxA c)).cells=Va.cxA c:=rfl
 have c3:(Value.int .i64 left).cells=#[Value.int .i64 left]:=rfl
 unfold hrL
 simp[Instr.fill,h0,h1,h2,h3,h4,c0,c1,c2,c3,c4]
theorem zJp(a ta:Option Addr)(len cap tl tcap X:Nat)(left:Int)(c:Nat→Nat):Tryz.prog.built 61 [(0,.slice a len cap),(1,.agg (Va.cxA c)),(2,.pointer (some ⟨X,0,none⟩)),(3,.int .i64 left),(4,.slice ta tl tcap)]=some (hrA (.slice a len cap) (.pointer (some ⟨X,0,none⟩)) (.slice ta tl tcap) left c):=by
 obtain⟨fs,h1,h2⟩:=zOz
 have hi:=zEm
 cases hit:Tryz.prog.info? 61 with
 | none=>rw[hit] at hi;cases hi
 | some it=>
  rw[hit] at hi
  simp only[Option.map_some,Option.some.injEq,Prod.mk.injEq] at hi
  unfold Program.built
  rw[hit,h1]
  simp only[hi.1,h2]
  rw[show(Value.agg hrZ).cells=hrZ from rfl]
  unfold hrZ hrA
  rw[zN8 _ _ _ _ _ _ _ _ left c rfl rfl rfl rfl rfl rfl rfl rfl]
def hp0(c:Nat→Nat)(left:Int):HP:=⟨c,left,0,0,0,0,fun _=>0,fun _=>0,fun _=>0,fun _=>0⟩
theorem zML(ws tb:Value)(X:Nat)(left:Int)(c:Nat→Nat)(o:Nat)(ho:o < 4148):(hrA ws (.pointer (some ⟨X,0,none⟩)) tb left c)[o]?=some (yB ws tb X (hp0 c left) o):=by
 unfold hrA
 rw[List.getElem?_toArray]
 by_cases h:o < 20
 ·match o,h with
  | 0,_|1,_|2,_|3,_|4,_|5,_|6,_|7,_|8,_|9,_|10,_|11,_|12,_|13,_|14,_|15,_|16,_|17,_|18,_|19,_=>rfl
  | m+20,h=>exact absurd h aO
 ·obtain⟨j,rfl⟩:∃ j,o=j+20:=⟨o - 20,by omega⟩
  have hh:yB ws tb X (hp0 c left) (j+20)=if j%2=0 then .int .u32 0 else .int .i32 0:=by
   unfold yB
   rw[if_neg (show ¬j+20 < 20 by omega),show(j+20)%2=j%2 by omega]
   unfold hp0
   by_cases h2:j+20 < 52
   ·rw[if_pos h2]
    by_cases h3:j%2=0<;>simp[h3]
   ·rw[if_neg h2]
    by_cases h3:j%2=0<;>simp[h3]
  show(prs 2064)[j]?=_
  rw[zIz 2064 j aO,hh]
theorem zOA{W:World}{R X:Nat}{ws tb:Value}{left:Int}{c:Nat→Nat}(h:W.heap[R]?=some (.cells (hrA ws (.pointer (some ⟨X,0,none⟩)) tb left c) 61)):RB W R (yB ws tb X (hp0 c left)):=
 ⟨fun o ho=>(zA h o).trans (zML ws tb X left c o ho),fun o=>zD h o,zE h⟩
def zAD(T:PT)(at0:Int)(c:Nat→Nat)(m:Va.MS):LF × HS Va.MS:=if isE T.ws T.len at0=true then zBj T (phi T at0 0+1) at0 ⟨fun _=>none,fun _=>none,c,m⟩ 0 0 else(⟨5,0,0,0,0,at0⟩,⟨fun _=>none,fun _=>none,c,m⟩)
theorem zH5(T:PT)(at0:Int)(s:HS Va.MS):∃ rs,(if isE T.ws T.len at0=true then zBj T (phi T at0 0+1) at0 s 0 0 else(⟨5,0,0,0,0,at0⟩,s))=rs∧rs.1=(zAD T at0 s.c s.m).1∧rs.2.c=(zAD T at0 s.c s.m).2.c∧rs.2.m=(zAD T at0 s.c s.m).2.m:=by
 refine⟨_,rfl,?_⟩
 unfold zAD
 cases hE:isE T.ws T.len at0 with
 | false=>exact⟨rfl,rfl,rfl⟩
 | true=>
  have ho:=hE
  unfold isE at ho
  simp only[Bool.and_eq_true,decide_eq_true_eq] at ho
  simp only[if_true]
  unfold zBj
  rw[if_pos ho.1,if_pos ho.1]
  unfold zU
  rw[if_pos ho.2,if_pos ho.2]
  by_cases t1:uV.tch s.m=true
  ·simp[t1]
  ·by_cases t2:T.left < (yG T.ws T.len at0).x.n
   ·simp[t1,t2]
   ·by_cases t3:(1048576:Int)≤0<;>simp[t1,t2,t3]
theorem uU{w:World}{X:Nat}{a0 a1 a2 a3 a4 a5:Value}{T:TypeId}(h:w.heap[X]?=some (.cells #[a0,a1,a2,a3,a4,a5] T)):w.cell? ⟨X,0,none⟩=some a0∧w.cell? ⟨X,1,none⟩=some a1∧w.cell? ⟨X,2,none⟩=some a2∧w.cell? ⟨X,3,none⟩=some a3∧w.cell? ⟨X,4,none⟩=some a4∧w.cell? ⟨X,5,none⟩=some a5∧(∀ o,w.frozen? ⟨X,o,none⟩=false)∧X < w.heap.size:=
 ⟨zA h 0,zA h 1,zA h 2,zA h 3,zA h 4,zA h 5,zD h,zE h⟩
theorem rw8{w:World}{X:Nat}{a0 a1 a2 a3 a4 a5 a6 a7:Value}{T:TypeId}(h:w.heap[X]?=some (.cells #[a0,a1,a2,a3,a4,a5,a6,a7] T)):w.cell? ⟨X,0,none⟩=some a0∧w.cell? ⟨X,1,none⟩=some a1∧w.cell? ⟨X,2,none⟩=some a2∧w.cell? ⟨X,3,none⟩=some a3∧w.cell? ⟨X,4,none⟩=some a4∧w.cell? ⟨X,5,none⟩=some a5∧w.cell? ⟨X,6,none⟩=some a6∧w.cell? ⟨X,7,none⟩=some a7∧(∀ o,w.frozen? ⟨X,o,none⟩=false)∧X < w.heap.size:=
 ⟨zA h 0,zA h 1,zA h 2,zA h 3,zA h 4,zA h 5,zA h 6,zA h 7,zD h,zE h⟩
theorem zBS{w:World}{X:Nat}{a0 a1 a2 a3 a4 a5 a6 a7 a8 a9 a10 a11:Value}{T:TypeId}(h:w.heap[X]?=some (.cells #[a0,a1,a2,a3,a4,a5,a6,a7,a8,a9,a10,a11] T)):w.cell? ⟨X,0,none⟩=some a0∧w.cell? ⟨X,1,none⟩=some a1∧w.cell? ⟨X,2,none⟩=some a2∧w.cell? ⟨X,3,none⟩=some a3∧w.cell? ⟨X,4,none⟩=some a4∧w.cell? ⟨X,5,none⟩=some a5∧w.cell? ⟨X,6,none⟩=some a6∧w.cell? ⟨X,7,none⟩=some a7∧w.cell? ⟨X,8,none⟩=some a8∧w.cell? ⟨X,9,none⟩=some a9∧w.cell? ⟨X,10,none⟩=some a10∧w.cell? ⟨X,11,none⟩=some a11∧(∀ o,w.frozen? ⟨X,o,none⟩=false)∧X < w.heap.size:=
 ⟨zA h 0,zA h 1,zA h 2,zA h 3,zA h 4,zA h 5,zA h 6,zA h 7,zA h 8,zA h 9,zA h 10,zA h 11,zD h,zE h⟩
theorem zAS{w:World}{b:Nat}(h:w.heap[b]?=some (.cells #[.int .u32 0,.int .u32 0,.int .u32 0,.int .u32 0,.int .u32 0,.int .u32 0,.int .u32 0,.int .u32 0,.int .u32 0,.int .u32 0,.int .u32 0,.int .u32 0] 25)):w.there b 0 12:=fun j hj=>by
 refine⟨?_,fro h _⟩
 rw[cel h]
 simp only[Nat.zero_add]
 rw[Array.getElem?_eq_getElem (by simpa using hj)]
 rfl
theorem zET(c:Nat→Nat):∀ v∈[Value.int IntKind.u32 (c 0),Value.int IntKind.u32 (c 1),Value.int IntKind.u32 (c 2),Value.int IntKind.u32 (c 3),Value.int IntKind.u32 (c 4),Value.int IntKind.u32 (c 5),Value.int IntKind.u32 (c 6),Value.int IntKind.u32 (c 7),Value.int IntKind.u32 (c 8),Value.int IntKind.u32 (c 9),Value.int IntKind.u32 (c 10),Value.int IntKind.u32 (c 11)],v.oneCell'=true:=by
 intro v hv
 simp only[List.mem_cons,List.not_mem_nil,or_false] at hv
 rcases hv with rfl|rfl|rfl|rfl|rfl|rfl|rfl|rfl|rfl|rfl|rfl|rfl<;>rfl
theorem zFf(w:World)(b o:Nat)(vs:List Value)(x:Addr)(h:¬x.block=b):(w.setCells b o vs).cell? x=w.cell? x:=World.cell?_setCells_out b vs o w x (fun e=>absurd e h)
theorem zFg(w:World)(b o:Nat)(vs:List Value)(x:Addr):(w.setCells b o vs).frozen? x=w.frozen? x:=World.frozen?_setCells b vs o w x
theorem zB6(w:World)(b o:Nat)(vs:List Value):(w.setCells b o vs).heap.size=w.heap.size:=by
 induction vs generalizing o w with
 | nil=>rfl
 | cons v vs ih=>exact(ih _ (o+1)).trans aS
theorem zCa{S:List Nat}{a w:World}{b:Nat}(h:zI S a w)(hb:b∈S)(o:Nat)(vs:List Value):zI S a (w.setCells b o vs):=by
 induction vs generalizing o w with
 | nil=>exact h
 | cons v vs ih=>exact ih (h.set hb _ _) (o+1)
structure FN(w wx:World)(B ob:Nat)(c:Nat→Nat)(L:LF)(D:Nat):Prop where
 g:wx.rangeAt B ob [.int .u32 (c 0),.int .u32 (c 1),.int .u32 (c 2),.int .u32 (c 3),.int .u32 (c 4),.int .u32 (c 5),.int .u32 (c 6),.int .u32 (c 7),.int .u32 (c 8),.int .u32 (c 9),.int .u32 (c 10),.int .u32 (c 11)]
 bB:B < wx.heap.size
 bD:wx.heap[D]?=some (.cells (yE L) 37)
 b1:wx.heap[w.heap.size+1]?=some (.cells #[.int .u32 0,.int .u32 0,.int .u32 0,.int .u32 0,.int .u32 0,.int .u32 0,.int .u32 0,.int .u32 0,.int .u32 0,.int .u32 0,.int .u32 0,.int .u32 0] 25)
 b2:wx.heap[w.heap.size+1+1]?=some (.cells (uX 0 0 0 0 0 0) 37)
 nB:w.heap.size+1+1 < B
 nD:w.heap.size+1+1 < D
structure FV(w V wx:World)(B ob:Nat)(c:Nat→Nat)(L:LF)(D:Nat):Prop where
 m:V.cell? ⟨w.heap.size+1,0,none⟩=some (.int .u32 (c 0))∧V.cell? ⟨w.heap.size+1,1,none⟩=some (.int .u32 (c 1))∧V.cell? ⟨w.heap.size+1,2,none⟩=some (.int .u32 (c 2))∧V.cell? ⟨w.heap.size+1,3,none⟩=some (.int .u32 (c 3))∧V.cell? ⟨w.heap.size+1,4,none⟩=some (.int .u32 (c 4))∧V.cell? ⟨w.heap.size+1,5,none⟩=some (.int .u32 (c 5))∧V.cell? ⟨w.heap.size+1,6,none⟩=some (.int .u32 (c 6))∧V.cell? ⟨w.heap.size+1,7,none⟩=some (.int .u32 (c 7))∧V.cell? ⟨w.heap.size+1,8,none⟩=some (.int .u32 (c 8))∧V.cell? ⟨w.heap.size+1,9,none⟩=some (.int .u32 (c 9))∧V.cell? ⟨w.heap.size+1,10,none⟩=some (.int .u32 (c 10))∧V.cell? ⟨w.heap.size+1,11,none⟩=some (.int .u32 (c 11))
 ch:zI [w.heap.size+1] wx V
 nB:w.heap.size+1+1 < B
 nD:w.heap.size+1+1 < D
 bl:B < V.heap.size
 s:V.rangeAt B ob [.int .u32 (c 0),.int .u32 (c 1),.int .u32 (c 2),.int .u32 (c 3),.int .u32 (c 4),.int .u32 (c 5),.int .u32 (c 6),.int .u32 (c 7),.int .u32 (c 8),.int .u32 (c 9),.int .u32 (c 10),.int .u32 (c 11)]∧V.cell? ⟨D,0,none⟩=some (.int .i64 L.k)∧V.cell? ⟨D,1,none⟩=some (.int .i64 L.sk)∧V.cell? ⟨D,2,none⟩=some (.int .u32 L.sa)∧V.cell? ⟨D,3,none⟩=some (.int .u32 L.pc)∧V.cell? ⟨D,4,none⟩=some (.int .i64 L.n)∧V.cell? ⟨D,5,none⟩=some (.int .i64 L.at_)
 kl:D < V.heap.size
 y0:V.cell? ⟨w.heap.size+1+1,0,none⟩=some (.int .i64 0)
 y1:V.cell? ⟨w.heap.size+1+1,1,none⟩=some (.int .i64 0)
 y2:V.cell? ⟨w.heap.size+1+1,2,none⟩=some (.int .u32 0)
 y3:V.cell? ⟨w.heap.size+1+1,3,none⟩=some (.int .u32 0)
 y4:V.cell? ⟨w.heap.size+1+1,4,none⟩=some (.int .i64 0)
 y5:V.cell? ⟨w.heap.size+1+1,5,none⟩=some (.int .i64 0)
 yf:∀ o,V.frozen? ⟨w.heap.size+1+1,o,none⟩=false
 yl:w.heap.size+1+1 < V.heap.size
theorem zNY{w wx:World}{B ob:Nat}{c:Nat→Nat}{L:LF}{D:Nat}(h:FN w wx B ob c L D):FV w (wx.drew.setCells (w.heap.size+1) 0 [.int .u32 (c 0),.int .u32 (c 1),.int .u32 (c 2),.int .u32 (c 3),.int .u32 (c 4),.int .u32 (c 5),.int .u32 (c 6),.int .u32 (c 7),.int .u32 (c 8),.int .u32 (c 9),.int .u32 (c 10),.int .u32 (c 11)]) wx B ob c L D:=by
 have hk:=h.nB
 have hd:=h.nD
 have far:∀ X o,X≠w.heap.size+1→(wx.drew.setCells (w.heap.size+1) 0 [.int .u32 (c 0),.int .u32 (c 1),.int .u32 (c 2),.int .u32 (c 3),.int .u32 (c 4),.int .u32 (c 5),.int .u32 (c 6),.int .u32 (c 7),.int .u32 (c 8),.int .u32 (c 9),.int .u32 (c 10),.int .u32 (c 11)]).cell? ⟨X,o,none⟩=wx.cell? ⟨X,o,none⟩:=fun X o hX=>(zFf _ _ _ _ _ hX).trans rfl
 have e2:=fun o=>(far (w.heap.size+1+1) o aO).trans (cel h.b2 o)
 have eD:=fun o=>(far D o aO).trans (cel h.bD o)
 have hth:wx.drew.there (w.heap.size+1) 0 12:=(World.there_drew _ _ _ _).2 (zAS h.b1)
 have hsame:=World.rangeAt_setCells_same wx.drew (w.heap.size+1) 0 [.int .u32 (c 0),.int .u32 (c 1),.int .u32 (c 2),.int .u32 (c 3),.int .u32 (c 4),.int .u32 (c 5),.int .u32 (c 6),.int .u32 (c 7),.int .u32 (c 8),.int .u32 (c 9),.int .u32 (c 10),.int .u32 (c 11)] hth
 have hm:∀ j,j < 12→∀ v,([.int .u32 (c 0),.int .u32 (c 1),.int .u32 (c 2),.int .u32 (c 3),.int .u32 (c 4),.int .u32 (c 5),.int .u32 (c 6),.int .u32 (c 7),.int .u32 (c 8),.int .u32 (c 9),.int .u32 (c 10),.int .u32 (c 11)]:List Value)[j]?=some v→(wx.drew.setCells (w.heap.size+1) 0 [.int .u32 (c 0),.int .u32 (c 1),.int .u32 (c 2),.int .u32 (c 3),.int .u32 (c 4),.int .u32 (c 5),.int .u32 (c 6),.int .u32 (c 7),.int .u32 (c 8),.int .u32 (c 9),.int .u32 (c 10),.int .u32 (c 11)]).cell? ⟨w.heap.size+1,j,none⟩=some v:=fun j hj v hv=>by have h1:=hsame j v hv;rwa [Nat.zero_add] at h1
 refine⟨⟨hm 0 aD _ rfl,hm 1 aD _ rfl,hm 2 aD _ rfl,hm 3 aD _ rfl,hm 4 aD _ rfl,hm 5 aD _ rfl,hm 6 aD _ rfl,hm 7 aD _ rfl,hm 8 aD _ rfl,hm 9 aD _ rfl,hm 10 aD _ rfl,hm 11 aD _ rfl⟩,zCa ((zI.refl _ _).drew) aC _ _,hk,hd,by rw[zB6];exact h.bB,⟨World.rangeAt_setCells_apart ((World.rangeAt_drew _ _ _ _).2 h.g) _ _ _ (.inl aO),eD 0,eD 1,eD 2,eD 3,eD 4,eD 5⟩,?_,e2 0,e2 1,e2 2,e2 3,e2 4,e2 5,fun o=>(zFg _ _ _ _ _).trans (fro h.b2 o),?_⟩
 ·rw[zB6];exact ltb h.bD
 ·rw[zB6];exact ltb h.b2
theorem zEX{P:Program}{md:Region.Mode}{ops:Array Oper}{Q:Exit→Act→World→Prop}{S:World→Prop}{fuel:Nat}{ls:Array Bool}{a:Act}{W:World}(p:World→Prop)(h:p W)(k:∀ w',p w'→wpAnyH P md ops Q S fuel ls a w'):wpAnyH P md ops Q S fuel ls a W:=k W h
theorem FV.nx{w V V' wx:World}{B ob:Nat}{c:Nat→Nat}{L:LF}{D:Nat}(h:FV w V wx B ob c L D)(k:zI [w.heap.size+1+1] V V'):V'.rangeAt B ob [.int .u32 (c 0),.int .u32 (c 1),.int .u32 (c 2),.int .u32 (c 3),.int .u32 (c 4),.int .u32 (c 5),.int .u32 (c 6),.int .u32 (c 7),.int .u32 (c 8),.int .u32 (c 9),.int .u32 (c 10),.int .u32 (c 11)]∧V'.cell? ⟨D,0,none⟩=some (.int .i64 L.k)∧V'.cell? ⟨D,1,none⟩=some (.int .i64 L.sk)∧V'.cell? ⟨D,2,none⟩=some (.int .u32 L.sa)∧V'.cell? ⟨D,3,none⟩=some (.int .u32 L.pc)∧V'.cell? ⟨D,4,none⟩=some (.int .i64 L.n)∧V'.cell? ⟨D,5,none⟩=some (.int .i64 L.at_):=by
 have hB:B∉[w.heap.size+1+1]:=by have:=h.nB;simp;omega
 have hD:D∉[w.heap.size+1+1]:=by have:=h.nD;simp;omega
 have cB:=fun o=>World.cell?_of_block (w:=V) (a:=⟨B,o,none⟩) (k.block B h.bl hB)
 have cD:=fun o=>World.cell?_of_block (w:=V) (a:=⟨D,o,none⟩) (k.block D h.kl hD)
 obtain⟨s0,s1,s2,s3,s4,s5,s6⟩:=h.s
 exact⟨fun j v hv=>(cB _).trans (s0 j v hv),(cD 0).trans s1,(cD 1).trans s2,(cD 2).trans s3,(cD 3).trans s4,(cD 4).trans s5,(cD 5).trans s6⟩
theorem zI.trans'{a b:Nat}{u v x:World}(h:zI [a] u v)(k:zI [b] v x):zI [a,b] u x:=(h.mono aS).trans (k.mono aS)
theorem zI.into{S T:List Nat}{a b c:World}(h:zI S a b)(k:zI T b c)(hT:∀ x∈T,x∈S∨a.heap.size≤x):zI S a c:=
 ⟨k.os.trans h.os,k.tape.trans h.tape,k.output.trans h.output,Nat.le_trans h.size k.size,fun i hi hs=>(k.block i (Nat.lt_of_lt_of_le hi h.size) (fun e=>by
  rcases hT i e with h1|h1
  ·exact hs h1
  ·omega)).trans (h.block i hi hs)⟩
theorem hp3(w:World)(o1 o2 o3:Obj):(((w.alloc o1).alloc o2).alloc o3).heap[w.heap.size]?=some o1∧(((w.alloc o1).alloc o2).alloc o3).heap[w.heap.size+1]?=some o2∧(((w.alloc o1).alloc o2).alloc o3).heap[w.heap.size+1+1]?=some o3:=by
 refine⟨?_,?_,?_⟩
 ·show(((w.heap.push o1).push o2).push o3)[w.heap.size]?=some o1
  rw[Array.getElem?_push,if_neg zq7,Array.getElem?_push,if_neg aS,Array.getElem?_push,if_pos rfl]
 ·show(((w.heap.push o1).push o2).push o3)[w.heap.size+1]?=some o2
  rw[Array.getElem?_push,if_neg aS,Array.getElem?_push,if_pos aS]
 ·show(((w.heap.push o1).push o2).push o3)[w.heap.size+1+1]?=some o3
  rw[Array.getElem?_push,if_pos aS]
structure R0(w W:World)(c:Nat→Nat):Prop where
 b0:W.heap[w.heap.size]?=some (.cells (Va.cxA c) 25)
 b1:W.heap[w.heap.size+1]?=some (.cells #[.int .u32 0,.int .u32 0,.int .u32 0,.int .u32 0,.int .u32 0,.int .u32 0,.int .u32 0,.int .u32 0,.int .u32 0,.int .u32 0,.int .u32 0,.int .u32 0] 25)
 b2:W.heap[w.heap.size+1+1]?=some (.cells (uX 0 0 0 0 0 0) 37)
 ch:zI [] w W
theorem zOU(w:World)(c:Nat→Nat):R0 w (((w.alloc (.cells (Va.cxA c) 25)).alloc (.cells #[.int .u32 0,.int .u32 0,.int .u32 0,.int .u32 0,.int .u32 0,.int .u32 0,.int .u32 0,.int .u32 0,.int .u32 0,.int .u32 0,.int .u32 0,.int .u32 0] 25)).alloc (.cells (uX 0 0 0 0 0 0) 37)) c:=
 ⟨(hp3 w _ _ _).1,(hp3 w _ _ _).2.1,(hp3 w _ _ _).2.2,(((zI.refl _ _).alloc _).alloc _).alloc _⟩
structure R1(w W:World)(R X:Nat)(ws tb:Value)(left:Int)(c:Nat→Nat):Prop where
 rb:RB W R (yB ws tb X (hp0 c left))
 b1:W.heap[w.heap.size+1]?=some (.cells #[.int .u32 0,.int .u32 0,.int .u32 0,.int .u32 0,.int .u32 0,.int .u32 0,.int .u32 0,.int .u32 0,.int .u32 0,.int .u32 0,.int .u32 0,.int .u32 0] 25)
 b2:W.heap[w.heap.size+1+1]?=some (.cells (uX 0 0 0 0 0 0) 37)
 ch:zI [] w W
 lR:w.heap.size+1+1 < R
theorem zOV{w W:World}{X:Nat}{ws tb:Value}{left:Int}{c:Nat→Nat}(h:R0 w W c):R1 w (W.alloc (.cells (hrA ws (.pointer (some ⟨X,0,none⟩)) tb left c) 61)) W.heap.size X ws tb left c:=
 have b:Below W.heap.size W (W.alloc (.cells (hrA ws (.pointer (some ⟨X,0,none⟩)) tb left c) 61)):=aB.alloc aL _
 ⟨zOA (heap_alloc_last _ _),(b.block _ (ltb h.b1)).trans h.b1,(b.block _ (ltb h.b2)).trans h.b2,h.ch.alloc _,ltb h.b2⟩
theorem zOy{l:List (Nat × Value)}(a ta:Option Addr)(len cap tl tcap X:Nat)(left:Int)(c:Nat→Nat)(h:l=[(0,.slice a len cap),(1,.agg (Va.cxA c)),(2,.pointer (some ⟨X,0,none⟩)),(3,.int .i64 left),(4,.slice ta tl tcap)]):Tryz.prog.built 61 l=some (hrA (.slice a len cap) (.pointer (some ⟨X,0,none⟩)) (.slice ta tl tcap) left c):=h▸zJp a ta len cap tl tcap X left c
theorem zPh{w:World}{R X:Nat}{ws tb:Value}{p:HP}{c:Nat→Nat}(h:RB w R (yB ws tb X p))(e:p.c=c):w.rangeAt R 1 [.int .u32 (c 0),.int .u32 (c 1),.int .u32 (c 2),.int .u32 (c 3),.int .u32 (c 4),.int .u32 (c 5),.int .u32 (c 6),.int .u32 (c 7),.int .u32 (c 8),.int .u32 (c 9),.int .u32 (c 10),.int .u32 (c 11)]:=fun j x hx=>by
 have hj:j < 12:=by
  rcases Nat.lt_or_ge j 12 with g|g
  ·exact g
  ·rw[List.getElem?_eq_none (by simpa using g)] at hx;cases hx
 rw[h.c (1+j) aO,zBV _ _ _ _ j hj,e]
 match j,hj with
 | 0,_|1,_|2,_|3,_|4,_|5,_|6,_|7,_|8,_|9,_|10,_|11,_=>simpa using hx
theorem zPV{w W w1:World}{R X:Nat}{ws tb:Value}{left:Int}{c c':Nat→Nat}{p':HP}{L:LF}(h:R1 w W R X ws tb left c)(lX:X < w.heap.size)(hr:RB w1 R (yB ws tb X p'))(e:p'.c=c')(k:zI [R,X] W w1):FN w (w1.alloc (.cells (yE L) 37)) R 1 c' L w1.heap.size:=by
 have lR:=h.lR
 have b:Below w1.heap.size w1 (w1.alloc (.cells (yE L) 37)):=aB.alloc aL _
 have e1:=k.keep h.b1 zq7
 have e2:=k.keep h.b2 zq7
 have hb:=hr.al (.cells (yE L) 37)
 exact⟨zPh hb e,hb.lt,heap_alloc_last _ _,(b.block _ (ltb e1)).trans e1,(b.block _ (ltb e2)).trans e2,lR,ltb e2⟩
theorem zP6(c:Nat→Nat)(m:Va.MS)(left:Int)(hc:Va.zA0 c)(hm:m.Ok):HPR (hp0 c left) ⟨fun _=>some 0,fun _=>some 0,c,m⟩:=
 ⟨fun i=>rfl,fun i=>rfl,rfl,fun i=>zq70,fun i=>zq70,hc,hm,fun i=>Int.le_refl _,fun i=>Int.le_refl _,Int.le_refl _⟩
theorem zN9{w wx V:World}{X:Nat}{m:Va.MS}(hM:Va.PM wx X m)(hC:zI [X] w wx)(lX:X < w.heap.size)(cc:zI [w.heap.size+1,w.heap.size+1+1] wx V):Va.PM V X m∧zI [X] w V:=
 ⟨hM.keep (zQ cc) zq7,hC.into cc (fun x hx=>by simp at hx;exact .inr aO)⟩
theorem zJq(X:Nat)(ca:Option Addr)(cap:Nat)(ta:Option Addr)(tcap:Nat)(T:PT)(c:Nat→Nat)(m:Va.MS)(at0:Int)(w:World)(hH:Va.vY)(hws:∀ i,T.ws i < 4294967296)(hm:Va.PM w X m)(hmo:m.Ok)(hc:Va.zA0 c)(hwd:Wds w ca T.len cap T.ws)
  (htr:T.tl=0∨∃ tq toff,ta=some ⟨tq,toff,none⟩∧TR w tq toff T.tl T.tp T.ta∧T.tl≤140737488355328) (hcn:0 < T.len→∀ b o,ca=some ⟨b,o,none⟩→b < w.heap.size∧b≠X) (htn:0 < T.tl→∀ b o,ta=some ⟨b,o,none⟩→b < w.heap.size∧b≠X) (hlen:T.len≤140737488355328) (hlf : -9223372036854775808≤T.left∧T.left≤9223372036854775807) :
  Calls Tryz.prog 6 #[.slice ca T.len cap,.int .i64 at0,Va.cxV c,.pointer (some ⟨X,0,none⟩),.int .i64 T.left,.slice ta T.tl tcap] w fun e w'=>e=.returned (.tuple #[Va.cxV (zAD T at0 c m).2.c,.agg (yE (zAD T at0 c m).1)])∧Va.PM w' X (zAD T at0 c m).2.m∧zI [X] w w':=by
 obtain⟨rs,hrs,f1,f2,f3⟩:=zH5 T at0 ⟨fun _=>some 0,fun _=>some 0,c,m⟩
 have e1:rs.1=(zAD T at0 c m).1:=f1
 have e2:rs.2.c=(zAD T at0 c m).2.c:=f2
 have e3:rs.2.m=(zAD T at0 c m).2.m:=f3
 rw[← e1,← e2,← e3]
 clear e1 e2 e3 f1 f2 f3
 have lX:=hm.lt
 have HLX:Hid (X < w.heap.size):=hm.lt
 have HRS:Hid _:=hrs
 have HHH:Hid _:=hH
 have HWS:Hid _:=hws
 have HPR0:Hid _:=zP6 c m T.left hc hmo
 have HP:Hid (∀ W,zI [] w W→Wds W ca T.len cap T.ws∧(T.tl=0∨∃ tq toff,ta=some ⟨tq,toff,none⟩∧TR W tq toff T.tl T.tp T.ta∧T.tl≤140737488355328)∧Va.PM W X m):=show ∀ W,zI [] w W→_ from fun W hW=>⟨vZ hwd hW (fun _ _ _ _=>by simp),htr.imp id (fun ⟨tq,toff,e,hT,hl⟩=>⟨tq,toff,e,hT.chg hW aS,hl⟩),hm.keep (zQ hW) aS⟩
 have HCN:Hid _:=hcn
 have HTN:Hid _:=htn
 have HLN:Hid _:=hlen
 have HLF:Hid _:=hlf
 have HZM:Hid _:=(Go.zero_of_info zEm).1
 have HSZ:Hid ((Tryz.prog.info? 61).map (·.size)=some 4148):=(Go.zero_of_info zEm).2
 clear hH hws hm hmo hc hwd htr hcn htn hlen hlf hrs lX
 go_enter Tryz.func6,Tryz.ntmps6
 go_upto_region 3 with fail
 refine zJ (fun W'=>R0 w W' c) (zOU w c) ?_
 intro W hW
 have HW:Hid _:=hW
 obtain⟨c0,c1,c2,c3,c4,c5,c6,c7,c8,c9,c10,c11,cf,cl⟩:=zBS hW.b0
 clear hW
 go_upto_region 4 with first
  | (refine vX rfl 61 _ rfl (hrA (.slice ca T.len cap) (.pointer (some ⟨X,0,none⟩)) (.slice ta T.tl tcap) T.left c) (zOy ca ta T.len cap T.tl tcap X T.left c (by kernel_rfl)) ?_)
  | (refine zK rfl 61 rfl hrZ HZM.out W.heap.size rfl ?_)
  | (refine wpList_store_row rfl 61 _ _ rfl W.heap.size (hrA (.slice ca T.len cap) (.pointer (some ⟨X,0,none⟩)) (.slice ta T.tl tcap) T.left c) (by rfl) (by rfl) 61 hrZ (heap_alloc_last W _) (by rw[zEn];exact HSZ.out) (by unfold hrZ;rw[zEn,zEn]) (zMK ca ta T.len cap T.tl tcap X T.left c) ?_;rw[World.setRow_alloc_new])
 refine zJ (fun W'=>R1 w W' W.heap.size X (.slice ca T.len cap) (.slice ta T.tl tcap) T.left c) (zOV HW.out) ?_
 clear HW c0 c1 c2 c3 c4 c5 c6 c7 c8 c9 c10 c11 cf cl HZM HSZ
 generalize W.heap.size=R
 intro W1 hW
 have HW:Hid _:=hW
 clear hW
 go_upto_region 5 with (go_at_call 20;refine(zHD R X ca cap ta tcap T (hp0 c T.left) ⟨fun _=>some 0,fun _=>some 0,c,m⟩ at0 _ HHH.out HWS.out HW.out.rb (HP.out _ HW.out.ch).2.2 HPR0.out (HP.out _ HW.out.ch).1 (HP.out _ HW.out.ch).2.1 (fun e=>by have h1:=HLX.out;have h2:=HW.out.lR;omega) (fun hl b o e=>by have h1:=HCN.out hl b o e;have h2:=HW.out.lR;simp;omega) (fun hl b o e=>by have h1:=HTN.out hl b o e;have h2:=HW.out.lR;simp;omega) ⟨rfl,rfl,rfl,rfl⟩ HLN.out HLF.out rs HRS.out).mono ?_;rintro e w1 ⟨rfl,⟨p',hr1,hpc⟩,hm1,hc1⟩;have HF:Hid _:=zPV (L:=rs.1) HW.out HLX.out hr1 hpc hc1;have HM1:Hid _:=hm1;have HC1:Hid _:=hc1;clear hr1 hpc hm1 hc1)
 refine zJ (fun W'=>FN w W' R 1 rs.2.c rs.1 w1.heap.size∧Va.PM W' X rs.2.m∧zI [X] w W') ⟨HF.out,HM1.out.below (aB.alloc aL _) HM1.out.lt,zI.into (HW.out.ch.mono aS) (HC1.out.alloc _) (fun x hx=>by have:=HW.out.lR;simp at hx;rcases hx with rfl|rfl;exact .inr aO;exact .inl aS)⟩ ?_
 clear HF HM1 HC1 HP HPR0 HRS HHH HWS
 generalize w1.heap.size=D
 rintro wx ⟨hF,hM,hC⟩
 have HF:Hid _:=hF
 have HM:Hid _:=hM
 have HC:Hid _:=hC
 have gr:=hF.g
 obtain⟨g0,g1,g2,g3,g4,g5,gf,gl⟩:=uU hF.bD
 have gm:=hF.bB
 have U27:=u27
 have I27:(Tryz.prog.info? 25).map (·.size)=some ([.int .u32 (rs.2.c 0),.int .u32 (rs.2.c 1),.int .u32 (rs.2.c 2),.int .u32 (rs.2.c 3),.int .u32 (rs.2.c 4),.int .u32 (rs.2.c 5),.int .u32 (rs.2.c 6),.int .u32 (rs.2.c 7),.int .u32 (rs.2.c 8),.int .u32 (rs.2.c 9),.int .u32 (rs.2.c 10),.int .u32 (rs.2.c 11)]:List Value).length:=i27
 have I27':(Tryz.prog.info? 25).map (·.size)=some ([.int .u32 (rs.2.c 0),.int .u32 (rs.2.c 1),.int .u32 (rs.2.c 2),.int .u32 (rs.2.c 3),.int .u32 (rs.2.c 4),.int .u32 (rs.2.c 5),.int .u32 (rs.2.c 6),.int .u32 (rs.2.c 7),.int .u32 (rs.2.c 8),.int .u32 (rs.2.c 9),.int .u32 (rs.2.c 10),.int .u32 (rs.2.c 11)]:List Value).toArray.size:=i27
 have hth:wx.drew.there (w.heap.size+1) 0 12:=(World.there_drew _ _ _ _).2 (zAS hF.b1)
 clear hF hM hC
 have hV:=zNY HF.out
 refine wp_region_held_drew (S:=fun W'=>W'.rangeAt R 1 [.int .u32 (rs.2.c 0),.int .u32 (rs.2.c 1),.int .u32 (rs.2.c 2),.int .u32 (rs.2.c 3),.int .u32 (rs.2.c 4),.int .u32 (rs.2.c 5),.int .u32 (rs.2.c 6),.int .u32 (rs.2.c 7),.int .u32 (rs.2.c 8),.int .u32 (rs.2.c 9),.int .u32 (rs.2.c 10),.int .u32 (rs.2.c 11)]∧W'.cell? ⟨D,0,none⟩=some (.int .i64 rs.1.k)∧W'.cell? ⟨D,1,none⟩=some (.int .i64 rs.1.sk)∧W'.cell? ⟨D,2,none⟩=some (.int .u32 rs.1.sa)∧W'.cell? ⟨D,3,none⟩=some (.int .u32 rs.1.pc)∧W'.cell? ⟨D,4,none⟩=some (.int .i64 rs.1.n)∧W'.cell? ⟨D,5,none⟩=some (.int .i64 rs.1.at_)) (by kernel_rfl) (by simp[go_sem,gr,g0,g1,g2,g3,g4,g5,gl,gm]) (fun hHeld=>?_)
 refine wpAnyH_take (i:=0) (oi:=_) (v:=?v0) rfl (by kernel_rfl) (by kernel_rfl) (by kernel_rfl) (fun _ _ _ h=>h) (Or.inl ⟨by rfl,?hy0⟩) (by assumption) ?rest0
 case hy0=>(intro w hSw;(try dsimp only at hSw);go_simp;(try with_reducible rfl))
 simp only[Act.put,aP]
 refine wpAnyH_take (i:=1) (oi:=_) (v:=_) rfl (by kernel_rfl) (by kernel_rfl) (by kernel_rfl) (fun _ _ _ h=>h) (yieldsIf_load_mid (by rfl) _ _ rfl _ _ rfl _ _ (fun w hSw=>hSw.1) U27 rfl I27) (by assumption) ?rest1
 simp only[Act.put,aP]
 refine wpAnyH_take (i:=2) (oi:=_) (v:=?v2) rfl (by kernel_rfl) (by kernel_rfl) (by kernel_rfl) (fun _ _ _ h=>h) (Or.inl ⟨by rfl,?hy2⟩) (by assumption) ?rest2
 case hy2=>(intro w hSw;(try dsimp only at hSw);go_simp;(try with_reducible rfl))
 simp only[Act.put,aP]
 refine wpAnyH_ready (rs:=[3]) (by kernel_rfl) aS ?_
 refine AllReadyH.cons (o:=_) rfl (fun K hK=>?_) AllReadyH.nil
 rw[if_pos (by rfl)]
 refine wp_store_mid 25 _ _ rfl (w.heap.size+1) 0 ([.int .u32 (rs.2.c 0),.int .u32 (rs.2.c 1),.int .u32 (rs.2.c 2),.int .u32 (rs.2.c 3),.int .u32 (rs.2.c 4),.int .u32 (rs.2.c 5),.int .u32 (rs.2.c 6),.int .u32 (rs.2.c 7),.int .u32 (rs.2.c 8),.int .u32 (rs.2.c 9),.int .u32 (rs.2.c 10),.int .u32 (rs.2.c 11)]:List Value).toArray rfl rfl hth I27' (all_oneCell_toArray (zET rs.2.c)) ?_
 refine hK.out _ _ hV.s (fun hHeld=>?_)
 clear hK K hHeld
 simp only[Act.put,aP]
 refine zEX (fun W'=>FV w W' wx R 1 rs.2.c rs.1 D) hV ?_
 clear hV hth gr g0 g1 g2 g3 g4 g5 gf gl gm U27 I27 I27' hHeld
 intro V hV
 have HV:Hid _:=hV
 have y0:=hV.y0;have y1:=hV.y1;have y2:=hV.y2;have y3:=hV.y3;have y4:=hV.y4;have y5:=hV.y5;have yf:=hV.yf;have yl:=hV.yl;have kl:=hV.kl
 obtain⟨m0,m1,m2,m3,m4,m5,m6,m7,m8,m9,m10,m11⟩:=hV.m
 have ml:w.heap.size+1 < V.heap.size:=aO
 have hHeld:=hV.s
 clear hV
 refine wpAnyH_ready (rs:=[4]) (by kernel_rfl) aS ?_
 refine AllReadyH.cons (o:=_) rfl (fun K hK=>?_) AllReadyH.nil
 go_simp
 refine hK.out _ _ ?_ (fun hHeld=>?_)
 ·exact HV.out.nx ((((((((zI.refl [w.heap.size+1+1] V).set aC _ _).set aC _ _).set aC _ _).set aC _ _).set aC _ _).set aC _ _))
 clear hK K hHeld
 (try simp only[Act.put,aP])
 refine wpAnyH_done (by kernel_rfl) ?_ _
 go_wp2
 exact bodyPost_ret (v:=.tuple #[Va.cxV rs.2.c,.agg (yE rs.1)]) (by simp[results,Tryz.results6,go_sem,m0,m1,m2,m3,m4,m5,m6,m7,m8,m9,m10,m11,ml,y0,y1,y2,y3,y4,y5,yl,yf]) rfl ⟨rfl,zN9 HM.out HC.out HLX.out (HV.out.ch.trans' ((((((((zI.refl [w.heap.size+1+1] V).set aC _ _).set aC _ _).set aC _ _).set aC _ _).set aC _ _).set aC _ _)))⟩
end Go.Proofs.YthcpipfmicbnmaaGreat.Ho
