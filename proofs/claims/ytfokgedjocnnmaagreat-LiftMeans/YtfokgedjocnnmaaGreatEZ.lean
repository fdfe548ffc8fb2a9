import Derived.Test.YtfokgedjocnnmaaGreatBO
import Derived.Test.YtfokgedjocnnmaaGreatEW
import Derived.Test.YtfokgedjocnnmaaGreatCR
set_option linter.unusedVariables false
set_option linter.unusedSimpArgs false
set_option maxHeartbeats 8000000
namespace Go.Proofs.YtfokgedjocnnmaaGreat
open Go.RowKit
set_option maxRecDepth 100000
theorem reval_ok(pc:Nat)(count bytes:Int)(bp:Option Addr)(n cap:Nat)(k:RB)(f:Nat→OpR)(c:Nat→Nat)(s:MS)(w:World)(hO:OpsR w bp n f)(hb:∀ b off,bp=some ⟨b,off,none⟩→b∉k.all)(hk:∀ j,j < n→(f j).k < 4294967296)(hn:n < 9223372036854775807)(hc:cxOk c)(hs:s.Ok)(h:RM w k s)(h0:(checkF count bytes n f).1=0) :
  Calls Tryz.prog 30 #[.agg #[.int .u32 pc,.int .i64 count,.int .i64 bytes,.slice bp n cap],cxV c,.pointer (some ⟨k.y,0,none⟩)] w fun e w'=>e=.returned (.tuple #[cxV (runO f n 0 ⟨c,s,fun _=>0⟩).1.c,exR (runO f n 0 ⟨c,s,fun _=>0⟩).2.1,.int .i64 0])∧RM w' k (runO f n 0 ⟨c,s,fun _=>0⟩).1.s∧Chg k.all w w':=by
 obtain⟨R,HR⟩:∃ R,Hid (runO f n 0 ⟨c,s,fun _=>0⟩=R):=⟨_,rfl⟩
 rw[HR.out]
 obtain⟨g1,g2,g3⟩:=check_good count bytes n f h0
 have HN0:Hid (0 < n):=g2
 have HG:Hid (∀ j,j < n→OpGood n (f j)∧(f j).k < 4294967296):=show ∀ j,_ from fun j hj=>⟨g3 j hj,hk j hj⟩
 have HLS:Hid (∀ j,j < n→(f j).kind=9→(f j).a < j):=check_less count bytes n f h0
 have HNL:Hid (n≤2048):=g1
 obtain⟨E,HE⟩:∃ E,Hid (checkF count bytes n f=E):=⟨_,rfl⟩
 have HE1:Hid (E.1=0):=HE.out▸h0
 have HO:Hid (OpsR w bp n f):=hO
 have HBX:Hid _:=hb
 have HNN:Hid _:=hn
 have HQ:Hid (SqOk ⟨c,s,fun _=>0⟩):=⟨hc,hs,fun i=>(show(0:Nat) < 4294967296 by decide)⟩
 have HRM:Hid _:=h
 have H0:Hid _:=e4Start w k.all pc count bytes bp n cap c
 have n1:(n:Int)≤2048:=zo
 have n0:(0:Int)≤(n:Int):=zo
 have HSS:Hid (∀ x∈k.all,x∈k.all∧x < w.heap.size∨w.heap.size+1+1+1 < x):=show ∀ x∈k.all,_ from fun x hx=>Or.inl ⟨hx,h.lt x (List.mem_cons_of_mem _ hx)⟩
 clear hO hb hk hn hc hs h h0 g1 g2 g3
 go_enter Tryz.func30,Tryz.ntmps30
 go_upto_region 4 with (go_at_call 8;refine(rcheck_any pc count bytes bp n cap f _ (HO.out.below (((((Below.refl w.heap.size w).alloc (Nat.le_refl _) _).alloc (by simp) _).alloc zq17 _).alloc zq17 _) (Nat.le_refl _)) HNN.out).mono ?_;rintro e w1 ⟨rfl,h1⟩;rw[HE.out,HE1.out];have H1:Hid _:=H0.out.below h1;have HB1:Hid (Below w.heap.size w w1):=(((((Below.refl w.heap.size w).alloc (Nat.le_refl _) _).alloc (by simp) _).alloc zq17 _).alloc zq17 _).trans (h1.mono zq17);clear h1)
 have b0:w1.cell? ⟨w.heap.size,0,none⟩=some (.int .u32 pc):=row_cell H1.out.b3 0
 have b1:w1.cell? ⟨w.heap.size,1,none⟩=some (.int .i64 count):=row_cell H1.out.b3 1
 have b2:w1.cell? ⟨w.heap.size,2,none⟩=some (.int .i64 bytes):=row_cell H1.out.b3 2
 have b3:w1.cell? ⟨w.heap.size,3,none⟩=some (.slice bp n cap):=row_cell H1.out.b3 3
 have c0:w1.cell? ⟨w.heap.size+1,0,none⟩=some (.int .u32 (c 0)):=row_cell H1.out.b4 0
 have c1:w1.cell? ⟨w.heap.size+1,1,none⟩=some (.int .u32 (c 1)):=row_cell H1.out.b4 1
 have c2:w1.cell? ⟨w.heap.size+1,2,none⟩=some (.int .u32 (c 2)):=row_cell H1.out.b4 2
 have c3:w1.cell? ⟨w.heap.size+1,3,none⟩=some (.int .u32 (c 3)):=row_cell H1.out.b4 3
 have c4:w1.cell? ⟨w.heap.size+1,4,none⟩=some (.int .u32 (c 4)):=row_cell H1.out.b4 4
 have c5:w1.cell? ⟨w.heap.size+1,5,none⟩=some (.int .u32 (c 5)):=row_cell H1.out.b4 5
 have c6:w1.cell? ⟨w.heap.size+1,6,none⟩=some (.int .u32 (c 6)):=row_cell H1.out.b4 6
 have c7:w1.cell? ⟨w.heap.size+1,7,none⟩=some (.int .u32 (c 7)):=row_cell H1.out.b4 7
 have c8:w1.cell? ⟨w.heap.size+1,8,none⟩=some (.int .u32 (c 8)):=row_cell H1.out.b4 8
 have c9:w1.cell? ⟨w.heap.size+1,9,none⟩=some (.int .u32 (c 9)):=row_cell H1.out.b4 9
 have c10:w1.cell? ⟨w.heap.size+1,10,none⟩=some (.int .u32 (c 10)):=row_cell H1.out.b4 10
 have c11:w1.cell? ⟨w.heap.size+1,11,none⟩=some (.int .u32 (c 11)):=row_cell H1.out.b4 11
 have HO2:Hid (OpsR w1 bp n f):=HO.out.below HB1.out (Nat.le_refl _)
 have HR1:Hid (RM w1 k s):=HRM.out.below HB1.out (Nat.le_refl _)
 go_upto_region 5 with (go_at_call 61;refine(rleave_any pc count bytes bp n cap f k c s _ HO2.out HBX.out HG.out HLS.out HNL.out HN0.out HQ.out HR1.out).mono ?_;rintro e w3 ⟨rfl,h3,h4⟩;rw[HR.out] at *;have H3:Hid _:=h3;have H4:Hid _:=H1.out.next h4 HSS.out;clear h3 h4)
 obtain⟨q,x,z⟩:=R
 clear b0 b1 b2 b3 c0 c1 c2 c3 c4 c5 c6 c7 c8 c9 c10 c11
 have vy0:w3.cell? ⟨w.heap.size+1+1,0,none⟩=some (.int .u32 0):=row_cell H4.out.b6 0
 have vy1:w3.cell? ⟨w.heap.size+1+1,1,none⟩=some (.int .u32 0):=row_cell H4.out.b6 1
 have vy2:w3.cell? ⟨w.heap.size+1+1,2,none⟩=some (.int .u32 0):=row_cell H4.out.b6 2
 have vy3:w3.cell? ⟨w.heap.size+1+1,3,none⟩=some (.int .u32 0):=row_cell H4.out.b6 3
 have vy4:w3.cell? ⟨w.heap.size+1+1,4,none⟩=some (.int .u32 0):=row_cell H4.out.b6 4
 have vy5:w3.cell? ⟨w.heap.size+1+1,5,none⟩=some (.int .u32 0):=row_cell H4.out.b6 5
 have vy6:w3.cell? ⟨w.heap.size+1+1,6,none⟩=some (.int .u32 0):=row_cell H4.out.b6 6
 have vy7:w3.cell? ⟨w.heap.size+1+1,7,none⟩=some (.int .u32 0):=row_cell H4.out.b6 7
 have vy8:w3.cell? ⟨w.heap.size+1+1,8,none⟩=some (.int .u32 0):=row_cell H4.out.b6 8
 have vy9:w3.cell? ⟨w.heap.size+1+1,9,none⟩=some (.int .u32 0):=row_cell H4.out.b6 9
 have vy10:w3.cell? ⟨w.heap.size+1+1,10,none⟩=some (.int .u32 0):=row_cell H4.out.b6 10
 have vy11:w3.cell? ⟨w.heap.size+1+1,11,none⟩=some (.int .u32 0):=row_cell H4.out.b6 11
 have vyf:=row_fr H4.out.b6
 have vz0:w3.cell? ⟨w.heap.size+1+1+1,0,none⟩=some (.int .i64 0):=row_cell H4.out.b7 0
 have vz1:w3.cell? ⟨w.heap.size+1+1+1,1,none⟩=some (.int .u32 0):=row_cell H4.out.b7 1
 have vz2:w3.cell? ⟨w.heap.size+1+1+1,2,none⟩=some (.int .u32 0):=row_cell H4.out.b7 2
 have vz3:w3.cell? ⟨w.heap.size+1+1+1,3,none⟩=some (.int .i64 0):=row_cell H4.out.b7 3
 have vzf:=row_fr H4.out.b7
 have m6:=row_lt H4.out.b6
 have m7:=row_lt H4.out.b7
 have m61:=Nat.lt_succ_of_lt m6
 have m71:=Nat.lt_succ_of_lt m7
 go_region
 all_goals go_wp2
 all_goals exact bodyPost_ret (v:=.tuple #[cxV q.c,exR x,.int .i64 0]) (by simp[results,Tryz.results30,go_sem,vy0,vy1,vy2,vy3,vy4,vy5,vy6,vy7,vy8,vy9,vy10,vy11,vz0,vz1,vz2,vz3,vyf,vzf,m6,m7,m61,m71]) rfl ⟨rfl,by
   have hB:=H3.out
   have hk1:∀ x∈k.y :: k.all,x≠w.heap.size+1+1:=fun x hx e=>by have:=HRM.out.lt x hx;omega
   have hk2:∀ x∈k.y :: k.all,x≠w.heap.size+1+1+1:=fun x hx e=>by have:=HRM.out.lt x hx;omega
   (repeat first|with_reducible exact hB|with_reducible refine RM.drew ?_|with_reducible refine RM.alloc ?_ _|with_reducible refine RM.setN ?_ (by first|exact hk1|exact hk2) _),by
   have hC:=H4.out.chg
   (repeat first|with_reducible exact hC|with_reducible refine Chg.drewC ?_|with_reducible refine Chg.allocC ?_ _|with_reducible refine Chg.setN ?_ zo)⟩
theorem reval_bad(pc:Nat)(count bytes:Int)(bp:Option Addr)(n cap:Nat)(k:RB)(f:Nat→OpR)(c:Nat→Nat)(s:MS)(w:World)(hO:OpsR w bp n f)(hn:n < 9223372036854775807)(h:RM w k s)(h0:(checkF count bytes n f).1≠0) :
  Calls Tryz.prog 30 #[.agg #[.int .u32 pc,.int .i64 count,.int .i64 bytes,.slice bp n cap],cxV c,.pointer (some ⟨k.y,0,none⟩)] w fun e w'=>e=.returned (.tuple #[cxV c,exR ⟨0,0,0,0⟩,.int .i64 (checkF count bytes n f).1])∧RM w' k s∧Chg k.all w w':=by
 obtain⟨⟨e1,e2⟩,HE⟩:∃ E,Hid (checkF count bytes n f=E):=⟨_,rfl⟩
 rw[HE.out] at h0 ⊢
 have d0:(e1 !=0)=true:=by simpa using h0
 have HO:Hid (OpsR w bp n f):=hO
 have HNN:Hid _:=hn
 have HRM:Hid _:=h
 have H0:Hid _:=e4Start w k.all pc count bytes bp n cap c
 clear hO hn h h0
 go_enter Tryz.func30,Tryz.ntmps30
 go_upto_region 3 with (go_at_call 8;refine(rcheck_any pc count bytes bp n cap f _ (HO.out.below (((((Below.refl w.heap.size w).alloc (Nat.le_refl _) _).alloc (by simp) _).alloc zq17 _).alloc zq17 _) (Nat.le_refl _)) HNN.out).mono ?_;rintro e w1 ⟨rfl,h1⟩;rw[HE.out];have H1:Hid _:=H0.out.below h1;have HB1:Hid (Below w.heap.size w w1):=(((((Below.refl w.heap.size w).alloc (Nat.le_refl _) _).alloc (by simp) _).alloc zq17 _).alloc zq17 _).trans (h1.mono zq17);clear h1)
 have c0:w1.cell? ⟨w.heap.size+1,0,none⟩=some (.int .u32 (c 0)):=row_cell H1.out.b4 0
 have c1:w1.cell? ⟨w.heap.size+1,1,none⟩=some (.int .u32 (c 1)):=row_cell H1.out.b4 1
 have c2:w1.cell? ⟨w.heap.size+1,2,none⟩=some (.int .u32 (c 2)):=row_cell H1.out.b4 2
 have c3:w1.cell? ⟨w.heap.size+1,3,none⟩=some (.int .u32 (c 3)):=row_cell H1.out.b4 3
 have c4:w1.cell? ⟨w.heap.size+1,4,none⟩=some (.int .u32 (c 4)):=row_cell H1.out.b4 4
 have c5:w1.cell? ⟨w.heap.size+1,5,none⟩=some (.int .u32 (c 5)):=row_cell H1.out.b4 5
 have c6:w1.cell? ⟨w.heap.size+1,6,none⟩=some (.int .u32 (c 6)):=row_cell H1.out.b4 6
 have c7:w1.cell? ⟨w.heap.size+1,7,none⟩=some (.int .u32 (c 7)):=row_cell H1.out.b4 7
 have c8:w1.cell? ⟨w.heap.size+1,8,none⟩=some (.int .u32 (c 8)):=row_cell H1.out.b4 8
 have c9:w1.cell? ⟨w.heap.size+1,9,none⟩=some (.int .u32 (c 9)):=row_cell H1.out.b4 9
 have c10:w1.cell? ⟨w.heap.size+1,10,none⟩=some (.int .u32 (c 10)):=row_cell H1.out.b4 10
 have c11:w1.cell? ⟨w.heap.size+1,11,none⟩=some (.int .u32 (c 11)):=row_cell H1.out.b4 11
 have vy0:w1.cell? ⟨w.heap.size+1+1,0,none⟩=some (.int .u32 0):=row_cell H1.out.b6 0
 have vy1:w1.cell? ⟨w.heap.size+1+1,1,none⟩=some (.int .u32 0):=row_cell H1.out.b6 1
 have vy2:w1.cell? ⟨w.heap.size+1+1,2,none⟩=some (.int .u32 0):=row_cell H1.out.b6 2
 have vy3:w1.cell? ⟨w.heap.size+1+1,3,none⟩=some (.int .u32 0):=row_cell H1.out.b6 3
 have vy4:w1.cell? ⟨w.heap.size+1+1,4,none⟩=some (.int .u32 0):=row_cell H1.out.b6 4
 have vy5:w1.cell? ⟨w.heap.size+1+1,5,none⟩=some (.int .u32 0):=row_cell H1.out.b6 5
 have vy6:w1.cell? ⟨w.heap.size+1+1,6,none⟩=some (.int .u32 0):=row_cell H1.out.b6 6
 have vy7:w1.cell? ⟨w.heap.size+1+1,7,none⟩=some (.int .u32 0):=row_cell H1.out.b6 7
 have vy8:w1.cell? ⟨w.heap.size+1+1,8,none⟩=some (.int .u32 0):=row_cell H1.out.b6 8
 have vy9:w1.cell? ⟨w.heap.size+1+1,9,none⟩=some (.int .u32 0):=row_cell H1.out.b6 9
 have vy10:w1.cell? ⟨w.heap.size+1+1,10,none⟩=some (.int .u32 0):=row_cell H1.out.b6 10
 have vy11:w1.cell? ⟨w.heap.size+1+1,11,none⟩=some (.int .u32 0):=row_cell H1.out.b6 11
 have vyf:=row_fr H1.out.b6
 have vz0:w1.cell? ⟨w.heap.size+1+1+1,0,none⟩=some (.int .i64 0):=row_cell H1.out.b7 0
 have vz1:w1.cell? ⟨w.heap.size+1+1+1,1,none⟩=some (.int .u32 0):=row_cell H1.out.b7 1
 have vz2:w1.cell? ⟨w.heap.size+1+1+1,2,none⟩=some (.int .u32 0):=row_cell H1.out.b7 2
 have vz3:w1.cell? ⟨w.heap.size+1+1+1,3,none⟩=some (.int .i64 0):=row_cell H1.out.b7 3
 have vzf:=row_fr H1.out.b7
 have m6:=row_lt H1.out.b6
 have m7:=row_lt H1.out.b7
 go_wp2
 exact bodyPost_ret (v:=.tuple #[cxV c,exR ⟨0,0,0,0⟩,.int .i64 e1]) (by simp[results,Tryz.results30,go_sem,vy0,vy1,vy2,vy3,vy4,vy5,vy6,vy7,vy8,vy9,vy10,vy11,vz0,vz1,vz2,vz3,vyf,vzf,m6,m7]) rfl ⟨rfl,by
   have hB:=HRM.out.below HB1.out (Nat.le_refl _)
   have hk1:∀ x∈k.y :: k.all,x≠w.heap.size+1+1:=fun x hx e=>by have:=HRM.out.lt x hx;omega
   have hk2:∀ x∈k.y :: k.all,x≠w.heap.size+1+1+1:=fun x hx e=>by have:=HRM.out.lt x hx;omega
   (repeat first|with_reducible exact hB|with_reducible refine RM.drew ?_|with_reducible refine RM.alloc ?_ _|with_reducible refine RM.setN ?_ (by first|exact hk1|exact hk2) _),by
   have hC:=H1.out.chg
   (repeat first|with_reducible exact hC|with_reducible refine Chg.drewC ?_|with_reducible refine Chg.allocC ?_ _|with_reducible refine Chg.setN ?_ zo)⟩
theorem reval_any(pc:Nat)(count bytes:Int)(bp:Option Addr)(n cap:Nat)(k:RB)(f:Nat→OpR)(c:Nat→Nat)(s:MS)(w:World)(hO:OpsR w bp n f)(hb:0 < n→∀ b off,bp=some ⟨b,off,none⟩→b∉k.all)(hk:∀ j,j < n→(f j).k < 4294967296)(hn:n < 9223372036854775807)(hc:cxOk c)(hs:s.Ok)(h:RM w k s) :
  Calls Tryz.prog 30 #[.agg #[.int .u32 pc,.int .i64 count,.int .i64 bytes,.slice bp n cap],cxV c,.pointer (some ⟨k.y,0,none⟩)] w fun e w'=>e=.returned (.tuple #[cxV (evF count bytes n f c s).c,exR (evF count bytes n f c s).x,.int .i64 (evF count bytes n f c s).e])∧RM w' k (evF count bytes n f c s).s∧Chg k.all w w':=by
 by_cases h0:(checkF count bytes n f).1=0
 ·rw[show evF count bytes n f c s=⟨(runO f n 0 ⟨c,s,fun _=>0⟩).1.c,(runO f n 0 ⟨c,s,fun _=>0⟩).2.1,0,(runO f n 0 ⟨c,s,fun _=>0⟩).1.s⟩ from if_pos h0]
  exact reval_ok pc count bytes bp n cap k f c s w hO (hb (check_good count bytes n f h0).2.1) hk hn hc hs h h0
 ·rw[show evF count bytes n f c s=⟨c,⟨0,0,0,0⟩,(checkF count bytes n f).1,s⟩ from if_neg h0]
  exact reval_bad pc count bytes bp n cap k f c s w hO hn h h0
end Go.Proofs.YtfokgedjocnnmaaGreat
