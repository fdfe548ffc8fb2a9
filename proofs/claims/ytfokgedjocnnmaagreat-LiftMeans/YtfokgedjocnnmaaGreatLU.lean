import Derived.Test.YtfokgedjocnnmaaGreatEE
set_option linter.unusedVariables false
set_option linter.unusedSimpArgs false
set_option maxHeartbeats 8000000
namespace Go.Proofs.YtfokgedjocnnmaaGreat
open Go.RowKit
set_option maxRecDepth 100000
structure Le(w wr:World)(s:MS)(pc M kk n size:Nat)(R:LnR):Prop where
 b0:wr.heap[w.heap.size]?=some (.cells #[.int .i64 0,.int .u32 0] 36)
 bel:Below w.heap.size w wr
 eq:lenF s pc kk n size=R
 ct:n+kk=M
 sz:size≤6*n
theorem Le.below{w wr w':World}{s:MS}{pc M kk n size:Nat}{R:LnR}(h:Le w wr s pc M kk n size R)(b:Below wr.heap.size wr w'):Le w w' s pc M kk n size R:=
 ⟨(b.block _ (row_lt h.b0)).trans h.b0,h.bel.trans (b.mono h.bel.size),h.eq,h.ct,h.sz⟩
theorem rlen_any(k:RB)(pc:Nat)(most:Int)(s:MS)(w:World)(hpc:pc < 4294967296)(hs:s.Ok)(h:RM w k s) :
  Calls Tryz.prog 6 #[.pointer (some ⟨k.y,0,none⟩),.int .u32 pc,.int .i64 most] w fun e w'=>e=.returned (.tuple #[.int .i64 (lenF s pc (moF most) 0 0).n,.int .i64 (lenF s pc (moF most) 0 0).size,.agg #[.int .i64 (lenF s pc (moF most) 0 0).k,.int .u32 (lenF s pc (moF most) 0 0).a]])∧Below w.heap.size w w':=by
 obtain⟨hM1,hM2⟩:=moF_bd most
 obtain⟨R,hR⟩:∃ R,lenF s pc (moF most) 0 0=R:=⟨_,rfl⟩
 have HST:Hid (Le w (w.alloc (.cells #[.int .i64 0,.int .u32 0] 36)) s pc (moF most) (moF most) 0 0 R):=⟨heap_alloc_last w _,wk_bel1 w _,hR,by omega,by omega⟩
 rw[hR]
 have HRM:Hid _:=h
 have HS:Hid _:=hs
 have hmo:=moF_eq most
 clear hs h hR
 generalize moF most=M at *
 by_cases h1:most < 1
 ·have e1:M=1:=by simp only[h1,if_true] at hmo;simp at hmo;omega
  subst e1
  have d1:decide (most < 1)=true:=decide_eq_true h1
  clear hmo h1
  go_enter Tryz.func6,Tryz.ntmps6
  go_upto_block 0 with fail
  generalize w.alloc (.cells #[.int .i64 0,.int .u32 0] 36)=W at HST ⊢
  go_wp2_with fail
  go_loopg [9,10] 1 (fun kk n9 s10 wr=>∃ (n size:Nat),n9=.int .i64 n∧s10=.int .i64 size∧Le w wr s pc 1 kk n size R)
  case atStart=>exact⟨0,0,rfl,rfl,HST.out⟩
  case round=>
   obtain⟨n,size,rfl,rfl,hL⟩:=hrel
   have HL:Hid _:=hL
   have hct:=hL.ct
   have hsz:=hL.sz
   have n0:(0:Int)≤n:=zo
   have s0:(0:Int)≤size:=zo
   have s1:(size:Int)≤1000:=zo
   have n1:(n:Int)≤64:=zo
   by_cases hk:gk=0
   ·have d0:decide ((n:Int) < 1)=false:=decide_eq_false zo
    have HREQ:Hid (R=⟨n,size,0,0⟩):=show R=_ by rw[← hL.eq,hk];rfl
    have z0:wr.cell? ⟨w.heap.size,0,none⟩=some (.int .i64 0):=row_cell hL.b0 0
    have z1:wr.cell? ⟨w.heap.size,1,none⟩=some (.int .u32 0):=row_cell hL.b0 1
    have f0:=row_fr hL.b0 0
    have f1:=row_fr hL.b0 1
    have HBEL:Hid _:=hL.bel
    clear hL
    go_wp2_with fail
    exact bodyPost_ret (v:=.tuple #[.int .i64 n,.int .i64 size,.agg #[.int .i64 0,.int .u32 0]]) zq21 rfl ⟨by(rw[HREQ.out])<;>simp,by
        (repeat first|with_reducible exact HBEL.out|with_reducible refine Below.drew ?_|with_reducible refine Below.setCell ?_ zq25 _)⟩
   ·have d0:decide ((n:Int) < 1)=true:=decide_eq_true zo
    obtain⟨k',hk'⟩:∃ k',gk=k'+1:=⟨gk - 1,by omega⟩
    obtain⟨nx,HNX⟩:∃ nx,Hid ((pc+size)%4294967296=nx):=⟨_,rfl⟩
    have HNL:Hid (nx < 4294967296):=show nx < 4294967296 by rw[← HNX.out];exact Nat.mod_lt _ (by decide)
    have HCN:Hid (((pc:Int)+size)%4294967296=(nx:Int)):=show _=_ by rw[← HNX.out];omega
    have HEQ:Hid (lenF s pc (k'+1) n size=R):=show _=R by rw[← hk'];exact hL.eq
    have HP1:Hid (RM wr k s):=HRM.out.below hL.bel (Nat.le_refl _)
    obtain⟨i,HI⟩:∃ i,Hid (insOf s nx=i):=⟨_,rfl⟩
    clear hL
    go_upto_region 9 with (go_at_call 23;(first|rw[HCN.out]|rw[show(pc:Int)+(size:Int)=(nx:Int) by rw[← HNX.out];omega]);refine(rins_any k nx s _ HNL.out HS.out HP1.out).mono ?_;rintro e w1 ⟨rfl,hb1⟩;rw[HI.out];have HB1:Hid _:=hb1;clear hb1)
    have hB3:Below wr.heap.size wr ((w1.alloc (.cells #[.int .i64 i.op,.int .i64 i.D,.int .i64 i.S,.int .i64 i.O,.int .u32 i.imm] 58)).alloc (.cells #[.int .i64 i.k,.int .u32 i.a] 36)):=(HB1.out.alloc HB1.out.size _).alloc (by simp;have:=HB1.out.size;omega) _
    have HL3:Hid (Le w ((w1.alloc (.cells #[.int .i64 i.op,.int .i64 i.D,.int .i64 i.S,.int .i64 i.O,.int .u32 i.imm] 58)).alloc (.cells #[.int .i64 i.k,.int .u32 i.a] 36)) s pc 1 gk n size R):=HL.out.below hB3
    have HXB:Hid _:=(al2 w1 (.cells #[.int .i64 i.op,.int .i64 i.D,.int .i64 i.S,.int .i64 i.O,.int .u32 i.imm] 58) (.cells #[.int .i64 i.k,.int .u32 i.a] 36)).1
    have HSB:Hid _:=(al2 w1 (.cells #[.int .i64 i.op,.int .i64 i.D,.int .i64 i.S,.int .i64 i.O,.int .u32 i.imm] 58) (.cells #[.int .i64 i.k,.int .u32 i.a] 36)).2
    clear hB3 HB1 HP1 HL
    generalize ((w1.alloc (.cells #[.int .i64 i.op,.int .i64 i.D,.int .i64 i.S,.int .i64 i.O,.int .u32 i.imm] 58)).alloc (.cells #[.int .i64 i.k,.int .u32 i.a] 36))=W3 at HL3 HXB HSB ⊢
    generalize w1.heap.size=P at HXB HSB ⊢
    have t0:W3.cell? ⟨P+1,0,none⟩=some (.int .i64 i.k):=row_cell HSB.out 0
    have t1:W3.cell? ⟨P+1,1,none⟩=some (.int .u32 i.a):=row_cell HSB.out 1
    have x0:W3.cell? ⟨P,0,none⟩=some (.int .i64 i.op):=row_cell HXB.out 0
    have z0:W3.cell? ⟨w.heap.size,0,none⟩=some (.int .i64 0):=row_cell HL3.out.b0 0
    have z1:W3.cell? ⟨w.heap.size,1,none⟩=some (.int .u32 0):=row_cell HL3.out.b0 1
    have f0:=row_fr HL3.out.b0 0
    have f1:=row_fr HL3.out.b0 1
    have HBEL:Hid _:=HL3.out.bel
    by_cases hik:i.k=0
    ·have kn:(i.k !=0)=false:=by simp[hik]
     have h6:i.n≤6:=HI.out▸insOf_n6 s nx
     have i0:(0:Int)≤i.n:=zo
     have i6:(i.n:Int)≤6:=zo
     cases hen:endsF i.op with
     | true=>
      have HEN:Hid (endsF i.op=true):=hen
      have HREQ:Hid (R=⟨n+1,size+i.n,0,0⟩):=show R=_ by rw[← HEQ.out,lenF,HNX.out,HI.out,if_neg (by simp[hik]),if_pos hen]
      clear hk hk' hct hen h6 hsz
      go_wp2_with (go_at_call 24;refine(rends_any i.op _).mono ?_;rintro e6 w6 ⟨rfl,rfl⟩;rw[HEN.out])
      exact bodyPost_ret (v:=.tuple #[.int .i64 ((n:Int)+1),.int .i64 ((size:Int)+i.n),.agg #[.int .i64 0,.int .u32 0]]) zq21 rfl ⟨by(rw[HREQ.out])<;>simp,by
        (repeat first|with_reducible exact HBEL.out|with_reducible refine Below.drew ?_|with_reducible refine Below.setCell ?_ zq25 _)⟩
     | false=>
      have HEN:Hid (endsF i.op=false):=hen
      have HNE:Hid (lenF s pc k' (n+1) (size+i.n)=R):=show _=R by rw[← HEQ.out,lenF,HNX.out,HI.out,if_neg (by simp[hik]),if_neg (by rw[hen];decide)]
      have HSZ2:Hid (size+i.n≤6*(n+1)):=show size+i.n≤6*(n+1) by omega
      clear hen h6
      go_wp2_with (go_at_call 24;refine(rends_any i.op _).mono ?_;rintro e6 w6 ⟨rfl,rfl⟩;rw[HEN.out])
      go_roundg k'
      case measure=>omega
      case rel=>exact⟨n+1,size+i.n,by simp,by simp,⟨HL3.out.b0,HL3.out.bel,HNE.out,by omega,HSZ2.out⟩⟩
    ·have kn:(i.k !=0)=true:=by simpa using hik
     by_cases hc0:n=0
     ·have cz:((n:Int)==0)=true:=by simp;omega
      have HREQ:Hid (R=⟨0,0,i.k,i.a⟩):=show R=_ by rw[← HEQ.out,lenF,HNX.out,HI.out,if_pos hik,if_pos hc0]
      clear hk hk' hct hc0
      go_wp2_with fail
      go_region
      all_goals
       go_wp2
       exact bodyPost_ret (v:=.tuple #[.int .i64 0,.int .i64 0,.agg #[.int .i64 i.k,.int .u32 i.a]]) (by simp[results,Tryz.results6,go_sem,z0,z1,f0,f1,t0,t1]) rfl ⟨by(rw[HREQ.out])<;>simp,by
        (repeat first|with_reducible exact HBEL.out|with_reducible refine Below.drew ?_|with_reducible refine Below.setCell ?_ zq25 _)⟩
     ·have cz:((n:Int)==0)=false:=by simp;omega
      have HREQ:Hid (R=⟨n,size,0,0⟩):=show R=_ by rw[← HEQ.out,lenF,HNX.out,HI.out,if_pos hik,if_neg hc0]
      clear hk hk' hct hc0
      go_wp2_with fail
      exact bodyPost_ret (v:=.tuple #[.int .i64 n,.int .i64 size,.agg #[.int .i64 0,.int .u32 0]]) zq21 rfl ⟨by(rw[HREQ.out])<;>simp,by
        (repeat first|with_reducible exact HBEL.out|with_reducible refine Below.drew ?_|with_reducible refine Below.setCell ?_ zq25 _)⟩
 ·have d1:decide (most < 1)=false:=decide_eq_false h1
  by_cases h64:64 < most
  ·have e1:M=64:=by simp only[h1,h64,if_true,if_false] at hmo;omega
   subst e1
   have d2:decide (64 < most)=true:=decide_eq_true h64
   clear hmo h1 h64
   go_enter Tryz.func6,Tryz.ntmps6
   go_upto_block 0 with fail
   generalize w.alloc (.cells #[.int .i64 0,.int .u32 0] 36)=W at HST ⊢
   go_wp2_with fail
   go_loopg [9,10] 64 (fun kk n9 s10 wr=>∃ (n size:Nat),n9=.int .i64 n∧s10=.int .i64 size∧Le w wr s pc 64 kk n size R)
   case atStart=>exact⟨0,0,rfl,rfl,HST.out⟩
   case round=>
    obtain⟨n,size,rfl,rfl,hL⟩:=hrel
    have HL:Hid _:=hL
    have hct:=hL.ct
    have hsz:=hL.sz
    have n0:(0:Int)≤n:=zo
    have s0:(0:Int)≤size:=zo
    have s1:(size:Int)≤1000:=zo
    have n1:(n:Int)≤64:=zo
    by_cases hk:gk=0
    ·have d0:decide ((n:Int) < 64)=false:=decide_eq_false zo
     have HREQ:Hid (R=⟨n,size,0,0⟩):=show R=_ by rw[← hL.eq,hk];rfl
     have z0:wr.cell? ⟨w.heap.size,0,none⟩=some (.int .i64 0):=row_cell hL.b0 0
     have z1:wr.cell? ⟨w.heap.size,1,none⟩=some (.int .u32 0):=row_cell hL.b0 1
     have f0:=row_fr hL.b0 0
     have f1:=row_fr hL.b0 1
     have HBEL:Hid _:=hL.bel
     clear hL
     go_wp2_with fail
     exact bodyPost_ret (v:=.tuple #[.int .i64 n,.int .i64 size,.agg #[.int .i64 0,.int .u32 0]]) zq21 rfl ⟨by(rw[HREQ.out])<;>simp,by
         (repeat first|with_reducible exact HBEL.out|with_reducible refine Below.drew ?_|with_reducible refine Below.setCell ?_ zq25 _)⟩
    ·have d0:decide ((n:Int) < 64)=true:=decide_eq_true zo
     obtain⟨k',hk'⟩:∃ k',gk=k'+1:=⟨gk - 1,by omega⟩
     obtain⟨nx,HNX⟩:∃ nx,Hid ((pc+size)%4294967296=nx):=⟨_,rfl⟩
     have HNL:Hid (nx < 4294967296):=show nx < 4294967296 by rw[← HNX.out];exact Nat.mod_lt _ (by decide)
     have HCN:Hid (((pc:Int)+size)%4294967296=(nx:Int)):=show _=_ by rw[← HNX.out];omega
     have HEQ:Hid (lenF s pc (k'+1) n size=R):=show _=R by rw[← hk'];exact hL.eq
     have HP1:Hid (RM wr k s):=HRM.out.below hL.bel (Nat.le_refl _)
     obtain⟨i,HI⟩:∃ i,Hid (insOf s nx=i):=⟨_,rfl⟩
     clear hL
     go_upto_region 9 with (go_at_call 23;(first|rw[HCN.out]|rw[show(pc:Int)+(size:Int)=(nx:Int) by rw[← HNX.out];omega]);refine(rins_any k nx s _ HNL.out HS.out HP1.out).mono ?_;rintro e w1 ⟨rfl,hb1⟩;rw[HI.out];have HB1:Hid _:=hb1;clear hb1)
     have hB3:Below wr.heap.size wr ((w1.alloc (.cells #[.int .i64 i.op,.int .i64 i.D,.int .i64 i.S,.int .i64 i.O,.int .u32 i.imm] 58)).alloc (.cells #[.int .i64 i.k,.int .u32 i.a] 36)):=(HB1.out.alloc HB1.out.size _).alloc (by simp;have:=HB1.out.size;omega) _
     have HL3:Hid (Le w ((w1.alloc (.cells #[.int .i64 i.op,.int .i64 i.D,.int .i64 i.S,.int .i64 i.O,.int .u32 i.imm] 58)).alloc (.cells #[.int .i64 i.k,.int .u32 i.a] 36)) s pc 64 gk n size R):=HL.out.below hB3
     have HXB:Hid _:=(al2 w1 (.cells #[.int .i64 i.op,.int .i64 i.D,.int .i64 i.S,.int .i64 i.O,.int .u32 i.imm] 58) (.cells #[.int .i64 i.k,.int .u32 i.a] 36)).1
     have HSB:Hid _:=(al2 w1 (.cells #[.int .i64 i.op,.int .i64 i.D,.int .i64 i.S,.int .i64 i.O,.int .u32 i.imm] 58) (.cells #[.int .i64 i.k,.int .u32 i.a] 36)).2
     clear hB3 HB1 HP1 HL
     generalize ((w1.alloc (.cells #[.int .i64 i.op,.int .i64 i.D,.int .i64 i.S,.int .i64 i.O,.int .u32 i.imm] 58)).alloc (.cells #[.int .i64 i.k,.int .u32 i.a] 36))=W3 at HL3 HXB HSB ⊢
     generalize w1.heap.size=P at HXB HSB ⊢
     have t0:W3.cell? ⟨P+1,0,none⟩=some (.int .i64 i.k):=row_cell HSB.out 0
     have t1:W3.cell? ⟨P+1,1,none⟩=some (.int .u32 i.a):=row_cell HSB.out 1
     have x0:W3.cell? ⟨P,0,none⟩=some (.int .i64 i.op):=row_cell HXB.out 0
     have z0:W3.cell? ⟨w.heap.size,0,none⟩=some (.int .i64 0):=row_cell HL3.out.b0 0
     have z1:W3.cell? ⟨w.heap.size,1,none⟩=some (.int .u32 0):=row_cell HL3.out.b0 1
     have f0:=row_fr HL3.out.b0 0
     have f1:=row_fr HL3.out.b0 1
     have HBEL:Hid _:=HL3.out.bel
     by_cases hik:i.k=0
     ·have kn:(i.k !=0)=false:=by simp[hik]
      have h6:i.n≤6:=HI.out▸insOf_n6 s nx
      have i0:(0:Int)≤i.n:=zo
      have i6:(i.n:Int)≤6:=zo
      cases hen:endsF i.op with
      | true=>
       have HEN:Hid (endsF i.op=true):=hen
       have HREQ:Hid (R=⟨n+1,size+i.n,0,0⟩):=show R=_ by rw[← HEQ.out,lenF,HNX.out,HI.out,if_neg (by simp[hik]),if_pos hen]
       clear hk hk' hct hen h6 hsz
       go_wp2_with (go_at_call 24;refine(rends_any i.op _).mono ?_;rintro e6 w6 ⟨rfl,rfl⟩;rw[HEN.out])
       exact bodyPost_ret (v:=.tuple #[.int .i64 ((n:Int)+1),.int .i64 ((size:Int)+i.n),.agg #[.int .i64 0,.int .u32 0]]) zq21 rfl ⟨by(rw[HREQ.out])<;>simp,by
         (repeat first|with_reducible exact HBEL.out|with_reducible refine Below.drew ?_|with_reducible refine Below.setCell ?_ zq25 _)⟩
      | false=>
       have HEN:Hid (endsF i.op=false):=hen
       have HNE:Hid (lenF s pc k' (n+1) (size+i.n)=R):=show _=R by rw[← HEQ.out,lenF,HNX.out,HI.out,if_neg (by simp[hik]),if_neg (by rw[hen];decide)]
       have HSZ2:Hid (size+i.n≤6*(n+1)):=show size+i.n≤6*(n+1) by omega
       clear hen h6
       go_wp2_with (go_at_call 24;refine(rends_any i.op _).mono ?_;rintro e6 w6 ⟨rfl,rfl⟩;rw[HEN.out])
       go_roundg k'
       case measure=>omega
       case rel=>exact⟨n+1,size+i.n,by simp,by simp,⟨HL3.out.b0,HL3.out.bel,HNE.out,by omega,HSZ2.out⟩⟩
     ·have kn:(i.k !=0)=true:=by simpa using hik
      by_cases hc0:n=0
      ·have cz:((n:Int)==0)=true:=by simp;omega
       have HREQ:Hid (R=⟨0,0,i.k,i.a⟩):=show R=_ by rw[← HEQ.out,lenF,HNX.out,HI.out,if_pos hik,if_pos hc0]
       clear hk hk' hct hc0
       go_wp2_with fail
       go_region
       all_goals
        go_wp2
        exact bodyPost_ret (v:=.tuple #[.int .i64 0,.int .i64 0,.agg #[.int .i64 i.k,.int .u32 i.a]]) (by simp[results,Tryz.results6,go_sem,z0,z1,f0,f1,t0,t1]) rfl ⟨by(rw[HREQ.out])<;>simp,by
         (repeat first|with_reducible exact HBEL.out|with_reducible refine Below.drew ?_|with_reducible refine Below.setCell ?_ zq25 _)⟩
      ·have cz:((n:Int)==0)=false:=by simp;omega
       have HREQ:Hid (R=⟨n,size,0,0⟩):=show R=_ by rw[← HEQ.out,lenF,HNX.out,HI.out,if_pos hik,if_neg hc0]
       clear hk hk' hct hc0
       go_wp2_with fail
       exact bodyPost_ret (v:=.tuple #[.int .i64 n,.int .i64 size,.agg #[.int .i64 0,.int .u32 0]]) zq21 rfl ⟨by(rw[HREQ.out])<;>simp,by
         (repeat first|with_reducible exact HBEL.out|with_reducible refine Below.drew ?_|with_reducible refine Below.setCell ?_ zq25 _)⟩
  ·have e1:most=M:=by simp only[h1,h64,if_false] at hmo;omega
   subst e1
   have d2:decide (64 < (M:Int))=false:=decide_eq_false h64
   clear hmo h1 h64
   go_enter Tryz.func6,Tryz.ntmps6
   go_upto_block 0 with fail
   generalize w.alloc (.cells #[.int .i64 0,.int .u32 0] 36)=W at HST ⊢
   go_wp2_with fail
   go_loopg [9,10] M (fun kk n9 s10 wr=>∃ (n size:Nat),n9=.int .i64 n∧s10=.int .i64 size∧Le w wr s pc M kk n size R)
   case atStart=>exact⟨0,0,rfl,rfl,HST.out⟩
   case round=>
    obtain⟨n,size,rfl,rfl,hL⟩:=hrel
    have HL:Hid _:=hL
    have hct:=hL.ct
    have hsz:=hL.sz
    have n0:(0:Int)≤n:=zo
    have s0:(0:Int)≤size:=zo
    have s1:(size:Int)≤1000:=zo
    have n1:(n:Int)≤64:=zo
    by_cases hk:gk=0
    ·have d0:decide ((n:Int) < (M:Int))=false:=decide_eq_false zo
     have HREQ:Hid (R=⟨n,size,0,0⟩):=show R=_ by rw[← hL.eq,hk];rfl
     have z0:wr.cell? ⟨w.heap.size,0,none⟩=some (.int .i64 0):=row_cell hL.b0 0
     have z1:wr.cell? ⟨w.heap.size,1,none⟩=some (.int .u32 0):=row_cell hL.b0 1
     have f0:=row_fr hL.b0 0
     have f1:=row_fr hL.b0 1
     have HBEL:Hid _:=hL.bel
     clear hL
     go_wp2_with fail
     exact bodyPost_ret (v:=.tuple #[.int .i64 n,.int .i64 size,.agg #[.int .i64 0,.int .u32 0]]) zq21 rfl ⟨by(rw[HREQ.out])<;>simp,by
         (repeat first|with_reducible exact HBEL.out|with_reducible refine Below.drew ?_|with_reducible refine Below.setCell ?_ zq25 _)⟩
    ·have d0:decide ((n:Int) < (M:Int))=true:=decide_eq_true zo
     obtain⟨k',hk'⟩:∃ k',gk=k'+1:=⟨gk - 1,by omega⟩
     obtain⟨nx,HNX⟩:∃ nx,Hid ((pc+size)%4294967296=nx):=⟨_,rfl⟩
     have HNL:Hid (nx < 4294967296):=show nx < 4294967296 by rw[← HNX.out];exact Nat.mod_lt _ (by decide)
     have HCN:Hid (((pc:Int)+size)%4294967296=(nx:Int)):=show _=_ by rw[← HNX.out];omega
     have HEQ:Hid (lenF s pc (k'+1) n size=R):=show _=R by rw[← hk'];exact hL.eq
     have HP1:Hid (RM wr k s):=HRM.out.below hL.bel (Nat.le_refl _)
     obtain⟨i,HI⟩:∃ i,Hid (insOf s nx=i):=⟨_,rfl⟩
     clear hL
     go_upto_region 9 with (go_at_call 23;(first|rw[HCN.out]|rw[show(pc:Int)+(size:Int)=(nx:Int) by rw[← HNX.out];omega]);refine(rins_any k nx s _ HNL.out HS.out HP1.out).mono ?_;rintro e w1 ⟨rfl,hb1⟩;rw[HI.out];have HB1:Hid _:=hb1;clear hb1)
     have hB3:Below wr.heap.size wr ((w1.alloc (.cells #[.int .i64 i.op,.int .i64 i.D,.int .i64 i.S,.int .i64 i.O,.int .u32 i.imm] 58)).alloc (.cells #[.int .i64 i.k,.int .u32 i.a] 36)):=(HB1.out.alloc HB1.out.size _).alloc (by simp;have:=HB1.out.size;omega) _
     have HL3:Hid (Le w ((w1.alloc (.cells #[.int .i64 i.op,.int .i64 i.D,.int .i64 i.S,.int .i64 i.O,.int .u32 i.imm] 58)).alloc (.cells #[.int .i64 i.k,.int .u32 i.a] 36)) s pc M gk n size R):=HL.out.below hB3
     have HXB:Hid _:=(al2 w1 (.cells #[.int .i64 i.op,.int .i64 i.D,.int .i64 i.S,.int .i64 i.O,.int .u32 i.imm] 58) (.cells #[.int .i64 i.k,.int .u32 i.a] 36)).1
     have HSB:Hid _:=(al2 w1 (.cells #[.int .i64 i.op,.int .i64 i.D,.int .i64 i.S,.int .i64 i.O,.int .u32 i.imm] 58) (.cells #[.int .i64 i.k,.int .u32 i.a] 36)).2
     clear hB3 HB1 HP1 HL
     generalize ((w1.alloc (.cells #[.int .i64 i.op,.int .i64 i.D,.int .i64 i.S,.int .i64 i.O,.int .u32 i.imm] 58)).alloc (.cells #[.int .i64 i.k,.int .u32 i.a] 36))=W3 at HL3 HXB HSB ⊢
     generalize w1.heap.size=P at HXB HSB ⊢
     have t0:W3.cell? ⟨P+1,0,none⟩=some (.int .i64 i.k):=row_cell HSB.out 0
     have t1:W3.cell? ⟨P+1,1,none⟩=some (.int .u32 i.a):=row_cell HSB.out 1
     have x0:W3.cell? ⟨P,0,none⟩=some (.int .i64 i.op):=row_cell HXB.out 0
     have z0:W3.cell? ⟨w.heap.size,0,none⟩=some (.int .i64 0):=row_cell HL3.out.b0 0
     have z1:W3.cell? ⟨w.heap.size,1,none⟩=some (.int .u32 0):=row_cell HL3.out.b0 1
     have f0:=row_fr HL3.out.b0 0
     have f1:=row_fr HL3.out.b0 1
     have HBEL:Hid _:=HL3.out.bel
     by_cases hik:i.k=0
     ·have kn:(i.k !=0)=false:=by simp[hik]
      have h6:i.n≤6:=HI.out▸insOf_n6 s nx
      have i0:(0:Int)≤i.n:=zo
      have i6:(i.n:Int)≤6:=zo
      cases hen:endsF i.op with
      | true=>
       have HEN:Hid (endsF i.op=true):=hen
       have HREQ:Hid (R=⟨n+1,size+i.n,0,0⟩):=show R=_ by rw[← HEQ.out,lenF,HNX.out,HI.out,if_neg (by simp[hik]),if_pos hen]
       clear hk hk' hct hen h6 hsz
       go_wp2_with (go_at_call 24;refine(rends_any i.op _).mono ?_;rintro e6 w6 ⟨rfl,rfl⟩;rw[HEN.out])
       exact bodyPost_ret (v:=.tuple #[.int .i64 ((n:Int)+1),.int .i64 ((size:Int)+i.n),.agg #[.int .i64 0,.int .u32 0]]) zq21 rfl ⟨by(rw[HREQ.out])<;>simp,by
         (repeat first|with_reducible exact HBEL.out|with_reducible refine Below.drew ?_|with_reducible refine Below.setCell ?_ zq25 _)⟩
      | false=>
       have HEN:Hid (endsF i.op=false):=hen
       have HNE:Hid (lenF s pc k' (n+1) (size+i.n)=R):=show _=R by rw[← HEQ.out,lenF,HNX.out,HI.out,if_neg (by simp[hik]),if_neg (by rw[hen];decide)]
       have HSZ2:Hid (size+i.n≤6*(n+1)):=show size+i.n≤6*(n+1) by omega
       clear hen h6
       go_wp2_with (go_at_call 24;refine(rends_any i.op _).mono ?_;rintro e6 w6 ⟨rfl,rfl⟩;rw[HEN.out])
       go_roundg k'
       case measure=>omega
       case rel=>exact⟨n+1,size+i.n,by simp,by simp,⟨HL3.out.b0,HL3.out.bel,HNE.out,by omega,HSZ2.out⟩⟩
     ·have kn:(i.k !=0)=true:=by simpa using hik
      by_cases hc0:n=0
      ·have cz:((n:Int)==0)=true:=by simp;omega
       have HREQ:Hid (R=⟨0,0,i.k,i.a⟩):=show R=_ by rw[← HEQ.out,lenF,HNX.out,HI.out,if_pos hik,if_pos hc0]
       clear hk hk' hct hc0
       go_wp2_with fail
       go_region
       all_goals
        go_wp2
        exact bodyPost_ret (v:=.tuple #[.int .i64 0,.int .i64 0,.agg #[.int .i64 i.k,.int .u32 i.a]]) (by simp[results,Tryz.results6,go_sem,z0,z1,f0,f1,t0,t1]) rfl ⟨by(rw[HREQ.out])<;>simp,by
         (repeat first|with_reducible exact HBEL.out|with_reducible refine Below.drew ?_|with_reducible refine Below.setCell ?_ zq25 _)⟩
      ·have cz:((n:Int)==0)=false:=by simp;omega
       have HREQ:Hid (R=⟨n,size,0,0⟩):=show R=_ by rw[← HEQ.out,lenF,HNX.out,HI.out,if_pos hik,if_neg hc0]
       clear hk hk' hct hc0
       go_wp2_with fail
       exact bodyPost_ret (v:=.tuple #[.int .i64 n,.int .i64 size,.agg #[.int .i64 0,.int .u32 0]]) zq21 rfl ⟨by(rw[HREQ.out])<;>simp,by
         (repeat first|with_reducible exact HBEL.out|with_reducible refine Below.drew ?_|with_reducible refine Below.setCell ?_ zq25 _)⟩
end Go.Proofs.YtfokgedjocnnmaaGreat
