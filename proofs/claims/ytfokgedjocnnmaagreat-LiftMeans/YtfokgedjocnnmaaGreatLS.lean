import Derived.Test.YtfokgedjocnnmaaGreatEE
import Derived.Test.YtfokgedjocnnmaaGreatLN3
import Derived.Laws.EntriesVeiled
set_option linter.unusedVariables false
set_option linter.unusedSimpArgs false
set_option maxHeartbeats 8000000
namespace Go.Proofs.YtfokgedjocnnmaaGreat
open Go.RowKit
set_option maxRecDepth 100000
structure Lp(w wr:World)(s:MS)(pc most k next count bytes:Nat)(l:List OpR)(R:BR):Prop where
 lb:LBx wr ⟨w.heap.size,w.heap.size+1,w.heap.size+1+1,pc,count,bytes⟩ l
 bL:wr.heap[w.heap.size+1+1]?=some (.cells #[.func (Fn.func 18) #[] #[.pointer (some ⟨w.heap.size+1,0,none⟩)]] 55)
 b0:wr.heap[w.heap.size]?=some (.cells #[.int .u32 0,.int .i64 0,.int .i64 0,.slice none 0 0] 33)
 bel:Below w.heap.size w wr
 nx:next < 4294967296
 eq:blkF s pc k next count bytes l=R
 ct:count+k=most
 ln:l.length≤20*count
 by':bytes≤9*count
theorem lp_start(w:World)(s:MS)(pc most:Nat)(hpc:pc < 4294967296):Lp w (((w.alloc (.cells #[.int .u32 0,.int .i64 0,.int .i64 0,.slice none 0 0] 33)).alloc (.cells #[.int .u32 pc,.int .i64 0,.int .i64 0,.slice none 0 0] 33)).alloc (.cells #[.func (Fn.func 18) #[] #[.pointer (some ⟨w.heap.size+1,0,none⟩)]] 55)) s pc most most pc 0 0 [] (blkF s pc most pc 0 0 []):=by
 obtain⟨a1,a2,a3⟩:=al3 w (.cells #[.int .u32 0,.int .i64 0,.int .i64 0,.slice none 0 0] 33) (.cells #[.int .u32 pc,.int .i64 0,.int .i64 0,.slice none 0 0] 33) (.cells #[.func (Fn.func 18) #[] #[.pointer (some ⟨w.heap.size+1,0,none⟩)]] 55)
 exact⟨⟨_,a2,World.ownsRow_nil _ _ _ _⟩,a3,a1,(((Below.refl _ _).alloc (Nat.le_refl _) _).alloc (by simp) _).alloc zq17 _,hpc,rfl,by omega,by simp,by omega⟩
theorem Lp.below{w wr w':World}{s:MS}{pc most k next count bytes:Nat}{l:List OpR}{R:BR}(h:Lp w wr s pc most k next count bytes l R)(b:Below wr.heap.size wr w'):Lp w w' s pc most k next count bytes l R:=
 ⟨h.lb.below b,(b.block _ (row_lt h.bL)).trans h.bL,(b.block _ (row_lt h.b0)).trans h.b0,h.bel.trans (b.mono (by have:=h.bel.size;omega)),h.nx,h.eq,h.ct,h.ln,h.by'⟩
theorem badN_max{s:MS}{r:Int}:∀ {n x y:Nat},badN s r x n=some y→y≤max x 65536
 | 0,x,y,h=>by cases h
 | n+1,x,y,h=>by
  unfold badN at h
  split at h
  ·have:=badN_max h;omega
  ·cases h;omega
theorem insOf_a(s:MS)(pc:Nat)(hpc:pc < 4294967296):0≤(insOf s pc).a∧(insOf s pc).a≤4294967295:=by
 unfold insOf
 split
 ·rename_i x hx
  have:=badN_max hx
  constructor
  ·show(0:Int)≤x;omega
  ·show(x:Int)≤4294967295;omega
 ·split
  ·rename_i x hx
   have:x≤max pc 65536:=by
    unfold fet at hx
    split at hx
    ·exact badN_max hx
    ·cases hx
   constructor
   ·show(0:Int)≤x;omega
   ·show(x:Int)≤4294967295;omega
  ·simp only
   split
   ·exact⟨Int.le_refl _,(by decide:(0:Int)≤4294967295)⟩
   ·exact⟨Int.le_refl _,(by decide:(0:Int)≤4294967295)⟩
theorem block_any(X pc:Nat)(most:Int)(s:MS)(w:World)(hpc:pc < 4294967296)(hs:s.Ok)(h:PM w X s) :
  Calls Tryz.prog 5 #[.pointer (some ⟨X,0,none⟩),.int .u32 pc,.int .i64 most] w fun e w'=>∃ g cap,e=.returned (.agg #[.int .u32 pc,.int .i64 (blkF s pc (moF most) pc 0 0 []).count,.int .i64 (blkF s pc (moF most) pc 0 0 []).bytes,.slice (some ⟨g,0,none⟩) (blkF s pc (moF most) pc 0 0 []).l.length cap])∧OpsR w' (some ⟨g,0,none⟩) (blkF s pc (moF most) pc 0 0 []).l.length (fun i=>(blkF s pc (moF most) pc 0 0 []).l.getD i opD)∧Below w.heap.size w w':=by
 obtain⟨hM1,hM2⟩:=moF_bd most
 obtain⟨R,hR⟩:∃ R,blkF s pc (moF most) pc 0 0 []=R:=⟨_,rfl⟩
 have HST:=lp_start w s pc (moF most) hpc
 rw[hR] at HST ⊢
 have HSTH:Hid _:=HST
 clear HST hR
 have HMO:Hid _:=moF_eq most
 have HPM:Hid _:=h
 have HS:Hid _:=hs
 clear hs h
 go_enter Tryz.func5,Tryz.ntmps5
 go_upto_block 0 with fail
 rw[HMO.out]
 generalize (if most < 1 then(1:Int) else most)=mm
 generalize hMM:moF most=M at *
 clear HMO hMM
 generalize (((w.alloc (.cells #[.int .u32 0,.int .i64 0,.int .i64 0,.slice none 0 0] 33)).alloc (.cells #[.int .u32 pc,.int .i64 0,.int .i64 0,.slice none 0 0] 33)).alloc (.cells #[.func (Fn.func 18) #[] #[.pointer (some ⟨w.heap.size+1,0,none⟩)]] 55))=W at HSTH ⊢
 go_wp2_with fail
 go_loopg [10] M (fun k nx wr=>∃ (next count bytes:Nat) (l:List OpR),nx=.int .u32 next∧Lp w wr s pc M k next count bytes l R)
 case atStart=>exact⟨pc,0,0,[],rfl,HSTH.out⟩
 case round=>
  obtain⟨next,count,bytes,l,rfl,hL⟩:=hrel
  have HL:Hid _:=hL
  have hct:=hL.ct
  obtain⟨sv,hLB⟩:=hL.lb.ex
  have HLEN:Hid (l.length < 100000):=show l.length < 100000 by have:=hL.ln;omega
  have HLB:Hid _:=hLB
  have b1:wr.cell? ⟨w.heap.size+1,1,none⟩=some (.int .i64 count):=row_cell hLB.b 1
  have c0:(0:Int)≤count:=zo
  by_cases hk:gk=0
  ·have d0:decide ((count:Int) < (M:Int))=false:=decide_eq_false zo
   have l0:wr.cell? ⟨w.heap.size+1+1,0,none⟩=some (.func (Fn.func 18) #[] #[.pointer (some ⟨w.heap.size+1,0,none⟩)]):=row_cell hL.bL 0
   have HREQ:Hid (R=⟨l++[⟨15,0,0,0,0,next,count⟩],count,bytes⟩):=show R=_ by rw[← hL.eq,hk];rfl
   clear hL hLB
   go_wp2_with (go_at_call 18;refine(lay_any w.heap.size (w.heap.size+1) pc count bytes sv l (⟨15,0,0,0,0,next,count⟩:OpR) _ HLB.out HLEN.out zo HL.out.bel.size).mono ?_;rintro e2 w2 ⟨rfl,⟨sv2,hB2⟩,hK2,hBel2⟩;obtain⟨g,cap,hsv,hgb,hO2⟩:=owns_opsR hB2.o (by simp);subst hsv;obtain⟨n2,hn2⟩:∃ n2,(l++[(⟨15,0,0,0,0,next,count⟩:OpR)]).length=n2:=⟨_,rfl⟩;rw[hn2] at hB2 hO2;have HN2:Hid _:=hn2;clear hn2;have HZ2:Hid _:=hK2.keep _ _ _ HL.out.b0 (show w.heap.size≠w.heap.size+1 by omega) (by decide);have q0:w2.cell? ⟨w.heap.size+1,0,none⟩=some (.int .u32 pc):=row_cell hB2.b 0;have q1:w2.cell? ⟨w.heap.size+1,1,none⟩=some (.int .i64 count):=row_cell hB2.b 1;have q2:w2.cell? ⟨w.heap.size+1,2,none⟩=some (.int .i64 bytes):=row_cell hB2.b 2;have q3:w2.cell? ⟨w.heap.size+1,3,none⟩=some (.slice (some ⟨g,0,none⟩) n2 cap):=row_cell hB2.b 3;have z0:w2.cell? ⟨w.heap.size,0,none⟩=some (.int .u32 0):=row_cell HZ2.out 0;have z1:w2.cell? ⟨w.heap.size,1,none⟩=some (.int .i64 0):=row_cell HZ2.out 1;have z2:w2.cell? ⟨w.heap.size,2,none⟩=some (.int .i64 0):=row_cell HZ2.out 2;have z3:w2.cell? ⟨w.heap.size,3,none⟩=some (.slice none 0 0):=row_cell HZ2.out 3;have f0:=row_fr HZ2.out 0;have f1:=row_fr HZ2.out 1;have f2:=row_fr HZ2.out 2;have f3:=row_fr HZ2.out 3;have HGN:Hid (g≠w.heap.size):=(show g≠w.heap.size from fun e=>by obtain⟨-,cur,hh⟩:=owns_block hB2.o rfl;rw[e,HZ2.out] at hh;cases hh);have HO2:Hid _:=hO2;have HBL:Hid _:=HL.out.bel.trans hBel2;clear hB2 hK2 hBel2 hgb hO2)
   exact bodyPost_ret (v:=.agg #[.int .u32 pc,.int .i64 count,.int .i64 bytes,.slice (some ⟨g,0,none⟩) n2 cap]) zq41 rfl ⟨g,cap,by(rw[HREQ.out,← HN2.out])<;>rfl,by
    rw[HREQ.out]
    show OpsR _ _ (l++[(⟨15,0,0,0,0,next,count⟩:OpR)]).length _
    rw[HN2.out]
    exact OpsR.set (OpsR.set (OpsR.set (OpsR.set HO2.out HGN.out 0 _) HGN.out 1 _) HGN.out 2 _) HGN.out 3 _,(((HBL.out.setCell (Nat.le_refl _) _).setCell (Nat.le_refl _) _).setCell (Nat.le_refl _) _).setCell (Nat.le_refl _) _⟩
  ·have d0:decide ((count:Int) < (M:Int))=true:=decide_eq_true zo
   obtain⟨k',hk'⟩:∃ k',gk=k'+1:=⟨gk - 1,by omega⟩
   have HEQ:Hid (blkF s pc (k'+1) next count bytes l=R):=show _=R by rw[← hk'];exact hL.eq
   have HP1:Hid (PM wr X s):=HPM.out.below HL.out.bel HPM.out.lt
   have HNX:Hid (next < 4294967296):=HL.out.nx
   obtain⟨i,HI⟩:∃ i,Hid (insOf s next=i):=⟨_,rfl⟩
   clear hL hLB
   go_upto_region 8 with (go_at_call 20;refine(pins_any X next s _ HNX.out HS.out HP1.out).mono ?_;rintro e w1 ⟨rfl,hb1⟩;rw[HI.out];have HB1:Hid _:=hb1;clear hb1)
   have hB3:Below wr.heap.size wr ((w1.alloc (.cells #[.int .i64 i.op,.int .i64 i.D,.int .i64 i.S,.int .i64 i.O,.int .u32 i.imm] 58)).alloc (.cells #[.int .i64 i.k,.int .u32 i.a] 36)):=(HB1.out.alloc HB1.out.size _).alloc (by simp;have:=HB1.out.size;omega) _
   have HL3:Hid (Lp w ((w1.alloc (.cells #[.int .i64 i.op,.int .i64 i.D,.int .i64 i.S,.int .i64 i.O,.int .u32 i.imm] 58)).alloc (.cells #[.int .i64 i.k,.int .u32 i.a] 36)) s pc M gk next count bytes l R):=HL.out.below hB3
   have HLB3:Hid (LB ((w1.alloc (.cells #[.int .i64 i.op,.int .i64 i.D,.int .i64 i.S,.int .i64 i.O,.int .u32 i.imm] 58)).alloc (.cells #[.int .i64 i.k,.int .u32 i.a] 36)) w.heap.size (w.heap.size+1) pc count bytes sv l):=HLB.out.below hB3
   have HXB:Hid _:=(al2 w1 (.cells #[.int .i64 i.op,.int .i64 i.D,.int .i64 i.S,.int .i64 i.O,.int .u32 i.imm] 58) (.cells #[.int .i64 i.k,.int .u32 i.a] 36)).1
   have HSB:Hid _:=(al2 w1 (.cells #[.int .i64 i.op,.int .i64 i.D,.int .i64 i.S,.int .i64 i.O,.int .u32 i.imm] 58) (.cells #[.int .i64 i.k,.int .u32 i.a] 36)).2
   have HZ3:Hid (((w1.alloc (.cells #[.int .i64 i.op,.int .i64 i.D,.int .i64 i.S,.int .i64 i.O,.int .u32 i.imm] 58)).alloc (.cells #[.int .i64 i.k,.int .u32 i.a] 36)).heap.size=w1.heap.size+1+1):=show _=_ by simp
   clear hB3 b1 HB1 HP1 HL HLB
   generalize ((w1.alloc (.cells #[.int .i64 i.op,.int .i64 i.D,.int .i64 i.S,.int .i64 i.O,.int .u32 i.imm] 58)).alloc (.cells #[.int .i64 i.k,.int .u32 i.a] 36))=W3 at HL3 HLB3 HXB HSB HZ3 ⊢
   generalize w1.heap.size=P at HXB HSB HZ3 ⊢
   have lU:=HZ3.out
   have b1:W3.cell? ⟨w.heap.size+1,1,none⟩=some (.int .i64 count):=row_cell HLB3.out.b 1
   have b2:W3.cell? ⟨w.heap.size+1,2,none⟩=some (.int .i64 bytes):=row_cell HLB3.out.b 2
   have l0:W3.cell? ⟨w.heap.size+1+1,0,none⟩=some (.func (Fn.func 18) #[] #[.pointer (some ⟨w.heap.size+1,0,none⟩)]):=row_cell HL3.out.bL 0
   have s0:W3.cell? ⟨P+1,0,none⟩=some (.int .i64 i.k):=row_cell HSB.out 0
   have s1:W3.cell? ⟨P+1,1,none⟩=some (.int .u32 i.a):=row_cell HSB.out 1
   have x0:W3.cell? ⟨P,0,none⟩=some (.int .i64 i.op):=row_cell HXB.out 0
   have x1:W3.cell? ⟨P,1,none⟩=some (.int .i64 i.D):=row_cell HXB.out 1
   have x2:W3.cell? ⟨P,2,none⟩=some (.int .i64 i.S):=row_cell HXB.out 2
   have x3:W3.cell? ⟨P,3,none⟩=some (.int .i64 i.O):=row_cell HXB.out 3
   have x4:W3.cell? ⟨P,4,none⟩=some (.int .u32 i.imm):=row_cell HXB.out 4
   by_cases hik:i.k=0
   ·have kn:(i.k !=0)=false:=by simp[hik]
    have hio:InsOk i:=HI.out▸insOf_ok s next HS.out (by rw[HI.out];exact hik)
    have HXO:Hid (XOk (xiOf i next count)):=⟨⟨hio.op0,by have:=hio.op1;show i.op < 32;omega⟩,hio.im,⟨hio.O0,by have:=hio.O1;show i.O < 16;omega⟩⟩
    have HDN:Hid (0≤(xiOf i next count).done∧(xiOf i next count).done≤64):=show 0≤(count:Int)∧(count:Int)≤64 by omega
    have hln:=HL3.out.ln
    have hby:=HL3.out.by'
    have hn9:=hio.n1
    have HLN:Hid (Ln l (l.length:Int)):=⟨rfl,by omega⟩
    have HM160:Hid ((l.length:Int)+160 < 90000):=show(l.length:Int)+160 < 90000 by omega
    have HCN:Hid (((next:Int)+i.n)%4294967296=(((next+i.n)%4294967296:Nat):Int)):=show _=_ by omega
    have lb1:=row_lt HL3.out.b0
    have lL1:=row_lt HL3.out.bL
    have lP:=row_lt HXB.out
    have HTU:Hid (TU (W3.alloc (.cells #[.func (Fn.func 18) #[] #[.pointer (some ⟨w.heap.size+1,0,none⟩)],.func (Fn.func 19) #[] #[.pointer (some ⟨w.heap.size+1+1,0,none⟩)],.int .i64 i.op,.int .i64 i.D,.int .i64 i.S,.int .i64 i.O,.int .u32 i.imm,.int .u32 next,.int .u32 (((next+i.n)%4294967296:Nat):Int),.int .i64 count] 62)) ⟨w.heap.size,w.heap.size+1,w.heap.size+1+1,pc,count,bytes⟩ (P+1+1) (xiOf i next count) l):=⟨HL3.out.lb.below ((Below.refl _ _).alloc (Nat.le_refl _) _),(al_old W3 _ _ lL1).trans HL3.out.bL,lU▸heap_alloc_last W3 _,Nat.le_succ _,by show w.heap.size≤_;rw[al_size];omega,show w.heap.size+1+1≠w.heap.size+1 by omega,show P+1+1≠w.heap.size+1 by omega⟩
    have HX4:Hid ((W3.alloc (.cells #[.func (Fn.func 18) #[] #[.pointer (some ⟨w.heap.size+1,0,none⟩)],.func (Fn.func 19) #[] #[.pointer (some ⟨w.heap.size+1+1,0,none⟩)],.int .i64 i.op,.int .i64 i.D,.int .i64 i.S,.int .i64 i.O,.int .u32 i.imm,.int .u32 next,.int .u32 (((next+i.n)%4294967296:Nat):Int),.int .i64 count] 62)).heap[P]?=some (.cells #[.int .i64 i.op,.int .i64 i.D,.int .i64 i.S,.int .i64 i.O,.int .u32 i.imm] 58)):=(al_old W3 _ _ lP).trans HXB.out
    have HZ4:Hid ((W3.alloc (.cells #[.func (Fn.func 18) #[] #[.pointer (some ⟨w.heap.size+1,0,none⟩)],.func (Fn.func 19) #[] #[.pointer (some ⟨w.heap.size+1+1,0,none⟩)],.int .i64 i.op,.int .i64 i.D,.int .i64 i.S,.int .i64 i.O,.int .u32 i.imm,.int .u32 next,.int .u32 (((next+i.n)%4294967296:Nat):Int),.int .i64 count] 62)).heap[w.heap.size]?=some (.cells #[.int .u32 0,.int .i64 0,.int .i64 0,.slice none 0 0] 33)):=(al_old W3 _ _ lb1).trans HL3.out.b0
    have HBE4:Hid (Below w.heap.size w (W3.alloc (.cells #[.func (Fn.func 18) #[] #[.pointer (some ⟨w.heap.size+1,0,none⟩)],.func (Fn.func 19) #[] #[.pointer (some ⟨w.heap.size+1+1,0,none⟩)],.int .i64 i.op,.int .i64 i.D,.int .i64 i.S,.int .i64 i.O,.int .u32 i.imm,.int .u32 next,.int .u32 (((next+i.n)%4294967296:Nat):Int),.int .i64 count] 62))):=HL3.out.bel.alloc HL3.out.bel.size _
    have HPB:Hid (P≠w.heap.size+1):=show P≠w.heap.size+1 from fun e=>by
     have h1:=HXB.out
     rw[e,HLB3.out.b] at h1
     cases h1
    obtain⟨l2,HLF⟩:∃ l2,Hid (l++liftF (xiOf i next count) l.length=l2):=⟨_,rfl⟩
    have by0:(0:Int)≤bytes:=zo
    have by1:(bytes:Int)≤1000:=zo
    have n0:(0:Int)≤i.n:=zo
    have n9:(i.n:Int)≤9:=zo
    have c64:(count:Int)≤64:=zo
    cases hen:endsF i.op with
    | true=>
     have HEN:Hid (endsF i.op=true):=hen
     have HREQ:Hid (R=⟨l2,count+1,bytes+i.n⟩):=show R=_ by rw[← HEQ.out,blkF,HI.out,if_neg (by simp[hik]),if_pos hen,HLF.out]
     have HPOS:Hid (0 < l2.length):=show 0 < l2.length by
      obtain⟨r,o,e1,-⟩:=lift_end (count+1) l l.length rfl (xiOf i next count) ⟨⟨hio.op0,by have:=hio.op1;show i.op < 32;omega⟩,by have:=hio.D1;show 0≤(i.D:Int)∧(i.D:Int)≤7;omega,by have:=hio.S1;show 0≤(i.S:Int)∧(i.S:Int)≤7;omega,⟨hio.O0,by have:=hio.O1;show i.O < 16;omega⟩,hio.im,hio.ld,hio.st,by show 0≤(count:Int);omega,by show(count:Int)+1≤_;omega⟩ hen
      rw[← HLF.out,e1]
      simp only[List.length_append,List.length_cons,List.length_nil]
      omega
     clear hk hk' hct hen hln hby hn9 hio
     go_wp2_with (first
      | (go_at_call 22;refine(pends_any i.op _).mono ?_;rintro e6 w6 ⟨rfl,rfl⟩;rw[HEN.out])
      | (go_at_call 21;rw[HCN.out];refine(do_any ⟨w.heap.size,w.heap.size+1,w.heap.size+1+1,pc,count,bytes⟩ (P+1+1) (xiOf i next count) l l.length _ HTU.out HLN.out HM160.out HDN.out HXO.out).mono ?_;rintro e5 w5 ⟨rfl,h5⟩;rw[HLF.out] at h5;have u8:w5.cell? ⟨P+1+1,8,none⟩=some (.int .u32 (((next+i.n)%4294967296:Nat):Int)):=row_cell h5.t.bU 8;have HX5:Hid _:=h5.kp.keep _ _ _ HX4.out HPB.out (by decide);have y0:w5.cell? ⟨P,0,none⟩=some (.int .i64 i.op):=row_cell HX5.out 0;have HZ5:Hid _:=h5.kp.keep _ _ _ HZ4.out (show w.heap.size≠w.heap.size+1 by omega) (by decide);have HC5:Hid _:=h5.t.bL;have HBB:Hid _:=HBE4.out.trans h5.bel;obtain⟨sv5,hB5⟩:=h5.t.lb.ex;obtain⟨g,cap,hsv,hgb,hO5⟩:=owns_opsR hB5.o HPOS.out;subst hsv;obtain⟨n2,hn2⟩:∃ n2,l2.length=n2:=⟨_,rfl⟩;rw[hn2] at hB5 hO5;have HN2:Hid _:=hn2;clear hn2;have HGN:Hid (g≠w.heap.size):=(show g≠w.heap.size from fun e=>by obtain⟨-,cur,hh⟩:=owns_block hB5.o rfl;rw[e,HZ5.out] at hh;cases hh);have HGB:Hid (g≠w.heap.size+1):=hB5.ne rfl;have HO5:Hid _:=hO5;clear hgb hO5;have q0:w5.cell? ⟨w.heap.size+1,0,none⟩=some (.int .u32 pc):=row_cell hB5.b 0;have q1:w5.cell? ⟨w.heap.size+1,1,none⟩=some (.int .i64 count):=row_cell hB5.b 1;have q2:w5.cell? ⟨w.heap.size+1,2,none⟩=some (.int .i64 bytes):=row_cell hB5.b 2;have q3:w5.cell? ⟨w.heap.size+1,3,none⟩=some (.slice (some ⟨g,0,none⟩) n2 cap):=row_cell hB5.b 3;have g0:=row_fr hB5.b 0;have g1:=row_fr hB5.b 1;have g2:=row_fr hB5.b 2;have g3:=row_fr hB5.b 3;have z0:w5.cell? ⟨w.heap.size,0,none⟩=some (.int .u32 0):=row_cell HZ5.out 0;have z1:w5.cell? ⟨w.heap.size,1,none⟩=some (.int .i64 0):=row_cell HZ5.out 1;have z2:w5.cell? ⟨w.heap.size,2,none⟩=some (.int .i64 0):=row_cell HZ5.out 2;have z3:w5.cell? ⟨w.heap.size,3,none⟩=some (.slice none 0 0):=row_cell HZ5.out 3;have f0:=row_fr HZ5.out 0;have f1:=row_fr HZ5.out 1;have f2:=row_fr HZ5.out 2;have f3:=row_fr HZ5.out 3;have HB5:Hid _:=hB5;clear h5 hB5))
     exact bodyPost_ret (v:=.agg #[.int .u32 pc,.int .i64 ((count:Int)+1),.int .i64 ((bytes:Int)+i.n),.slice (some ⟨g,0,none⟩) n2 cap]) (by simp[results,Tryz.results5,go_sem,q0,q1,q2,q3,z0,z1,z2,z3,f0,f1,f2,f3,g0,g1,g2,g3]) rfl ⟨g,cap,by rw[HREQ.out,← HN2.out];simp,by
      rw[HREQ.out]
      show OpsR _ _ l2.length _
      rw[HN2.out]
      exact OpsR.set (OpsR.set (OpsR.set (OpsR.set (OpsR.set (OpsR.set HO5.out HGB.out 1 _) HGB.out 2 _) HGN.out 0 _) HGN.out 1 _) HGN.out 2 _) HGN.out 3 _,(((((HBB.out.setCell (Nat.le_succ _) _).setCell (Nat.le_succ _) _).setCell (Nat.le_refl _) _).setCell (Nat.le_refl _) _).setCell (Nat.le_refl _) _).setCell (Nat.le_refl _) _⟩
    | false=>
     have HEN:Hid (endsF i.op=false):=hen
     have HNE:Hid (blkF s pc k' ((next+i.n)%4294967296) (count+1) (bytes+i.n) l2=R):=show _=R by rw[← HEQ.out,blkF,HI.out,if_neg (by simp[hik]),if_neg (by rw[hen];decide),HLF.out]
     have HL2:Hid (l2.length≤20*(count+1)):=show l2.length≤20*(count+1) by
      have:=liftF_len (xiOf i next count) l.length
      rw[← HLF.out,List.length_append]
      omega
     have HBY2:Hid (bytes+i.n≤9*(count+1)):=show bytes+i.n≤9*(count+1) by omega
     clear hen hln hby hn9 hio
     go_upto_region 14 with (first
      | (go_at_call 22;refine(pends_any i.op _).mono ?_;rintro e6 w6 ⟨rfl,rfl⟩;rw[HEN.out])
      | (go_at_call 21;rw[HCN.out];refine(do_any ⟨w.heap.size,w.heap.size+1,w.heap.size+1+1,pc,count,bytes⟩ (P+1+1) (xiOf i next count) l l.length _ HTU.out HLN.out HM160.out HDN.out HXO.out).mono ?_;rintro e5 w5 ⟨rfl,h5⟩;rw[HLF.out] at h5;have u8:w5.cell? ⟨P+1+1,8,none⟩=some (.int .u32 (((next+i.n)%4294967296:Nat):Int)):=row_cell h5.t.bU 8;have HX5:Hid _:=h5.kp.keep _ _ _ HX4.out HPB.out (by decide);have y0:w5.cell? ⟨P,0,none⟩=some (.int .i64 i.op):=row_cell HX5.out 0;have HZ5:Hid _:=h5.kp.keep _ _ _ HZ4.out (show w.heap.size≠w.heap.size+1 by omega) (by decide);have HC5:Hid _:=h5.t.bL;have HBB:Hid _:=HBE4.out.trans h5.bel;obtain⟨sv5,hB5⟩:=h5.t.lb.ex;have q0:w5.cell? ⟨w.heap.size+1,0,none⟩=some (.int .u32 pc):=row_cell hB5.b 0;have q1:w5.cell? ⟨w.heap.size+1,1,none⟩=some (.int .i64 count):=row_cell hB5.b 1;have q2:w5.cell? ⟨w.heap.size+1,2,none⟩=some (.int .i64 bytes):=row_cell hB5.b 2;have q3:w5.cell? ⟨w.heap.size+1,3,none⟩=some sv5:=row_cell hB5.b 3;have g0:=row_fr hB5.b 0;have g1:=row_fr hB5.b 1;have g2:=row_fr hB5.b 2;have g3:=row_fr hB5.b 3;have z0:w5.cell? ⟨w.heap.size,0,none⟩=some (.int .u32 0):=row_cell HZ5.out 0;have z1:w5.cell? ⟨w.heap.size,1,none⟩=some (.int .i64 0):=row_cell HZ5.out 1;have z2:w5.cell? ⟨w.heap.size,2,none⟩=some (.int .i64 0):=row_cell HZ5.out 2;have z3:w5.cell? ⟨w.heap.size,3,none⟩=some (.slice none 0 0):=row_cell HZ5.out 3;have f0:=row_fr HZ5.out 0;have f1:=row_fr HZ5.out 1;have f2:=row_fr HZ5.out 2;have f3:=row_fr HZ5.out 3;have HB5:Hid _:=hB5;clear h5 hB5))
     go_wp2_with (first
      | (go_at_call 22;refine(pends_any i.op _).mono ?_;rintro e6 w6 ⟨rfl,rfl⟩;rw[HEN.out])
      | (go_at_call 21;rw[HCN.out];refine(do_any ⟨w.heap.size,w.heap.size+1,w.heap.size+1+1,pc,count,bytes⟩ (P+1+1) (xiOf i next count) l l.length _ HTU.out HLN.out HM160.out HDN.out HXO.out).mono ?_;rintro e5 w5 ⟨rfl,h5⟩;rw[HLF.out] at h5;have u8:w5.cell? ⟨P+1+1,8,none⟩=some (.int .u32 (((next+i.n)%4294967296:Nat):Int)):=row_cell h5.t.bU 8;have HX5:Hid _:=h5.kp.keep _ _ _ HX4.out HPB.out (by decide);have y0:w5.cell? ⟨P,0,none⟩=some (.int .i64 i.op):=row_cell HX5.out 0;have HZ5:Hid _:=h5.kp.keep _ _ _ HZ4.out (show w.heap.size≠w.heap.size+1 by omega) (by decide);have HC5:Hid _:=h5.t.bL;have HBB:Hid _:=HBE4.out.trans h5.bel;obtain⟨sv5,hB5⟩:=h5.t.lb.ex;have q0:w5.cell? ⟨w.heap.size+1,0,none⟩=some (.int .u32 pc):=row_cell hB5.b 0;have q1:w5.cell? ⟨w.heap.size+1,1,none⟩=some (.int .i64 count):=row_cell hB5.b 1;have q2:w5.cell? ⟨w.heap.size+1,2,none⟩=some (.int .i64 bytes):=row_cell hB5.b 2;have q3:w5.cell? ⟨w.heap.size+1,3,none⟩=some sv5:=row_cell hB5.b 3;have g0:=row_fr hB5.b 0;have g1:=row_fr hB5.b 1;have g2:=row_fr hB5.b 2;have g3:=row_fr hB5.b 3;have z0:w5.cell? ⟨w.heap.size,0,none⟩=some (.int .u32 0):=row_cell HZ5.out 0;have z1:w5.cell? ⟨w.heap.size,1,none⟩=some (.int .i64 0):=row_cell HZ5.out 1;have z2:w5.cell? ⟨w.heap.size,2,none⟩=some (.int .i64 0):=row_cell HZ5.out 2;have z3:w5.cell? ⟨w.heap.size,3,none⟩=some (.slice none 0 0):=row_cell HZ5.out 3;have f0:=row_fr HZ5.out 0;have f1:=row_fr HZ5.out 1;have f2:=row_fr HZ5.out 2;have f3:=row_fr HZ5.out 3;have HB5:Hid _:=hB5;clear h5 hB5))
     go_roundg k'
     case measure=>omega
     case rel=>
      refine⟨(next+i.n)%4294967296,count+1,bytes+i.n,l2,rfl,⟨⟨sv5,?_⟩,?_,?_,(HBB.out.setCell (Nat.le_succ _) _).setCell (Nat.le_succ _) _,Nat.mod_lt _ (by decide),HNE.out,by omega,HL2.out,HBY2.out⟩⟩
      ·have h1:=(HB5.out.setCount ((count:Int)+1)).setBytes ((bytes:Int)+i.n)
       simpa using h1
      ·rw[Below.heap_setCell _ _ _ _ (show w.heap.size+1+1≠w.heap.size+1 by omega),Below.heap_setCell _ _ _ _ (show w.heap.size+1+1≠w.heap.size+1 by omega)]
       exact HC5.out
      ·rw[Below.heap_setCell _ _ _ _ (show w.heap.size≠w.heap.size+1 by omega),Below.heap_setCell _ _ _ _ (show w.heap.size≠w.heap.size+1 by omega)]
       exact HZ5.out
   ·have kn:(i.k !=0)=true:=by simpa using hik
    by_cases hc0:count=0
    ·subst hc0
     have HREQ:Hid (R=⟨l++[⟨14,i.k,0,i.a,0,pc,0⟩],0,bytes⟩):=show R=_ by rw[← HEQ.out,blkF,HI.out,if_pos hik,if_pos rfl]
     have ha:=insOf_a s next HNX.out
     rw[HI.out] at ha
     obtain⟨a0,a1⟩:=ha
     have cz:(((0:Nat):Int)==0)=true:=rfl
     clear hk hk' hct
     go_wp2_with (go_at_call 18;refine(lay_any w.heap.size (w.heap.size+1) pc 0 bytes sv l (⟨14,i.k,0,i.a,0,pc,0⟩:OpR) _ HLB3.out HLEN.out zo HL3.out.bel.size).mono ?_;rintro e2 w2 ⟨rfl,⟨sv2,hB2⟩,hK2,hBel2⟩;obtain⟨g,cap,hsv,hgb,hO2⟩:=owns_opsR hB2.o (by simp);subst hsv;obtain⟨n2,hn2⟩:∃ n2,(l++[(⟨14,i.k,0,i.a,0,pc,0⟩:OpR)]).length=n2:=⟨_,rfl⟩;rw[hn2] at hB2 hO2;have HN2:Hid _:=hn2;clear hn2;have HZ2:Hid _:=hK2.keep _ _ _ HL3.out.b0 (show w.heap.size≠w.heap.size+1 by omega) (by decide);have q0:w2.cell? ⟨w.heap.size+1,0,none⟩=some (.int .u32 pc):=row_cell hB2.b 0;have q1:w2.cell? ⟨w.heap.size+1,1,none⟩=some (.int .i64 0):=row_cell hB2.b 1;have q2:w2.cell? ⟨w.heap.size+1,2,none⟩=some (.int .i64 bytes):=row_cell hB2.b 2;have q3:w2.cell? ⟨w.heap.size+1,3,none⟩=some (.slice (some ⟨g,0,none⟩) n2 cap):=row_cell hB2.b 3;have z0:w2.cell? ⟨w.heap.size,0,none⟩=some (.int .u32 0):=row_cell HZ2.out 0;have z1:w2.cell? ⟨w.heap.size,1,none⟩=some (.int .i64 0):=row_cell HZ2.out 1;have z2:w2.cell? ⟨w.heap.size,2,none⟩=some (.int .i64 0):=row_cell HZ2.out 2;have z3:w2.cell? ⟨w.heap.size,3,none⟩=some (.slice none 0 0):=row_cell HZ2.out 3;have f0:=row_fr HZ2.out 0;have f1:=row_fr HZ2.out 1;have f2:=row_fr HZ2.out 2;have f3:=row_fr HZ2.out 3;have HGN:Hid (g≠w.heap.size):=(show g≠w.heap.size from fun e=>by obtain⟨-,cur,hh⟩:=owns_block hB2.o rfl;rw[e,HZ2.out] at hh;cases hh);have HO2:Hid _:=hO2;have HBL:Hid _:=HL3.out.bel.trans hBel2;clear hB2 hK2 hBel2 hgb hO2)
     exact bodyPost_ret (v:=.agg #[.int .u32 pc,.int .i64 0,.int .i64 bytes,.slice (some ⟨g,0,none⟩) n2 cap]) zq41 rfl ⟨g,cap,by(rw[HREQ.out,← HN2.out])<;>rfl,by
    rw[HREQ.out]
    show OpsR _ _ (l++[(⟨14,i.k,0,i.a,0,pc,0⟩:OpR)]).length _
    rw[HN2.out]
    exact OpsR.set (OpsR.set (OpsR.set (OpsR.set HO2.out HGN.out 0 _) HGN.out 1 _) HGN.out 2 _) HGN.out 3 _,(((HBL.out.setCell (Nat.le_refl _) _).setCell (Nat.le_refl _) _).setCell (Nat.le_refl _) _).setCell (Nat.le_refl _) _⟩
    ·have cz:((count:Int)==0)=false:=by simp;omega
     have HREQ:Hid (R=⟨l++[⟨15,0,0,0,0,next,count⟩],count,bytes⟩):=show R=_ by rw[← HEQ.out,blkF,HI.out,if_pos hik,if_neg hc0];rfl
     clear hk hk' hct
     go_wp2_with (go_at_call 18;refine(lay_any w.heap.size (w.heap.size+1) pc count bytes sv l (⟨15,0,0,0,0,next,count⟩:OpR) _ HLB3.out HLEN.out zo HL3.out.bel.size).mono ?_;rintro e2 w2 ⟨rfl,⟨sv2,hB2⟩,hK2,hBel2⟩;obtain⟨g,cap,hsv,hgb,hO2⟩:=owns_opsR hB2.o (by simp);subst hsv;obtain⟨n2,hn2⟩:∃ n2,(l++[(⟨15,0,0,0,0,next,count⟩:OpR)]).length=n2:=⟨_,rfl⟩;rw[hn2] at hB2 hO2;have HN2:Hid _:=hn2;clear hn2;have HZ2:Hid _:=hK2.keep _ _ _ HL3.out.b0 (show w.heap.size≠w.heap.size+1 by omega) (by decide);have q0:w2.cell? ⟨w.heap.size+1,0,none⟩=some (.int .u32 pc):=row_cell hB2.b 0;have q1:w2.cell? ⟨w.heap.size+1,1,none⟩=some (.int .i64 count):=row_cell hB2.b 1;have q2:w2.cell? ⟨w.heap.size+1,2,none⟩=some (.int .i64 bytes):=row_cell hB2.b 2;have q3:w2.cell? ⟨w.heap.size+1,3,none⟩=some (.slice (some ⟨g,0,none⟩) n2 cap):=row_cell hB2.b 3;have z0:w2.cell? ⟨w.heap.size,0,none⟩=some (.int .u32 0):=row_cell HZ2.out 0;have z1:w2.cell? ⟨w.heap.size,1,none⟩=some (.int .i64 0):=row_cell HZ2.out 1;have z2:w2.cell? ⟨w.heap.size,2,none⟩=some (.int .i64 0):=row_cell HZ2.out 2;have z3:w2.cell? ⟨w.heap.size,3,none⟩=some (.slice none 0 0):=row_cell HZ2.out 3;have f0:=row_fr HZ2.out 0;have f1:=row_fr HZ2.out 1;have f2:=row_fr HZ2.out 2;have f3:=row_fr HZ2.out 3;have HGN:Hid (g≠w.heap.size):=(show g≠w.heap.size from fun e=>by obtain⟨-,cur,hh⟩:=owns_block hB2.o rfl;rw[e,HZ2.out] at hh;cases hh);have HO2:Hid _:=hO2;have HBL:Hid _:=HL3.out.bel.trans hBel2;clear hB2 hK2 hBel2 hgb hO2)
     exact bodyPost_ret (v:=.agg #[.int .u32 pc,.int .i64 count,.int .i64 bytes,.slice (some ⟨g,0,none⟩) n2 cap]) zq41 rfl ⟨g,cap,by(rw[HREQ.out,← HN2.out])<;>rfl,by
    rw[HREQ.out]
    show OpsR _ _ (l++[(⟨15,0,0,0,0,next,count⟩:OpR)]).length _
    rw[HN2.out]
    exact OpsR.set (OpsR.set (OpsR.set (OpsR.set HO2.out HGN.out 0 _) HGN.out 1 _) HGN.out 2 _) HGN.out 3 _,(((HBL.out.setCell (Nat.le_refl _) _).setCell (Nat.le_refl _) _).setCell (Nat.le_refl _) _).setCell (Nat.le_refl _) _⟩
end Go.Proofs.YtfokgedjocnnmaaGreat
