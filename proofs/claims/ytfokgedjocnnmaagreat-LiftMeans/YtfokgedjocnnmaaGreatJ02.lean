import Derived.Test.YtfokgedjocnnmaaGreatJ01
import Derived.Deep.RegionLaw
import Derived.Lib.SliceRun
set_option linter.unusedVariables false
set_option linter.unusedSimpArgs false
set_option maxHeartbeats 2000000
namespace Go.Proofs.YtfokgedjocnnmaaGreat
open Go.RowKit
set_option maxRecDepth 100000
abbrev goV:Value:=.agg #[.int .i64 0,.int .u32 0]
abbrev stV(k:Int)(x:Nat):Value:=.agg #[.int .i64 k,.int .u32 x]
theorem fetch_none(X a:Nat)(n:Int)(w:World)(hn:n≤0∨8 < n) :
  Calls Tryz.prog 42 #[.pointer (some ⟨X,0,none⟩),.int .u32 a,.int .i64 n] w fun e w'=>e=.returned (.tuple #[.slice none 0 0,goV])∧Below w.heap.size w w':=by
 rcases hn with h|h
 ·have d:decide (n≤0)=true:=decide_eq_true h
  go_enter Tryz.func42,Tryz.ntmps42
  go_wp2
  exact bodyPost_ret (v:=.tuple #[.slice none 0 0,goV]) (by simp[results,Tryz.results42,go_sem]) rfl ⟨rfl,by first|exact((Below.refl _ _).alloc (Nat.le_refl _) _).setCell (Nat.le_refl _) _|exact(Below.refl _ _).alloc (Nat.le_refl _) _⟩
 ·have d:decide (n≤0)=false:=decide_eq_false zo
  have d2:decide (8 < n)=true:=decide_eq_true h
  go_enter Tryz.func42,Tryz.ntmps42
  go_wp2
  exact bodyPost_ret (v:=.tuple #[.slice none 0 0,goV]) (by simp[results,Tryz.results42,go_sem]) rfl ⟨rfl,by first|exact((Below.refl _ _).alloc (Nat.le_refl _) _).setCell (Nat.le_refl _) _|exact(Below.refl _ _).alloc (Nat.le_refl _) _⟩
theorem PM.alloc{w:World}{X:Nat}{s:MS}(h:PM w X s)(o:Obj):PM (w.alloc o) X s:=h.below ((Below.refl w.heap.size w).alloc (Nat.le_refl _) o) h.lt
theorem RM.alloc{w:World}{k:RB}{s:MS}(h:RM w k s)(o:Obj):RM (w.alloc o) k s:=h.below ((Below.refl w.heap.size w).alloc (Nat.le_refl _) o) (Nat.le_refl _)
theorem own2{w w':World}{v0 v1:Value}{t:TypeId}(hb:Below (w.alloc (.cells #[v0,v1] t)).heap.size (w.alloc (.cells #[v0,v1] t)) w') :
  w'.cell? ⟨w.heap.size,0,none⟩=some v0∧w'.cell? ⟨w.heap.size,1,none⟩=some v1∧(∀ o,w'.frozen? ⟨w.heap.size,o,none⟩=false)∧w.heap.size < w'.heap.size:=by
 have h1:w'.heap[w.heap.size]?=some (.cells #[v0,v1] t (0,0)):=(hb.block _ (by simp)).trans (heap_alloc_last w _)
 refine⟨(cell_of_row _ _ 0 _ t (0,0) h1).trans rfl,(cell_of_row _ _ 1 _ t (0,0) h1).trans rfl,fun o=>by simp only[World.frozen?,h1];simp,?_⟩
 have:=hb.size
 simp at this
 omega
theorem below_res{w w':World}{o:Obj}(hb:Below (w.alloc o).heap.size (w.alloc o) w')(v0 v1:Value):Below w.heap.size w ((w'.setCell ⟨w.heap.size,0,none⟩ v0).setCell ⟨w.heap.size,1,none⟩ v1):=
 ((((Below.refl _ _).alloc (Nat.le_refl _) o).trans (hb.mono (by simp))).setCell (Nat.le_refl _) _).setCell (Nat.le_refl _) _
theorem below_res2{w w':World}{o:Obj}(hb:Below (w.alloc o).heap.size (w.alloc o) w')(v0 v1:Value)(o2:Obj):Below w.heap.size w (((w'.setCell ⟨w.heap.size,0,none⟩ v0).setCell ⟨w.heap.size,1,none⟩ v1).alloc o2).drew:=
 ((below_res hb v0 v1).alloc (below_res hb v0 v1).size o2).drew
theorem allowed_bad(X a x:Nat)(n r:Int)(s:MS)(w:World)(ha:a < 4294967296)(hr:r=1∨r=2∨r=4)(hs:s.Ok)(h:PM w X s)(hb:badN s r a n.toNat=some x) :
  Calls Tryz.prog 67 #[.pointer (some ⟨X,0,none⟩),.int .u32 a,.int .i64 n,.int .i64 r] w fun e w'=>e=.returned (.tuple #[.int .u32 x,.bool false])∧w=w':=by
 have:=allowed_any X a n r s w ha hr hs h
 rw[hb] at this
 exact this
theorem allowed_ok(X a:Nat)(n r:Int)(s:MS)(w:World)(ha:a < 4294967296)(hr:r=1∨r=2∨r=4)(hs:s.Ok)(h:PM w X s)(hb:badN s r a n.toNat=none) :
  Calls Tryz.prog 67 #[.pointer (some ⟨X,0,none⟩),.int .u32 a,.int .i64 n,.int .i64 r] w fun e w'=>e=.returned (.tuple #[.int .u32 0,.bool true])∧w=w':=by
 have:=allowed_any X a n r s w ha hr hs h
 rw[hb] at this
 exact this
theorem use_bad(k':RB)(a x:Nat)(n r kind:Int)(s:MS)(w:World)(ha:a < 4294967296)(hr:r=1∨r=2∨r=4)(hs:s.Ok)(h:RM w k' s)(hb:badN s r a n.toNat=some x) :
  Calls Tryz.prog 82 #[.pointer (some ⟨k'.y,0,none⟩),.int .u32 a,.int .i64 n,.int .i64 r,.int .i64 kind] w fun e w'=>e=.returned (stV kind x)∧Below w.heap.size w w':=by
 have:=use_any k' a n r kind s w ha hr hs h
 rw[hb] at this
 exact this
theorem use_ok(k':RB)(a:Nat)(n r kind:Int)(s:MS)(w:World)(ha:a < 4294967296)(hr:r=1∨r=2∨r=4)(hs:s.Ok)(h:RM w k' s)(hb:badN s r a n.toNat=none) :
  Calls Tryz.prog 82 #[.pointer (some ⟨k'.y,0,none⟩),.int .u32 a,.int .i64 n,.int .i64 r,.int .i64 kind] w fun e w'=>e=.returned goV∧Below w.heap.size w w':=by
 have:=use_any k' a n r kind s w ha hr hs h
 rw[hb] at this
 exact this
theorem fetch_bad(X a x:Nat)(n:Int)(s:MS)(w:World)(h0:0 < n)(h8:n≤8)(ha:a < 4294967296)(hs:s.Ok)(h:PM w X s)(hb:badN s 4 a n.toNat=some x) :
  Calls Tryz.prog 42 #[.pointer (some ⟨X,0,none⟩),.int .u32 a,.int .i64 n] w fun e w'=>e=.returned (.tuple #[.slice none 0 0,stV 4 x])∧Below w.heap.size w w':=by
 have d:decide (n≤0)=false:=decide_eq_false zo
 have d2:decide (8 < n)=false:=decide_eq_false zo
 have HP:Hid (PM w X s):=h
 have HB:Hid (badN s 4 a n.toNat=some x):=hb
 clear h hb
 go_enter Tryz.func42,Tryz.ntmps42
 go_wp2_with (go_at_call 67;refine(allowed_bad X a x n 4 s _ ha (.inr (.inr rfl)) hs (HP.out.alloc _) HB.out).mono ?_;rintro e w' ⟨rfl,rfl⟩)
 exact bodyPost_ret (v:=.tuple #[.slice none 0 0,stV 4 x]) (by simp[results,Tryz.results42,go_sem]) rfl ⟨rfl,by first|exact(((Below.refl _ _).alloc (Nat.le_refl _) _).setCell (Nat.le_refl _) _).setCell (Nat.le_refl _) _|exact((Below.refl _ _).alloc (Nat.le_refl _) _).setCell (Nat.le_refl _) _|exact(Below.refl _ _).alloc (Nat.le_refl _) _⟩
theorem fetch_ok(X a n:Nat)(s:MS)(w:World)(h0:0 < n)(h8:n≤8)(ha:a < 4294967296)(hs:s.Ok)(h:PM w X s)(hb:badN s 4 a n=none) :
  Calls Tryz.prog 42 #[.pointer (some ⟨X,0,none⟩),.int .u32 a,.int .i64 n] w fun e w'=>e=.returned (.tuple #[.slice (some ⟨w.heap.size+1,0,none⟩) n n,goV])∧NR w' (w.heap.size+1) n (fun i=>s.B (a+i))∧Below w.heap.size w w'∧w.heap.size+1 < w'.heap.size:=by
 have d:decide ((n:Int)≤0)=false:=decide_eq_false zo
 have d2:decide (8 < (n:Int))=false:=decide_eq_false zo
 have d':decide (n=0)=false:=decide_eq_false zo
 have d3:decide (8 < n)=false:=decide_eq_false zo
 have dn:¬n=0:=zo
 have HL:Hid (a+n≤65536):=badN_lt hb h0
 have ha0:(0:Int)≤a:=zo
 have ha1:(a:Int) < 4294967296:=zo
 have HP:Hid (PM w X s):=h
 have HB:Hid (badN s 4 a (n:Int).toNat=none):=hb
 clear h hb
 go_enter Tryz.func42,Tryz.ntmps42
 go_wp2_with first
  | (go_at_call 67;refine(allowed_ok X a n 4 s _ ha (.inr (.inr rfl)) hs (HP.out.alloc _) HB.out).mono ?_;rintro e w' ⟨rfl,rfl⟩)
  | (go_at_call 68;refine(cut_any X a n s _ HL.out (HP.out.alloc _)).mono ?_;rintro e w' ⟨rfl,hN,hBl,hS⟩;obtain⟨q0,q1,q2,q3⟩:=own2 hBl;have HN:Hid _:=hN;have HBl:Hid _:=hBl;have HS:Hid _:=hS;clear hN hBl hS)
 refine bodyPost_ret (v:=.tuple #[.slice (some ⟨w.heap.size+1,0,none⟩) n n,goV]) (by simp[results,Tryz.results42,go_sem,q0,q1]) rfl ⟨rfl,?_,below_res HBl.out _ _,?_⟩
 ·have:=HN.out
  simp only[World.size_alloc] at this
  exact this.of_block (by rw[Below.heap_setCell _ _ _ _ (by simp),Below.heap_setCell _ _ _ _ (by simp)])
 ·have:=HS.out
  simp only[World.size_alloc] at this
  simpa[World.setCell] using this
theorem rfetch_none(k:RB)(a:Nat)(n:Int)(w:World)(hn:n < 0∨8 < n) :
  Calls Tryz.prog 57 #[.pointer (some ⟨k.y,0,none⟩),.int .u32 a,.int .i64 n] w fun e w'=>e=.returned (.tuple #[.slice none 0 0,goV])∧Below w.heap.size w w':=by
 rcases hn with h|h
 ·have d:decide (n < 0)=true:=decide_eq_true h
  go_enter Tryz.func57,Tryz.ntmps57
  go_wp2
  exact bodyPost_ret (v:=.tuple #[.slice none 0 0,goV]) (by simp[results,Tryz.results57,go_sem]) rfl ⟨rfl,by first|exact((Below.refl _ _).alloc (Nat.le_refl _) _).setCell (Nat.le_refl _) _|exact(Below.refl _ _).alloc (Nat.le_refl _) _⟩
 ·have d:decide (n < 0)=false:=decide_eq_false zo
  have d2:decide (8 < n)=true:=decide_eq_true h
  go_enter Tryz.func57,Tryz.ntmps57
  go_wp2
  exact bodyPost_ret (v:=.tuple #[.slice none 0 0,goV]) (by simp[results,Tryz.results57,go_sem]) rfl ⟨rfl,by first|exact((Below.refl _ _).alloc (Nat.le_refl _) _).setCell (Nat.le_refl _) _|exact(Below.refl _ _).alloc (Nat.le_refl _) _⟩
theorem rfetch_bad(k:RB)(a x:Nat)(n:Int)(s:MS)(w:World)(h0:0 < n)(h8:n≤8)(ha:a < 4294967296)(hs:s.Ok)(h:RM w k s)(hb:badN s 4 a n.toNat=some x) :
  Calls Tryz.prog 57 #[.pointer (some ⟨k.y,0,none⟩),.int .u32 a,.int .i64 n] w fun e w'=>e=.returned (.tuple #[.slice none 0 0,stV 4 x])∧Below w.heap.size w w':=by
 have d:decide (n < 0)=false:=decide_eq_false zo
 have d2:decide (8 < n)=false:=decide_eq_false zo
 have HP:Hid (RM w k s):=h
 have HB:Hid (badN s 4 a n.toNat=some x):=hb
 clear h hb
 go_enter Tryz.func57,Tryz.ntmps57
 go_wp2_with (go_at_call 82;refine(use_bad k a x n 4 4 s _ ha (.inr (.inr rfl)) hs (HP.out.alloc _) HB.out).mono ?_;rintro e w' ⟨rfl,hBl⟩;obtain⟨q0,q1,q2,q3⟩:=own2 hBl;have HBl:Hid _:=hBl;clear hBl)
 go_region
 all_goals
  go_wp2
  exact bodyPost_ret (v:=.tuple #[.slice none 0 0,stV 4 x]) (by simp[results,Tryz.results57,go_sem,q0,q1,q3]) rfl ⟨rfl,below_res2 HBl.out _ _ _⟩
theorem rfetch_zero(k:RB)(a:Nat)(s:MS)(w:World)(ha:a < 4294967296)(hs:s.Ok)(h:RM w k s) :
  Calls Tryz.prog 57 #[.pointer (some ⟨k.y,0,none⟩),.int .u32 a,.int .i64 0] w fun e w'=>e=.returned (.tuple #[.slice none 0 0,goV])∧Below w.heap.size w w':=by
 have HP:Hid (RM w k s):=h
 have HB:Hid (badN s 4 a (0:Int).toNat=none):=rfl
 clear h
 go_enter Tryz.func57,Tryz.ntmps57
 go_wp2_with (go_at_call 82;refine(use_ok k a 0 4 4 s _ ha (.inr (.inr rfl)) hs (HP.out.alloc _) HB.out).mono ?_;rintro e w' ⟨rfl,hBl⟩;obtain⟨q0,q1,q2,q3⟩:=own2 hBl;have HBl:Hid _:=hBl;clear hBl)
 go_region
 all_goals
  go_wp2
  exact bodyPost_ret (v:=.tuple #[.slice none 0 0,goV]) (by simp[results,Tryz.results57,go_sem,q0,q1,q3]) rfl ⟨rfl,below_res2 HBl.out _ _ _⟩
theorem step_twin{w:World}{ops:Array Oper}{o:Oper}{a:Act}{K:Act→World→Prop}{Q:Exit→Act→World→Prop}{E:Prop}(hgd:o.guard=none)(s x:Operand)
  (ho:o.op=.call { callee:=.builtin .append,args:=#[s,x],argTypes:=#[47,47] }) (hs:a.eval s=.slice none 0 0) (ad:Addr) (m' m c:Nat) (hx:a.eval x=.slice (some ad) m' c) (hm:m'=m) (z:Nat→Int) (hp:TwinPre w ad m z) (H:Nat) (hH:w.heap.size=H)
  (h:∀ cap w',NR w' H m z→Below H w w'→H < w'.heap.size→m≤cap→cap≤maxLen→K (a.put o.dst (.slice (some ⟨H,0,none⟩) m cap)) w') :
  if Region.wanted o (yielded ops a.tmps)=true then Oper.wp Tryz.prog o a w K Q else E:=by
 subst hH hm
 obtain⟨i0,hi,hz0,hz1,hz2⟩:=info_parts info5
 refine step_append_lies _ hgd s x 47 ho w.heap.size 5 i0 (.int .u8 0) 1 1 Tryz.underlying47 hi hz0 hz1 hz2 rfl (by decide) (.slice none 0 0) 0 [] hs (World.ownsRow_nil _ _ _ _) ad m' c (byteCs z m') hx (by rw[byteCs_length];omega) hp.row (byteCs_one _ _) hp.pos
  (by have:=hp.le;unfold maxLen;omega) (by have:=hp.le;omega) (Nat.le_refl _) w.heap.size rfl ?_
 intro g cap w1 hown hgrow hat hlt
 obtain⟨rfl,hN,hB,hc,hc2⟩:=twin_grown hown hgrow hat
 have:=h cap w1 hN hB hlt hc hc2
 rw[Nat.zero_add]
 exact this
structure Behind(w w' w2:World):Prop where
 r0:w2.cell? ⟨w.heap.size,0,none⟩=some (.int .i64 0)
 r1:w2.cell? ⟨w.heap.size,1,none⟩=some (.int .u32 0)
 rf:∀ o,w2.frozen? ⟨w.heap.size,o,none⟩=false
 s0:w2.cell? ⟨w'.heap.size,0,none⟩=some (.int .i64 0)
 s1:w2.cell? ⟨w'.heap.size,1,none⟩=some (.int .u32 0)
 lt:w.heap.size < w'.heap.size
 bel:Below w.heap.size w w2
theorem behind{w w' w2:World}(hb:Below (w.alloc (.cells #[.int .i64 0,.int .u32 0] 36)).heap.size (w.alloc (.cells #[.int .i64 0,.int .u32 0] 36)) w')
  (h2:Below (w'.heap.size+1) (w'.alloc (.cells #[.int .i64 0,.int .u32 0] 36)).drew w2):Behind w w' w2:=by
 obtain⟨q0,q1,q2,q3⟩:=own2 hb
 have hd:∀ b o,b < w'.heap.size+1→w2.cell? ⟨b,o,none⟩=(w'.alloc (.cells #[.int .i64 0,.int .u32 0] 36)).cell? ⟨b,o,none⟩:=fun b o hb=>h2.cell (p:=⟨b,o,none⟩) hb
 have hfz:∀ b o,b < w'.heap.size+1→w2.frozen? ⟨b,o,none⟩=(w'.alloc (.cells #[.int .i64 0,.int .u32 0] 36)).frozen? ⟨b,o,none⟩:=fun b o hb=>h2.frozen (p:=⟨b,o,none⟩) hb
 have ha:Below w'.heap.size w' (w'.alloc (.cells #[.int .i64 0,.int .u32 0] 36)):=(Below.refl _ _).alloc (Nat.le_refl _) _
 have hl:=heap_alloc_last w' (.cells #[.int .i64 0,.int .u32 0] 36)
 refine⟨?_,?_,fun o=>?_,?_,?_,q3,?_⟩
 ·rw[hd _ _ zo,ha.cell (p:=⟨w.heap.size,0,none⟩) q3];exact q0
 ·rw[hd _ _ zo,ha.cell (p:=⟨w.heap.size,1,none⟩) q3];exact q1
 ·rw[hfz _ _ zo,ha.frozen (p:=⟨w.heap.size,o,none⟩) q3];exact q2 o
 ·rw[hd _ _ zo,cell_of_row _ _ 0 _ 36 (0,0) hl];rfl
 ·rw[hd _ _ zo,cell_of_row _ _ 1 _ 36 (0,0) hl];rfl
 ·exact(((Below.refl _ _).alloc (Nat.le_refl _) _).trans (hb.mono (by simp))).trans (((ha.mono zo).drew).trans (h2.mono zo))
theorem rfetch_ok(k:RB)(a n:Nat)(s:MS)(w:World)(h0:0 < n)(h8:n≤8)(ha:a < 4294967296)(hs:s.Ok)(h:RM w k s)(hb:badN s 4 a n=none) :
  Calls Tryz.prog 57 #[.pointer (some ⟨k.y,0,none⟩),.int .u32 a,.int .i64 n] w fun e w'=>∃ p c,e=.returned (.tuple #[.slice p n c,goV])∧SR w' p n (fun i=>s.B (a+i))∧Below w.heap.size w w':=by
 have d:decide ((n:Int) < 0)=false:=decide_eq_false zo
 have d2:decide (8 < (n:Int))=false:=decide_eq_false zo
 have d3:decide (8 < n)=false:=decide_eq_false zo
 have dn:((n:Int)==0)=false:=by simp;omega
 have dn':(n==0)=false:=by simp;omega
 have hl:=badN_lt hb h0
 have ha0:(0:Int)≤a:=zo
 have ha1:(a:Int) < 4294967296:=zo
 have hn0:(0:Int)≤n:=zo
 have hcb:=k.hcb
 have hs1:(a:Int)+n≤65536:=zo
 have hs2:(a:Int)+n≤(k.cb:Int):=zo
 have hne:¬k.cb=a:=zo
 have hw1:IntKind.i64.wrap (a:Int)=a:=by rw[IntKind.wrap_i64];omega
 have hw2:IntKind.i64.wrap ((a:Int)+n)=(a:Int)+n:=by rw[IntKind.wrap_i64];omega
 have hs0:(0:Int)≤(a:Int)+n:=zo
 have ht:((a:Int)+n).toNat=a+n:=zo
 have HP:Hid (RM w k s):=h
 have HB:Hid (badN s 4 a (n:Int).toNat=none):=hb
 have HN0:Hid (0 < n∧n≤8∧a+n≤65536):=⟨h0,h8,hl⟩
 clear h hb hl
 go_enter Tryz.func57,Tryz.ntmps57
 go_wp2_with (go_at_call 82;refine(use_ok k a n 4 4 s _ ha (.inr (.inr rfl)) hs (HP.out.alloc _) HB.out).mono ?_;rintro e w' ⟨rfl,hBl⟩;obtain⟨q0,q1,q2,q3⟩:=own2 hBl;have HBl:Hid _:=hBl;have hR:RM w' k s:=(HP.out.alloc _).below hBl (Nat.le_refl _);have hlty:=hR.lty;have c0:=hR.c0;have HR:Hid (RM w' k s):=hR;clear hBl hR)
 have HT:TwinPre (w'.alloc (.cells #[.int .i64 0,.int .u32 0] 36)).drew ⟨k.b,a,none⟩ n (fun i=>s.B (a+i)):=
  ⟨fun j u hv=>by obtain⟨hj,rfl⟩:=byteCs_at _ _ _ _ hv;rw[Addr.add_mid];exact((HR.out.alloc _).drew).by_ _ (by have:=HN0.out;omega),HN0.out.1,by have:=HN0.out;omega⟩
 have HH:Hid ((w'.alloc (.cells #[.int .i64 0,.int .u32 0] 36)).drew.heap.size=w'.heap.size+1):=show(w'.alloc _).heap.size=_ by simp
 go_region_law (refine step_twin rfl (.const (.slice none 0 0)) (.tmp 37) rfl rfl ⟨k.b,a,none⟩ _ n _ rfl zo (fun i=>s.B (a+i)) HT (w'.heap.size+1) HH.out ?_;intro cap2 w2 hN2 hB2 hlt2 hc2 hc3;obtain⟨r0,r1,rf,s0,s1,lt2,bel2⟩:=behind HBl.out hB2)
 all_goals
  have HN2:Hid (NR w2 (w'.heap.size+1) n (fun i=>s.B (a+i))):=hN2
  have HB2:Hid (Below w.heap.size w w2):=bel2
  clear hN2 hB2 bel2 hlt2 hc2 hc3 HT
  go_wp2
  refine bodyPost_ret (v:=.tuple #[.slice (some ⟨w'.heap.size+1,0,none⟩) n cap2,goV]) (by simp[results,Tryz.results57,go_sem,r0,r1]) rfl ⟨_,cap2,rfl,(HN2.out.of_block ?_).sr,(HB2.out.setCell (Nat.le_refl _) _).setCell (Nat.le_refl _) _⟩
  rw[Below.heap_setCell _ _ _ _ (show w'.heap.size+1≠w.heap.size by omega),Below.heap_setCell _ _ _ _ (show w'.heap.size+1≠w.heap.size by omega)]
def zv(v:Nat)(j:Nat):Int:=((v / 256 ^ j%256:Nat):Int)
theorem Chg.res{S:List Nat}{w w':World}{o:Obj}(h:Chg S (w.alloc o) w')(v0 v1:Value):Chg S w ((w'.setCell ⟨w.heap.size,0,none⟩ v0).setCell ⟨w.heap.size,1,none⟩ v1):=by
 have h1:Chg S w w':=(Chg.of_below S ((Below.refl w.heap.size w).alloc (Nat.le_refl _) o)).trans h
 exact(h1.new (Nat.le_refl _) ((Only.refl _ _).setCell 0 v0)).new (Nat.le_refl _) ((Only.refl _ _).setCell 1 v1)
theorem Chg.own2{S:List Nat}{w w':World}{v0 v1:Value}{t:TypeId}(hb:Chg S (w.alloc (.cells #[v0,v1] t)) w')(hS:w.heap.size∉S) :
  w'.cell? ⟨w.heap.size,0,none⟩=some v0∧w'.cell? ⟨w.heap.size,1,none⟩=some v1∧(∀ o,w'.frozen? ⟨w.heap.size,o,none⟩=false)∧w.heap.size < w'.heap.size:=by
 have h1:w'.heap[w.heap.size]?=some (.cells #[v0,v1] t (0,0)):=(hb.block _ (by simp) hS).trans (heap_alloc_last w _)
 refine⟨(cell_of_row _ _ 0 _ t (0,0) h1).trans rfl,(cell_of_row _ _ 1 _ t (0,0) h1).trans rfl,fun o=>by simp only[World.frozen?,h1];simp,?_⟩
 have:=hb.size
 simp at this
 omega
theorem Chg.drew{S:List Nat}{w w':World}(h:Chg S w w'):Chg S w w'.drew:=⟨h.os,h.tape,h.output,h.size,h.block⟩
theorem below_res2'{w w':World}{o:Obj}(hb:Below (w.alloc o).heap.size (w.alloc o) w')(v0 v1:Value)(o2:Obj):Below w.heap.size w (((w'.setCell ⟨w.heap.size,0,none⟩ v0).setCell ⟨w.heap.size,1,none⟩ v1).alloc o2):=
 (below_res hb v0 v1).alloc (below_res hb v0 v1).size o2
theorem rstore_none(k:RB)(a v:Nat)(n:Int)(w:World)(hn:¬(n=1∨n=2∨n=4)) :
  Calls Tryz.prog 98 #[.pointer (some ⟨k.y,0,none⟩),.int .u32 a,.int .i64 n,.int .u32 v] w fun e w'=>e=.returned goV∧Below w.heap.size w w':=by
 have h1:(n==1)=false:=by simp;omega
 have h2:(n==2)=false:=by simp;omega
 have h4:(n==4)=false:=by simp;omega
 have g1:(n !=1)=true:=by simp[bne,h1]
 have g2:(n !=2)=true:=by simp[bne,h2]
 have g4:(n !=4)=true:=by simp[bne,h4]
 clear hn
 go_enter Tryz.func98,Tryz.ntmps98
 go_wp2
 exact bodyPost_ret (v:=goV) (by simp[results,Tryz.results98,go_sem]) rfl ⟨rfl,by first|exact((Below.refl _ _).alloc (Nat.le_refl _) _).setCell (Nat.le_refl _) _|exact(Below.refl _ _).alloc (Nat.le_refl _) _⟩
theorem rstore_bad(k:RB)(a v x:Nat)(n:Int)(s:MS)(w:World)(hn:n=1∨n=2∨n=4)(ha:a < 4294967296)(hs:s.Ok)(h:RM w k s)(hb:badN s 2 a n.toNat=some x) :
  Calls Tryz.prog 98 #[.pointer (some ⟨k.y,0,none⟩),.int .u32 a,.int .i64 n,.int .u32 v] w fun e w'=>e=.returned (stV 6 x)∧Below w.heap.size w w':=by
 have HP:Hid (RM w k s):=h
 have HB:Hid (badN s 2 a n.toNat=some x):=hb
 clear h hb
 rcases hn with rfl|rfl|rfl
 all_goals
  go_enter Tryz.func98,Tryz.ntmps98
  go_wp2_with (go_at_call 82;refine(use_bad k a x _ 2 6 s _ ha (.inr (.inl rfl)) hs (HP.out.alloc _) HB.out).mono ?_;rintro e w' ⟨rfl,hBl⟩;obtain⟨q0,q1,q2,q3⟩:=own2 hBl;have HBl:Hid _:=hBl;clear hBl)
  exact bodyPost_ret (v:=stV 6 x) (by simp[results,Tryz.results98,go_sem,q0,q1,q3]) rfl ⟨rfl,by first|exact below_res2' HBl.out _ _ _|exact below_res2 HBl.out _ _ _⟩
theorem zv_next(v j:Nat):zv v j=(((v / 256 ^ j:Nat):Int)%256):=by unfold zv;omega
structure StR(k:RB)(s:MS)(a v:Nat)(w w1:World)(j:Nat)(wr:World):Prop where
 rm:RM wr k (pokeS s a j (zv v))
 chg:Chg k.all w1 wr
theorem rstore_N(k:RB)(a v N:Nat)(n:Int)(s:MS)(w:World)(hN:n=(N:Int))(hn:n=1∨n=2∨n=4)(ha:a < 4294967296)(hv:v < 4294967296)(hs:s.Ok)(h:RM w k s)(hb:badN s 2 a n.toNat=none) :
  Calls Tryz.prog 98 #[.pointer (some ⟨k.y,0,none⟩),.int .u32 a,.int .i64 n,.int .u32 v] w fun e w'=>e=.returned goV∧RM w' k (pokeS s a N (zv v))∧Chg k.all w w':=by
 have HN:Hid (n=(N:Int)):=hN
 have HN4:Hid (N≤4∧0 < N):=show _∧_ by omega
 have hl:=badN_lt hb (show 0 < n.toNat by omega)
 have HL:Hid (a+N≤65536):=show a+N≤65536 by omega
 have ha0:(0:Int)≤a:=zo
 have ha1:(a:Int) < 4294967296:=zo
 have HV:Hid (v < 4294967296):=hv
 have HP:Hid (RM w k s):=h
 have HB:Hid (badN s 2 a n.toNat=none):=hb
 have hn4:n≤4:=zo
 have hn0:0≤n:=zo
 clear hb hl hv
 have key:∀ w',Below (w.alloc (.cells #[.int .i64 0,.int .u32 0] 36)).heap.size (w.alloc (.cells #[.int .i64 0,.int .u32 0] 36)) w'→RM (w'.alloc (.cells #[.int .i64 0,.int .u32 0] 36)) k s∧Chg k.all (w.alloc (.cells #[.int .i64 0,.int .u32 0] 36)) (w'.alloc (.cells #[.int .i64 0,.int .u32 0] 36))∧w.heap.size∉k.all∧w'.heap.size∉k.all∧w.heap.size < w'.heap.size:=by
  intro w' hb
  have h1:RM w' k s:=(h.alloc _).below hb (Nat.le_refl _)
  obtain⟨-,-,-,q3⟩:=own2 hb
  refine⟨h1.alloc _,Chg.of_below _ (hb.alloc hb.size _),fun hm=>?_,fun hm=>?_,q3⟩
  ·have:=h.lt _ (List.mem_cons_of_mem _ hm);omega
  ·have:=h1.lt _ (List.mem_cons_of_mem _ hm);omega
 have HK:Hid _:=key
 clear key h hN
 have hcase:(n==1)=true∨((n==1)=false∧(n==2)=true)∨((n==1)=false∧(n==2)=false∧(n==4)=true):=by
  rcases hn with rfl|rfl|rfl
  ·exact .inl rfl
  ·exact .inr (.inl ⟨rfl,rfl⟩)
  ·exact .inr (.inr ⟨rfl,rfl,rfl⟩)
 clear hn
 have hcase':(n !=1)=false∨((n !=1)=true∧(n !=2)=false)∨((n !=1)=true∧(n !=2)=true∧(n !=4)=false):=by
  rcases hcase with h|h|h
  ·exact .inl (by simp[bne,h])
  ·exact .inr (.inl ⟨by simp[bne,h.1],by simp[bne,h.2]⟩)
  ·exact .inr (.inr ⟨by simp[bne,h.1],by simp[bne,h.2.1],by simp[bne,h.2.2]⟩)
 clear hcase
 rcases hcase' with g1|⟨g1,g2⟩|⟨g1,g2,g4⟩
 all_goals
  go_enter Tryz.func98,Tryz.ntmps98
  go_wp2_with (go_at_call 82;refine(use_ok k a n 2 6 s _ ha (.inr (.inl rfl)) hs (HP.out.alloc _) HB.out).mono ?_;rintro e w' ⟨rfl,hBl⟩;obtain⟨q0,q1,q2,q3⟩:=own2 hBl;have HKK:=HK.out w' hBl;have HKH:Hid _:=HKK;have HBl:Hid _:=hBl;clear hBl HKK)
  go_loopw [3,10] (fun vv i wr=>∃ j p:Nat,i=.int .i64 j∧vv=.int .u32 p∧(j≤N∧p=v / 256 ^ j)∧StR k s a v w (w'.alloc (.cells #[.int .i64 0,.int .u32 0] 36)) j wr) (fun _ i _=>N - (intOf i).toNat)
  case atStart=>exact⟨0,v,rfl,rfl,⟨by omega,by simp⟩,⟨by rw[pokeS_zero];exact HKH.out.1,Chg.refl _ _⟩⟩
  case round=>
   obtain⟨j,p,rfl,rfl,⟨hj,hp⟩,hR,hC⟩:=hrel
   have HR:Hid (RM wr k (pokeS s a j (zv v))):=hR
   have HC:Hid (Chg k.all (w'.alloc (.cells #[.int .i64 0,.int .u32 0] 36)) wr):=hC
   have hNn:=HN.out
   clear hC
   by_cases hlt:j < N
   ·have hlt':(j:Int) < n:=zo
    have hai:a+j < 65536:=by have:=HL.out;omega
    have hd0:=hR.c0
    have hcb:=hR.by_ (a+j) hai
    have hfb:=hR.fb (a+j)
    have hj0:(0:Int)≤j:=zo
    obtain⟨x,hx⟩:∃ x,a+j=x:=⟨_,rfl⟩
    obtain⟨q,hq⟩:∃ q,x / 256=q:=⟨_,rfl⟩
    have hsum:(a:Int)+j=x:=zo
    have hdiv:(x:Int) / 256=q:=zo
    have hx0:(0:Int)≤x:=zo
    have hx1:(x:Int) < 65536:=zo
    have hq1:q < 256:=zo
    have hp0:(0:Int)≤p:=zo
    have hp1:(p:Int) < 4294967296:=by
     have h1:=HV.out
     have h2:v / 256 ^ j≤v:=Nat.div_le_self _ _
     omega
    have HZ:Hid (zv v j=(p:Int)%256):=show _=_ by rw[zv_next,← hp]
    have HPP:Hid (p / 256=v / 256 ^ (j+1)):=show _=_ by rw[hp,Nat.pow_succ,← Nat.div_div_eq_div_mul]
    have hz0:(0:Int)≤(p:Int)%256:=zo
    have hz1:(p:Int)%256 < 256:=zo
    rw[hx] at hcb hfb
    have HX:Hid (a+j=x∧x / 256=q):=⟨hx,hq⟩
    clear hR hai hx hq hj hp hNn
    go_wp2_with (go_at_call 38;refine(rchange_any k q _ _ hq1 (HR.out.setByte x zo ((p:Int)%256))).mono ?_;rintro e w2 ⟨rfl,hP',hC'⟩)
    have HQ':Hid (RM w2 k (tellS { pokeS s a j (zv v) with B:=upd (pokeS s a j (zv v)).B x ((p:Int)%256) } q)):=hP'
    have HC':Hid (Chg k.all (wr.setCell ⟨k.b,x,none⟩ (.int .u8 ((p:Int)%256))) w2):=hC'
    clear hP' hC'
    go_roundw
    case rel=>exact⟨j+1,p / 256,by go_num,by go_num,⟨by omega,HPP.out⟩,⟨by
     have:=HQ'.out
     rw[← HX.out.2,← HX.out.1,← HZ.out,pokeS_next] at this
     exact this,(HC.out.setIn (by simp[RB.all])).trans HC'.out⟩⟩
    case measure=>simp[intOf];omega
   ·have hjn:j=N:=zo
    subst hjn
    have hlt':¬(j:Int) < n:=zo
    have hCw:=HKH.out.2.1.trans HC.out
    obtain⟨e0,e1,ef,-⟩:=Chg.own2 hCw HKH.out.2.2.1
    obtain⟨e2,e3,eg,e5⟩:=Chg.own2 HC.out HKH.out.2.2.2.1
    have HCW:Hid _:=hCw
    clear hR hj hp hNn hCw
    go_wp2
    refine bodyPost_ret (v:=goV) (by simp[results,Tryz.results98,go_sem,e0,e1]) rfl ⟨rfl,?_,HCW.out.res _ _⟩
    refine HR.out.of_blocks fun x hx=>?_
    have hne:x≠w.heap.size:=by have:=HP.out.lt x hx;omega
    rw[Below.heap_setCell _ _ _ _ hne,Below.heap_setCell _ _ _ _ hne]
theorem rstore_ok(k:RB)(a v n:Nat)(s:MS)(w:World)(hn:n=1∨n=2∨n=4)(ha:a < 4294967296)(hv:v < 4294967296)(hs:s.Ok)(h:RM w k s)(hb:badN s 2 a n=none) :
  Calls Tryz.prog 98 #[.pointer (some ⟨k.y,0,none⟩),.int .u32 a,.int .i64 n,.int .u32 v] w fun e w'=>e=.returned goV∧RM w' k (pokeS s a n (zv v))∧Chg k.all w w':=
 rstore_N k a v n n s w rfl zo ha hv hs h hb
def ldv(B:Nat→Int)(a:Nat):Nat→Int
 | 0=>0
 | n+1=>ldv B a n+B (a+n)*256 ^ n
theorem ldv_bd(B:Nat→Int)(a:Nat)(hB:∀ i,0≤B i∧B i≤255):∀ n,0≤ldv B a n∧ldv B a n < 256 ^ n
 | 0=>by simp[ldv]
 | n+1=>by
  have h:=ldv_bd B a hB n
  have hb:=hB (a+n)
  have hp:(0:Int) < 256 ^ n:=Int.pow_pos (by decide)
  simp only[ldv,Int.pow_succ]
  generalize (256:Int) ^ n=p at *
  generalize B (a+n)=b at *
  have h1:0≤b*p:=Int.mul_nonneg hb.1 zo
  have h2:b*p≤255*p:=Int.mul_le_mul_of_nonneg_right hb.2 zo
  omega
theorem or_add(a y:Int)(s:Nat)(ha:0≤a)(has:a < 2 ^ s)(hy:0≤y)(hs:y*2 ^ s < 4294967296)(hs2:(2:Int) ^ s≤4294967296):bits .or .u32 a (y*2 ^ s)=a+y*2 ^ s:=by
 have h2:(0:Int) < 2 ^ s:=Int.pow_pos (by decide)
 rw[u32_or a (y*2 ^ s) ha zo (Int.mul_nonneg hy zo) hs]
 obtain⟨m,rfl⟩:=Int.eq_ofNat_of_zero_le ha
 obtain⟨n,rfl⟩:=Int.eq_ofNat_of_zero_le hy
 have e1:((n:Int)*2 ^ s).toNat=2 ^ s*n:=by
  have:(n:Int)*2 ^ s=((n*2 ^ s:Nat):Int):=by simp
  rw[this,Int.toNat_natCast,Nat.mul_comm]
 have hm:m < 2 ^ s:=by
   have:((2 ^ s:Nat):Int)=2 ^ s:=by simp
   omega
 rw[e1,Int.toNat_natCast,Nat.or_comm,← Nat.two_pow_add_eq_or_of_lt hm]
 simp[Int.mul_comm,Int.add_comm]
theorem rload_bad(k:RB)(a x:Nat)(n:Int)(s:MS)(w:World)(ha:a < 4294967296)(hs:s.Ok)(h:RM w k s)(hb:badN s 1 a n.toNat=some x) :
  Calls Tryz.prog 97 #[.pointer (some ⟨k.y,0,none⟩),.int .u32 a,.int .i64 n] w fun e w'=>e=.returned (.tuple #[.int .u32 0,stV 5 x])∧Below w.heap.size w w':=by
 have HP:Hid (RM w k s):=h
 have HB:Hid (badN s 1 a n.toNat=some x):=hb
 clear h hb
 go_enter Tryz.func97,Tryz.ntmps97
 go_wp2_with (go_at_call 82;refine(use_bad k a x n 1 5 s _ ha (.inl rfl) hs (HP.out.alloc _) HB.out).mono ?_;rintro e w' ⟨rfl,hBl⟩;obtain⟨q0,q1,q2,q3⟩:=own2 hBl;have HBl:Hid _:=hBl;clear hBl)
 go_region
 all_goals
  go_wp2
  exact bodyPost_ret (v:=.tuple #[.int .u32 0,stV 5 x]) (by simp[results,Tryz.results97,go_sem,q0,q1,q3]) rfl ⟨rfl,below_res2 HBl.out _ _ _⟩
theorem rload_none(k:RB)(a:Nat)(n:Int)(s:MS)(w:World)(hn:¬(n=1∨n=2∨n=4))(ha:a < 4294967296)(hs:s.Ok)(h:RM w k s)(hb:badN s 1 a n.toNat=none) :
  Calls Tryz.prog 97 #[.pointer (some ⟨k.y,0,none⟩),.int .u32 a,.int .i64 n] w fun e w'=>e=.returned (.tuple #[.int .u32 0,goV])∧Below w.heap.size w w':=by
 have HP:Hid (RM w k s):=h
 have HB:Hid (badN s 1 a n.toNat=none):=hb
 have h1:(n==1)=false:=by simp;omega
 have h2:(n==2)=false:=by simp;omega
 have h4:(n==4)=false:=by simp;omega
 have g1:(n !=1)=true:=by simp[bne,h1]
 have g2:(n !=2)=true:=by simp[bne,h2]
 have g4:(n !=4)=true:=by simp[bne,h4]
 clear h hb hn
 go_enter Tryz.func97,Tryz.ntmps97
 go_wp2_with (go_at_call 82;refine(use_ok k a n 1 5 s _ ha (.inl rfl) hs (HP.out.alloc _) HB.out).mono ?_;rintro e w' ⟨rfl,hBl⟩;obtain⟨q0,q1,q2,q3⟩:=own2 hBl;have HBl:Hid _:=hBl;clear hBl)
 go_region
 all_goals
  go_wp2
  exact bodyPost_ret (v:=.tuple #[.int .u32 0,goV]) (by simp[results,Tryz.results97,go_sem,q0,q1,q3]) rfl ⟨rfl,below_res2 HBl.out _ _ _⟩
theorem ldv_cons(B:Nat→Int)(a:Nat):∀ n,ldv B a (n+1)=ldv B (a+1) n*256+B a
 | 0=>by simp[ldv]
 | n+1=>by
  have ih:=ldv_cons B a n
  rw[ldv,ih,ldv,Nat.add_right_comm a 1 n,← Nat.add_assoc a n 1,Int.pow_succ]
  rw[Int.add_mul,Int.mul_assoc]
  omega
structure LdR(s:MS)(a N j:Nat)(x:Int):Prop where
 le:j≤N
 eq:x=ldv s.B (a+j) (N - j)
theorem rload_N(k:RB)(a N:Nat)(n:Int)(s:MS)(w:World)(hN:n=(N:Int))(hn:n=1∨n=2∨n=4)(ha:a < 4294967296)(hs:s.Ok)(h:RM w k s)(hb:badN s 1 a n.toNat=none) :
  Calls Tryz.prog 97 #[.pointer (some ⟨k.y,0,none⟩),.int .u32 a,.int .i64 n] w fun e w'=>e=.returned (.tuple #[.int .u32 (ldv s.B a N),goV])∧Below w.heap.size w w':=by
 have HN:Hid (n=(N:Int)):=hN
 have HN4:Hid (N≤4∧0 < N):=show _∧_ by omega
 have hl:=badN_lt hb (show 0 < n.toNat by omega)
 have HL:Hid (a+N≤65536):=show a+N≤65536 by omega
 have ha0:(0:Int)≤a:=zo
 have ha1:(a:Int) < 65536:=zo
 have HP:Hid (RM w k s):=h
 have HB:Hid (badN s 1 a n.toNat=none):=hb
 have hn4:n≤4:=zo
 have hn0:0≤n:=zo
 have key:∀ w',Below (w.alloc (.cells #[.int .i64 0,.int .u32 0] 36)).heap.size (w.alloc (.cells #[.int .i64 0,.int .u32 0] 36)) w'→RM w' k s:=fun w' hb=>(h.alloc _).below hb (Nat.le_refl _)
 have HK:Hid _:=key
 clear h hb key hl
 have hcase:(n==1)=true∨((n==1)=false∧(n==2)=true)∨((n==1)=false∧(n==2)=false∧(n==4)=true):=by
  rcases hn with rfl|rfl|rfl
  ·exact .inl rfl
  ·exact .inr (.inl ⟨rfl,rfl⟩)
  ·exact .inr (.inr ⟨rfl,rfl,rfl⟩)
 clear hn hN
 have hcase':(n !=1)=false∨((n !=1)=true∧(n !=2)=false)∨((n !=1)=true∧(n !=2)=true∧(n !=4)=false):=by
  rcases hcase with h|h|h
  ·exact .inl (by simp[bne,h])
  ·exact .inr (.inl ⟨by simp[bne,h.1],by simp[bne,h.2]⟩)
  ·exact .inr (.inr ⟨by simp[bne,h.1],by simp[bne,h.2.1],by simp[bne,h.2.2]⟩)
 clear hcase
 rcases hcase' with g1|⟨g1,g2⟩|⟨g1,g2,g4⟩
 all_goals
  go_enter Tryz.func97,Tryz.ntmps97
  go_wp2_with (go_at_call 82;refine(use_ok k a n 1 5 s _ ha (.inl rfl) hs (HP.out.alloc _) HB.out).mono ?_;rintro e w' ⟨rfl,hBl⟩;obtain⟨q0,q1,q2,q3⟩:=own2 hBl;have hR:=HK.out w' hBl;have hlty:=hR.lty;have hltb:=hR.ltb;have d0:=hR.c0;have HR:Hid (RM w' k s):=hR;have HBl:Hid _:=hBl;clear hBl hR)
  go_loop [9,10] (fun vv i=>∃ (j:Nat) (x:Int),i=.int .i64 ((j:Int) - 1)∧vv=.int .u32 x∧LdR s a N j x) (fun _ i=>(intOf i+1).toNat)
  case atStart=>exact⟨N,0,by rw[← HN.out],rfl,Nat.le_refl _,by simp[ldv]⟩
  case round=>
   obtain⟨j,x,rfl,rfl,hjN,hx⟩:=hrel
   have hbd:=ldv_bd s.B (a+j) hs.by_ (N - j)
   have h44:=HN4.out
   cases j with
   | zero=>
    have hz:((0:Nat):Int) - 1 = -1:=rfl
    rw[hz]
    have HX:Hid (x=ldv s.B a N):=show _=_ by simpa using hx
    clear hbd hx hjN h44 hz
    go_wp2
    go_region
    all_goals
     go_wp2
     refine bodyPost_ret (v:=.tuple #[.int .u32 x,goV]) (by simp[results,Tryz.results97,go_sem,q0,q1,q3]) rfl ⟨by rw[HX.out],below_res2 HBl.out _ _ _⟩
   | succ t=>
    have e:((t+1:Nat):Int) - 1=(t:Int):=zo
    rw[e]
    have hat:a+t < 65536:=by have:=HL.out;omega
    have hcb:=HR.out.by_ (a+t) hat
    obtain⟨b,hbb⟩:∃ b,s.B (a+t)=b:=⟨_,rfl⟩
    have hB:=hs.by_ (a+t)
    rw[hbb] at hcb hB
    obtain⟨hB0,hB1⟩:=hB
    rw[← hx] at hbd
    obtain⟨hx0,hx1⟩:=hbd
    have hx2:x < 16777216:=by
     have hc:N - (t+1)=0∨N - (t+1)=1∨N - (t+1)=2∨N - (t+1)=3:=zo
     rcases hc with h|h|h|h<;>rw[h] at hx1<;>simp at hx1<;>omega
    have HX:Hid (x*256+b=ldv s.B (a+t) (N - t)):=show _=_ by
     rw[show N - t=(N - (t+1))+1 by omega,ldv_cons,hbb,hx,Nat.add_assoc]
    have HT:Hid (t≤N):=show t≤N by omega
    have ht0:(0:Int)≤t:=zo
    have ht4:(t:Int)≤4:=zo
    have hti:(a:Int)+t < 65536:=zo
    clear hx hjN h44 e hx1 hbb hat
    go_wp2
    go_round
    case rel=>exact⟨t,x*256+b,by go_num,by go_num,HT.out,HX.out⟩
    case measure=>simp[intOf]
theorem rload_ok(k:RB)(a n:Nat)(s:MS)(w:World)(hn:n=1∨n=2∨n=4)(ha:a < 4294967296)(hs:s.Ok)(h:RM w k s)(hb:badN s 1 a n=none) :
  Calls Tryz.prog 97 #[.pointer (some ⟨k.y,0,none⟩),.int .u32 a,.int .i64 n] w fun e w'=>e=.returned (.tuple #[.int .u32 (ldv s.B a n),goV])∧Below w.heap.size w w':=
 rload_N k a n n s w rfl zo ha hs h hb
theorem info3:(Tryz.prog.info? 3).map (fun i=>(i.zero,i.size,i.bytes))=some (some (.int .i64 0),1,8):=by kernel_rfl
end Go.Proofs.YtfokgedjocnnmaaGreat
