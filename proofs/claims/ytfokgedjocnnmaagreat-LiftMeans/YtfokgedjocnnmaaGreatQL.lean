import Derived.Test.YtfokgedjocnnmaaGreatBO
import Derived.Test.YtfokgedjocnnmaaGreatJ29
import Derived.Test.YtfokgedjocnnmaaGreatED
import Derived.Test.YtfokgedjocnnmaaGreatJ25
import Derived.Deep.MidRow
set_option linter.unusedVariables false
set_option linter.unusedSimpArgs false
set_option maxHeartbeats 16000000
namespace Go.Proofs.YtfokgedjocnnmaaGreat
open Go.RowKit
set_option maxRecDepth 100000
theorem rw2{w:World}{b:Nat}{a0 a1:Value}{T:TypeId}(h:w.heap[b]?=some (.cells #[a0,a1] T)):w.cell? ⟨b,0,none⟩=some a0∧w.cell? ⟨b,1,none⟩=some a1∧b < w.heap.size:=⟨row_cell h 0,row_cell h 1,row_lt h⟩
theorem rw4{w:World}{b:Nat}{a0 a1 a2 a3:Value}{T:TypeId}(h:w.heap[b]?=some (.cells #[a0,a1,a2,a3] T)):w.cell? ⟨b,0,none⟩=some a0∧w.cell? ⟨b,1,none⟩=some a1∧w.cell? ⟨b,2,none⟩=some a2∧w.cell? ⟨b,3,none⟩=some a3∧b < w.heap.size:=⟨row_cell h 0,row_cell h 1,row_cell h 2,row_cell h 3,row_lt h⟩
theorem rw5{w:World}{b:Nat}{a0 a1 a2 a3 a4:Value}{T:TypeId}(h:w.heap[b]?=some (.cells #[a0,a1,a2,a3,a4] T)):w.cell? ⟨b,0,none⟩=some a0∧w.cell? ⟨b,1,none⟩=some a1∧w.cell? ⟨b,2,none⟩=some a2∧w.cell? ⟨b,3,none⟩=some a3∧w.cell? ⟨b,4,none⟩=some a4∧b < w.heap.size:=⟨row_cell h 0,row_cell h 1,row_cell h 2,row_cell h 3,row_cell h 4,row_lt h⟩
theorem rw10{w:World}{b:Nat}{t:GS}{T:TypeId}(h:w.heap[b]?=some (.cells (gsC t) T)):w.cell? ⟨b,0,none⟩=some (.int .u32 (t.R 0))∧w.cell? ⟨b,1,none⟩=some (.int .u32 (t.R 1))∧w.cell? ⟨b,2,none⟩=some (.int .u32 (t.R 2))∧w.cell? ⟨b,3,none⟩=some (.int .u32 (t.R 3))∧w.cell? ⟨b,4,none⟩=some (.int .u32 (t.R 4))∧w.cell? ⟨b,5,none⟩=some (.int .u32 (t.R 5))∧w.cell? ⟨b,6,none⟩=some (.int .u32 (t.R 6))∧w.cell? ⟨b,7,none⟩=some (.int .u32 (t.R 7))∧w.cell? ⟨b,8,none⟩=some (.int .u32 t.pc)∧w.cell? ⟨b,9,none⟩=some (.int .u32 t.f)∧b < w.heap.size:=⟨row_cell h 0,row_cell h 1,row_cell h 2,row_cell h 3,row_cell h 4,row_cell h 5,row_cell h 6,row_cell h 7,row_cell h 8,row_cell h 9,row_lt h⟩
theorem rw12{w:World}{b:Nat}{c:Nat→Nat}{T:TypeId}(h:w.heap[b]?=some (.cells (cxA c) T)):w.cell? ⟨b,0,none⟩=some (.int .u32 (c 0))∧w.cell? ⟨b,1,none⟩=some (.int .u32 (c 1))∧w.cell? ⟨b,2,none⟩=some (.int .u32 (c 2))∧w.cell? ⟨b,3,none⟩=some (.int .u32 (c 3))∧w.cell? ⟨b,4,none⟩=some (.int .u32 (c 4))∧w.cell? ⟨b,5,none⟩=some (.int .u32 (c 5))∧w.cell? ⟨b,6,none⟩=some (.int .u32 (c 6))∧w.cell? ⟨b,7,none⟩=some (.int .u32 (c 7))∧w.cell? ⟨b,8,none⟩=some (.int .u32 (c 8))∧w.cell? ⟨b,9,none⟩=some (.int .u32 (c 9))∧w.cell? ⟨b,10,none⟩=some (.int .u32 (c 10))∧w.cell? ⟨b,11,none⟩=some (.int .u32 (c 11))∧b < w.heap.size:=⟨row_cell h 0,row_cell h 1,row_cell h 2,row_cell h 3,row_cell h 4,row_cell h 5,row_cell h 6,row_cell h 7,row_cell h 8,row_cell h 9,row_cell h 10,row_cell h 11,row_lt h⟩
theorem mq0{x:Nat × Obj}{l:List (Nat × Obj)}:x∈x :: l:=List.mem_cons_self
theorem mq1{a x:Nat × Obj}{l:List (Nat × Obj)}:x∈a :: x :: l:=List.mem_cons_of_mem _ (List.mem_cons_self)
theorem mq2{a b x:Nat × Obj}{l:List (Nat × Obj)}:x∈a :: b :: x :: l:=List.mem_cons_of_mem _ (List.mem_cons_of_mem _ (List.mem_cons_self))
theorem mq3{a b c x:Nat × Obj}{l:List (Nat × Obj)}:x∈a :: b :: c :: x :: l:=List.mem_cons_of_mem _ (List.mem_cons_of_mem _ (List.mem_cons_of_mem _ (List.mem_cons_self)))
theorem mq4{a b c d x:Nat × Obj}{l:List (Nat × Obj)}:x∈a :: b :: c :: d :: x :: l:=List.mem_cons_of_mem _ (List.mem_cons_of_mem _ (List.mem_cons_of_mem _ (List.mem_cons_of_mem _ (List.mem_cons_self))))
theorem mq5{a b c d e x:Nat × Obj}{l:List (Nat × Obj)}:x∈a :: b :: c :: d :: e :: x :: l:=List.mem_cons_of_mem _ (List.mem_cons_of_mem _ (List.mem_cons_of_mem _ (List.mem_cons_of_mem _ (List.mem_cons_of_mem _ (List.mem_cons_self)))))
theorem wp_gen{P:Program}{c:Code}{Q:Exit→Act→World→Prop}{a:Act}{W:World}(p:World→Prop)(h:p W)(k:∀ w',p w'→Code.wp P c Q a w'):Code.wp P c Q a W:=k W h
def RevalOk:Prop:=∀ (pc:Nat) (count bytes:Int) (bp:Option Addr) (n cap:Nat) (k:RB) (f:Nat→OpR) (c:Nat→Nat) (s:MS) (w:World),OpsR w bp n f→(0 < n→∀ b off,bp=some ⟨b,off,none⟩→b∉k.all)→(∀ j,j < n→(f j).k < 4294967296)→n < 9223372036854775807→cxOk c→s.Ok→RM w k s→
  Calls Tryz.prog 30 #[.agg #[.int .u32 pc,.int .i64 count,.int .i64 bytes,.slice bp n cap],cxV c,.pointer (some ⟨k.y,0,none⟩)] w fun e w'=>e=.returned (.tuple #[cxV (evF count bytes n f c s).c,exR (evF count bytes n f c s).x,.int .i64 (evF count bytes n f c s).e])∧RM w' k (evF count bytes n f c s).s∧Chg k.all w w'
structure Kq(wx:World)(L:List (Nat × Obj)):Prop where
 k:∀ p∈L,wx.heap[p.1]?=some p.2
theorem Kq.lt{wx:World}{L:List (Nat × Obj)}(h:Kq wx L){p:Nat × Obj}(hp:p∈L):p.1 < wx.heap.size:=by
 rcases Nat.lt_or_ge p.1 wx.heap.size with g|g
 ·exact g
 ·have:=h.k p hp
  rw[Array.getElem?_eq_none g] at this
  cases this
theorem Kq.below{wx w':World}{L:List (Nat × Obj)}(h:Kq wx L)(k:Below wx.heap.size wx w'):Kq w' L:=⟨fun p hp=>(k.block _ (h.lt hp)).trans (h.k p hp)⟩
theorem Kq.chg{wx w':World}{L:List (Nat × Obj)}{S:List Nat}(h:Kq wx L)(k:Chg S wx w')(hn:∀ p∈L,p.1∉S):Kq w' L:=⟨fun p hp=>(k.block _ (h.lt hp) (hn p hp)).trans (h.k p hp)⟩
theorem Kq.new{wx:World}{L:List (Nat × Obj)}(h:Kq wx L)(o:Obj):Kq (wx.alloc o) ((wx.heap.size,o) :: L):=⟨fun p hp=>by
 rcases List.mem_cons.1 hp with rfl|hp
 ·exact heap_alloc_last wx o
 ·exact(((Below.refl wx.heap.size wx).alloc (Nat.le_refl _) o).block _ (h.lt hp)).trans (h.k p hp)⟩
theorem kq0(w:World)(o1 o2:Obj):Kq ((w.alloc o1).alloc o2) [(w.heap.size+1,o2),(w.heap.size,o1)]:=⟨fun p hp=>by
 simp at hp
 rcases hp with rfl|rfl
 ·exact(al2 w o1 o2).2
 ·exact(al2 w o1 o2).1⟩
theorem w2b(w:World)(o1 o2:Obj):Below w.heap.size w ((w.alloc o1).alloc o2):=((Below.refl _ _).alloc (Nat.le_refl _) _).alloc (by simp) _
structure LfW(W wx:World)(k k':RB)(s s':MS)(L:List (Nat × Obj)):Prop where
 rm:RM wx k s
 rm':RM wx k' s'
 kp:Kq wx L
 bel:Below W.heap.size W wx
 nk:∀ p∈L,p.1∉k.y :: k.all∧p.1∉k'.y :: k'.all
 d1:∀ x∈k.y :: k.all,x∉k'.all
 d2:∀ x∈k'.y :: k'.all,x∉k.all
 f1:∀ x∈k.all,W.heap.size≤x
 f2:∀ x∈k'.all,W.heap.size≤x
 fl:∀ p∈L,W.heap.size≤p.1
theorem LfW.new{W wx:World}{k k':RB}{s s':MS}{L:List (Nat × Obj)}(h:LfW W wx k k' s s' L)(o:Obj):LfW W (wx.alloc o) k k' s s' ((wx.heap.size,o) :: L):=
 ⟨h.rm.alloc o,h.rm'.alloc o,h.kp.new o,h.bel.alloc h.bel.size o,fun p hp=>by
  rcases List.mem_cons.1 hp with rfl|hp
  ·exact⟨fun hm=>Nat.lt_irrefl _ (h.rm.lt _ hm),fun hm=>Nat.lt_irrefl _ (h.rm'.lt _ hm)⟩
  ·exact h.nk p hp,h.d1,h.d2,h.f1,h.f2,fun p hp=>by
  rcases List.mem_cons.1 hp with rfl|hp
  ·exact h.bel.size
  ·exact h.fl p hp⟩
theorem LfW.below{W wx w':World}{k k':RB}{s s':MS}{L:List (Nat × Obj)}(h:LfW W wx k k' s s' L)(hb:Below wx.heap.size wx w'):LfW W w' k k' s s' L:=
 ⟨h.rm.below hb (Nat.le_refl _),h.rm'.below hb (Nat.le_refl _),h.kp.below hb,h.bel.trans (hb.mono h.bel.size),h.nk,h.d1,h.d2,h.f1,h.f2,h.fl⟩
theorem LfW.ev1{W wx w':World}{k k':RB}{s s2 s':MS}{L:List (Nat × Obj)}(h:LfW W wx k k' s s' L)(hR:RM w' k s2)(hC:Chg k.all wx w'):LfW W w' k k' s2 s' L:=
 ⟨hR,h.rm'.keep hC h.d2,h.kp.chg hC (fun p hp hm=>(h.nk p hp).1 (List.mem_cons_of_mem _ hm)),h.bel.trans (hC.below h.bel.size h.f1),h.nk,h.d1,h.d2,h.f1,h.f2,h.fl⟩
theorem LfW.ev2{W wx w':World}{k k':RB}{s s2 s':MS}{L:List (Nat × Obj)}(h:LfW W wx k k' s s' L)(hR:RM w' k' s2)(hC:Chg k'.all wx w'):LfW W w' k k' s s2 L:=
 ⟨h.rm.keep hC h.d1,hR,h.kp.chg hC (fun p hp hm=>(h.nk p hp).2 (List.mem_cons_of_mem _ hm)),h.bel.trans (hC.below h.bel.size h.f2),h.nk,h.d1,h.d2,h.f1,h.f2,h.fl⟩
theorem LfW.less{W wx:World}{k k':RB}{s s':MS}{L L':List (Nat × Obj)}(h:LfW W wx k k' s s' L)(hL:∀ p∈L',p∈L):LfW W wx k k' s s' L':=
 ⟨h.rm,h.rm',⟨fun p hp=>h.kp.k p (hL p hp)⟩,h.bel,fun p hp=>h.nk p (hL p hp),h.d1,h.d2,h.f1,h.f2,fun p hp=>h.fl p (hL p hp)⟩
theorem LfW.put{W wx:World}{k k':RB}{s s':MS}{L:List (Nat × Obj)}{T:Nat}{t:GS}(h:LfW W wx k k' s s' L)(hT:(T,.cells (gsC t) 77)∈L)(L':List (Nat × Obj))(hL:∀ p∈L',p∈L)(hN:∀ p∈L',∀ A,p.2≠Obj.cells A 77)(u:GS) :
  LfW W ((((((((((wx.setCell ⟨T,0,none⟩ (.int .u32 (u.R 0))).setCell ⟨T,1,none⟩ (.int .u32 (u.R 1))).setCell ⟨T,2,none⟩ (.int .u32 (u.R 2))).setCell ⟨T,3,none⟩ (.int .u32 (u.R 3))).setCell ⟨T,4,none⟩ (.int .u32 (u.R 4))).setCell ⟨T,5,none⟩ (.int .u32 (u.R 5))).setCell ⟨T,6,none⟩ (.int .u32 (u.R 6))).setCell ⟨T,7,none⟩ (.int .u32 (u.R 7))).setCell ⟨T,8,none⟩ (.int .u32 u.pc)).setCell ⟨T,9,none⟩ (.int .u32 u.f)) k k' s s' ((T,.cells (gsC u) 77) :: L'):=by
 have hb:=h.kp.k _ hT
 simp only at hb
 have hO:Only T wx ((((((((((wx.setCell ⟨T,0,none⟩ (.int .u32 (u.R 0))).setCell ⟨T,1,none⟩ (.int .u32 (u.R 1))).setCell ⟨T,2,none⟩ (.int .u32 (u.R 2))).setCell ⟨T,3,none⟩ (.int .u32 (u.R 3))).setCell ⟨T,4,none⟩ (.int .u32 (u.R 4))).setCell ⟨T,5,none⟩ (.int .u32 (u.R 5))).setCell ⟨T,6,none⟩ (.int .u32 (u.R 6))).setCell ⟨T,7,none⟩ (.int .u32 (u.R 7))).setCell ⟨T,8,none⟩ (.int .u32 u.pc)).setCell ⟨T,9,none⟩ (.int .u32 u.f)):=
  ((((((((((Only.refl T wx).setCell 0 _).setCell 1 _).setCell 2 _).setCell 3 _).setCell 4 _).setCell 5 _).setCell 6 _).setCell 7 _).setCell 8 _).setCell 9 _
 have hB:=(blk_set (o:=9) (blk_set (o:=8) (blk_set (o:=7) (blk_set (o:=6) (blk_set (o:=5) (blk_set (o:=4) (blk_set (o:=3) (blk_set (o:=2) (blk_set (o:=1) (blk_set (o:=0) hb (.int .u32 (u.R 0))) (.int .u32 (u.R 1))) (.int .u32 (u.R 2))) (.int .u32 (u.R 3))) (.int .u32 (u.R 4))) (.int .u32 (u.R 5))) (.int .u32 (u.R 6))) (.int .u32 (u.R 7))) (.int .u32 u.pc)) (.int .u32 u.f))
 generalize ((((((((((wx.setCell ⟨T,0,none⟩ (.int .u32 (u.R 0))).setCell ⟨T,1,none⟩ (.int .u32 (u.R 1))).setCell ⟨T,2,none⟩ (.int .u32 (u.R 2))).setCell ⟨T,3,none⟩ (.int .u32 (u.R 3))).setCell ⟨T,4,none⟩ (.int .u32 (u.R 4))).setCell ⟨T,5,none⟩ (.int .u32 (u.R 5))).setCell ⟨T,6,none⟩ (.int .u32 (u.R 6))).setCell ⟨T,7,none⟩ (.int .u32 (u.R 7))).setCell ⟨T,8,none⟩ (.int .u32 u.pc)).setCell ⟨T,9,none⟩ (.int .u32 u.f))=w' at hO hB ⊢
 have hC:Chg [T] wx w':=Chg.of_only hO
 have hnT:=h.nk _ hT
 refine⟨h.rm.keep hC (fun x hx hm=>?_),h.rm'.keep hC (fun x hx hm=>?_),⟨fun p hp=>?_⟩,h.bel.trans (hC.below h.bel.size (fun x hx=>?_)),fun p hp=>?_,h.d1,h.d2,h.f1,h.f2,fun p hp=>?_⟩
 ·rw[List.mem_singleton] at hm;subst hm;exact hnT.1 hx
 ·rw[List.mem_singleton] at hm;subst hm;exact hnT.2 hx
 ·rcases List.mem_cons.1 hp with rfl|hp
  ·simpa[gsC] using hB
  ·refine(hC.block _ (h.kp.lt (hL p hp)) (fun hm=>?_)).trans (h.kp.k p (hL p hp))
   rw[List.mem_singleton] at hm
   have h2:=h.kp.k p (hL p hp)
   rw[hm,hb] at h2
   exact hN p hp _ (Option.some.inj h2).symm
 ·rw[List.mem_singleton] at hx;subst hx;exact h.fl _ hT
 ·rcases List.mem_cons.1 hp with rfl|hp
  ·exact hnT
  ·exact h.nk p (hL p hp)
 ·rcases List.mem_cons.1 hp with rfl|hp
  ·exact h.fl (T,.cells (gsC t) 77) hT
  ·exact h.fl p (hL p hp)
theorem go_case{xk xa:Int}{n:Nat}{m:MS}{t:GS}{r:MS × GS}(h:goF xk xa (n+1) m t=some r) :
  ((stepF m t).k=1∧n=0∧xk=1∧xa=(stepF m t).a∧goF xk xa n (stepF m t).m (stepF m t).t=some r)∨((stepF m t).k=0∧(stOp (insOf m t.pc).op=false∨touchB (stepF m t).m=false∨n=0)∧goF xk xa n (stepF m t).m (stepF m t).t=some r):=by
 rw[goF] at h
 by_cases hA:(stepF m t).k=1∧n=0∧xk=1∧xa=(stepF m t).a
 ·rw[if_pos hA] at h
  refine Or.inl ⟨hA.1,hA.2.1,hA.2.2.1,hA.2.2.2,?_⟩
  rw[hA.2.1];exact h
 ·rw[if_neg hA] at h
  by_cases hk:(stepF m t).k≠0
  ·rw[if_pos hk] at h;cases h
  ·rw[if_neg hk] at h
   by_cases hs:stOp (insOf m t.pc).op=true∧touchB (stepF m t).m=true∧0 < n
   ·rw[if_pos hs] at h;cases h
   ·rw[if_neg hs] at h
    refine Or.inr ⟨by omega,?_,h⟩
    cases h1:stOp (insOf m t.pc).op with
    | false=>exact Or.inl rfl
    | true=>
     cases h2:touchB (stepF m t).m with
     | false=>exact Or.inr (Or.inl rfl)
     | true=>exact Or.inr (Or.inr (by
       rcases Nat.eq_zero_or_pos n with e|e
       ·exact e
       ·exact absurd ⟨h1,h2,e⟩ hs))
theorem eqa1(d:Nat)(x:Int)(w:World):(Op.equalIn (d+1) 23 (.int .u32 x) (.int .u32 x)).run Tryz.prog w=.ok true w:=by
 rw[run_equalIn_int w d 23 .u32 .u32 x x Tryz.underlying23]
 simp
theorem parta1(xs:Array Value)(i:Nat)(x:Int)(h:xs[i]?=some (.int .u32 x))(w:World):(part 23 xs i).run Tryz.prog w=.ok (.int .u32 x) w:=by
 simp[part,h,go_sem]
theorem eqa8(a0 a1 a2 a3 a4 a5 a6 a7:Int)(w:World):(Op.equalIn 9999 75 (.agg #[.int .u32 a0,.int .u32 a1,.int .u32 a2,.int .u32 a3,.int .u32 a4,.int .u32 a5,.int .u32 a6,.int .u32 a7]) (.agg #[.int .u32 a0,.int .u32 a1,.int .u32 a2,.int .u32 a3,.int .u32 a4,.int .u32 a5,.int .u32 a6,.int .u32 a7])).run Tryz.prog w=.ok true w:=by
 obtain⟨i,hi⟩:∃ i,Tryz.prog.info? 23=some i:=⟨_,rfl⟩
 have hc:Tryz.prog.cellsOf 23=1:=by kernel_rfl
 rw[show(9999:Nat)=9998+1 from rfl,run_equalIn_array w 9998 _ _ Tryz.underlying75 hi,hc]
 have e:=fun x=>eqa1 9997 x w
 have p:=fun xs i x h=>parta1 xs i x h w
 simp[List.range,List.range.loop,Op.eqItems,e,p]
theorem rng{w:World}{b:Nat}{c':Nat→Nat}(h:w.heap[b]?=some (.cells (cxA c') 25)):w.rangeAt b 0 [.int .u32 (c' 0),.int .u32 (c' 1),.int .u32 (c' 2),.int .u32 (c' 3),.int .u32 (c' 4),.int .u32 (c' 5),.int .u32 (c' 6),.int .u32 (c' 7),.int .u32 (c' 8),.int .u32 (c' 9),.int .u32 (c' 10),.int .u32 (c' 11)]:=fun j v hv=>by
 rw[Nat.zero_add]
 exact(row_cell h j).trans (by simpa using hv)
theorem sx_gs{c:Nat→Nat}{pc:Nat}(hc:cxOk c):sxA c pc (cxF c)=gsC (csG c pc):=by
 have e:(((cxF c).toNat:Nat):Int)=cxF c:=Int.toNat_of_nonneg (cxF_bd hc).1
 show sxA c pc (cxF c)=sxA c pc (((cxF c).toNat:Nat):Int)
 rw[e]
theorem csG_ok{c:Nat→Nat}{pc:Nat}(hc:cxOk c)(hp:pc < 4294967296):(csG c pc).Ok:=
 ⟨fun i=>by show(if i < 8 then c i else 0) < _;split;exact hc i;omega,hp,by have:=cxF_bd hc;show(cxF c).toNat < _;omega⟩
theorem lifted_any(hRE:RevalOk)(pc:Nat)(R:BR)(g cap:Nat)(c:Nat→Nat)(k:RB)(s1:MS)(W w:World)(d:Nat→Nat)(s2:MS)(xk xa:Int)(xp j:Nat)(hL:LmR R s1 c pc d s2 xk xa xp j)
  (hO:OpsR w (some ⟨g,0,none⟩) R.l.length (fun i=>R.l.getD i opD)) (hb:g∉k.all) (hgl:g < w.heap.size) (hk:∀ i,i < R.l.length→(R.l.getD i opD).k < 4294967296) (hn:R.l.length < 9223372036854775807) (hc:cxOk c) (hs:s1.Ok) (hpc:pc < 4294967296) (hct:R.count≤64) (h:RM w k s1) (bel:Below W.heap.size W w) (far:∀ x∈k.y :: k.all,W.heap.size≤x) :
  Calls Tryz.prog 9 #[.agg #[.int .u32 pc,.int .i64 R.count,.int .i64 R.bytes,.slice (some ⟨g,0,none⟩) R.l.length cap],cxV c,.pointer (some ⟨k.y,0,none⟩)] w fun e w'=>e=.returned (.bool true)∧Below W.heap.size W w':=by
 have HL:Hid _:=hL
 have HRE:Hid _:=hRE
 have HO:Hid _:=hO
 have HB:Hid _:=hb
 have HGL:Hid _:=hgl
 have HK:Hid _:=hk
 have HN:Hid _:=hn
 have HC:Hid _:=hc
 have HS:Hid _:=hs
 have HPC:Hid _:=hpc
 have HR:Hid (RM w k s1):=h
 have HBEL:Hid _:=bel
 have HFAR:Hid _:=far
 have HCT:Hid _:=hct
 have cp:((pc:Nat):Int) < 4294967296:=zo
 clear hRE hL hO hb hgl hk hn hc hs hpc h bel far hct
 have HRW:Hid (RM ((w.alloc (.cells #[.int .u32 pc,.int .i64 R.count,.int .i64 R.bytes,.slice (some ⟨g,0,none⟩) R.l.length cap] 33)).alloc (.cells (cxA c) 25)) k s1):=(HR.out.alloc _).alloc _
 go_enter Tryz.func9,Tryz.ntmps9
 go_upto_region 2 with first
  | (go_at_call 29;refine(rcopy_any k s1 _ HRW.out).mono ?_;rintro e w1 ⟨k',rfl,hR1,hB1,hF1⟩;have HR1:Hid _:=hR1;have HB1:Hid _:=hB1;have HF1:Hid _:=hF1;clear hR1 hB1 hF1)
 have H1:Hid (LfW W w1 k k' s1 s1 ([(w.heap.size+1,.cells (cxA c) 25),(w.heap.size,.cells #[.int .u32 pc,.int .i64 R.count,.int .i64 R.bytes,.slice (some ⟨g,0,none⟩) R.l.length cap] 33)])):=show LfW W w1 k k' s1 s1 _ from by
  have hF:∀ x∈k'.y :: k'.all,w.heap.size+1+1≤x:=fun x hx=>by have:=HF1.out x hx;simpa using this
  have hR:=HR.out
  refine⟨HRW.out.below HB1.out (Nat.le_refl _),HR1.out,(kq0 w _ _).below HB1.out,HBEL.out.trans (((w2b w _ _).trans (HB1.out.mono zq17)).mono HBEL.out.size),fun p hp=>?_,fun x hx hm=>?_,fun x hx hm=>?_,fun x hx=>HFAR.out x (List.mem_cons_of_mem _ hx),fun x hx=>?_,fun p hp=>?_⟩
  ·simp only[List.mem_cons,List.not_mem_nil,or_false] at hp
   have hw:=HBEL.out.size
   rcases hp with rfl|rfl
   ·exact⟨fun hm=>by have:=hR.lt _ hm;simp only at this;omega,fun hm=>by have:=hF _ hm;simp only at this;omega⟩
   ·exact⟨fun hm=>by have:=hR.lt _ hm;simp only at this;omega,fun hm=>by have:=hF _ hm;simp only at this;omega⟩
  ·have h1:=hF x (List.mem_cons_of_mem _ hm);have h2:=hR.lt x hx;omega
  ·have h1:=hF x hx;have h2:=hR.lt x (List.mem_cons_of_mem _ hm);omega
  ·have h1:=hF x (List.mem_cons_of_mem _ hx);have h2:=HBEL.out.size;omega
  ·simp only[List.mem_cons,List.not_mem_nil,or_false] at hp
   have hw:=HBEL.out.size
   rcases hp with rfl|rfl
   ·show W.heap.size≤w.heap.size+1;omega
   ·show W.heap.size≤w.heap.size;omega
 have HO1:Hid (OpsR w1 (some ⟨g,0,none⟩) R.l.length (fun i=>R.l.getD i opD)):=(OpsR.below (OpsR.below HO.out (w2b w _ _) (Nat.le_refl _)) HB1.out (Nat.le_refl _))
 have HNG:Hid (g∉k'.all):=show g∉k'.all from fun hm=>by have h1:=HF1.out g (List.mem_cons_of_mem _ hm);have h2:=HGL.out;simp at h1;omega
 clear HR1 HB1 HF1 HRW HR HO
 generalize w.heap.size=P at *
 refine wp_gen (fun W'=>LfW W W' k k' s1 s1 ([(P+1,.cells (cxA c) 25),(P,.cells #[.int .u32 pc,.int .i64 R.count,.int .i64 R.bytes,.slice (some ⟨g,0,none⟩) R.l.length cap] 33)])∧OpsR W' (some ⟨g,0,none⟩) R.l.length (fun i=>R.l.getD i opD)) ⟨H1.out,HO1.out⟩ ?_
 clear H1 HO1
 intro wx hW
 have HW:Hid _:=hW.1
 have HO:Hid _:=hW.2
 clear hW
 obtain⟨b0,b1,b2,b3,bl⟩:=rw4 (b:=P) (HW.out.kp.k _ mq1)
 obtain⟨c0,c1,c2,c3,c4,c5,c6,c7,c8,c9,c10,c11,cl⟩:=rw12 (b:=(P+1)) (HW.out.kp.k _ mq0)
 have HEV:Hid (Calls Tryz.prog 30 #[.agg #[.int .u32 pc,.int .i64 R.count,.int .i64 R.bytes,.slice (some ⟨g,0,none⟩) R.l.length cap],cxV c,.pointer (some ⟨k'.y,0,none⟩)] wx fun e w'=>e=.returned (.tuple #[cxV d,.agg #[.int .i64 xk,.int .u32 xa,.int .u32 (xp:Int),.int .i64 (j:Int)],.int .i64 0])∧LfW W w' k k' s1 s2 ([(P+1,.cells (cxA c) 25),(P,.cells #[.int .u32 pc,.int .i64 R.count,.int .i64 R.bytes,.slice (some ⟨g,0,none⟩) R.l.length cap] 33)])):=by
  have h:=HRE.out pc R.count R.bytes (some ⟨g,0,none⟩) R.l.length cap k' (fun i=>R.l.getD i opD) c s1 wx HO.out (fun _ b off e=>by cases e;exact HNG.out) HK.out HN.out HC.out HS.out HW.out.rm'
  rw[HL.out.ev] at h
  refine Calls.mono h ?_
  rintro e w' ⟨rfl,hR,hC⟩
  exact⟨rfl,(show LfW W wx k k' s1 s1 _ from HW.out).ev2 hR hC⟩
 go_upto_region 3 with first
  | (go_at_call 30;refine HEV.out.mono ?_;rintro e w3 ⟨rfl,h3⟩;have h4:=(h3.new (.cells (cxA d) 25)).new (.cells #[.int .i64 xk,.int .u32 xa,.int .u32 (xp:Int),.int .i64 (j:Int)] 72);rw[show(w3.alloc (.cells (cxA d) 25)).heap.size=w3.heap.size+1 by simp] at h4;have H3:Hid _:=h4;clear h3 h4 b0 b1 b2 b3 bl c0 c1 c2 c3 c4 c5 c6 c7 c8 c9 c10 c11 cl)
 clear HEV HW HO HNG HB HGL HK HN
 generalize w3.heap.size=D at *
 refine wp_gen (fun W'=>LfW W W' k k' s1 s2 ((D+1,.cells #[.int .i64 xk,.int .u32 xa,.int .u32 (xp:Int),.int .i64 (j:Int)] 72) :: (D,.cells (cxA d) 25) :: [(P+1,.cells (cxA c) 25),(P,.cells #[.int .u32 pc,.int .i64 R.count,.int .i64 R.bytes,.slice (some ⟨g,0,none⟩) R.l.length cap] 33)])) H3.out ?_
 clear H3
 intro wx hW
 have HW:Hid _:=hW
 clear hW
 obtain⟨b0,b1,b2,b3,bl⟩:=rw4 (b:=P) (HW.out.kp.k _ mq3)
 obtain⟨x0,x1,x2,x3,xl⟩:=rw4 (b:=(D+1)) (HW.out.kp.k _ mq0)
 obtain⟨c0,c1,c2,c3,c4,c5,c6,c7,c8,c9,c10,c11,cl⟩:=rw12 (b:=(P+1)) (HW.out.kp.k _ mq2)
 have hjR:=HL.out.le
 have j0:(0:Int)≤(j:Int):=zo
 have dj0:decide ((j:Int) < 0)=false:=decide_eq_false zo
 have dj1:decide ((R.count:Int) < (j:Int))=false:=decide_eq_false zo
 have dj2:¬(R.count < j):=zo
 have dj3:¬((j:Int) < 0):=zo
 have j64:(j:Int)≤64:=by have:=HCT.out;omega
 clear hjR
 go_upto_region 8 with first
  | (go_at_call 31;refine(rstate_any c pc _ HC.out).mono ?_;rintro e w4 ⟨rfl,hb4⟩;have H4:Hid _:=(HW.out.below hb4).new (.cells (sxA c pc (cxF c)) 77);clear hb4 b0 b1 b2 b3 bl x0 x1 x2 x3 xl c0 c1 c2 c3 c4 c5 c6 c7 c8 c9 c10 c11 cl;obtain⟨x0,x1,x2,x3,xl⟩:=rw4 (b:=(D+1)) (H4.out.kp.k _ mq1))
 have H5:Hid _:=H4.out
 rw[sx_gs HC.out] at H5
 clear H4
 clear x0 x1 x2 x3 xl HW HBEL HFAR HRE
 generalize w4.heap.size=T at *
 refine wp_gen (fun W'=>LfW W W' k k' s1 s2 ((T,.cells (gsC (csG c pc)) 77) :: ((D+1,.cells #[.int .i64 xk,.int .u32 xa,.int .u32 (xp:Int),.int .i64 (j:Int)] 72) :: (D,.cells (cxA d) 25) :: [(P+1,.cells (cxA c) 25),(P,.cells #[.int .u32 pc,.int .i64 R.count,.int .i64 R.bytes,.slice (some ⟨g,0,none⟩) R.l.length cap] 33)]))) ?_ ?_
 ·have:=H5.out
  rw[← sx_gs HC.out] at this ⊢
  exact this
 clear H5
 intro wx hW
 have HW:Hid _:=hW
 clear hW
 go_loopw [13] (fun i' wr=>∃ (n:Nat) (m:MS) (t:GS),i'=.int .i64 n∧n≤j∧goF xk xa (j - n) m t=some (s2,csG d xp)∧m.Ok∧t.Ok∧LfW W wr k k' m s2 ((T,.cells (gsC t) 77) :: ((D+1,.cells #[.int .i64 xk,.int .u32 xa,.int .u32 (xp:Int),.int .i64 (j:Int)] 72) :: (D,.cells (cxA d) 25) :: [(P+1,.cells (cxA c) 25),(P,.cells #[.int .u32 pc,.int .i64 R.count,.int .i64 R.bytes,.slice (some ⟨g,0,none⟩) R.l.length cap] 33)]))) (fun i _=>j - (intOf i).toNat)
 case atStart=>exact⟨0,s1,csG c pc,rfl,by omega,HL.out.go,HS.out,csG_ok HC.out HPC.out,HW.out⟩
 case round=>
 obtain⟨n,m,t,rfl,hn,hg,hm,ht,hW⟩:=hrel
 clear HW HS
 have HM:Hid _:=hm
 have HTK:Hid _:=ht
 have HG:Hid _:=hg
 have HW:Hid _:=hW
 have n0:(0:Int)≤(n:Int):=zo
 have n64:(n:Int)≤64:=zo
 have tp:=ht.p
 clear hm ht hg hW
 obtain⟨x0,x1,x2,x3,xl⟩:=rw4 (b:=(D+1)) (HW.out.kp.k _ mq1)
 by_cases hlt:n < j
 ·have dn:decide ((n:Int) < (j:Int))=true:=decide_eq_true zo
  have dn2:(n:Int) < (j:Int):=zo
  have HLT:Hid _:=hlt
  clear hlt hn
  obtain⟨t0,t1,t2,t3,t4,t5,t6,t7,t8,t9,tl⟩:=rw10 (b:=T) (HW.out.kp.k _ mq0)
  obtain⟨i,hi⟩:∃ i,insOf m t.pc=i:=⟨_,rfl⟩
  have HI:Hid _:=hi
  clear hi
  go_upto_region 11 with first
   | (go_at_call 23;refine(rins_any k t.pc m _ HTK.out.p HM.out HW.out.rm).mono ?_;rintro e w1 ⟨rfl,hb1⟩;have h1:=((HW.out.below hb1).new (.cells #[.int .i64 i.op,.int .i64 i.D,.int .i64 i.S,.int .i64 i.O,.int .u32 i.imm] 58)).new (.cells #[.int .i64 i.k,.int .u32 i.a] 36);rw[show(w1.alloc (.cells #[.int .i64 i.op,.int .i64 i.D,.int .i64 i.S,.int .i64 i.O,.int .u32 i.imm] 58)).heap.size=w1.heap.size+1 by simp] at h1;have H1:Hid _:=h1;rw[HI.out];clear h1 hb1 x0 x1 x2 x3 xl t0 t1 t2 t3 t4 t5 t6 t7 t8 t9 tl)
  clear HW
  generalize w1.heap.size=E at *
  refine wp_gen (fun W'=>LfW W W' k k' m s2 ((E+1,.cells #[.int .i64 i.k,.int .u32 i.a] 36) :: (E,.cells #[.int .i64 i.op,.int .i64 i.D,.int .i64 i.S,.int .i64 i.O,.int .u32 i.imm] 58) :: (T,.cells (gsC t) 77) :: ((D+1,.cells #[.int .i64 xk,.int .u32 xa,.int .u32 (xp:Int),.int .i64 (j:Int)] 72) :: (D,.cells (cxA d) 25) :: [(P+1,.cells (cxA c) 25),(P,.cells #[.int .u32 pc,.int .i64 R.count,.int .i64 R.bytes,.slice (some ⟨g,0,none⟩) R.l.length cap] 33)]))) H1.out ?_
  clear H1
  intro wy hW
  have HW:Hid _:=hW
  clear hW
  obtain⟨t0,t1,t2,t3,t4,t5,t6,t7,t8,t9,tl⟩:=rw10 (b:=T) (HW.out.kp.k _ mq2)
  obtain⟨o,ho⟩:∃ o,stepF m t=o:=⟨_,rfl⟩
  have HO:Hid _:=ho
  clear ho
  go_upto_region 12 with first
   | (go_at_call 32;refine(rstep_any k m t _ HW.out.rm HM.out HTK.out).mono ?_;rintro e w2 ⟨rfl,hR2,hC2⟩;rw[HO.out] at hR2 ⊢;have h1:=((HW.out.ev1 hR2 hC2).new (.cells (gsC o.t) 77)).new (.cells #[.int .i64 o.k,.int .u32 o.a] 36);rw[show(w2.alloc (.cells (gsC o.t) 77)).heap.size=w2.heap.size+1 by simp] at h1;have H2:Hid _:=h1;clear h1 hR2 hC2 t0 t1 t2 t3 t4 t5 t6 t7 t8 t9 tl)
  clear HW
  generalize w2.heap.size=F at *
  refine wp_gen (fun W'=>LfW W W' k k' o.m s2 ((F+1,.cells #[.int .i64 o.k,.int .u32 o.a] 36) :: (F,.cells (gsC o.t) 77) :: (E+1,.cells #[.int .i64 i.k,.int .u32 i.a] 36) :: (E,.cells #[.int .i64 i.op,.int .i64 i.D,.int .i64 i.S,.int .i64 i.O,.int .u32 i.imm] 58) :: (T,.cells (gsC t) 77) :: ((D+1,.cells #[.int .i64 xk,.int .u32 xa,.int .u32 (xp:Int),.int .i64 (j:Int)] 72) :: (D,.cells (cxA d) 25) :: [(P+1,.cells (cxA c) 25),(P,.cells #[.int .u32 pc,.int .i64 R.count,.int .i64 R.bytes,.slice (some ⟨g,0,none⟩) R.l.length cap] 33)]))) H2.out ?_
  clear H2
  intro wz hW
  have HW:Hid _:=hW
  clear hW
  have HOK:Hid (o.t.Ok∧o.m.Ok):=show o.t.Ok∧o.m.Ok by have:=stepF_ok HM.out HTK.out;rw[HO.out] at this;exact⟨this.t,this.m⟩
  obtain⟨q,hq⟩:∃ q,j - n=q+1:=⟨j - n - 1,by have:=HLT.out;omega⟩
  have hcase:=HG.out
  rw[hq] at hcase
  have hcase:=go_case hcase
  rw[HO.out,HI.out] at hcase
  have HQ:Hid (j - (n+1)=q):=show j - (n+1)=q by omega
  obtain⟨x0,x1,x2,x3,xl⟩:=rw4 (b:=(D+1)) (HW.out.kp.k _ mq5)
  obtain⟨s0,s1,sl⟩:=rw2 (b:=(F+1)) (HW.out.kp.k _ mq0)
  obtain⟨f0,f1,f2,f3,f4,f5,f6,f7,f8,f9,fl⟩:=rw10 (b:=F) (HW.out.kp.k _ mq1)
  obtain⟨i0,i1,i2,i3,i4,il⟩:=rw5 (b:=E) (HW.out.kp.k _ mq3)
  obtain⟨t0,t1,t2,t3,t4,t5,t6,t7,t8,t9,tl⟩:=rw10 (b:=T) (HW.out.kp.k _ mq4)
  rcases hcase with ⟨ok,hq0,hxk,hxa,hg'⟩|⟨ok,hst,hg'⟩
  ·have HG':Hid _:=hg'
   subst hq0
   have dA:((n:Int)==(j:Int) - 1)=true:=by simp;omega
   clear hg'
   subst hxa
   subst hxk
   rw[ok] at s0
   go_upto_region 13 with fail
   have fr:=row_fr (HW.out.kp.k _ mq4)
   simp only at fr
   go_wp2
   exact⟨⟨n+1,o.m,o.t,rfl,by omega,by rw[HQ.out];exact HG'.out,HOK.out.2,HOK.out.1,HW.out.put mq4 _ (fun p hp=>(List.mem_cons_of_mem _ (List.mem_cons_of_mem _ (List.mem_cons_of_mem _ (List.mem_cons_of_mem _ (List.mem_cons_of_mem _ hp)))))) (by simp) o.t⟩,by simp[intOf];omega⟩
  ·have HG':Hid _:=hg'
   have HST:Hid _:=hst
   clear hg' hst
   rw[ok] at s0
   have fr:=row_fr (HW.out.kp.k _ mq4)
   simp only at fr
   go_upto_region 17 with fail
   refine wp_gen (fun W'=>LfW W W' k k' o.m s2 ((T,.cells (gsC o.t) 77) :: (E,.cells #[.int .i64 i.op,.int .i64 i.D,.int .i64 i.S,.int .i64 i.O,.int .u32 i.imm] 58) :: ((D+1,.cells #[.int .i64 xk,.int .u32 xa,.int .u32 (xp:Int),.int .i64 (j:Int)] 72) :: (D,.cells (cxA d) 25) :: [(P+1,.cells (cxA c) 25),(P,.cells #[.int .u32 pc,.int .i64 R.count,.int .i64 R.bytes,.slice (some ⟨g,0,none⟩) R.l.length cap] 33)]))) (HW.out.put mq4 _ (fun p hp=>by
    rcases List.mem_cons.1 hp with rfl|hp
    ·exact mq3
    ·exact(List.mem_cons_of_mem _ (List.mem_cons_of_mem _ (List.mem_cons_of_mem _ (List.mem_cons_of_mem _ (List.mem_cons_of_mem _ hp)))))) (by simp) o.t) ?_
   clear HW x0 x1 x2 x3 xl s0 s1 sl f0 f1 f2 f3 f4 f5 f6 f7 f8 f9 fl i0 i1 i2 i3 i4 il t0 t1 t2 t3 t4 t5 t6 t7 t8 t9 tl fr
   intro wv hW
   have HW:Hid _:=hW
   clear hW
   obtain⟨i0,i1,i2,i3,i4,il⟩:=rw5 (b:=E) (HW.out.kp.k _ mq1)
   have HREL:Hid (LfW W wv k k' o.m s2 ((T,.cells (gsC o.t) 77) :: ((D+1,.cells #[.int .i64 xk,.int .u32 xa,.int .u32 (xp:Int),.int .i64 (j:Int)] 72) :: (D,.cells (cxA d) 25) :: [(P+1,.cells (cxA c) 25),(P,.cells #[.int .u32 pc,.int .i64 R.count,.int .i64 R.bytes,.slice (some ⟨g,0,none⟩) R.l.length cap] 33)]))):=HW.out.less (fun p hp=>by
    rcases List.mem_cons.1 hp with rfl|hp
    ·exact mq0
    ·exact(List.mem_cons_of_mem _ (List.mem_cons_of_mem _ hp)))
   have HFIN:Hid (∃ (n_1:Nat) (m:MS) (t:GS),Value.int IntKind.i64 ((n:Int)+1)=.int .i64 n_1∧n_1≤j∧goF xk xa (j - n_1) m t=some (s2,csG d xp)∧m.Ok∧t.Ok∧LfW W wv k k' m s2 ((T,.cells (gsC t) 77) :: ((D+1,.cells #[.int .i64 xk,.int .u32 xa,.int .u32 (xp:Int),.int .i64 (j:Int)] 72) :: (D,.cells (cxA d) 25) :: [(P+1,.cells (cxA c) 25),(P,.cells #[.int .u32 pc,.int .i64 R.count,.int .i64 R.bytes,.slice (some ⟨g,0,none⟩) R.l.length cap] 33)]))):=⟨n+1,o.m,o.t,rfl,HLT.out,by rw[HQ.out];exact HG'.out,HOK.out.2,HOK.out.1,HREL.out⟩
   cases hb1:stOp i.op with
   | false=>
    go_wp2_with (first
     | (go_at_call 33;refine(stores_any i.op _).mono ?_;rintro e w3 ⟨rfl,rfl⟩;rw[hb1]))
    exact⟨HFIN.out,by have:=HLT.out;simp[intOf];omega⟩
   | true=>
    cases hb2:touchB o.m with
    | false=>
     go_wp2_with (first
      | (go_at_call 33;refine(stores_any i.op _).mono ?_;rintro e w3 ⟨rfl,rfl⟩;rw[hb1])
      | (go_at_call 34;refine(rtouched_any k o.m _ HW.out.rm).mono ?_;rintro e w3 ⟨rfl,rfl⟩;rw[hb2]))
     exact⟨HFIN.out,by have:=HLT.out;simp[intOf];omega⟩
    | true=>
     have hq0:q=0:=by
      rcases HST.out with h|h|h
      ·rw[hb1] at h;cases h
      ·rw[hb2] at h;cases h
      ·exact h
     have dl:decide ((n:Int) < (j:Int) - 1)=false:=decide_eq_false zo
     have dl2:¬((n:Int) < (j:Int) - 1):=zo
     clear hq0
     go_wp2_with (first
      | (go_at_call 33;refine(stores_any i.op _).mono ?_;rintro e w3 ⟨rfl,rfl⟩;rw[hb1])
      | (go_at_call 34;refine(rtouched_any k o.m _ HW.out.rm).mono ?_;rintro e w3 ⟨rfl,rfl⟩;rw[hb2]))
     exact⟨HFIN.out,by have:=HLT.out;simp[intOf];omega⟩
 ·obtain rfl:j=n:=zo
  have dn:decide ((j:Int) < (j:Int))=false:=decide_eq_false zo
  have hg:=HG.out
  rw[Nat.sub_self,goF] at hg
  simp only[Option.some.injEq,Prod.mk.injEq] at hg
  obtain⟨rfl,hu⟩:=hg
  clear hlt hn HG
  go_upto_region 19 with fail
  obtain⟨u,HU⟩:∃ u,Hid (t=u):=⟨_,rfl⟩
  clear x0 x1 x2 x3 xl tp
  refine wp_gen (fun W'=>LfW W W' k k' m m ((T,.cells (gsC u) 77) :: ((D+1,.cells #[.int .i64 xk,.int .u32 xa,.int .u32 (xp:Int),.int .i64 (j:Int)] 72) :: (D,.cells (cxA d) 25) :: [(P+1,.cells (cxA c) 25),(P,.cells #[.int .u32 pc,.int .i64 R.count,.int .i64 R.bytes,.slice (some ⟨g,0,none⟩) R.l.length cap] 33)]))) (HU.out▸HW.out) ?_
  clear HW
  intro wq hW
  have HSX:Hid (sxV d xp (cxF d)=gsV u):=show Value.agg (sxA d xp (cxF d))=Value.agg (gsC u) by rw[sx_gs HL.out.dok,← hu,HU.out]
  have HUK:Hid (u=csG d xp):=HU.out.symm.trans hu
  have HUO:Hid (u.Ok):=HU.out▸HTK.out
  clear HU hu HTK
  have HW:Hid (LfW W wq.drew k k' m m ((T,.cells (gsC u) 77) :: ((D+1,.cells #[.int .i64 xk,.int .u32 xa,.int .u32 (xp:Int),.int .i64 (j:Int)] 72) :: (D,.cells (cxA d) 25) :: [(P+1,.cells (cxA c) 25),(P,.cells #[.int .u32 pc,.int .i64 R.count,.int .i64 R.bytes,.slice (some ⟨g,0,none⟩) R.l.length cap] 33)]))):=hW.below (Below.refl _ _).drew
  have rD:wq.rangeAt D 0 [.int .u32 (d 0),.int .u32 (d 1),.int .u32 (d 2),.int .u32 (d 3),.int .u32 (d 4),.int .u32 (d 5),.int .u32 (d 6),.int .u32 (d 7),.int .u32 (d 8),.int .u32 (d 9),.int .u32 (d 10),.int .u32 (d 11)]:=rng (hW.kp.k _ mq2)
  have dl:D < wq.heap.size:=hW.kp.lt mq2
  obtain⟨t0,t1,t2,t3,t4,t5,t6,t7,t8,t9,tl⟩:=rw10 (b:=T) (hW.kp.k _ mq0)
  obtain⟨x0,x1,x2,x3,xl⟩:=rw4 (b:=(D+1)) (hW.kp.k _ mq1)
  clear hW
  have U25:=Tryz.underlying25
  have I25:(Tryz.prog.info? 25).map (·.size)=some (([.int .u32 (d 0),.int .u32 (d 1),.int .u32 (d 2),.int .u32 (d 3),.int .u32 (d 4),.int .u32 (d 5),.int .u32 (d 6),.int .u32 (d 7),.int .u32 (d 8),.int .u32 (d 9),.int .u32 (d 10),.int .u32 (d 11)]:List Value).length):=by kernel_rfl
  have E8:=fun w=>eqa8 (u.R 0) (u.R 1) (u.R 2) (u.R 3) (u.R 4) (u.R 5) (u.R 6) (u.R 7) w
  refine wp_region_held_drew (S:=fun W'=>W'.rangeAt D 0 [.int .u32 (d 0),.int .u32 (d 1),.int .u32 (d 2),.int .u32 (d 3),.int .u32 (d 4),.int .u32 (d 5),.int .u32 (d 6),.int .u32 (d 7),.int .u32 (d 8),.int .u32 (d 9),.int .u32 (d 10),.int .u32 (d 11)]∧W'.cell? ⟨T,0,none⟩=some (.int .u32 (u.R 0))∧W'.cell? ⟨T,1,none⟩=some (.int .u32 (u.R 1))∧W'.cell? ⟨T,2,none⟩=some (.int .u32 (u.R 2))∧W'.cell? ⟨T,3,none⟩=some (.int .u32 (u.R 3))∧W'.cell? ⟨T,4,none⟩=some (.int .u32 (u.R 4))∧W'.cell? ⟨T,5,none⟩=some (.int .u32 (u.R 5))∧W'.cell? ⟨T,6,none⟩=some (.int .u32 (u.R 6))∧W'.cell? ⟨T,7,none⟩=some (.int .u32 (u.R 7))∧W'.cell? ⟨T,8,none⟩=some (.int .u32 u.pc)∧W'.cell? ⟨T,9,none⟩=some (.int .u32 u.f)∧W'.cell? ⟨D+1,2,none⟩=some (.int .u32 (xp:Int))) (by kernel_rfl) (by simp[go_sem,rD,dl,t0,t1,t2,t3,t4,t5,t6,t7,t8,t9,tl,x0,x1,x2,x3,xl]) (fun hHeld=>?_)
  refine wpAnyH_take (i:=0) (oi:=_) (v:=?v0) rfl (by kernel_rfl) (by kernel_rfl) (by kernel_rfl) (fun _ _ _ h=>h) (Or.inl ⟨by rfl,?hy0⟩) (by assumption) ?rest0
  case hy0=>(intro w hSw;(try dsimp only at hSw);go_simp;(try with_reducible rfl))
  simp only[Act.put,List.getElem_toArray,List.getElem_cons_zero,List.getElem_cons_succ,List.setIfInBounds_toArray,List.set_cons_zero,List.set_cons_succ]
  refine wpAnyH_take (i:=1) (oi:=_) (v:=_) rfl (by kernel_rfl) (by kernel_rfl) (by kernel_rfl) (fun _ _ _ h=>h) (yieldsIf_load_mid (by rfl) _ _ rfl _ _ rfl _ _ (fun w hSw=>hSw.1) U25 rfl I25) (by assumption) ?rest1
  simp only[Act.put,List.getElem_toArray,List.getElem_cons_zero,List.getElem_cons_succ,List.setIfInBounds_toArray,List.set_cons_zero,List.set_cons_succ]
  refine wpAnyH_take (i:=2) (oi:=_) (v:=?v2) rfl (by kernel_rfl) (by kernel_rfl) (by kernel_rfl) (fun _ _ _ h=>h) (Or.inl ⟨by rfl,?hy2⟩) (by assumption) ?rest2
  case hy2=>(intro w hSw;(try dsimp only at hSw);go_simp;(try with_reducible rfl))
  simp only[Act.put,List.getElem_toArray,List.getElem_cons_zero,List.getElem_cons_succ,List.setIfInBounds_toArray,List.set_cons_zero,List.set_cons_succ]
  refine wpAnyH_take (i:=3) (oi:=_) (v:=?v3) rfl (by kernel_rfl) (by kernel_rfl) (by kernel_rfl) (fun _ _ _ h=>h) (Or.inl ⟨by rfl,?hy3⟩) (by assumption) ?rest3
  case hy3=>(intro w hSw;(try dsimp only at hSw);go_simp;(try with_reducible rfl))
  simp only[Act.put,List.getElem_toArray,List.getElem_cons_zero,List.getElem_cons_succ,List.setIfInBounds_toArray,List.set_cons_zero,List.set_cons_succ]
  refine wpAnyH_ready (rs:=[4]) (by kernel_rfl) (by simp) ?_
  refine AllReadyH.cons (o:=_) rfl (fun K hK=>?_) AllReadyH.nil
  go_simp
  go_at_call 31
  refine(rstate_any d xp _ HL.out.dok).mono ?_
  rintro e wa ⟨rfl,hn⟩
  rw[HSX.out]
  have HA:Hid (LfW W wa k k' m m ((T,.cells (gsC u) 77) :: ((D+1,.cells #[.int .i64 xk,.int .u32 xa,.int .u32 (xp:Int),.int .i64 (j:Int)] 72) :: (D,.cells (cxA d) 25) :: [(P+1,.cells (cxA c) 25),(P,.cells #[.int .u32 pc,.int .i64 R.count,.int .i64 R.bytes,.slice (some ⟨g,0,none⟩) R.l.length cap] 33)]))):=HW.out.below hn
  clear hn hHeld rD dl t0 t1 t2 t3 t4 t5 t6 t7 t8 t9 tl x0 x1 x2 x3 xl
  have rD:wa.rangeAt D 0 [.int .u32 (d 0),.int .u32 (d 1),.int .u32 (d 2),.int .u32 (d 3),.int .u32 (d 4),.int .u32 (d 5),.int .u32 (d 6),.int .u32 (d 7),.int .u32 (d 8),.int .u32 (d 9),.int .u32 (d 10),.int .u32 (d 11)]:=rng (HA.out.kp.k _ mq2)
  have dl:D < wa.heap.size:=HA.out.kp.lt mq2
  obtain⟨t0,t1,t2,t3,t4,t5,t6,t7,t8,t9,tl⟩:=rw10 (b:=T) (HA.out.kp.k _ mq0)
  obtain⟨x0,x1,x2,x3,xl⟩:=rw4 (b:=(D+1)) (HA.out.kp.k _ mq1)
  (try dsimp only)
  refine hK.out _ _ (by(try dsimp only);simp[go_sem,rD,dl,t0,t1,t2,t3,t4,t5,t6,t7,t8,t9,tl,x0,x1,x2,x3,xl]) (fun hHeld=>?_)
  clear hK K
  (try simp only[Act.put,List.getElem_toArray,List.getElem_cons_zero,List.getElem_cons_succ,List.setIfInBounds_toArray,List.set_cons_zero,List.set_cons_succ])
  refine wpAnyH_take (i:=5) (oi:=_) (v:=?v5) rfl (by kernel_rfl) (by kernel_rfl) (by kernel_rfl) (fun _ _ _ h=>h) (Or.inl ⟨by rfl,?hy5⟩) (by assumption) ?rest5
  case hy5=>(intro w hSw;(try dsimp only at hSw);go_simp;(try with_reducible rfl))
  simp only[Act.put,List.getElem_toArray,List.getElem_cons_zero,List.getElem_cons_succ,List.setIfInBounds_toArray,List.set_cons_zero,List.set_cons_succ]
  refine wpAnyH_take (i:=6) (oi:=_) (v:=?v6) rfl (by kernel_rfl) (by kernel_rfl) (by kernel_rfl) (fun _ _ _ h=>h) (Or.inl ⟨by rfl,?hy6⟩) (by assumption) ?rest6
  case hy6=>(intro w hSw;(try dsimp only at hSw);go_simp;(try with_reducible rfl))
  simp only[Act.put,List.getElem_toArray,List.getElem_cons_zero,List.getElem_cons_succ,List.setIfInBounds_toArray,List.set_cons_zero,List.set_cons_succ]
  refine wpAnyH_take (i:=7) (oi:=_) (v:=?v7) rfl (by kernel_rfl) (by kernel_rfl) (by kernel_rfl) (fun _ _ _ h=>h) (Or.inl ⟨by rfl,?hy7⟩) (by assumption) ?rest7
  case hy7=>(intro w hSw;(try dsimp only at hSw);go_simp;(try with_reducible rfl))
  simp only[Act.put,List.getElem_toArray,List.getElem_cons_zero,List.getElem_cons_succ,List.setIfInBounds_toArray,List.set_cons_zero,List.set_cons_succ]
  refine wpAnyH_take (i:=8) (oi:=_) (v:=?v8) rfl (by kernel_rfl) (by kernel_rfl) (by kernel_rfl) (fun _ _ _ h=>h) (Or.inl ⟨by rfl,?hy8⟩) (by assumption) ?rest8
  case hy8=>(intro w hSw;(try dsimp only at hSw);go_simp;(try with_reducible rfl))
  simp only[Act.put,List.getElem_toArray,List.getElem_cons_zero,List.getElem_cons_succ,List.setIfInBounds_toArray,List.set_cons_zero,List.set_cons_succ]
  refine wpAnyH_ready (rs:=[9]) (by kernel_rfl) (by simp) ?_
  refine AllReadyH.cons (o:=_) rfl (fun K hK=>?_) AllReadyH.nil
  go_simp
  go_at_call 35
  refine(rsame_any k' k m m _ HA.out.rm' HA.out.rm rfl).mono ?_
  rintro e wb ⟨rfl,hn⟩
  have HB:Hid (LfW W wb k k' m m ((T,.cells (gsC u) 77) :: ((D+1,.cells #[.int .i64 xk,.int .u32 xa,.int .u32 (xp:Int),.int .i64 (j:Int)] 72) :: (D,.cells (cxA d) 25) :: [(P+1,.cells (cxA c) 25),(P,.cells #[.int .u32 pc,.int .i64 R.count,.int .i64 R.bytes,.slice (some ⟨g,0,none⟩) R.l.length cap] 33)]))):=HA.out.below hn
  clear hn hHeld rD dl t0 t1 t2 t3 t4 t5 t6 t7 t8 t9 tl x0 x1 x2 x3 xl
  have rD:wb.rangeAt D 0 [.int .u32 (d 0),.int .u32 (d 1),.int .u32 (d 2),.int .u32 (d 3),.int .u32 (d 4),.int .u32 (d 5),.int .u32 (d 6),.int .u32 (d 7),.int .u32 (d 8),.int .u32 (d 9),.int .u32 (d 10),.int .u32 (d 11)]:=rng (HB.out.kp.k _ mq2)
  have dl:D < wb.heap.size:=HB.out.kp.lt mq2
  obtain⟨t0,t1,t2,t3,t4,t5,t6,t7,t8,t9,tl⟩:=rw10 (b:=T) (HB.out.kp.k _ mq0)
  obtain⟨x0,x1,x2,x3,xl⟩:=rw4 (b:=(D+1)) (HB.out.kp.k _ mq1)
  (try dsimp only)
  refine hK.out _ _ (by(try dsimp only);simp[go_sem,rD,dl,t0,t1,t2,t3,t4,t5,t6,t7,t8,t9,tl,x0,x1,x2,x3,xl]) (fun hHeld=>?_)
  clear hK K
  (try simp only[Act.put,List.getElem_toArray,List.getElem_cons_zero,List.getElem_cons_succ,List.setIfInBounds_toArray,List.set_cons_zero,List.set_cons_succ])
  refine wpAnyH_take (i:=10) (oi:=_) (v:=?v10) rfl (by kernel_rfl) (by kernel_rfl) (by kernel_rfl) (fun _ _ _ h=>h) (Or.inl ⟨by rfl,?hy10⟩) (by assumption) ?rest10
  case hy10=>(intro w hSw;(try dsimp only at hSw);go_simp;(try with_reducible rfl))
  simp only[Act.put,List.getElem_toArray,List.getElem_cons_zero,List.getElem_cons_succ,List.setIfInBounds_toArray,List.set_cons_zero,List.set_cons_succ]
  refine wpAnyH_take (i:=11) (oi:=_) (v:=?v11) rfl (by kernel_rfl) (by kernel_rfl) (by kernel_rfl) (fun _ _ _ h=>h) (Or.inl ⟨by rfl,?hy11⟩) (by assumption) ?rest11
  case hy11=>(intro w hSw;(try dsimp only at hSw);go_simp;(try with_reducible rfl))
  simp only[Act.put,List.getElem_toArray,List.getElem_cons_zero,List.getElem_cons_succ,List.setIfInBounds_toArray,List.set_cons_zero,List.set_cons_succ]
  refine wpAnyH_done (by kernel_rfl) ?_ _
  obtain⟨b0,b1,b2,b3,bl⟩:=rw4 (b:=P) (HB.out.kp.k _ mq4)
  clear E8 U25 I25 hHeld rD dl
  by_cases h1:xk=1
  ·have hs:=HL.out.sys h1
   have ds:((j:Int)==(R.count:Int))=true:=by simp;omega
   rw[h1] at x0
   clear hs h1
   go_wp2
   go_ret
   exact⟨by simp[ds],HB.out.bel⟩
  by_cases h0:xk=0
  ·have ho:=HL.out.on h0
   have hj:0 < j:=by rcases ho with h|h<;>omega
   have dp:decide (0 < (j:Int))=true:=decide_eq_true zo
   have dp3:0 < j:=hj
   clear j0 dj0 dj1 dj2 dj3 j64
   rw[h0] at x0
   by_cases hc:j=R.count
   ·have ds:((j:Int)==(R.count:Int))=true:=by simp;omega
    clear hc ho h1 h0 hj
    go_wp2
    go_ret
    exact⟨rfl,HB.out.bel⟩
   ·have ds:((j:Int)==(R.count:Int))=false:=by simp;omega
    have htb:touchB m=true:=by
     rcases ho with h|h
     ·exact absurd h.1 hc
     ·exact h.2
    have HTB:Hid _:=htb
    clear hc ho h1 h0 hj htb
    go_wp2_with (first|(go_at_call 34;refine(rtouched_any k m _ HB.out.rm).mono ?_;rintro e w3 ⟨rfl,rfl⟩;rw[HTB.out]))
    go_ret
    exact⟨rfl,HB.out.bel⟩
  ·have hst:=HL.out.st h0 h1
   rw[← HUK.out] at hst
   obtain⟨o,HO⟩:∃ o,Hid (stepF m u=o):=⟨_,rfl⟩
   rw[HO.out] at hst
   obtain⟨e1,e2⟩:=hst
   have d1:(xk==1)=false:=by simp;exact h1
   have d0:(xk==0)=false:=by simp;exact h0
   have HE1:Hid (o.k=xk):=e1
   have HE2:Hid (o.a=xa):=e2
   clear e1 e2 h1 h0
   go_upto_region 27 with first
    | (go_at_call 32;refine(rstep_any k m u _ HB.out.rm HM.out HUO.out).mono ?_;rintro e w2 ⟨rfl,hR2,hC2⟩;rw[HO.out] at hR2 ⊢;have hh:=((HB.out.ev1 hR2 hC2).new (.cells (gsC o.t) 77)).new (.cells #[.int .i64 o.k,.int .u32 o.a] 36);rw[show(w2.alloc (.cells (gsC o.t) 77)).heap.size=w2.heap.size+1 by simp] at hh;have H2:Hid _:=hh;clear hh hR2 hC2 t0 t1 t2 t3 t4 t5 t6 t7 t8 t9 tl x0 x1 x2 x3 xl b0 b1 b2 b3 bl)
   generalize w2.heap.size=G at *
   refine wp_gen (fun W'=>LfW W W' k k' o.m m ((G+1,.cells #[.int .i64 o.k,.int .u32 o.a] 36) :: (G,.cells (gsC o.t) 77) :: ((T,.cells (gsC u) 77) :: ((D+1,.cells #[.int .i64 xk,.int .u32 xa,.int .u32 (xp:Int),.int .i64 (j:Int)] 72) :: (D,.cells (cxA d) 25) :: [(P+1,.cells (cxA c) 25),(P,.cells #[.int .u32 pc,.int .i64 R.count,.int .i64 R.bytes,.slice (some ⟨g,0,none⟩) R.l.length cap] 33)])))) H2.out ?_
   clear H2
   intro we hE
   have HE:Hid _:=hE
   obtain⟨x0,x1,x2,x3,xl⟩:=rw4 (b:=(D+1)) (hE.kp.k _ mq3)
   obtain⟨s0,s1,sl⟩:=rw2 (b:=(G+1)) (hE.kp.k _ mq0)
   rw[HE1.out] at s0
   rw[HE2.out] at s1
   clear hE
   go_wp2
   go_ret
   exact⟨rfl,HE.out.bel⟩
end Go.Proofs.YtfokgedjocnnmaaGreat
