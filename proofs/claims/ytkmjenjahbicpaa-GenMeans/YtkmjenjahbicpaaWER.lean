import Derived.Test.YtkmjenjahbicpaaWED
import Derived.Test.YtkmjenjahbicpaaC1
import Derived.Laws.Rows
import Derived.Deep.CutRange
import Derived.Test.YtkmjenjahbicpaaRI
import Derived.Deep.MidRow
import Derived.Test.YtkmjenjahbicpaaRX
set_option linter.unusedVariables false
set_option linter.unusedSimpArgs false
set_option maxHeartbeats 4000000
namespace Go.Proofs.Ytkmjenjahbicpaa.Va
open Go.RowKit
set_option maxRecDepth 100000
theorem zM2(c:Nat→Nat)(i x:Nat)(hi:i < 12):(cxA c).setIfInBounds i (.int .u32 x)=cxA (zBm c i x):=by
 have:i=0∨i=1∨i=2∨i=3∨i=4∨i=5∨i=6∨i=7∨i=8∨i=9∨i=10∨i=11:=aO
 rcases this with rfl|rfl|rfl|rfl|rfl|rfl|rfl|rfl|rfl|rfl|rfl|rfl<;>rfl
theorem zIb(c:Nat→Nat)(i:Nat)(hi:i < 12):(cxA c)[i]?=some (.int .u32 (c i)):=by
 have:i=0∨i=1∨i=2∨i=3∨i=4∨i=5∨i=6∨i=7∨i=8∨i=9∨i=10∨i=11:=aO
 rcases this with rfl|rfl|rfl|rfl|rfl|rfl|rfl|rfl|rfl|rfl|rfl|rfl<;>rfl
structure RvC(w:World)(C V n:Nat)(k:RB)(q:Sq):Prop where
 cb:w.heap[C]?=some (.cells (cxA q.c) 27)
 cv:∀ i,i < n→w.cell? ⟨V,i,none⟩=some (.int .u32 (q.v i))
 fv:Fz w V
 m:RM w k q.s
 n0:0 < n
 ne:C≠V
 kc:∀ x∈k.y :: k.all,x≠C∧x≠V
theorem RvC.lV{w:World}{C V n:Nat}{k:RB}{q:Sq}(h:RvC w C V n k q):V < w.heap.size:=lt_of_cell (h.cv 0 h.n0)
theorem RvC.below{w w':World}{C V n:Nat}{k:RB}{q:Sq}(h:RvC w C V n k q)(b:Below w.heap.size w w'):RvC w' C V n k q:=
 ⟨(b.block _ (zE h.cb)).trans h.cb,fun i hi=>(b.cell (p:=⟨V,i,none⟩) h.lV).trans (h.cv i hi),h.fv.below b h.lV,h.m.below b aL,h.n0,h.ne,h.kc⟩
theorem RvC.stored{w w':World}{C V n:Nat}{k:RB}{q:Sq}{s:MS}(h:RvC w C V n k q)(b:zJ k.all w w')(m:RM w' k s):RvC w' C V n k ⟨q.c,s,q.v⟩:=by
 have hC:C∉k.all:=fun hm=>(h.kc C (aM _ hm)).1 rfl
 have hV:V∉k.all:=fun hm=>(h.kc V (aM _ hm)).2 rfl
 exact⟨(b.block _ (zE h.cb) hC).trans h.cb,fun i hi=>(b.cell h.lV hV).trans (h.cv i hi),h.fv.chg b h.lV hV,m,h.n0,h.ne,h.kc⟩
theorem RvC.set{w:World}{C V n B o:Nat}{k:RB}{q:Sq}(h:RvC w C V n k q)(hC:C≠B)(hV:V≠B)(hk:∀ x∈k.y :: k.all,x≠B)(u:Value):RvC (w.setCell ⟨B,o,none⟩ u) C V n k q:=
 ⟨(zQ hC u).trans h.cb,fun i hi=>(uI u hV _).trans (h.cv i hi),h.fv.set _ _,h.m.of_blocks (fun x hx=>zQ (hk x hx) u),h.n0,h.ne,h.kc⟩
theorem RvC.putV{w:World}{C V n i:Nat}{k:RB}{q:Sq}(h:RvC w C V n k q)(hi:i < n)(x:Nat):RvC (w.setCell ⟨V,i,none⟩ (.int .u32 x)) C V n k ⟨q.c,q.s,zBm q.v i x⟩:=by
 refine⟨(zQ h.ne _).trans h.cb,fun j hj=>?_,h.fv.set _ _,h.m.of_blocks (fun x hx=>zQ (h.kc x hx).2 _),h.n0,h.ne,h.kc⟩
 rw[vY _ (h.cv i hi)]
 show _=some (Value.int .u32 (zBm q.v i x j))
 unfold zBm
 by_cases e:j=i
 ·simp[e]
 ·simp[e,h.cv j hj]
theorem RvC.putC{w:World}{C V n i:Nat}{k:RB}{q:Sq}(h:RvC w C V n k q)(hi:i < 12)(x:Nat):RvC (w.setCell ⟨C,i,none⟩ (.int .u32 x)) C V n k ⟨zBm q.c i x,q.s,q.v⟩:=
 ⟨by rw[yE h.cb,zM2 _ _ _ hi],fun j hj=>(uI _ h.ne.symm _).trans (h.cv j hj),h.fv.set _ _,h.m.of_blocks (fun x hx=>zQ (h.kc x hx).1 _),h.n0,h.ne,h.kc⟩
structure LvA(w wx:World)(C V n:Nat)(k:RB)(q:Sq):Prop where
 r:RvC wx C V n k q
 b6:wx.heap[C+1]?=some (.cells #[.int .u32 0,.int .u32 0,.int .u32 0,.int .u32 0,.int .u32 0,.int .u32 0,.int .u32 0,.int .u32 0,.int .u32 0,.int .u32 0,.int .u32 0,.int .u32 0] 27)
 b7:wx.heap[C+1+1]?=some (.cells #[.int .i64 0,.int .u32 0,.int .u32 0,.int .i64 0] 44)
 chg:zJ k.all w wx
 lk:∀ x∈k.y :: k.all,x < w.heap.size
 lC:w.heap.size≤C
 lV:C+1+1 < V
structure LvB(w wx:World)(C V D n:Nat)(k:RB)(q:Sq)(o:zL)(x:ExR):Prop where
 a:LvA w wx C V n k q
 b11:wx.heap[D]?=some (.cells (opA o) 52)
 b12:wx.heap[D+1]?=some (.cells (exA x) 44)
 lD:V < D
theorem LvA.k_ne{w wx:World}{C V n:Nat}{k:RB}{q:Sq}(h:LvA w wx C V n k q){B:Nat}(hB:w.heap.size≤B):∀ x∈k.y :: k.all,x≠B:=fun x hx e=>by have:=h.lk x hx;omega
theorem LvA.not{w wx:World}{C V n:Nat}{k:RB}{q:Sq}(h:LvA w wx C V n k q){B:Nat}(hB:w.heap.size≤B):B∉k.all:=fun hm=>h.k_ne hB B (aM _ hm) rfl
theorem LvA.below{w wx w':World}{C V n:Nat}{k:RB}{q:Sq}(h:LvA w wx C V n k q)(b:Below wx.heap.size wx w'):LvA w w' C V n k q:=
 ⟨h.r.below b,(b.block _ (zE h.b6)).trans h.b6,(b.block _ (zE h.b7)).trans h.b7,h.chg.trans (zJ.of_below _ b),h.lk,h.lC,h.lV⟩
theorem LvA.stored{w wx w':World}{C V n:Nat}{k:RB}{q:Sq}{s:MS}(h:LvA w wx C V n k q)(b:zJ k.all wx w')(m:RM w' k s):LvA w w' C V n k ⟨q.c,s,q.v⟩:=by
 have:=h.lC
 exact⟨h.r.stored b m,(b.block _ (zE h.b6) (h.not aO)).trans h.b6,(b.block _ (zE h.b7) (h.not aO)).trans h.b7,h.chg.trans b,h.lk,h.lC,h.lV⟩
theorem LvA.set{w wx:World}{C V n B o:Nat}{k:RB}{q:Sq}(h:LvA w wx C V n k q)(hB:V < B)(u:Value):LvA w (wx.setCell ⟨B,o,none⟩ u) C V n k q:=by
 have h1:=h.lC
 have h2:=h.lV
 exact⟨h.r.set aO aO (h.k_ne aO) u,(zQ aO u).trans h.b6,(zQ aO u).trans h.b7,h.chg.new aO ((zBD.refl B wx).setCell o u),h.lk,h.lC,h.lV⟩
theorem LvA.putV{w wx:World}{C V n i:Nat}{k:RB}{q:Sq}(h:LvA w wx C V n k q)(hi:i < n)(x:Nat):LvA w (wx.setCell ⟨V,i,none⟩ (.int .u32 x)) C V n k ⟨q.c,q.s,zBm q.v i x⟩:=by
 have h1:=h.lC
 have h2:=h.lV
 exact⟨h.r.putV hi x,(zQ aO _).trans h.b6,(zQ aO _).trans h.b7,h.chg.new aO ((zBD.refl V wx).setCell i _),h.lk,h.lC,h.lV⟩
theorem LvA.putC{w wx:World}{C V n i:Nat}{k:RB}{q:Sq}(h:LvA w wx C V n k q)(hi:i < 12)(x:Nat):LvA w (wx.setCell ⟨C,i,none⟩ (.int .u32 x)) C V n k ⟨zBm q.c i x,q.s,q.v⟩:=by
 have h1:=h.lC
 have h2:=h.lV
 exact⟨h.r.putC hi x,(zQ aO _).trans h.b6,(zQ aO _).trans h.b7,h.chg.new aO ((zBD.refl C wx).setCell i _),h.lk,h.lC,h.lV⟩
theorem LvB.below{w wx w':World}{C V D n:Nat}{k:RB}{q:Sq}{o:zL}{x:ExR}(h:LvB w wx C V D n k q o x)(b:Below wx.heap.size wx w'):LvB w w' C V D n k q o x:=
 ⟨h.a.below b,(b.block _ (zE h.b11)).trans h.b11,(b.block _ (zE h.b12)).trans h.b12,h.lD⟩
theorem LvB.drew{w wx:World}{C V D n:Nat}{k:RB}{q:Sq}{o:zL}{x:ExR}(h:LvB w wx C V D n k q o x):LvB w wx.drew C V D n k q o x:=h.below aB.drew
theorem LvB.stored{w wx w':World}{C V D n:Nat}{k:RB}{q:Sq}{o:zL}{x:ExR}{s:MS}(h:LvB w wx C V D n k q o x)(b:zJ k.all wx w')(m:RM w' k s):LvB w w' C V D n k ⟨q.c,s,q.v⟩ o x:=by
 have h1:=h.a.lC
 have h2:=h.a.lV
 have h3:=h.lD
 exact⟨h.a.stored b m,(b.block _ (zE h.b11) (h.a.not aO)).trans h.b11,(b.block _ (zE h.b12) (h.a.not aO)).trans h.b12,h.lD⟩
theorem LvB.putV{w wx:World}{C V D n i:Nat}{k:RB}{q:Sq}{o:zL}{x:ExR}(h:LvB w wx C V D n k q o x)(hi:i < n)(y:Nat):LvB w (wx.setCell ⟨V,i,none⟩ (.int .u32 y)) C V D n k ⟨q.c,q.s,zBm q.v i y⟩ o x:=by
 have h3:=h.lD
 exact⟨h.a.putV hi y,(zQ aO _).trans h.b11,(zQ aO _).trans h.b12,h.lD⟩
theorem LvB.putC{w wx:World}{C V D n i:Nat}{k:RB}{q:Sq}{o:zL}{x:ExR}(h:LvB w wx C V D n k q o x)(hi:i < 12)(y:Nat):LvB w (wx.setCell ⟨C,i,none⟩ (.int .u32 y)) C V D n k ⟨zBm q.c i y,q.s,q.v⟩ o x:=by
 have h2:=h.a.lV
 have h3:=h.lD
 exact⟨h.a.putC hi y,(zQ aO _).trans h.b11,(zQ aO _).trans h.b12,h.lD⟩
theorem LvB.ex0{w wx:World}{C V D n:Nat}{k:RB}{q:Sq}{o:zL}{x:ExR}(h:LvB w wx C V D n k q o x)(z:Int):LvB w (wx.setCell ⟨D+1,0,none⟩ (.int .i64 z)) C V D n k q o ⟨z,x.a,x.pc,x.n⟩:=by
 have h3:=h.lD
 exact⟨h.a.set aO _,(zQ aO _).trans h.b11,(yE h.b12 _).trans rfl,h.lD⟩
theorem LvB.ex1{w wx:World}{C V D n:Nat}{k:RB}{q:Sq}{o:zL}{x:ExR}(h:LvB w wx C V D n k q o x)(z:Int):LvB w (wx.setCell ⟨D+1,1,none⟩ (.int .u32 z)) C V D n k q o ⟨x.k,z,x.pc,x.n⟩:=by
 have h3:=h.lD
 exact⟨h.a.set aO _,(zQ aO _).trans h.b11,(yE h.b12 _).trans rfl,h.lD⟩
theorem LvB.ex2{w wx:World}{C V D n:Nat}{k:RB}{q:Sq}{o:zL}{x:ExR}(h:LvB w wx C V D n k q o x)(z:Int):LvB w (wx.setCell ⟨D+1,2,none⟩ (.int .u32 z)) C V D n k q o ⟨x.k,x.a,z,x.n⟩:=by
 have h3:=h.lD
 exact⟨h.a.set aO _,(zQ aO _).trans h.b11,(yE h.b12 _).trans rfl,h.lD⟩
theorem vN.chg{w w':World}{S:List Nat}{bp:Option Addr}{n:Nat}{f:Nat→zL}(h:vN w bp n f)(hb:∀ b off,bp=some ⟨b,off,none⟩→b∉S)(c:zJ S w w'):vN w' bp n f:=fun h0=>by
 obtain⟨b,off,e,hl,hc⟩:=h h0
 have hn:=hb b off e
 exact⟨b,off,e,Nat.lt_of_lt_of_le hl c.size,fun i hi=>zN4 fun r hr=>(c.cell hl hn).trans ((hc i hi).cells r hr)⟩
theorem zEb:(Try.prog.info? 22).map (fun i=>(i.zero,i.size,i.bytes))=some (some (.int .u32 0),1,4):=by kernel_rfl
theorem zGK(w:World)(n i:Nat)(h:i < n):(w.alloc (.cells (madeCells #[.int .u32 0] n) 22)).cell? ⟨w.heap.size,i,none⟩=some (.int .u32 0):=by
 rw[zA (heap_alloc_last w _)];exact zDc _ _ _ h
theorem al5(w:World)(o1 o2 o3 o4 o5:Obj):(((((w.alloc o1).alloc o2).alloc o3).alloc o4).alloc o5).heap[w.heap.size+1]?=some o2∧(((((w.alloc o1).alloc o2).alloc o3).alloc o4).alloc o5).heap[w.heap.size+1+1]?=some o3∧(((((w.alloc o1).alloc o2).alloc o3).alloc o4).alloc o5).heap[w.heap.size+1+1+1]?=some o4∧(((((w.alloc o1).alloc o2).alloc o3).alloc o4).alloc o5).heap[w.heap.size+1+1+1+1]?=some o5:=by
 have l1:=heap_alloc_last (w.alloc o1) o2
 have l2:=heap_alloc_last ((w.alloc o1).alloc o2) o3
 have l3:=heap_alloc_last (((w.alloc o1).alloc o2).alloc o3) o4
 have l4:=heap_alloc_last ((((w.alloc o1).alloc o2).alloc o3).alloc o4) o5
 rw[show(w.alloc o1).heap.size=w.heap.size+1 by simp] at l1
 rw[show((w.alloc o1).alloc o2).heap.size=w.heap.size+1+1 by simp] at l2
 rw[show(((w.alloc o1).alloc o2).alloc o3).heap.size=w.heap.size+1+1+1 by simp] at l3
 rw[show((((w.alloc o1).alloc o2).alloc o3).alloc o4).heap.size=w.heap.size+1+1+1+1 by simp] at l4
 exact⟨(yW _ _ _ (by simp<;>omega)).trans ((yW _ _ _ (by simp<;>omega)).trans ((yW _ _ _ aS).trans l1)),(yW _ _ _ (by simp<;>omega)).trans ((yW _ _ _ aS).trans l2),(yW _ _ _ aS).trans l3,l4⟩
theorem zRe(c:Nat→Nat)(pc:Nat)(F:Int)(w:World):(Instr.field 87 (sxV c pc F) 2).run Try.prog w=.ok (.int .u32 F) w:=by
 simp[Instr.field,Try.underlying87,go_sem,part,asAgg]
theorem zNS(w:World)(B:Array Value)(c:Nat→Nat)(s:MS)(k:RB)(n:Nat)(n0:0 < n)(h:RM w k s) :
  LvA w (((((w.alloc (.cells B 25)).alloc (.cells (cxA c) 27)).alloc (.cells #[.int .u32 0,.int .u32 0,.int .u32 0,.int .u32 0,.int .u32 0,.int .u32 0,.int .u32 0,.int .u32 0,.int .u32 0,.int .u32 0,.int .u32 0,.int .u32 0] 27)).alloc (.cells #[.int .i64 0,.int .u32 0,.int .u32 0,.int .i64 0] 44)).alloc (.cells (madeCells #[.int .u32 0] n) 22)) (w.heap.size+1) (w.heap.size+1+1+1+1) n k ⟨c,s,fun _=>0⟩:=by
 have e:=al5 w (.cells B 25) (.cells (cxA c) 27) (.cells #[.int .u32 0,.int .u32 0,.int .u32 0,.int .u32 0,.int .u32 0,.int .u32 0,.int .u32 0,.int .u32 0,.int .u32 0,.int .u32 0,.int .u32 0,.int .u32 0] 27) (.cells #[.int .i64 0,.int .u32 0,.int .u32 0,.int .i64 0] 44) (.cells (madeCells #[.int .u32 0] n) 22)
 have b:Below w.heap.size w (((((w.alloc (.cells B 25)).alloc (.cells (cxA c) 27)).alloc (.cells #[.int .u32 0,.int .u32 0,.int .u32 0,.int .u32 0,.int .u32 0,.int .u32 0,.int .u32 0,.int .u32 0,.int .u32 0,.int .u32 0,.int .u32 0,.int .u32 0] 27)).alloc (.cells #[.int .i64 0,.int .u32 0,.int .u32 0,.int .i64 0] 44)).alloc (.cells (madeCells #[.int .u32 0] n) 22)):=(((((Below.refl w.heap.size w).alloc aL _).alloc aS _).alloc zq19 _).alloc zq19 _).alloc zq19 _
 have hs:((((w.alloc (.cells B 25)).alloc (.cells (cxA c) 27)).alloc (.cells #[.int .u32 0,.int .u32 0,.int .u32 0,.int .u32 0,.int .u32 0,.int .u32 0,.int .u32 0,.int .u32 0,.int .u32 0,.int .u32 0,.int .u32 0,.int .u32 0] 27)).alloc (.cells #[.int .i64 0,.int .u32 0,.int .u32 0,.int .i64 0] 44)).heap.size=w.heap.size+1+1+1+1:=by simp
 refine⟨⟨e.1,fun i hi=>?_,⟨fun j=>zD e.2.2.2 j⟩,h.below b aL,n0,by omega,fun x hx=>by have:=h.lt x hx;omega⟩,e.2.1,e.2.2.1,zJ.of_below _ b,h.lt,by omega,by omega⟩
 have:=zGK ((((w.alloc (.cells B 25)).alloc (.cells (cxA c) 27)).alloc (.cells #[.int .u32 0,.int .u32 0,.int .u32 0,.int .u32 0,.int .u32 0,.int .u32 0,.int .u32 0,.int .u32 0,.int .u32 0,.int .u32 0,.int .u32 0,.int .u32 0] 27)).alloc (.cells #[.int .i64 0,.int .u32 0,.int .u32 0,.int .i64 0] 44)) n i hi
 rw[hs] at this
 exact this
theorem RM.setN{w:World}{k:RB}{s:MS}{B o:Nat}(h:RM w k s)(hk:∀ x∈k.y :: k.all,x≠B)(u:Value):RM (w.setCell ⟨B,o,none⟩ u) k s:=h.of_blocks (fun x hx=>zQ (hk x hx) u)
theorem lvB(w wr:World)(C V n:Nat)(k:RB)(q:Sq)(o:zL)(h:LvA w wr C V n k q):LvB w ((wr.alloc (.cells #[.int .i64 o.kind,.int .i64 o.w,.int .i64 o.a,.int .i64 o.b,.int .i64 o.c,.int .u32 o.k,.int .i64 o.n] 52)).alloc (.cells #[.int .i64 0,.int .u32 0,.int .u32 o.k,.int .i64 o.n] 44)) C V wr.heap.size n k q o ⟨0,0,o.k,o.n⟩:=
 ⟨h.below ((aB.alloc aL _).alloc aS _),(yW _ _ _ aS).trans (heap_alloc_last wr _),by
  have:=heap_alloc_last (wr.alloc (.cells #[.int .i64 o.kind,.int .i64 o.w,.int .i64 o.a,.int .i64 o.b,.int .i64 o.c,.int .u32 o.k,.int .i64 o.n] 52)) (.cells #[.int .i64 0,.int .u32 0,.int .u32 o.k,.int .i64 o.n] 44)
  rwa [show(wr.alloc (.cells #[.int .i64 o.kind,.int .i64 o.w,.int .i64 o.a,.int .i64 o.b,.int .i64 o.c,.int .u32 o.k,.int .i64 o.n] 52)).heap.size=wr.heap.size+1 by simp] at this,h.r.lV⟩
end Go.Proofs.Ytkmjenjahbicpaa.Va
namespace Go.Proofs.Ytkmjenjahbicpaa.Ho
open Go.RowKit
set_option maxRecDepth 100000
structure JW(w W:World)(k:QB)(ws tb mp:Value)(q:HQ)(C:Array Value):Prop where
 q:QW W k ws tb mp q
 b0:W.heap[w.heap.size]?=some (.cells C 80)
 ch:zJ [] w W
theorem JW.nx{w W w1:World}{k:QB}{ws tb mp:Value}{q:HQ}{C:Array Value}(h:JW w W k ws tb mp q C)(b:Below W.heap.size W w1):JW w w1 k ws tb mp q C:=
 ⟨h.q.chg (S:=[]) (zJ.bel b) (fun _ _=>by simp),(b.block _ (ltb h.b0)).trans h.b0,h.ch.trans (zJ.bel b)⟩
theorem JW.st{w W w1:World}{k:QB}{ws tb mp:Value}{q:HQ}{C:Array Value}(h:JW w W k ws tb mp q C){r g:Nat}(b:zJ [r,g] W w1)(hr:r < w.heap.size)(hg:g < w.heap.size):w1.heap[w.heap.size]?=some (.cells C 80):=
 (b.block _ (ltb h.b0) zq19).trans h.b0
theorem zGe{w:World}{k:QB}{ws tb mp:Value}(q:HQ){q':HQ}(h:QW w k ws tb mp q')(e:q'.c=q.c):w.rangeAt k.h 2 [.int .u32 (q.c 0),.int .u32 (q.c 1),.int .u32 (q.c 2),.int .u32 (q.c 3),.int .u32 (q.c 4),.int .u32 (q.c 5),.int .u32 (q.c 6),.int .u32 (q.c 7),.int .u32 (q.c 8),.int .u32 (q.c 9),.int .u32 (q.c 10),.int .u32 (q.c 11)]:=fun j x hx=>by
 have hj:j < 12:=by
  rcases Nat.lt_or_ge j 12 with g|g
  ·exact g
  ·rw[List.getElem?_eq_none (by simpa using g)] at hx;cases hx
 rw[h.h.c (2+j) aO,zMF _ _ _ _ _ j hj,e]
 match j,hj with
 | 0,_|1,_|2,_|3,_|4,_|5,_|6,_|7,_|8,_|9,_|10,_|11,_=>simpa using hx
theorem u27:Try.prog.underlying 27=some (.array 12 22):=Try.underlying27
theorem i27:(Try.prog.info? 27).map (·.size)=some 12:=by kernel_rfl
theorem zQh(k:QB)(ws tb mp:Value)(q:HQ)(d:Nat)(a b c n:Int)(kk xx v:Nat)(w:World)(hq:QW w k ws tb mp q)(hd:d < 16)
  (hv:∀ W,Calls Try.prog 27 #[.agg #[.int .u32 (q.c 0),.int .u32 (q.c 1),.int .u32 (q.c 2),.int .u32 (q.c 3),.int .u32 (q.c 4),.int .u32 (q.c 5),.int .u32 (q.c 6),.int .u32 (q.c 7),.int .u32 (q.c 8),.int .u32 (q.c 9),.int .u32 (q.c 10),.int .u32 (q.c 11)],.int .u32 0] W fun e w'=>e=.returned (.agg (Va.sxA q.c 0 v))∧Below W.heap.size W w') :
  Calls Try.prog 66 #[.pointer (some ⟨k.h,0,none⟩),.agg (cdC 97 d a b c n kk xx)] w fun e w'=>e=.returned (.tuple #[])∧QW w' k ws tb mp { q with reg:=upd q.reg d v,has:=upd q.has d true }∧zJ k.own w w':=by
 have HF:∀ w,Hid (Calls Try.prog 61 #[.int .i64 97] w fun e w'=>e=.returned (.tuple #[.string ⟨#[100]⟩,.int .i64 0,.int .i64 1])∧w=w'):=fun w=>yJ 97 w
 have lh:=hq.h.lt
 have HQ':Hid _:=hq
 have HD:Hid _:=hd
 have HV:Hid _:=hv
 have HLR:Hid _:=hq.r.lt
 have HLG:Hid _:=hq.g.lt
 clear hq hd hv
 go_enter Try.func66,Try.ntmps66
 go_upto_region 38 with (go_at_call 61;refine Calls.mono (HF _).out ?_;rintro e w1 ⟨rfl,rfl⟩)
 refine zI (fun W'=>JW w W' k ws tb mp q (cdC 97 d a b c n kk xx)) ⟨zq4,heap_alloc_last w _,zq3⟩ ?_
 intro wx hW
 have HW:Hid _:=hW
 have od:wx.cell? ⟨w.heap.size,1,none⟩=some (.int .i64 d):=yI hW.b0 1
 have or:wx.rangeAt k.h 2 [.int .u32 (q.c 0),.int .u32 (q.c 1),.int .u32 (q.c 2),.int .u32 (q.c 3),.int .u32 (q.c 4),.int .u32 (q.c 5),.int .u32 (q.c 6),.int .u32 (q.c 7),.int .u32 (q.c 8),.int .u32 (q.c 9),.int .u32 (q.c 10),.int .u32 (q.c 11)]:=zGe q hW.q rfl
 have ol:=ltb hW.b0
 have om:=hW.q.h.lt
 clear hW lh
 have U27:=u27
 have HSF:∀ w,(Instr.field 87 (.agg (Va.sxA q.c 0 v)) 2).run Try.prog w=.ok (.int .u32 (v:Int)) w:=fun w=>Va.zRe q.c 0 v w
 have I27:(Try.prog.info? 27).map (·.size)=some ([.int .u32 (q.c 0),.int .u32 (q.c 1),.int .u32 (q.c 2),.int .u32 (q.c 3),.int .u32 (q.c 4),.int .u32 (q.c 5),.int .u32 (q.c 6),.int .u32 (q.c 7),.int .u32 (q.c 8),.int .u32 (q.c 9),.int .u32 (q.c 10),.int .u32 (q.c 11)]:List Value).length:=i27
 go_region_held3 (fun W'=>W'.cell? ⟨w.heap.size,1,none⟩=some (.int .i64 d)∧W'.rangeAt k.h 2 [.int .u32 (q.c 0),.int .u32 (q.c 1),.int .u32 (q.c 2),.int .u32 (q.c 3),.int .u32 (q.c 4),.int .u32 (q.c 5),.int .u32 (q.c 6),.int .u32 (q.c 7),.int .u32 (q.c 8),.int .u32 (q.c 9),.int .u32 (q.c 10),.int .u32 (q.c 11)]) (first|(simp[go_sem,rd,rr,rl,rm];done)|(simp[go_sem,pd,pr,pl,pm];done)|(simp[go_sem,od,or,ol,om];done))
  (first
  | (go_at_call 27;refine Calls.mono (HV.out _) ?_;rintro e w1 ⟨rfl,hb1⟩;have HW1:Hid (JW w w1 k ws tb mp q (cdC 97 d a b c n kk xx)):=HW.out.nx (vE hb1);have pd:w1.cell? ⟨w.heap.size,1,none⟩=some (.int .i64 d):=yI HW1.out.b0 1;have pr:w1.rangeAt k.h 2 [.int .u32 (q.c 0),.int .u32 (q.c 1),.int .u32 (q.c 2),.int .u32 (q.c 3),.int .u32 (q.c 4),.int .u32 (q.c 5),.int .u32 (q.c 6),.int .u32 (q.c 7),.int .u32 (q.c 8),.int .u32 (q.c 9),.int .u32 (q.c 10),.int .u32 (q.c 11)]:=zGe q HW1.out.q rfl;have pl:=ltb HW1.out.b0;have pm:=HW1.out.q.h.lt;clear hb1)
  | (go_at_call 86;have HXX:=HW1;refine Calls.mono (zAq k ws tb mp q d v _ ?_ HD.out) ?_;(exact zq15);rintro e w2 ⟨rfl,hq2,hc2⟩;have HQ2:Hid _:=hq2;have HC2:Hid _:=hc2;have rd:w2.cell? ⟨w.heap.size,1,none⟩=some (.int .i64 d):=yI (HW1.out.st (HC2.out) HLR.out HLG.out) 1;have rr:w2.rangeAt k.h 2 [.int .u32 (q.c 0),.int .u32 (q.c 1),.int .u32 (q.c 2),.int .u32 (q.c 3),.int .u32 (q.c 4),.int .u32 (q.c 5),.int .u32 (q.c 6),.int .u32 (q.c 7),.int .u32 (q.c 8),.int .u32 (q.c 9),.int .u32 (q.c 10),.int .u32 (q.c 11)]:=zGe q HQ2.out rfl;have rl:=ltb (HW1.out.st (HC2.out) HLR.out HLG.out);have rm:=HQ2.out.h.lt;clear hq2 hc2))
 all_goals(try go_wp2)
 all_goals go_end0
 all_goals exact⟨rfl,HQ2.out,((HW1.out.ch.mono aS).trans (zJ.trans zq3 (HC2.out.mono zq43)))⟩
theorem vC{S:List Nat}{w w':World}(h:zJ S w w'):Va.zJ S w w':=⟨h.os,h.tape,h.output,h.size,h.block⟩
theorem zOW{S:List Nat}{w w':World}(h:Va.zJ S w w'):zJ S w w':=⟨h.os,h.tape,h.output,h.size,h.block⟩
structure uW(q:HQ)(h:HS Va.MS):Prop where
 r:∀ i u,h.R i=some u→q.has i=true∧q.reg i=u
 sp:∀ i u,h.Sp i=some u→q.held i=true∧q.sp i=u
 c:q.c=h.c
 st:q.stuck=false
 dn:q.done=0
 rb:∀ i u,h.R i=some u→u < 4294967296
 sb:∀ i u,h.Sp i=some u→u < 4294967296
 cb:Va.zC3 h.c
 mo:h.m.Ok
theorem uW.put{q:HQ}{h:HS Va.MS}(H:uW q h)(d u:Nat)(hu:u < 4294967296):uW { q with reg:=upd q.reg d u,has:=upd q.has d true } (h.set d u):=by
 refine⟨fun i v e=>?_,H.sp,H.c,H.st,H.dn,fun i v e=>?_,H.sb,H.cb,H.mo⟩
 ·have e:upd h.R d (some u) i=some v:=e
  show upd q.has d true i=true∧upd q.reg d u i=v
  unfold upd at e ⊢
  by_cases hi:i=d
  ·rw[if_pos hi] at e ⊢;cases e;exact⟨rfl,if_pos hi⟩
  ·rw[if_neg hi] at e ⊢;rw[if_neg hi];exact H.r i v e
 ·have e:upd h.R d (some u) i=some v:=e
  unfold upd at e
  by_cases hi:i=d
  ·rw[if_pos hi] at e;cases e;exact hu
  ·rw[if_neg hi] at e;exact H.rb i v e
theorem uW.slot{q:HQ}{h:HS Va.MS}(H:uW q h)(n u:Nat)(hu:u < 4294967296):uW { q with c:=upd q.c n u } { h with c:=upd h.c n u }:=by
 refine⟨H.r,H.sp,?_,H.st,H.dn,H.rb,H.sb,fun i=>?_,H.mo⟩
 ·show upd q.c n u=upd h.c n u;rw[H.c]
 ·show upd h.c n u i < _
  unfold upd
  by_cases hi:i=n
  ·rw[if_pos hi];exact hu
  ·rw[if_neg hi];exact H.cb i
theorem uW.spill{q:HQ}{h:HS Va.MS}(H:uW q h)(n u:Nat)(hu:u < 4294967296):uW { q with sp:=upd q.sp n u,held:=upd q.held n true } { h with Sp:=upd h.Sp n (some u) }:=by
 refine⟨H.r,fun i v e=>?_,H.c,H.st,H.dn,H.rb,fun i v e=>?_,H.cb,H.mo⟩
 ·have e:upd h.Sp n (some u) i=some v:=e
  show upd q.held n true i=true∧upd q.sp n u i=v
  unfold upd at e ⊢
  by_cases hi:i=n
  ·rw[if_pos hi] at e ⊢;cases e;exact⟨rfl,if_pos hi⟩
  ·rw[if_neg hi] at e ⊢;rw[if_neg hi];exact H.sp i v e
 ·have e:upd h.Sp n (some u) i=some v:=e
  unfold upd at e
  by_cases hi:i=n
  ·rw[if_pos hi] at e;cases e;exact hu
  ·rw[if_neg hi] at e;exact H.sb i v e
theorem uW.mem{q:HQ}{h:HS Va.MS}(H:uW q h){m:Va.MS}(hm:m.Ok):uW q { h with m:=m }:=⟨H.r,H.sp,H.c,H.st,H.dn,H.rb,H.sb,H.cb,hm⟩
def km(k:Int):Int:=if k=2 then 3 else if k=3 then 2 else 1
def Stepped(k:QB)(kk:Va.RB)(ws tb:Value)(q:HQ)(w:World)(e:Ending)(w':World):HR Va.MS→Prop
 | .go h'=>e=.returned (.agg (lfC 0 0 0 0 0 0))∧∃ q',QW w' k ws tb (.pointer (some ⟨kk.y,0,none⟩)) q'∧Va.RM w' kk h'.m∧uW q' h'∧q'.at_=q.at_∧q'.ran=q.ran∧zJ (k.own++kk.all) w w'
 | .out x h'=>e=.returned (.agg (lfC (km x.kind) x.sk x.arg x.pc x.n 0))∧∃ q',QW w' k ws tb (.pointer (some ⟨kk.y,0,none⟩)) q'∧Va.RM w' kk h'.m∧uW q' h'∧zJ (k.own++kk.all) w w'
 | .stuck=>False
theorem zNA:∀ op:Fin 256,(hit (op.val:Int)).isSome=true→op.val≤15∨(16≤op.val∧op.val≤31)∨(32≤op.val∧op.val≤38)∨(48≤op.val∧op.val≤60)∨(64≤op.val∧op.val≤79)∨(80≤op.val∧op.val≤84)∨(88≤op.val∧op.val≤90)∨op.val=96∨op.val=97:=by decide +kernel
theorem zDk{k op d a b c n kk xx:Nat}(F:Fits k op d a b c n kk xx){j:Nat}{m:Int}(hj:hit (op:Int)=some j)(hm:(zH j).most=m):(n:Int)≤m:=by
 have h:=F.hk
 rw[hj] at h
 cases h
 have:=F.al
 unfold alB at this
 simp only[Bool.and_eq_true,decide_eq_true_eq] at this
 rw[← hm];exact this.1
theorem zGf(kd wv:Int)(a b c:Nat)(W:World)(ha:a < 4294967296)(hb:b < 4294967296)(hc:c < 4294967296)(hk:kd=4∨kd=5∨kd=6∨kd=7∨kd=8)(lo:(rr kd).lo≤wv)(hi:wv≤(rr kd).hi) :
  (Calls Try.prog 31 #[.agg (ovC kd wv),.int .u32 a,.int .u32 b,.int .u32 c] W fun e w'=>e=.returned (.int .u32 ((yY.val kd wv a b c:Nat):Int))∧Below W.heap.size W w')∧yY.val kd wv a b c < 4294967296:=by
 have hg:Va.zB7 1 ⟨kd,wv,0,0,0,0,0⟩:=⟨by show 1≤kd;omega,by show kd≤17;omega,lo,hi,by simp,fun _=>by simp,fun _=>by simp,by simp⟩
 have h:=Va.zGD 1 ⟨kd,wv,0,0,0,0,0⟩ a b c W ha hb hc (by show kd=1∨kd=4∨kd=5∨kd=6∨kd=7∨kd=8;omega) hg
 have hb0:=Va.zEw ⟨kd,wv,0,0,0,0,0⟩ (fun _=>0) a b c (fun _=>by show 0 < 4294967296;decide) ha hb hc (by show 0 < 4294967296;decide)
 have e0:Va.zAZ ⟨kd,wv,0,0,0,0,0⟩ (fun _=>0) a b c=Va.yM ⟨kd,wv,0,0,0,0,0⟩ a b c:=by
  unfold Va.zAZ
  rw[if_neg (show ¬kd=2 by omega),if_neg (show ¬kd=17 by omega)]
 rw[e0] at hb0
 have e1:((yY.val kd wv a b c:Nat):Int)=Va.yM ⟨kd,wv,0,0,0,0,0⟩ a b c:=Int.toNat_of_nonneg hb0.1
 exact⟨by rw[e1];exact h,by omega⟩
theorem zCq(op:Int)(h:op≠1∧op≠10∧op≠11∧op≠14∧op≠12∧op≠13∧op≠4∧op≠15∧op≠96)(l:op < 80∨90 < op):zOH op:=by
 obtain⟨h1,h2,h3,h4,h5,h6,h7,h8,h9⟩:=h
 exact⟨by simp[h1],by simp[h2],by simp[h3],by simp[h4],by simp[h5],by simp[h6],by simp[h7],by simp[h8],by simp[h9],l⟩
theorem zFH(op:Int)(l:80≤op)(h:op≤90):zGY op:=
 ⟨by simp;omega,by simp;omega,by simp;omega,by simp;omega,by simp;omega,by simp;omega,by simp;omega,by simp;omega,by simp;omega,l,h⟩
theorem zEE(op:Nat)(m:Int)(h:op < 256)(h0:0≤m)(h1:m≤256):IntKind.i64.wrap ((op:Int) - m)=(op:Int) - m:=IntWalk.i64_in _ aO
theorem zS7(k:QB)(kk:Va.RB)(ws tb:Value)(q:HQ)(h:HS Va.MS)(kf d a b c n kx xx:Nat)(w:World)(F:Fits kf 2 d a b c n kx xx)(hq:QW w k ws tb (.pointer (some ⟨kk.y,0,none⟩)) q)(hm:Va.RM w kk h.m)(H:uW q h)(hdj:∀ x∈k.own,x∉kk.y :: kk.all)(hkx:kx < 4294967296)(hns:yD yY ⟨2,d,a,b,c,n,kx,xx⟩ h≠.stuck) :
  Calls Try.prog 35 #[.pointer (some ⟨k.h,0,none⟩),.agg (cdC 2 d a b c n kx xx)] w fun e w'=>Stepped k kk ws tb q w e w' (yD yY ⟨2,d,a,b,c,n,kx,xx⟩ h):=by
 have hn:=F.fn.1
 have d0:=H.dn
 have hd:=F.fd.1
 have ha:=F.fa.1
 have hb:=F.fb.1
 have hc:=F.fc.1
 have hdj2:∀ x∈kk.y :: kk.all,x∉k.own:=fun x hx hy=>hdj x hy hx
 have n0:0≤q.done+(n:Int):=by rw[d0];omega
 have n1:q.done+(n:Int)≤9223372036854775807:=by rw[d0];omega
 rw[show yD yY ⟨2,d,a,b,c,n,kx,xx⟩ h=.go (h.set d kx) from rfl]
 refine(zA4 k ws tb (.pointer (some ⟨kk.y,0,none⟩)) q _ 2 d a b c n kx xx w hq (zCq _ aO aO) n0 n1 (fun W hW=>zR9 k ws tb (.pointer (some ⟨kk.y,0,none⟩)) q d a b c n kx xx W hW hd)).mono ?_
 rintro r w' ⟨rfl,hq',hc'⟩
 exact⟨rfl,_,hq',hm.keep (vC hc') hdj2,H.put d kx hkx,rfl,rfl,hc'.mono (fun x hx=>List.mem_append_left _ hx)⟩
theorem zQX(k:QB)(kk:Va.RB)(ws tb:Value)(q:HQ)(h:HS Va.MS)(kf d a b c n kx xx:Nat)(w:World)(F:Fits kf 6 d a b c n kx xx)(hq:QW w k ws tb (.pointer (some ⟨kk.y,0,none⟩)) q)(hm:Va.RM w kk h.m)(H:uW q h)(hdj:∀ x∈k.own,x∉kk.y :: kk.all)(hns:yD yY ⟨6,d,a,b,c,n,kx,xx⟩ h≠.stuck) :
  Calls Try.prog 35 #[.pointer (some ⟨k.h,0,none⟩),.agg (cdC 6 d a b c n kx xx)] w fun e w'=>Stepped k kk ws tb q w e w' (yD yY ⟨6,d,a,b,c,n,kx,xx⟩ h):=by
 have hn:=F.fn.1
 have d0:=H.dn
 have hd:=F.fd.1
 have ha:=F.fa.1
 have hb:=F.fb.1
 have hc:=F.fc.1
 have hdj2:∀ x∈kk.y :: kk.all,x∉k.own:=fun x hx hy=>hdj x hy hx
 have n0:0≤q.done+(n:Int):=by rw[d0];omega
 have n1:q.done+(n:Int)≤9223372036854775807:=by rw[d0];omega
 have hn2:n < 12:=by have:=zDk F (j:=5) (m:=11) aD aD;omega
 rw[show yD yY ⟨6,d,a,b,c,n,kx,xx⟩ h=.go (h.set d (h.c n)) from rfl]
 refine(zA4 k ws tb (.pointer (some ⟨kk.y,0,none⟩)) q _ 6 d a b c n kx xx w hq (zCq _ aO aO) n0 n1 (fun W hW=>zQf k ws tb (.pointer (some ⟨kk.y,0,none⟩)) q d a n b c kx xx W hW hd hn2)).mono ?_
 rintro r w' ⟨rfl,hq',hc'⟩
 exact⟨rfl,_,hq',hm.keep (vC hc') hdj2,(by rw[← H.c];exact H.put d (q.c n) (by rw[H.c];exact H.cb n)),rfl,rfl,hc'.mono (fun x hx=>List.mem_append_left _ hx)⟩
theorem zQ2(k:QB)(kk:Va.RB)(ws tb:Value)(q:HQ)(h:HS Va.MS)(kf d a b c n kx xx:Nat)(w:World)(F:Fits kf 7 d a b c n kx xx)(hq:QW w k ws tb (.pointer (some ⟨kk.y,0,none⟩)) q)(hm:Va.RM w kk h.m)(H:uW q h)(hdj:∀ x∈k.own,x∉kk.y :: kk.all)(hns:yD yY ⟨7,d,a,b,c,n,kx,xx⟩ h≠.stuck) :
  Calls Try.prog 35 #[.pointer (some ⟨k.h,0,none⟩),.agg (cdC 7 d a b c n kx xx)] w fun e w'=>Stepped k kk ws tb q w e w' (yD yY ⟨7,d,a,b,c,n,kx,xx⟩ h):=by
 have hn:=F.fn.1
 have d0:=H.dn
 have hd:=F.fd.1
 have ha:=F.fa.1
 have hb:=F.fb.1
 have hc:=F.fc.1
 have hdj2:∀ x∈kk.y :: kk.all,x∉k.own:=fun x hx hy=>hdj x hy hx
 have n0:0≤q.done+(n:Int):=by rw[d0];omega
 have n1:q.done+(n:Int)≤9223372036854775807:=by rw[d0];omega
 have hn2:n < 12:=by have:=zDk F (j:=6) (m:=11) aD aD;omega
 obtain⟨u,hu⟩:∃ u,h.R a=some u:=by
  cases e:h.R a with
  | none=>exact absurd (show yD yY ⟨7,d,a,b,c,n,kx,xx⟩ h=.stuck by simp[yD,HS.get,e]) hns
  | some u=>exact⟨u,rfl⟩
 obtain⟨g1,g2⟩:=H.r a u hu
 have ub:=H.rb a u hu
 rw[show yD yY ⟨7,d,a,b,c,n,kx,xx⟩ h=.go { h with c:=upd h.c n u } by simp[yD,HS.get,hu]]
 refine(zA4 k ws tb (.pointer (some ⟨kk.y,0,none⟩)) q _ 7 d a b c n kx xx w hq (zCq _ aO aO) n0 n1 (fun W hW=>zQj k ws tb (.pointer (some ⟨kk.y,0,none⟩)) q d a n b c kx xx W hW ha hn2 g1 H.st)).mono ?_
 rintro r w' ⟨rfl,hq',hc'⟩
 exact⟨rfl,_,hq',hm.keep (vC hc') hdj2,(by rw[g2];exact H.slot n u ub),rfl,rfl,hc'.mono (fun x hx=>List.mem_append_left _ hx)⟩
theorem zQY(k:QB)(kk:Va.RB)(ws tb:Value)(q:HQ)(h:HS Va.MS)(kf d a b c n kx xx:Nat)(w:World)(F:Fits kf 8 d a b c n kx xx)(hq:QW w k ws tb (.pointer (some ⟨kk.y,0,none⟩)) q)(hm:Va.RM w kk h.m)(H:uW q h)(hdj:∀ x∈k.own,x∉kk.y :: kk.all)(hns:yD yY ⟨8,d,a,b,c,n,kx,xx⟩ h≠.stuck) :
  Calls Try.prog 35 #[.pointer (some ⟨k.h,0,none⟩),.agg (cdC 8 d a b c n kx xx)] w fun e w'=>Stepped k kk ws tb q w e w' (yD yY ⟨8,d,a,b,c,n,kx,xx⟩ h):=by
 have hn:=F.fn.1
 have d0:=H.dn
 have hd:=F.fd.1
 have ha:=F.fa.1
 have hb:=F.fb.1
 have hc:=F.fc.1
 have hdj2:∀ x∈kk.y :: kk.all,x∉k.own:=fun x hx hy=>hdj x hy hx
 have n0:0≤q.done+(n:Int):=by rw[d0];omega
 have n1:q.done+(n:Int)≤9223372036854775807:=by rw[d0];omega
 have hn2:n < 2048:=by have:=zDk F (j:=7) (m:=2047) aD aD;omega
 obtain⟨u,hu⟩:∃ u,h.Sp n=some u:=by
  cases e:h.Sp n with
  | none=>exact absurd (show yD yY ⟨8,d,a,b,c,n,kx,xx⟩ h=.stuck by simp[yD,e]) hns
  | some u=>exact⟨u,rfl⟩
 obtain⟨g1,g2⟩:=H.sp n u hu
 have ub:=H.sb n u hu
 rw[show yD yY ⟨8,d,a,b,c,n,kx,xx⟩ h=.go (h.set d u) by simp[yD,hu]]
 refine(zA4 k ws tb (.pointer (some ⟨kk.y,0,none⟩)) q _ 8 d a b c n kx xx w hq (zCq _ aO aO) n0 n1 (fun W hW=>zQg k ws tb (.pointer (some ⟨kk.y,0,none⟩)) q d a n b c kx xx W hW hd hn2 g1)).mono ?_
 rintro r w' ⟨rfl,hq',hc'⟩
 exact⟨rfl,_,hq',hm.keep (vC hc') hdj2,(by rw[g2];exact H.put d u ub),rfl,rfl,hc'.mono (fun x hx=>List.mem_append_left _ hx)⟩
theorem zQ3(k:QB)(kk:Va.RB)(ws tb:Value)(q:HQ)(h:HS Va.MS)(kf d a b c n kx xx:Nat)(w:World)(F:Fits kf 9 d a b c n kx xx)(hq:QW w k ws tb (.pointer (some ⟨kk.y,0,none⟩)) q)(hm:Va.RM w kk h.m)(H:uW q h)(hdj:∀ x∈k.own,x∉kk.y :: kk.all)(hns:yD yY ⟨9,d,a,b,c,n,kx,xx⟩ h≠.stuck) :
  Calls Try.prog 35 #[.pointer (some ⟨k.h,0,none⟩),.agg (cdC 9 d a b c n kx xx)] w fun e w'=>Stepped k kk ws tb q w e w' (yD yY ⟨9,d,a,b,c,n,kx,xx⟩ h):=by
 have hn:=F.fn.1
 have d0:=H.dn
 have hd:=F.fd.1
 have ha:=F.fa.1
 have hb:=F.fb.1
 have hc:=F.fc.1
 have hdj2:∀ x∈kk.y :: kk.all,x∉k.own:=fun x hx hy=>hdj x hy hx
 have n0:0≤q.done+(n:Int):=by rw[d0];omega
 have n1:q.done+(n:Int)≤9223372036854775807:=by rw[d0];omega
 have hn2:n < 2048:=by have:=zDk F (j:=8) (m:=2047) aD aD;omega
 obtain⟨u,hu⟩:∃ u,h.R a=some u:=by
  cases e:h.R a with
  | none=>exact absurd (show yD yY ⟨9,d,a,b,c,n,kx,xx⟩ h=.stuck by simp[yD,HS.get,e]) hns
  | some u=>exact⟨u,rfl⟩
 obtain⟨g1,g2⟩:=H.r a u hu
 have ub:=H.rb a u hu
 rw[show yD yY ⟨9,d,a,b,c,n,kx,xx⟩ h=.go { h with Sp:=upd h.Sp n (some u) } by simp[yD,HS.get,hu]]
 refine(zA4 k ws tb (.pointer (some ⟨kk.y,0,none⟩)) q _ 9 d a b c n kx xx w hq (zCq _ aO aO) n0 n1 (fun W hW=>zQk k ws tb (.pointer (some ⟨kk.y,0,none⟩)) q d a n b c kx xx W hW ha hn2 g1)).mono ?_
 rintro r w' ⟨rfl,hq',hc'⟩
 exact⟨rfl,_,hq',hm.keep (vC hc') hdj2,(by rw[g2];exact H.spill n u ub),rfl,rfl,hc'.mono (fun x hx=>List.mem_append_left _ hx)⟩
theorem zQZ(k:QB)(kk:Va.RB)(ws tb:Value)(q:HQ)(h:HS Va.MS)(kf d a b c n kx xx:Nat)(w:World)(F:Fits kf 97 d a b c n kx xx)(hq:QW w k ws tb (.pointer (some ⟨kk.y,0,none⟩)) q)(hm:Va.RM w kk h.m)(H:uW q h)(hdj:∀ x∈k.own,x∉kk.y :: kk.all)(hns:yD yY ⟨97,d,a,b,c,n,kx,xx⟩ h≠.stuck) :
  Calls Try.prog 35 #[.pointer (some ⟨k.h,0,none⟩),.agg (cdC 97 d a b c n kx xx)] w fun e w'=>Stepped k kk ws tb q w e w' (yD yY ⟨97,d,a,b,c,n,kx,xx⟩ h):=by
 have hn:=F.fn.1
 have d0:=H.dn
 have hd:=F.fd.1
 have ha:=F.fa.1
 have hb:=F.fb.1
 have hc:=F.fc.1
 have hdj2:∀ x∈kk.y :: kk.all,x∉k.own:=fun x hx hy=>hdj x hy hx
 have n0:0≤q.done+(n:Int):=by rw[d0];omega
 have n1:q.done+(n:Int)≤9223372036854775807:=by rw[d0];omega
 rw[show yD yY ⟨97,d,a,b,c,n,kx,xx⟩ h=.go (h.set d (yY.now h.c)) from rfl]
 have hb0:=Va.zCP (h.c 8) (h.c 9) (h.c 10) (h.c 11)
 have e1:((yY.now h.c:Nat):Int)=Va.cxF h.c:=Int.toNat_of_nonneg hb0.1
 have e2:yY.now h.c < 4294967296:=by have h2:Va.cxF h.c≤15:=hb0.2;omega
 have hcc:=H.c
 refine(zA4 k ws tb (.pointer (some ⟨kk.y,0,none⟩)) q _ 97 d a b c n kx xx w hq (zCq _ aO aO) n0 n1 (fun W hW=>zQh k ws tb (.pointer (some ⟨kk.y,0,none⟩)) q d a b c n kx xx (yY.now h.c) W hW hd (fun W2=>by rw[hcc,e1];exact Va.zEQ h.c 0 W2 H.cb))).mono ?_
 rintro r w' ⟨rfl,hq',hc'⟩
 exact⟨rfl,_,hq',hm.keep (vC hc') hdj2,H.put d _ e2,rfl,rfl,hc'.mono (fun x hx=>List.mem_append_left _ hx)⟩
theorem zMw(k:QB)(kk:Va.RB)(ws tb:Value)(q:HQ)(h:HS Va.MS)(kf d a b c n kx xx:Nat)(w:World)(F:Fits kf 14 d a b c n kx xx)(hq:QW w k ws tb (.pointer (some ⟨kk.y,0,none⟩)) q)(hm:Va.RM w kk h.m)(H:uW q h)(hdj:∀ x∈k.own,x∉kk.y :: kk.all)(hns:yD yY ⟨14,d,a,b,c,n,kx,xx⟩ h≠.stuck) :
  Calls Try.prog 35 #[.pointer (some ⟨k.h,0,none⟩),.agg (cdC 14 d a b c n kx xx)] w fun e w'=>Stepped k kk ws tb q w e w' (yD yY ⟨14,d,a,b,c,n,kx,xx⟩ h):=by
 have hn:=F.fn.1
 have d0:=H.dn
 have hd:=F.fd.1
 have ha:=F.fa.1
 have hb:=F.fb.1
 have hc:=F.fc.1
 have hdj2:∀ x∈kk.y :: kk.all,x∉k.own:=fun x hx hy=>hdj x hy hx
 have n0:0≤q.done+(n:Int):=by rw[d0];omega
 have n1:q.done+(n:Int)≤9223372036854775807:=by rw[d0];omega
 rw[show yD yY ⟨14,d,a,b,c,n,kx,xx⟩ h=.out ⟨1,0,0,kx,n⟩ h from rfl]
 refine(zHR k ws tb (.pointer (some ⟨kk.y,0,none⟩)) q d n b c a kx xx w hq n0 n1).mono ?_
 rintro r w' ⟨rfl,hq',hc'⟩
 exact⟨by rw[d0,Int.zero_add];rfl,_,hq',hm.keep (vC hc') hdj2,H,hc'.mono (fun x hx=>List.mem_append_left _ hx)⟩
theorem zOs(k:QB)(kk:Va.RB)(ws tb:Value)(q:HQ)(h:HS Va.MS)(kf d a b c n kx xx:Nat)(w:World)(F:Fits kf 12 d a b c n kx xx)(hq:QW w k ws tb (.pointer (some ⟨kk.y,0,none⟩)) q)(hm:Va.RM w kk h.m)(H:uW q h)(hdj:∀ x∈k.own,x∉kk.y :: kk.all)(hns:yD yY ⟨12,d,a,b,c,n,kx,xx⟩ h≠.stuck) :
  Calls Try.prog 35 #[.pointer (some ⟨k.h,0,none⟩),.agg (cdC 12 d a b c n kx xx)] w fun e w'=>Stepped k kk ws tb q w e w' (yD yY ⟨12,d,a,b,c,n,kx,xx⟩ h):=by
 have hn:=F.fn.1
 have d0:=H.dn
 have hd:=F.fd.1
 have ha:=F.fa.1
 have hb:=F.fb.1
 have hc:=F.fc.1
 have hdj2:∀ x∈kk.y :: kk.all,x∉k.own:=fun x hx hy=>hdj x hy hx
 have n0:0≤q.done+(n:Int):=by rw[d0];omega
 have n1:q.done+(n:Int)≤9223372036854775807:=by rw[d0];omega
 rw[show yD yY ⟨12,d,a,b,c,n,kx,xx⟩ h=.out ⟨2,d,xx,kx,n⟩ h from rfl]
 refine(zJ3 k ws tb (.pointer (some ⟨kk.y,0,none⟩)) q d n b c a kx xx w hq n0 n1).mono ?_
 rintro r w' ⟨rfl,hq',hc'⟩
 exact⟨by rw[d0,Int.zero_add];rfl,_,hq',hm.keep (vC hc') hdj2,H,hc'.mono (fun x hx=>List.mem_append_left _ hx)⟩
theorem zMy(k:QB)(kk:Va.RB)(ws tb:Value)(q:HQ)(h:HS Va.MS)(kf d a b c n kx xx:Nat)(w:World)(F:Fits kf 10 d a b c n kx xx)(hq:QW w k ws tb (.pointer (some ⟨kk.y,0,none⟩)) q)(hm:Va.RM w kk h.m)(H:uW q h)(hdj:∀ x∈k.own,x∉kk.y :: kk.all)(hns:yD yY ⟨10,d,a,b,c,n,kx,xx⟩ h≠.stuck) :
  Calls Try.prog 35 #[.pointer (some ⟨k.h,0,none⟩),.agg (cdC 10 d a b c n kx xx)] w fun e w'=>Stepped k kk ws tb q w e w' (yD yY ⟨10,d,a,b,c,n,kx,xx⟩ h):=by
 have hn:=F.fn.1
 have d0:=H.dn
 have hd:=F.fd.1
 have ha:=F.fa.1
 have hb:=F.fb.1
 have hc:=F.fc.1
 have hdj2:∀ x∈kk.y :: kk.all,x∉k.own:=fun x hx hy=>hdj x hy hx
 have n0:0≤q.done+(n:Int):=by rw[d0];omega
 have n1:q.done+(n:Int)≤9223372036854775807:=by rw[d0];omega
 cases et:Va.zAi h.m with
 | true=>
  rw[show yD yY ⟨10,d,a,b,c,n,kx,xx⟩ h=.out ⟨1,0,0,kx,n⟩ h by simp[yD,yY,et]]
  refine(zGT k ws tb (.pointer (some ⟨kk.y,0,none⟩)) q d a b c n kx xx w hq n0 n1 (fun W hW=>by have h1:=Va.zBC kk h.m W (hm.keep (vC hW) (fun _ _=>by simp));rw[et] at h1;exact h1)).mono ?_
  rintro r w' ⟨rfl,hq',hc'⟩
  exact⟨by rw[d0,Int.zero_add];rfl,_,hq',hm.keep (vC hc') hdj2,H,hc'.mono (fun x hx=>List.mem_append_left _ hx)⟩
 | false=>
  rw[show yD yY ⟨10,d,a,b,c,n,kx,xx⟩ h=.go h by simp[yD,yY,et]]
  refine(zGS k ws tb (.pointer (some ⟨kk.y,0,none⟩)) q d a b c n kx xx w hq n0 n1 (fun W hW=>by have h1:=Va.zBC kk h.m W (hm.keep (vC hW) (fun _ _=>by simp));rw[et] at h1;exact h1)).mono ?_
  rintro r w' ⟨rfl,hq',hc'⟩
  exact⟨rfl,_,hq',hm.keep (vC hc') hdj2,H,rfl,rfl,hc'.mono (fun x hx=>List.mem_append_left _ hx)⟩
theorem zS6(k:QB)(kk:Va.RB)(ws tb:Value)(q:HQ)(h:HS Va.MS)(kf d a b c n kx xx:Nat)(w:World)(F:Fits kf 11 d a b c n kx xx)(hq:QW w k ws tb (.pointer (some ⟨kk.y,0,none⟩)) q)(hm:Va.RM w kk h.m)(H:uW q h)(hdj:∀ x∈k.own,x∉kk.y :: kk.all)(hns:yD yY ⟨11,d,a,b,c,n,kx,xx⟩ h≠.stuck) :
  Calls Try.prog 35 #[.pointer (some ⟨k.h,0,none⟩),.agg (cdC 11 d a b c n kx xx)] w fun e w'=>Stepped k kk ws tb q w e w' (yD yY ⟨11,d,a,b,c,n,kx,xx⟩ h):=by
 have hn:=F.fn.1
 have d0:=H.dn
 have hd:=F.fd.1
 have ha:=F.fa.1
 have hb:=F.fb.1
 have hc:=F.fc.1
 have hdj2:∀ x∈kk.y :: kk.all,x∉k.own:=fun x hx hy=>hdj x hy hx
 have n0:0≤q.done+(n:Int):=by rw[d0];omega
 have n1:q.done+(n:Int)≤9223372036854775807:=by rw[d0];omega
 obtain⟨u,hu⟩:∃ u,h.R a=some u:=by
  cases e:h.R a with
  | none=>exact absurd (show yD yY ⟨11,d,a,b,c,n,kx,xx⟩ h=.stuck by simp[yD,HS.get,e]) hns
  | some u=>exact⟨u,rfl⟩
 obtain⟨g1,g2⟩:=H.r a u hu
 have ub:=H.rb a u hu
 by_cases hz:u=0
 ·rw[show yD yY ⟨11,d,a,b,c,n,kx,xx⟩ h=.go h by simp[yD,HS.get,hu,hz]]
  refine(zMB k ws tb (.pointer (some ⟨kk.y,0,none⟩)) q d n b c a kx xx w hq n0 n1 ha g1 (g2.trans hz)).mono ?_
  rintro r w' ⟨rfl,hq',hc'⟩
  exact⟨rfl,_,hq',hm.keep (vC hc') hdj2,H,rfl,rfl,hc'.mono (fun x hx=>List.mem_append_left _ hx)⟩
 ·rw[show yD yY ⟨11,d,a,b,c,n,kx,xx⟩ h=.out ⟨1,0,0,kx,n⟩ h by simp[yD,HS.get,hu,hz]]
  refine(zMC k ws tb (.pointer (some ⟨kk.y,0,none⟩)) q d n b c a kx xx w hq n0 n1 ha g1 (by rw[g2];simpa using hz)).mono ?_
  rintro r w' ⟨rfl,hq',hc'⟩
  exact⟨by rw[d0,Int.zero_add];rfl,_,hq',hm.keep (vC hc') hdj2,H,hc'.mono (fun x hx=>List.mem_append_left _ hx)⟩
theorem zQ1(k:QB)(kk:Va.RB)(ws tb:Value)(q:HQ)(h:HS Va.MS)(kf d a b c n kx xx:Nat)(w:World)(F:Fits kf 13 d a b c n kx xx)(hq:QW w k ws tb (.pointer (some ⟨kk.y,0,none⟩)) q)(hm:Va.RM w kk h.m)(H:uW q h)(hdj:∀ x∈k.own,x∉kk.y :: kk.all)(hns:yD yY ⟨13,d,a,b,c,n,kx,xx⟩ h≠.stuck) :
  Calls Try.prog 35 #[.pointer (some ⟨k.h,0,none⟩),.agg (cdC 13 d a b c n kx xx)] w fun e w'=>Stepped k kk ws tb q w e w' (yD yY ⟨13,d,a,b,c,n,kx,xx⟩ h):=by
 have hn:=F.fn.1
 have d0:=H.dn
 have hd:=F.fd.1
 have ha:=F.fa.1
 have hb:=F.fb.1
 have hc:=F.fc.1
 have hdj2:∀ x∈kk.y :: kk.all,x∉k.own:=fun x hx hy=>hdj x hy hx
 have n0:0≤q.done+(n:Int):=by rw[d0];omega
 have n1:q.done+(n:Int)≤9223372036854775807:=by rw[d0];omega
 obtain⟨u,hu⟩:∃ u,h.R a=some u:=by
  cases e:h.R a with
  | none=>exact absurd (show yD yY ⟨13,d,a,b,c,n,kx,xx⟩ h=.stuck by simp[yD,HS.get,e]) hns
  | some u=>exact⟨u,rfl⟩
 obtain⟨g1,g2⟩:=H.r a u hu
 have ub:=H.rb a u hu
 by_cases hz:u=0
 ·rw[show yD yY ⟨13,d,a,b,c,n,kx,xx⟩ h=.go h by simp[yD,HS.get,hu,hz]]
  refine(zJ1 k ws tb (.pointer (some ⟨kk.y,0,none⟩)) q d n b c a kx xx w hq n0 n1 ha g1 (g2.trans hz)).mono ?_
  rintro r w' ⟨rfl,hq',hc'⟩
  exact⟨rfl,_,hq',hm.keep (vC hc') hdj2,H,rfl,rfl,hc'.mono (fun x hx=>List.mem_append_left _ hx)⟩
 ·rw[show yD yY ⟨13,d,a,b,c,n,kx,xx⟩ h=.out ⟨2,d,xx,kx,n⟩ h by simp[yD,HS.get,hu,hz]]
  refine(zJ2 k ws tb (.pointer (some ⟨kk.y,0,none⟩)) q d n b c a kx xx w hq n0 n1 ha g1 (by rw[g2];simpa using hz)).mono ?_
  rintro r w' ⟨rfl,hq',hc'⟩
  exact⟨by rw[d0,Int.zero_add];rfl,_,hq',hm.keep (vC hc') hdj2,H,hc'.mono (fun x hx=>List.mem_append_left _ hx)⟩
theorem zJ0(k:QB)(kk:Va.RB)(ws:Value)(q:HQ)(h:HS Va.MS)(kf d a b c n kx xx:Nat)(w:World)(F:Fits kf 4 d a b c n kx xx)(hq:QW w k ws (.slice none 0 0) (.pointer (some ⟨kk.y,0,none⟩)) q)(hm:Va.RM w kk h.m)(H:uW q h)(hdj:∀ x∈k.own,x∉kk.y :: kk.all)(hns:yD yY ⟨4,d,a,b,c,n,kx,xx⟩ h≠.stuck) :
  Calls Try.prog 35 #[.pointer (some ⟨k.h,0,none⟩),.agg (cdC 4 d a b c n kx xx)] w fun e w'=>Stepped k kk ws (.slice none 0 0) q w e w' (yD yY ⟨4,d,a,b,c,n,kx,xx⟩ h):=by
 have hn:=F.fn.1
 have d0:=H.dn
 have hd:=F.fd.1
 have ha:=F.fa.1
 have hb:=F.fb.1
 have hc:=F.fc.1
 have hdj2:∀ x∈kk.y :: kk.all,x∉k.own:=fun x hx hy=>hdj x hy hx
 have n0:0≤q.done+(n:Int):=by rw[d0];omega
 have n1:q.done+(n:Int)≤9223372036854775807:=by rw[d0];omega
 obtain⟨u,hu⟩:∃ u,h.R a=some u:=by
  cases e:h.R a with
  | none=>exact absurd (show yD yY ⟨4,d,a,b,c,n,kx,xx⟩ h=.stuck by simp[yD,HS.get,e]) hns
  | some u=>exact⟨u,rfl⟩
 obtain⟨g1,g2⟩:=H.r a u hu
 have ub:=H.rb a u hu
 rw[show yD yY ⟨4,d,a,b,c,n,kx,xx⟩ h=.out ⟨3,0,0,u,n⟩ h by simp[yD,HS.get,hu]]
 refine(zGR k ws (.pointer (some ⟨kk.y,0,none⟩)) q d n b c a kx xx w hq n0 n1 ha g1).mono ?_
 rintro r w' ⟨rfl,hq',hc'⟩
 exact⟨by rw[d0,Int.zero_add,g2];rfl,_,hq',hm.keep (vC hc') hdj2,H,hc'.mono (fun x hx=>List.mem_append_left _ hx)⟩
theorem zNz{Mem:Type}(S:Sm Mem)(x:Cd)(h:HS Mem)(l:5≤x.op)(u:x.op≤5):yD S x h=(match h.get x.a,h.get x.b,h.get x.c with|some a,some b,some c=>.go (h.set x.d (S.val 6 0 a b c))|_,_,_=>.stuck):=by
 unfold yD;(repeat(first|rw[if_pos aO]|rw[if_neg aO]));(cases h.get x.a<;>cases h.get x.b<;>cases h.get x.c<;>cases h.get x.d<;>rfl)
theorem zQ0(k:QB)(kk:Va.RB)(ws tb:Value)(q:HQ)(h:HS Va.MS)(kf d a b c n kx xx:Nat)(w:World)(F:Fits kf 5 d a b c n kx xx)(hq:QW w k ws tb (.pointer (some ⟨kk.y,0,none⟩)) q)(hm:Va.RM w kk h.m)(H:uW q h)(hdj:∀ x∈k.own,x∉kk.y :: kk.all)(hns:yD yY ⟨5,d,a,b,c,n,kx,xx⟩ h≠.stuck) :
  Calls Try.prog 35 #[.pointer (some ⟨k.h,0,none⟩),.agg (cdC 5 d a b c n kx xx)] w fun e w'=>Stepped k kk ws tb q w e w' (yD yY ⟨5,d,a,b,c,n,kx,xx⟩ h):=by
 have hn:=F.fn.1
 have d0:=H.dn
 have hd:=F.fd.1
 have ha:=F.fa.1
 have hb:=F.fb.1
 have hc:=F.fc.1
 have hdj2:∀ x∈kk.y :: kk.all,x∉k.own:=fun x hx hy=>hdj x hy hx
 have n0:0≤q.done+(n:Int):=by rw[d0];omega
 have n1:q.done+(n:Int)≤9223372036854775807:=by rw[d0];omega
 have e0:=zNz yY ⟨5,d,a,b,c,n,kx,xx⟩ h (by show(5:Int)≤5;omega) (by show(5:Int)≤5;omega)
 rw[e0] at hns ⊢
 obtain⟨ua,hua⟩:∃ u,h.get (a:Int)=some u:=by
  cases e:h.get (a:Int) with
  | none=>simp[e] at hns
  | some u=>exact⟨u,rfl⟩
 obtain⟨g1a,g2a⟩:=H.r a ua hua
 have bda:=H.rb a ua hua
 obtain⟨ub,hub⟩:∃ u,h.get (b:Int)=some u:=by
  cases e:h.get (b:Int) with
  | none=>simp[e,hua] at hns
  | some u=>exact⟨u,rfl⟩
 obtain⟨g1b,g2b⟩:=H.r b ub hub
 have bdb:=H.rb b ub hub
 obtain⟨uc,huc⟩:∃ u,h.get (c:Int)=some u:=by
  cases e:h.get (c:Int) with
  | none=>simp[e,hua,hub] at hns
  | some u=>exact⟨u,rfl⟩
 obtain⟨g1c,g2c⟩:=H.r c uc huc
 have bdc:=H.rb c uc huc
 have lo0:(rr 6).lo=0:=by decide
 have hi0:(rr 6).hi=0:=by decide
 have V:=fun W=>zGf 6 0 ua ub uc W bda bdb bdc aO (by rw[lo0];omega) (by rw[hi0];omega)
 simp only[hua,hub,huc]
 refine(zA4 k ws tb (.pointer (some ⟨kk.y,0,none⟩)) q _ 5 d a b c n kx xx w hq (zCq _ aO aO) n0 n1 (fun W hW=>zQi k ws tb (.pointer (some ⟨kk.y,0,none⟩)) q d a b c n kx xx (yY.val 6 0 ua ub uc) W hW hd ha g1a hb g1b hc g1c (fun W2=>by rw[g2a,g2b,g2c];exact(V W2).1))).mono ?_
 rintro r w' ⟨rfl,hq',hc'⟩
 exact⟨rfl,_,hq',hm.keep (vC hc') hdj2,H.put d _ (V w).2,rfl,rfl,hc'.mono (fun x hx=>List.mem_append_left _ hx)⟩
theorem zNy{Mem:Type}(S:Sm Mem)(x:Cd)(h:HS Mem)(l:16≤x.op)(u:x.op≤31):yD S x h=(match h.get x.a,h.get x.b with|some a,some b=>.go (h.set x.d (S.val 4 (x.op - 16) a b 0))|_,_=>.stuck):=by
 unfold yD;(repeat(first|rw[if_pos aO]|rw[if_neg aO]));(cases h.get x.a<;>cases h.get x.b<;>cases h.get x.c<;>cases h.get x.d<;>rfl)
theorem zQW(k:QB)(kk:Va.RB)(ws tb:Value)(q:HQ)(h:HS Va.MS)(kf op d a b c n kx xx:Nat)(w:World)(F:Fits kf op d a b c n kx xx)(hq:QW w k ws tb (.pointer (some ⟨kk.y,0,none⟩)) q)(hm:Va.RM w kk h.m)(H:uW q h)(hdj:∀ x∈k.own,x∉kk.y :: kk.all)(ho1:16≤op)(ho2:op≤31)(hns:yD yY ⟨op,d,a,b,c,n,kx,xx⟩ h≠.stuck) :
  Calls Try.prog 35 #[.pointer (some ⟨k.h,0,none⟩),.agg (cdC op d a b c n kx xx)] w fun e w'=>Stepped k kk ws tb q w e w' (yD yY ⟨op,d,a,b,c,n,kx,xx⟩ h):=by
 have hn:=F.fn.1
 have d0:=H.dn
 have hd:=F.fd.1
 have ha:=F.fa.1
 have hb:=F.fb.1
 have hc:=F.fc.1
 have hdj2:∀ x∈kk.y :: kk.all,x∉k.own:=fun x hx hy=>hdj x hy hx
 have n0:0≤q.done+(n:Int):=by rw[d0];omega
 have n1:q.done+(n:Int)≤9223372036854775807:=by rw[d0];omega
 have e0:=zNy yY ⟨op,d,a,b,c,n,kx,xx⟩ h (by show(16:Int)≤(op:Int);omega) (by show(op:Int)≤31;omega)
 rw[e0] at hns ⊢
 obtain⟨ua,hua⟩:∃ u,h.get (a:Int)=some u:=by
  cases e:h.get (a:Int) with
  | none=>simp[e] at hns
  | some u=>exact⟨u,rfl⟩
 obtain⟨g1a,g2a⟩:=H.r a ua hua
 have bda:=H.rb a ua hua
 obtain⟨ub,hub⟩:∃ u,h.get (b:Int)=some u:=by
  cases e:h.get (b:Int) with
  | none=>simp[e,hua] at hns
  | some u=>exact⟨u,rfl⟩
 obtain⟨g1b,g2b⟩:=H.r b ub hub
 have bdb:=H.rb b ub hub
 have lo0:(rr 4).lo=0:=by decide
 have hi0:(rr 4).hi=15:=by decide
 have V:=fun W=>zGf 4 ((op:Int) - 16) ua ub 0 W bda bdb aD aO (by rw[lo0];omega) (by rw[hi0];omega)
 simp only[hua,hub]
 refine(zA4 k ws tb (.pointer (some ⟨kk.y,0,none⟩)) q _ op d a b c n kx xx w hq (zCq _ aO aO) n0 n1 (fun W hW=>zQe k ws tb (.pointer (some ⟨kk.y,0,none⟩)) q (op:Int) ((op:Int) - 16) aO aO rfl d a b c n kx xx (yY.val 4 ((op:Int) - 16) ua ub 0) W hW hd ha g1a hb g1b (fun W2=>by rw[g2a,g2b];exact(V W2).1))).mono ?_
 rintro r w' ⟨rfl,hq',hc'⟩
 exact⟨rfl,_,hq',hm.keep (vC hc') hdj2,H.put d _ (V w).2,rfl,rfl,hc'.mono (fun x hx=>List.mem_append_left _ hx)⟩
theorem zPQ{Mem:Type}(S:Sm Mem)(x:Cd)(h:HS Mem)(l:32≤x.op)(u:x.op≤38):yD S x h=(match h.get x.a with|some a=>.go (h.set x.d (S.val 5 (x.op - 32) a 0 0))|_=>.stuck):=by
 unfold yD;(repeat(first|rw[if_pos aO]|rw[if_neg aO]));(cases h.get x.a<;>cases h.get x.b<;>cases h.get x.c<;>cases h.get x.d<;>rfl)
theorem zS8(k:QB)(kk:Va.RB)(ws tb:Value)(q:HQ)(h:HS Va.MS)(kf op d a b c n kx xx:Nat)(w:World)(F:Fits kf op d a b c n kx xx)(hq:QW w k ws tb (.pointer (some ⟨kk.y,0,none⟩)) q)(hm:Va.RM w kk h.m)(H:uW q h)(hdj:∀ x∈k.own,x∉kk.y :: kk.all)(ho1:32≤op)(ho2:op≤38)(hns:yD yY ⟨op,d,a,b,c,n,kx,xx⟩ h≠.stuck) :
  Calls Try.prog 35 #[.pointer (some ⟨k.h,0,none⟩),.agg (cdC op d a b c n kx xx)] w fun e w'=>Stepped k kk ws tb q w e w' (yD yY ⟨op,d,a,b,c,n,kx,xx⟩ h):=by
 have hn:=F.fn.1
 have d0:=H.dn
 have hd:=F.fd.1
 have ha:=F.fa.1
 have hb:=F.fb.1
 have hc:=F.fc.1
 have hdj2:∀ x∈kk.y :: kk.all,x∉k.own:=fun x hx hy=>hdj x hy hx
 have n0:0≤q.done+(n:Int):=by rw[d0];omega
 have n1:q.done+(n:Int)≤9223372036854775807:=by rw[d0];omega
 have e0:=zPQ yY ⟨op,d,a,b,c,n,kx,xx⟩ h (by show(32:Int)≤(op:Int);omega) (by show(op:Int)≤38;omega)
 rw[e0] at hns ⊢
 obtain⟨ua,hua⟩:∃ u,h.get (a:Int)=some u:=by
  cases e:h.get (a:Int) with
  | none=>simp[e] at hns
  | some u=>exact⟨u,rfl⟩
 obtain⟨g1a,g2a⟩:=H.r a ua hua
 have bda:=H.rb a ua hua
 have lo0:(rr 5).lo=0:=by decide
 have hi0:(rr 5).hi=6:=by decide
 have V:=fun W=>zGf 5 ((op:Int) - 32) ua 0 0 W bda aD aD aO (by rw[lo0];omega) (by rw[hi0];omega)
 simp only[hua]
 refine(zA4 k ws tb (.pointer (some ⟨kk.y,0,none⟩)) q _ op d a b c n kx xx w hq (zCq _ aO aO) n0 n1 (fun W hW=>zSa k ws tb (.pointer (some ⟨kk.y,0,none⟩)) q (op:Int) ((op:Int) - 32) aO aO rfl d a b c n kx xx (yY.val 5 ((op:Int) - 32) ua 0 0) W hW hd ha g1a (fun W2=>by rw[g2a];exact(V W2).1))).mono ?_
 rintro r w' ⟨rfl,hq',hc'⟩
 exact⟨rfl,_,hq',hm.keep (vC hc') hdj2,H.put d _ (V w).2,rfl,rfl,hc'.mono (fun x hx=>List.mem_append_left _ hx)⟩
theorem zJr{Mem:Type}(S:Sm Mem)(x:Cd)(h:HS Mem)(l:48≤x.op)(u:x.op≤60):yD S x h=(match h.get x.a,h.get x.b,h.get x.c with|some a,some b,some c=>.go (h.set x.d (S.val 7 (x.op - 48) a b c))|_,_,_=>.stuck):=by
 unfold yD;(repeat(first|rw[if_pos aO]|rw[if_neg aO]));(cases h.get x.a<;>cases h.get x.b<;>cases h.get x.c<;>cases h.get x.d<;>rfl)
theorem zMv(k:QB)(kk:Va.RB)(ws tb:Value)(q:HQ)(h:HS Va.MS)(kf op d a b c n kx xx:Nat)(w:World)(F:Fits kf op d a b c n kx xx)(hq:QW w k ws tb (.pointer (some ⟨kk.y,0,none⟩)) q)(hm:Va.RM w kk h.m)(H:uW q h)(hdj:∀ x∈k.own,x∉kk.y :: kk.all)(ho1:48≤op)(ho2:op≤60)(hns:yD yY ⟨op,d,a,b,c,n,kx,xx⟩ h≠.stuck) :
  Calls Try.prog 35 #[.pointer (some ⟨k.h,0,none⟩),.agg (cdC op d a b c n kx xx)] w fun e w'=>Stepped k kk ws tb q w e w' (yD yY ⟨op,d,a,b,c,n,kx,xx⟩ h):=by
 have hn:=F.fn.1
 have d0:=H.dn
 have hd:=F.fd.1
 have ha:=F.fa.1
 have hb:=F.fb.1
 have hc:=F.fc.1
 have hdj2:∀ x∈kk.y :: kk.all,x∉k.own:=fun x hx hy=>hdj x hy hx
 have n0:0≤q.done+(n:Int):=by rw[d0];omega
 have n1:q.done+(n:Int)≤9223372036854775807:=by rw[d0];omega
 have e0:=zJr yY ⟨op,d,a,b,c,n,kx,xx⟩ h (by show(48:Int)≤(op:Int);omega) (by show(op:Int)≤60;omega)
 rw[e0] at hns ⊢
 obtain⟨ua,hua⟩:∃ u,h.get (a:Int)=some u:=by
  cases e:h.get (a:Int) with
  | none=>simp[e] at hns
  | some u=>exact⟨u,rfl⟩
 obtain⟨g1a,g2a⟩:=H.r a ua hua
 have bda:=H.rb a ua hua
 obtain⟨ub,hub⟩:∃ u,h.get (b:Int)=some u:=by
  cases e:h.get (b:Int) with
  | none=>simp[e,hua] at hns
  | some u=>exact⟨u,rfl⟩
 obtain⟨g1b,g2b⟩:=H.r b ub hub
 have bdb:=H.rb b ub hub
 obtain⟨uc,huc⟩:∃ u,h.get (c:Int)=some u:=by
  cases e:h.get (c:Int) with
  | none=>simp[e,hua,hub] at hns
  | some u=>exact⟨u,rfl⟩
 obtain⟨g1c,g2c⟩:=H.r c uc huc
 have bdc:=H.rb c uc huc
 have lo0:(rr 7).lo=0:=by decide
 have hi0:(rr 7).hi=12:=by decide
 have V:=fun W=>zGf 7 ((op:Int) - 48) ua ub uc W bda bdb bdc aO (by rw[lo0];omega) (by rw[hi0];omega)
 simp only[hua,hub,huc]
 refine(zA4 k ws tb (.pointer (some ⟨kk.y,0,none⟩)) q _ op d a b c n kx xx w hq (zCq _ aO aO) n0 n1 (fun W hW=>zLN k ws tb (.pointer (some ⟨kk.y,0,none⟩)) q (op:Int) ((op:Int) - 48) aO aO rfl d a b c n kx xx (yY.val 7 ((op:Int) - 48) ua ub uc) W hW hd ha g1a hb g1b hc g1c (fun W2=>by rw[g2a,g2b,g2c];exact(V W2).1))).mono ?_
 rintro r w' ⟨rfl,hq',hc'⟩
 exact⟨rfl,_,hq',hm.keep (vC hc') hdj2,H.put d _ (V w).2,rfl,rfl,hc'.mono (fun x hx=>List.mem_append_left _ hx)⟩
theorem zLG{Mem:Type}(S:Sm Mem)(x:Cd)(h:HS Mem)(l:64≤x.op)(u:x.op≤79):yD S x h=(match h.get x.a with|some a=>.go (h.set x.d (S.val 8 (x.op - 64) a 0 0))|_=>.stuck):=by
 unfold yD;(repeat(first|rw[if_pos aO]|rw[if_neg aO]));(cases h.get x.a<;>cases h.get x.b<;>cases h.get x.c<;>cases h.get x.d<;>rfl)
theorem zOq(k:QB)(kk:Va.RB)(ws tb:Value)(q:HQ)(h:HS Va.MS)(kf op d a b c n kx xx:Nat)(w:World)(F:Fits kf op d a b c n kx xx)(hq:QW w k ws tb (.pointer (some ⟨kk.y,0,none⟩)) q)(hm:Va.RM w kk h.m)(H:uW q h)(hdj:∀ x∈k.own,x∉kk.y :: kk.all)(ho1:64≤op)(ho2:op≤79)(hns:yD yY ⟨op,d,a,b,c,n,kx,xx⟩ h≠.stuck) :
  Calls Try.prog 35 #[.pointer (some ⟨k.h,0,none⟩),.agg (cdC op d a b c n kx xx)] w fun e w'=>Stepped k kk ws tb q w e w' (yD yY ⟨op,d,a,b,c,n,kx,xx⟩ h):=by
 have hn:=F.fn.1
 have d0:=H.dn
 have hd:=F.fd.1
 have ha:=F.fa.1
 have hb:=F.fb.1
 have hc:=F.fc.1
 have hdj2:∀ x∈kk.y :: kk.all,x∉k.own:=fun x hx hy=>hdj x hy hx
 have n0:0≤q.done+(n:Int):=by rw[d0];omega
 have n1:q.done+(n:Int)≤9223372036854775807:=by rw[d0];omega
 have e0:=zLG yY ⟨op,d,a,b,c,n,kx,xx⟩ h (by show(64:Int)≤(op:Int);omega) (by show(op:Int)≤79;omega)
 rw[e0] at hns ⊢
 obtain⟨ua,hua⟩:∃ u,h.get (a:Int)=some u:=by
  cases e:h.get (a:Int) with
  | none=>simp[e] at hns
  | some u=>exact⟨u,rfl⟩
 obtain⟨g1a,g2a⟩:=H.r a ua hua
 have bda:=H.rb a ua hua
 have lo0:(rr 8).lo=0:=by decide
 have hi0:(rr 8).hi=15:=by decide
 have V:=fun W=>zGf 8 ((op:Int) - 64) ua 0 0 W bda aD aD aO (by rw[lo0];omega) (by rw[hi0];omega)
 simp only[hua]
 refine(zA4 k ws tb (.pointer (some ⟨kk.y,0,none⟩)) q _ op d a b c n kx xx w hq (zCq _ aO aO) n0 n1 (fun W hW=>zNN k ws tb (.pointer (some ⟨kk.y,0,none⟩)) q (op:Int) ((op:Int) - 64) aO aO rfl d a b c n kx xx (yY.val 8 ((op:Int) - 64) ua 0 0) W hW hd ha g1a (fun W2=>by rw[g2a];exact(V W2).1))).mono ?_
 rintro r w' ⟨rfl,hq',hc'⟩
 exact⟨rfl,_,hq',hm.keep (vC hc') hdj2,H.put d _ (V w).2,rfl,rfl,hc'.mono (fun x hx=>List.mem_append_left _ hx)⟩
theorem zLH{Mem:Type}(S:Sm Mem)(x:Cd)(h:HS Mem)(l:80≤x.op)(u:x.op≤84):yD S x h=(match h.get x.a with|some a=>if(S.load h.m (x.op - 80) a).2.1=0 then .go (h.set x.d (S.load h.m (x.op - 80) a).1) else .out ⟨2,(S.load h.m (x.op - 80) a).2.1,(S.load h.m (x.op - 80) a).2.2,x.k,x.n⟩ h|none=>.stuck):=by
 unfold yD;(repeat(first|rw[if_pos aO]|rw[if_neg aO]));(cases h.get x.a<;>cases h.get x.b<;>cases h.get x.c<;>cases h.get x.d<;>rfl)
theorem zJs{Mem:Type}(S:Sm Mem)(x:Cd)(h:HS Mem)(l:88≤x.op)(u:x.op≤90):yD S x h=(match h.get x.a,h.get x.d with|some a,some b=>if(S.store h.m (x.op - 88) a b).2.1=0 then .go { h with m:=(S.store h.m (x.op - 88) a b).1 } else .out ⟨2,(S.store h.m (x.op - 88) a b).2.1,(S.store h.m (x.op - 88) a b).2.2,x.k,x.n⟩ { h with m:=(S.store h.m (x.op - 88) a b).1 }|_,_=>.stuck):=by
 unfold yD;(repeat(first|rw[if_pos aO]|rw[if_neg aO]));(cases h.get x.a<;>cases h.get x.b<;>cases h.get x.c<;>cases h.get x.d<;>rfl)
theorem zOr(k:QB)(kk:Va.RB)(ws tb:Value)(q:HQ)(h:HS Va.MS)(kf op d a b c n kx xx:Nat)(w:World)(F:Fits kf op d a b c n kx xx)(hq:QW w k ws tb (.pointer (some ⟨kk.y,0,none⟩)) q)(hm:Va.RM w kk h.m)(H:uW q h)(hdj:∀ x∈k.own,x∉kk.y :: kk.all)(ho1:80≤op)(ho2:op≤84)(hns:yD yY ⟨op,d,a,b,c,n,kx,xx⟩ h≠.stuck) :
  Calls Try.prog 35 #[.pointer (some ⟨k.h,0,none⟩),.agg (cdC op d a b c n kx xx)] w fun e w'=>Stepped k kk ws tb q w e w' (yD yY ⟨op,d,a,b,c,n,kx,xx⟩ h):=by
 have hn:=F.fn.1
 have d0:=H.dn
 have hd:=F.fd.1
 have ha:=F.fa.1
 have hb:=F.fb.1
 have hc:=F.fc.1
 have hdj2:∀ x∈kk.y :: kk.all,x∉k.own:=fun x hx hy=>hdj x hy hx
 have n0:0≤q.done+(n:Int):=by rw[d0];omega
 have n1:q.done+(n:Int)≤9223372036854775807:=by rw[d0];omega
 have e0:=zLH yY ⟨op,d,a,b,c,n,kx,xx⟩ h (by show(80:Int)≤(op:Int);omega) (by show(op:Int)≤84;omega)
 rw[e0] at hns ⊢
 obtain⟨ua,hua⟩:∃ u,h.get (a:Int)=some u:=by
  cases e:h.get (a:Int) with
  | none=>simp[e] at hns
  | some u=>exact⟨u,rfl⟩
 obtain⟨g1a,g2a⟩:=H.r a ua hua
 have bda:=H.rb a ua hua
 simp only[hua]
 have hL:∀ W,Va.RM W kk h.m→Calls Try.prog 28 #[(.pointer (some ⟨kk.y,0,none⟩)),.int .i64 ((op:Int) - 80),.int .u32 (q.reg a)] W fun e w'=>e=.returned (.tuple #[.int .u32 ((Va.zBL h.m ((op:Int) - 80) ua:Nat):Int),.agg (stC (Va.stK 5 (Va.vA h.m 1 ua (Va.zAX ((op:Int) - 80)).toNat)) (((Va.stA (Va.vA h.m 1 ua (Va.zAX ((op:Int) - 80)).toNat)).toNat:Nat):Int))])∧zJ [] W w':=fun W hW=>by
  rw[g2a,zIy]
  refine(Va.zIp kk ua ((op:Int) - 80) h.m W bda H.mo hW aO).mono ?_
  rintro e w' ⟨rfl,hb'⟩
  exact⟨rfl,zJ.bel hb'⟩
 have hP0:∀ W,zJ [] w W→Va.RM W kk h.m:=fun W hW=>hm.keep (vC hW) (fun _ _=>by simp)
 have hPk:∀ W W' T,Va.RM W kk h.m→(∀ x∈T,w.heap.size≤x)→zJ T W W'→Va.RM W' kk h.m:=fun W W' T hW hT hc'=>hW.keep (vC hc') (fun x hx hy=>by have h1:=hm.lt x hx;have h2:=hT x hy;omega)
 by_cases hz:Va.stK 5 (Va.vA h.m 1 ua (Va.zAX ((op:Int) - 80)).toNat)=0
 ·rw[if_pos (show(yY.load h.m ((op:Int) - 80) ua).2.1=0 from hz)]
  refine(zFs k ws tb (.pointer (some ⟨kk.y,0,none⟩)) q { q with reg:=upd q.reg d (Va.zBL h.m ((op:Int) - 80) ua),has:=upd q.has d true } op d a b c n (Va.stK 5 (Va.vA h.m 1 ua (Va.zAX ((op:Int) - 80)).toNat)) kx xx (Va.stA (Va.vA h.m 1 ua (Va.zAX ((op:Int) - 80)).toNat)).toNat [] (fun W=>Va.RM W kk h.m) (fun W=>Va.RM W kk h.m) w hq (zFH _ aO aO) (by simpa using hz) n0 n1 (fun x hx=>by cases hx) hP0 hPk (fun W hs hW hR=>?_)).mono ?_
  ·refine(zNV k ws tb (.pointer (some ⟨kk.y,0,none⟩)) q op ((op:Int) - 80) b c n (Va.stK 5 (Va.vA h.m 1 ua (Va.zAX ((op:Int) - 80)).toNat)) _ d a kx xx (Va.zBL h.m ((op:Int) - 80) ua) (fun W=>Va.RM W kk h.m) W hW ha g1a hd (by simpa using hz) aO (zEE op 80 F.fo aD aD) (fun W' hc'=>hR.keep (vC hc') (fun _ _=>by simp)) hL).mono ?_
   rintro e w' ⟨rfl,hq',hc'⟩
   exact⟨rfl,hq',hR.keep (vC hc') hdj2,hc'.mono (fun x hx=>List.mem_append_left _ hx)⟩
  ·rintro r w' ⟨rfl,hq',hR',hc'⟩
   exact⟨rfl,_,hq',hR',H.put d _ (Va.zKt h.m ((op:Int) - 80) ua H.mo),rfl,rfl,hc'.mono (fun x hx=>by rw[List.append_nil] at hx;exact List.mem_append_left _ hx)⟩
 ·rw[if_neg (show ¬(yY.load h.m ((op:Int) - 80) ua).2.1=0 from hz)]
  refine(zFt k ws tb (.pointer (some ⟨kk.y,0,none⟩)) q q op d a b c n (Va.stK 5 (Va.vA h.m 1 ua (Va.zAX ((op:Int) - 80)).toNat)) kx xx (Va.stA (Va.vA h.m 1 ua (Va.zAX ((op:Int) - 80)).toNat)).toNat [] (fun W=>Va.RM W kk h.m) (fun W=>Va.RM W kk h.m) w hq (zFH _ aO aO) (by simpa using hz) n0 n1 (fun x hx=>by cases hx) hP0 hPk (fun W hs hW hR=>?_)).mono ?_
  ·refine(zNW k ws tb (.pointer (some ⟨kk.y,0,none⟩)) q op ((op:Int) - 80) b c n (Va.stK 5 (Va.vA h.m 1 ua (Va.zAX ((op:Int) - 80)).toNat)) _ d a kx xx (Va.zBL h.m ((op:Int) - 80) ua) (fun W=>Va.RM W kk h.m) W hW ha g1a hd (by simpa using hz) aO (zEE op 80 F.fo aD aD) (fun W' hc'=>hR.keep (vC hc') (fun _ _=>by simp)) hL).mono ?_
   rintro e w' ⟨rfl,hq',hc'⟩
   exact⟨rfl,hq',hR.keep (vC hc') hdj2,hc'.mono (fun x hx=>List.mem_append_left _ hx)⟩
  ·rintro r w' ⟨rfl,hq',hR',hc'⟩
   exact⟨by rw[d0,Int.zero_add];rfl,_,hq',hR',H,hc'.mono (fun x hx=>by rw[List.append_nil] at hx;exact List.mem_append_left _ hx)⟩
theorem zMx(k:QB)(kk:Va.RB)(ws tb:Value)(q:HQ)(h:HS Va.MS)(kf op d a b c n kx xx:Nat)(w:World)(F:Fits kf op d a b c n kx xx)(hq:QW w k ws tb (.pointer (some ⟨kk.y,0,none⟩)) q)(hm:Va.RM w kk h.m)(H:uW q h)(hdj:∀ x∈k.own,x∉kk.y :: kk.all)(ho1:88≤op)(ho2:op≤90)(hns:yD yY ⟨op,d,a,b,c,n,kx,xx⟩ h≠.stuck) :
  Calls Try.prog 35 #[.pointer (some ⟨k.h,0,none⟩),.agg (cdC op d a b c n kx xx)] w fun e w'=>Stepped k kk ws tb q w e w' (yD yY ⟨op,d,a,b,c,n,kx,xx⟩ h):=by
 have hn:=F.fn.1
 have d0:=H.dn
 have hd:=F.fd.1
 have ha:=F.fa.1
 have hb:=F.fb.1
 have hc:=F.fc.1
 have hdj2:∀ x∈kk.y :: kk.all,x∉k.own:=fun x hx hy=>hdj x hy hx
 have n0:0≤q.done+(n:Int):=by rw[d0];omega
 have n1:q.done+(n:Int)≤9223372036854775807:=by rw[d0];omega
 have e0:=zJs yY ⟨op,d,a,b,c,n,kx,xx⟩ h (by show(88:Int)≤(op:Int);omega) (by show(op:Int)≤90;omega)
 rw[e0] at hns ⊢
 obtain⟨ua,hua⟩:∃ u,h.get (a:Int)=some u:=by
  cases e:h.get (a:Int) with
  | none=>simp[e] at hns
  | some u=>exact⟨u,rfl⟩
 obtain⟨g1a,g2a⟩:=H.r a ua hua
 have bda:=H.rb a ua hua
 obtain⟨ud,hud⟩:∃ u,h.get (d:Int)=some u:=by
  cases e:h.get (d:Int) with
  | none=>simp[e,hua] at hns
  | some u=>exact⟨u,rfl⟩
 obtain⟨g1d,g2d⟩:=H.r d ud hud
 have bdd:=H.rb d ud hud
 simp only[hua,hud]
 have hS:∀ W,Va.RM W kk h.m→Calls Try.prog 29 #[(.pointer (some ⟨kk.y,0,none⟩)),.int .i64 ((op:Int) - 88),.int .u32 (q.reg a),.int .u32 (q.reg d)] W fun e w'=>e=.returned (.agg (stC (Va.stK 6 (Va.sto h.m ua (Va.stN ((op:Int) - 88)))) (((Va.stA (Va.sto h.m ua (Va.stN ((op:Int) - 88)))).toNat:Nat):Int)))∧Va.RM w' kk (Va.storeT h.m ua (Va.stN ((op:Int) - 88)) ud)∧zJ kk.all W w':=fun W hW=>by
  rw[g2a,g2d,zIy]
  refine(Va.zIr kk ua ud ((op:Int) - 88) h.m W bda bdd H.mo hW aO).mono ?_
  rintro e w' ⟨rfl,hR',hb'⟩
  exact⟨rfl,hR',zOW hb'⟩
 have hP0:∀ W,zJ [] w W→Va.RM W kk h.m:=fun W hW=>hm.keep (vC hW) (fun _ _=>by simp)
 have hPk:∀ W W' T,Va.RM W kk (Va.storeT h.m ua (Va.stN ((op:Int) - 88)) ud)→(∀ x∈T,w.heap.size≤x)→zJ T W W'→Va.RM W' kk (Va.storeT h.m ua (Va.stN ((op:Int) - 88)) ud):=fun W W' T hW hT hc'=>hW.keep (vC hc') (fun x hx hy=>by have h1:=hm.lt x hx;have h2:=hT x hy;omega)
 have hSn:∀ x∈kk.all,x < w.heap.size:=fun x hx=>hm.lt x (aM _ hx)
 have hmem:∀ W,w.heap.size≤W.heap.size→QW W k ws tb (.pointer (some ⟨kk.y,0,none⟩)) q→Va.RM W kk h.m→Calls Try.prog 65 #[.pointer (some ⟨k.h,0,none⟩),.agg (cdC op d a b c n kx xx)] W fun e w'=>e=.returned (.agg (stC (Va.stK 6 (Va.sto h.m ua (Va.stN ((op:Int) - 88)))) (((Va.stA (Va.sto h.m ua (Va.stN ((op:Int) - 88)))).toNat:Nat):Int)))∧QW w' k ws tb (.pointer (some ⟨kk.y,0,none⟩)) q∧Va.RM w' kk (Va.storeT h.m ua (Va.stN ((op:Int) - 88)) ud)∧zJ (k.own++kk.all) W w':=fun W hs hW hR=>by
  refine(zJA k ws tb (.pointer (some ⟨kk.y,0,none⟩)) q op ((op:Int) - 88) b c n (Va.stK 6 (Va.sto h.m ua (Va.stN ((op:Int) - 88)))) _ d a kx xx kk.all (fun W=>Va.RM W kk h.m) (fun W=>Va.RM W kk (Va.storeT h.m ua (Va.stN ((op:Int) - 88)) ud)) W hW ha g1a hd g1d H.st aO (zEE op 88 F.fo aD aD) (fun x hx hy=>hdj x hx (aM _ hy)) (fun x hx=>Nat.lt_of_lt_of_le (hSn x hx) hs) (fun W' hc'=>hR.keep (vC hc') (fun _ _=>by simp)) (fun W1 W2 x h1 h2 h3=>h1.keep (vC h3) (fun y hy hz=>by rw[List.mem_singleton] at hz;have:=hR.lt y hy;omega)) hS).mono ?_
  rintro e w' ⟨rfl,hq',hR',hc'⟩
  exact⟨rfl,hq',hR',hc'.mono (fun x hx=>List.mem_append_right _ hx)⟩
 have hok:(Va.storeT h.m ua (Va.stN ((op:Int) - 88)) ud).Ok:=Va.zFn H.mo _ _ _
 by_cases hz:Va.stK 6 (Va.sto h.m ua (Va.stN ((op:Int) - 88)))=0
 ·rw[if_pos (show(yY.store h.m ((op:Int) - 88) ua ud).2.1=0 from hz)]
  refine(zFs k ws tb (.pointer (some ⟨kk.y,0,none⟩)) q q op d a b c n (Va.stK 6 (Va.sto h.m ua (Va.stN ((op:Int) - 88)))) kx xx (Va.stA (Va.sto h.m ua (Va.stN ((op:Int) - 88)))).toNat kk.all (fun W=>Va.RM W kk h.m) (fun W=>Va.RM W kk (Va.storeT h.m ua (Va.stN ((op:Int) - 88)) ud)) w hq (zFH _ aO aO) (by simpa using hz) n0 n1 hSn hP0 hPk hmem).mono ?_
  rintro r w' ⟨rfl,hq',hR',hc'⟩
  exact⟨rfl,_,hq',hR',H.mem hok,rfl,rfl,hc'⟩
 ·rw[if_neg (show ¬(yY.store h.m ((op:Int) - 88) ua ud).2.1=0 from hz)]
  refine(zFt k ws tb (.pointer (some ⟨kk.y,0,none⟩)) q q op d a b c n (Va.stK 6 (Va.sto h.m ua (Va.stN ((op:Int) - 88)))) kx xx (Va.stA (Va.sto h.m ua (Va.stN ((op:Int) - 88)))).toNat kk.all (fun W=>Va.RM W kk h.m) (fun W=>Va.RM W kk (Va.storeT h.m ua (Va.stN ((op:Int) - 88)) ud)) w hq (zFH _ aO aO) (by simpa using hz) n0 n1 hSn hP0 hPk hmem).mono ?_
  rintro r w' ⟨rfl,hq',hR',hc'⟩
  exact⟨by rw[d0,Int.zero_add];rfl,_,hq',hR',H.mem hok,hc'⟩
end Go.Proofs.Ytkmjenjahbicpaa.Ho
namespace Go.Proofs.Ytkmjenjahbicpaa.Va
open Go.RowKit
set_option maxRecDepth 100000
theorem zJD(count:Int)(n:Nat)(f:Nat→zL)(i:Nat)(h:uQ count n f i=0)(h9:(f i).kind=9):(f i).a < i:=by
 unfold uQ at h
 by_cases e1:eOp (f i)=true
 ·rw[if_pos e1] at h;omega
 rw[if_neg e1] at h
 by_cases e2:zG (flT (f i).kind.toNat) (f i) count=true
 ·rw[if_pos e2] at h;omega
 rw[if_neg e2] at h
 by_cases e3:zK (flT (f i).kind.toNat) (f i) f i=true
 ·rw[if_pos e3] at h;omega
 have hx:(flT (f i).kind.toNat).ha=true:=by rw[h9];rfl
 generalize flT (f i).kind.toNat=x at e3 hx
 simp only[zK,tk,gvn,hx,Bool.true_and,Bool.or_eq_true,Bool.not_eq_true',Bool.and_eq_false_iff,decide_eq_false_iff_not,not_or,Classical.not_not,Bool.not_eq_false] at e3
 have:=e3.1.1.1
 omega
theorem zHl(count bytes:Int)(n:Nat)(f:Nat→zL)(h:(yH count bytes n f).1=0):∀ j,j < n→(f j).kind=9→(f j).a < j:=by
 unfold yH at h
 by_cases e:2048 < n
 ·rw[if_pos e] at h;simp at h
 rw[if_neg e] at h
 by_cases e2:(0≤count∧count≤64)∧(0≤bytes∧bytes≤384)
 ·rw[if_pos e2] at h
  have:=zFX count n f n 0 aO h
  exact fun j hj=>zJD count n f j (this.1 j aO hj)
 ·rw[if_neg e2] at h;simp at h
end Go.Proofs.Ytkmjenjahbicpaa.Va
