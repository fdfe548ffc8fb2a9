import Derived.Test.YtfokgedjocnnmaaGreatJ01
import Derived.Test.YtfokgedjocnnmaaGreatJ03
import Derived.Test.YtfokgedjocnnmaaGreatJ09
import Derived.Test.YtfokgedjocnnmaaGreatJ07
import Derived.Test.YtfokgedjocnnmaaGreatJ04
import Derived.Test.YtfokgedjocnnmaaGreatJ10
import Derived.Deep.CutBlock
set_option linter.unusedVariables false
set_option linter.unusedSimpArgs false
set_option maxHeartbeats 1000000
namespace Go.Proofs.YtfokgedjocnnmaaGreat
open Go.RowKit
set_option maxRecDepth 100000
structure GS where
  R:Nat→Nat
  pc:Nat
  f:Nat
structure GS.Ok(s:GS):Prop where
  r:∀ i,s.R i < 4294967296
  p:s.pc < 4294967296
  f:s.f < 4294967296
def GS.setR(s:GS)(d v:Nat):GS:={ s with R:=upd s.R d v }
def GS.setPC(s:GS)(v:Nat):GS:={ s with pc:=v }
def GS.setF(s:GS)(v:Nat):GS:={ s with f:=v }
theorem GS.Ok.setR{s:GS}(h:s.Ok)(d v:Nat)(hv:v < 4294967296):(s.setR d v).Ok:=
  ⟨fun i=>by show upd s.R d v i < _;unfold upd;split;exact hv;exact h.r i,h.p,h.f⟩
theorem GS.Ok.setPC{s:GS}(h:s.Ok)(v:Nat)(hv:v < 4294967296):(s.setPC v).Ok:=⟨h.r,hv,h.f⟩
theorem GS.Ok.setF{s:GS}(h:s.Ok)(v:Nat)(hv:v < 4294967296):(s.setF v).Ok:=⟨h.r,h.p,hv⟩
abbrev gsC(s:GS):Array Value:=#[.int .u32 (s.R 0),.int .u32 (s.R 1),.int .u32 (s.R 2),.int .u32 (s.R 3),.int .u32 (s.R 4),.int .u32 (s.R 5),.int .u32 (s.R 6),.int .u32 (s.R 7),.int .u32 s.pc,.int .u32 s.f]
abbrev gsV(s:GS):Value:=.agg (gsC s)
abbrev tSt:TypeId:=77
abbrev tStop:TypeId:=36
abbrev gsB(s:GS):Obj:=.cells (gsC s) tSt
abbrev stopB(k a:Int):Obj:=.cells #[.int .i64 k,.int .u32 a] tStop
theorem gs_reg{w:World}{X:Nat}{s:GS}(h:w.heap[X]?=some (gsB s))(d:Nat)(hd:d < 8):w.cell? ⟨X,d,none⟩=some (.int .u32 (s.R d)):=by
  rw[cell_of_row _ _ d _ _ (0,0) h]
  match d,hd with
  | 0,_=>rfl
  | 1,_=>rfl
  | 2,_=>rfl
  | 3,_=>rfl
  | 4,_=>rfl
  | 5,_=>rfl
  | 6,_=>rfl
  | 7,_=>rfl
  | n+8,h=>omega
theorem gs_pc{w:World}{X:Nat}{s:GS}(h:w.heap[X]?=some (gsB s)):w.cell? ⟨X,8,none⟩=some (.int .u32 s.pc):=cell_of_row _ _ 8 _ _ (0,0) h
theorem gs_f{w:World}{X:Nat}{s:GS}(h:w.heap[X]?=some (gsB s)):w.cell? ⟨X,9,none⟩=some (.int .u32 s.f):=cell_of_row _ _ 9 _ _ (0,0) h
theorem gs_fr{w:World}{X:Nat}{s:GS}(h:w.heap[X]?=some (gsB s))(o:Nat):w.frozen? ⟨X,o,none⟩=false:=frozen_of_row _ _ o _ _ h
theorem gs_setR{w:World}{X:Nat}{s:GS}(h:w.heap[X]?=some (gsB s))(d:Nat)(hd:d < 8)(v:Int)(hv:0≤v):(w.setCell ⟨X,d,none⟩ (.int .u32 v)).heap[X]?=some (gsB (s.setR d v.toNat)):=by
  rw[heap_setCell_same w X d _ _ _ h]
  have e:((v.toNat:Nat):Int)=v:=zo
  match d,hd with
  | 0,_=>simp[gsB,gsC,GS.setR,upd,e]
  | 1,_=>simp[gsB,gsC,GS.setR,upd,e]
  | 2,_=>simp[gsB,gsC,GS.setR,upd,e]
  | 3,_=>simp[gsB,gsC,GS.setR,upd,e]
  | 4,_=>simp[gsB,gsC,GS.setR,upd,e]
  | 5,_=>simp[gsB,gsC,GS.setR,upd,e]
  | 6,_=>simp[gsB,gsC,GS.setR,upd,e]
  | 7,_=>simp[gsB,gsC,GS.setR,upd,e]
  | n+8,h=>omega
theorem gs_setPC{w:World}{X:Nat}{s:GS}(h:w.heap[X]?=some (gsB s))(v:Int)(hv:0≤v):(w.setCell ⟨X,8,none⟩ (.int .u32 v)).heap[X]?=some (gsB (s.setPC v.toNat)):=by
  rw[heap_setCell_same w X 8 _ _ _ h]
  have e:((v.toNat:Nat):Int)=v:=zo
  simp[gsB,gsC,GS.setPC,e]
theorem gs_setF{w:World}{X:Nat}{s:GS}(h:w.heap[X]?=some (gsB s))(v:Int)(hv:0≤v):(w.setCell ⟨X,9,none⟩ (.int .u32 v)).heap[X]?=some (gsB (s.setF v.toNat)):=by
  rw[heap_setCell_same w X 9 _ _ _ h]
  have e:((v.toNat:Nat):Int)=v:=zo
  simp[gsB,gsC,GS.setF,e]
theorem stop_cells{w:World}{X:Nat}{k a:Int}(h:w.heap[X]?=some (stopB k a)):w.cell? ⟨X,0,none⟩=some (.int .i64 k)∧w.cell? ⟨X,1,none⟩=some (.int .u32 a)∧w.frozen? ⟨X,0,none⟩=false∧w.frozen? ⟨X,1,none⟩=false:=
  ⟨cell_of_row _ _ 0 _ _ (0,0) h,cell_of_row _ _ 1 _ _ (0,0) h,frozen_of_row _ _ 0 _ _ h,frozen_of_row _ _ 1 _ _ h⟩
theorem stop_set{w:World}{X:Nat}{k a:Int}(h:w.heap[X]?=some (stopB k a))(k' a':Int):((w.setCell ⟨X,0,none⟩ (.int .i64 k')).setCell ⟨X,1,none⟩ (.int .u32 a')).heap[X]?=some (stopB k' a'):=by
  have h1:(w.setCell ⟨X,0,none⟩ (.int .i64 k')).heap[X]?=some (stopB k' a):=heap_setCell_same w X 0 _ _ _ h
  exact heap_setCell_same _ X 1 _ _ _ h1
structure IR where
  op:Int
  D:Nat
  S:Nat
  O:Int
  imm:Nat
  n:Nat
  k:Int
  a:Int
abbrev insV(i:IR):Value:=.tuple #[.agg #[.int .i64 i.op,.int .i64 i.D,.int .i64 i.S,.int .i64 i.O,.int .u32 i.imm],.int .i64 i.n,.agg #[.int .i64 i.k,.int .u32 i.a]]
def byL(s:MS)(pc n:Nat):List Int:=(List.range n).map fun i=>s.B (pc+i)
def insOf(s:MS)(pc:Nat):IR:=
  match badN s 4 pc 1 with
  | some x=>⟨0,0,0,0,0,0,4,x⟩
  | none=>
    match fet s pc (Gu.sizeF (s.B pc)) with
    | some x=>⟨0,0,0,0,0,0,4,x⟩
    | none=>
      let r:=Gu.refDec (byL s pc (fetM s pc (Gu.sizeF (s.B pc)))) (fetM s pc (Gu.sizeF (s.B pc)))
      if r.e=0 then⟨r.op,r.D.toNat,r.S.toNat,r.O,r.imm.toNat,r.n.toNat,0,0⟩ else⟨0,0,0,0,0,0,3,0⟩
def w32(x:Int):Nat:=(x%4294967296).toNat
theorem w32_lt(x:Int):w32 x < 4294967296:=by unfold w32;omega
theorem w32_cast(x:Int):((w32 x:Nat):Int)=x%4294967296:=by unfold w32;omega
structure SO where
  t:GS
  k:Int
  a:Int
  m:MS
def ldN(m:MS)(a:Nat)(n:Int):Nat:=(ldX m a n).toNat
def ldG(m:MS)(s:GS)(a:Nat)(n:Int)(g:Nat→GS):SO:=
  match badN m 1 a n.toNat with
  | some x=>⟨s,5,x,m⟩
  | none=>⟨g (ldN m a n),0,0,m⟩
def stG(m:MS)(s:GS)(a:Nat)(n:Int)(v:Nat)(t:GS):SO:=
  match sto m a n with
  | some x=>⟨s,6,x,m⟩
  | none=>⟨t,0,0,storeT m a n v⟩
def sx(O:Int)(v:Nat):Nat:=if O=1∧128≤v then v+4294967040 else if O=3∧32768≤v then v+4294901760 else v
def ldW(O:Int):Int:=if O=0 then 1 else if O=1 then 1 else if O=2 then 2 else if O=3 then 2 else 4
def stW(O:Int):Int:=if O=0 then 1 else if O=1 then 2 else 4
def swT(i:IR)(s t:GS)(v:Nat):GS:=
  if i.op=24 then t.setR i.D v
  else if i.op=25 then(t.setR i.D v).setF (Fl.flagsF 1 v (s.R i.D) s.f).toNat
  else if v=s.R 0 then t.setF (Fl.flagsF 3 (s.R 0) v s.f).toNat else(t.setF (Fl.flagsF 3 (s.R 0) v s.f).toNat).setR 0 v
def swV(i:IR)(s:GS)(v:Nat):Nat:=
  if i.op=24 then s.R i.D else if i.op=25 then w32 ((v:Int)+s.R i.D) else if v=s.R 0 then s.R i.D else v
def swG(m:MS)(i:IR)(s t:GS)(at' v:Nat):SO:=stG m s at' 4 (swV i s v) (swT i s t v)
def memF(m:MS)(i:IR)(s t:GS)(at':Nat):SO:=
  let down:=w32 ((s.R 7:Int) - 4)
  let up:=w32 ((s.R 7:Int)+4)
  if i.op=11 then ldG m s at' 4 fun v=>t.setPC v
  else if i.op=14 then stG m s down 4 (s.R i.S) (t.setR 7 down)
  else if i.op=3 then stG m s down 4 s.f (t.setR 7 down)
  else if i.op=8 then stG m s down 4 t.pc ((t.setR 7 down).setPC (w32 ((t.pc:Int)+i.imm)))
  else if i.op=10 then stG m s down 4 t.pc ((t.setR 7 down).setPC (s.R i.S))
  else if i.op=15 then ldG m s (s.R 7) 4 fun v=>(t.setR 7 up).setR i.D v
  else if i.op=4 then ldG m s (s.R 7) 4 fun v=>(t.setR 7 up).setF (v%16)
  else if i.op=2 then ldG m s (s.R 7) 4 fun v=>(t.setR 7 up).setPC v
  else if i.op=30 then ldG m s at' (ldW i.O) fun v=>t.setR i.D (sx i.O v)
  else if i.op=31 then stG m s at' (stW i.O) (s.R i.D) t
  else match badN m 1 at' 4 with
    | some x=>⟨s,5,x,m⟩
    | none=>swG m i s t at' (ldN m at' 4)
def stepF(m:MS)(s0:GS):SO:=
  let s:=s0.setF (s0.f%16)
  let i:=insOf m s.pc
  if i.k≠0 then⟨s,i.k,i.a,m⟩ else
  let next:=w32 ((s.pc:Int)+i.n)
  let t:=s.setPC next
  let mine:=s.R i.D
  let other:=s.R i.S
  let at':=w32 ((other:Int)+i.imm)
  if i.op=1 then⟨s,2,0,m⟩
  else if i.op=5 then⟨t,1,i.imm,m⟩
  else if i.op=6∨i.op=7 then⟨t.setPC (w32 ((next:Int)+i.imm)),0,0,m⟩
  else if i.op=12∨i.op=13 then⟨if Fl.holdsF i.O s.f then t.setPC (w32 ((next:Int)+i.imm)) else t,0,0,m⟩
  else if i.op=9 then⟨t.setPC other,0,0,m⟩
  else if i.op=16 then⟨t.setR i.D i.imm,0,0,m⟩
  else if i.op=22 then⟨t.setR i.D other,0,0,m⟩
  else if i.op=23 then⟨t.setR i.D at',0,0,m⟩
  else if i.op=20 then⟨t.setR i.D (w32 (4294967295 - mine)),0,0,m⟩
  else if i.op=17 then⟨(t.setR i.D (w32 ((mine:Int)+1))).setF (Fl.flagsF 11 mine 0 s.f).toNat,0,0,m⟩
  else if i.op=18 then⟨(t.setR i.D (w32 ((mine:Int) - 1))).setF (Fl.flagsF 12 mine 0 s.f).toNat,0,0,m⟩
  else if i.op=19 then⟨(t.setR i.D (w32 (0 - mine))).setF (Fl.flagsF 3 0 mine s.f).toNat,0,0,m⟩
  else if i.op=21 then⟨t.setR i.D (if Fl.holdsF i.O s.f then 1 else 0),0,0,m⟩
  else if i.op=27∨i.op=28∨i.op=29 then
    let b:=if i.op=27 then other else i.imm
    if Fl.recOk i.O b then⟨(t.setR i.D (Fl.recX i.O mine b s.f).toNat).setF (Fl.recFl i.O mine b s.f).toNat,0,0,m⟩ else⟨s,7,0,m⟩
  else if i.op=0 then⟨t,0,0,m⟩
  else memF m i s t at'
theorem rfetch_cap(k:RB)(a n:Nat)(s:MS)(w:World)(h0:0 < n)(h8:n≤8)(ha:a < 4294967296)(hs:s.Ok)(h:RM w k s)(hb:badN s 4 a n=none) :
    Calls Tryz.prog 57 #[.pointer (some ⟨k.y,0,none⟩),.int .u32 a,.int .i64 n] w fun e w'=>∃ p c,e=.returned (.tuple #[.slice p n c,goV])∧Out w w' p n (fun i=>s.B (a+i))∧n≤c∧c≤maxLen:=by
  have d:decide ((n:Int) < 0)=false:=decide_eq_false zo
  have d2:decide (8 < (n:Int))=false:=decide_eq_false zo
  have d3:decide (8 < n)=false:=decide_eq_false zo
  have dn:((n:Int)==0)=false:=by simp;omega
  have dn':(n==0)=false:=by simp;omega
  have hl:=badN_lt hb h0
  have ha0:(0:Int)≤a:=zo
  have ha1:(a:Int) < 4294967296:=zo
  have hn0:(0:Int)≤n:=zo
  have hcb:=k.hcb
  have hs1:(a:Int)+n≤65536:=zo
  have hs2:(a:Int)+n≤(k.cb:Int):=zo
  have hne:¬k.cb=a:=zo
  have hw1:IntKind.i64.wrap (a:Int)=a:=by rw[IntKind.wrap_i64];omega
  have hw2:IntKind.i64.wrap ((a:Int)+n)=(a:Int)+n:=by rw[IntKind.wrap_i64];omega
  have hs0:(0:Int)≤(a:Int)+n:=zo
  have ht:((a:Int)+n).toNat=a+n:=zo
  have HP:Hid (RM w k s):=h
  have HB:Hid (badN s 4 a (n:Int).toNat=none):=hb
  have HN0:Hid (0 < n∧n≤8∧a+n≤65536):=⟨h0,h8,hl⟩
  clear h hb hl
  go_enter Tryz.func57,Tryz.ntmps57
  go_wp2_with (go_at_call 82;refine(use_ok k a n 4 4 s _ ha (.inr (.inr rfl)) hs (HP.out.alloc _) HB.out).mono ?_;rintro e w' ⟨rfl,hBl⟩;obtain⟨q0,q1,q2,q3⟩:=own2 hBl;have HBl:Hid _:=hBl;have hR:RM w' k s:=(HP.out.alloc _).below hBl (Nat.le_refl _);have hlty:=hR.lty;have c0:=hR.c0;have HR:Hid (RM w' k s):=hR;clear hBl hR)
  have HT:TwinPre (w'.alloc (.cells #[.int .i64 0,.int .u32 0] 36)).drew ⟨k.b,a,none⟩ n (fun i=>s.B (a+i)):=
    ⟨fun j u hv=>by obtain⟨hj,rfl⟩:=byteCs_at _ _ _ _ hv;rw[Addr.add_mid];exact((HR.out.alloc _).drew).by_ _ (by have:=HN0.out;omega),HN0.out.1,by have:=HN0.out;omega⟩
  have HH:Hid ((w'.alloc (.cells #[.int .i64 0,.int .u32 0] 36)).drew.heap.size=w'.heap.size+1):=show(w'.alloc _).heap.size=_ by simp
  go_region_law (refine step_twin rfl (.const (.slice none 0 0)) (.tmp 37) rfl rfl ⟨k.b,a,none⟩ _ n _ rfl zo (fun i=>s.B (a+i)) HT (w'.heap.size+1) HH.out ?_;intro cap2 w2 hN2 hB2 hlt2 hc2 hc3;obtain⟨r0,r1,rf,s0,s1,lt2,bel2⟩:=behind HBl.out hB2)
  all_goals
    have HN2:Hid (NR w2 (w'.heap.size+1) n (fun i=>s.B (a+i))):=hN2
    have HB2:Hid (Below w.heap.size w w2):=bel2
    have HC2:Hid (n≤cap2∧cap2≤maxLen):=⟨hc2,hc3⟩
    clear hN2 hB2 bel2 hlt2 hc2 hc3 HT
    go_wp2
    refine bodyPost_ret (v:=.tuple #[.slice (some ⟨w'.heap.size+1,0,none⟩) n cap2,goV]) (by simp[results,Tryz.results57,go_sem,r0,r1]) rfl ⟨_,cap2,rfl,⟨(HB2.out.setCell (Nat.le_refl _) _).setCell (Nat.le_refl _) _,fun _=>⟨_,rfl,by omega,HN2.out.of_block ?_⟩⟩,HC2.out.1,HC2.out.2⟩
    rw[Below.heap_setCell _ _ _ _ (show w'.heap.size+1≠w.heap.size by omega),Below.heap_setCell _ _ _ _ (show w'.heap.size+1≠w.heap.size by omega)]
theorem rfetch_c(k:RB)(a:Nat)(n:Int)(s:MS)(w:World)(ha:a < 4294967296)(hs:s.Ok)(h:RM w k s)(hf:fet s a n=none) :
    Calls Tryz.prog 57 #[.pointer (some ⟨k.y,0,none⟩),.int .u32 a,.int .i64 n] w fun e w'=>∃ p c,e=.returned (.tuple #[.slice p (fetM s a n) c,.agg #[.int .i64 0,.int .u32 0]])∧Out w w' p (fetM s a n) (fun i=>s.B (a+i))∧(0 < fetM s a n→fetM s a n≤c∧c≤maxLen):=by
  by_cases hw:0 < n∧n≤8
  · have hb:badN s 4 a n.toNat=none:=by rw[← hf];exact(if_pos hw).symm
    have e:fetM s a n=n.toNat:=if_pos ⟨hw,hb⟩
    rw[e]
    obtain⟨m,rfl⟩:∃ m:Nat,n=m:=⟨n.toNat,by omega⟩
    exact(rfetch_cap k a m s w zo zo ha hs h hb).mono fun e w' ⟨p,c,he,hO,h1,h2⟩=>⟨p,c,he,hO,fun _=>⟨h1,h2⟩⟩
  · have e:fetM s a n=0:=if_neg (fun h=>hw h.1)
    refine(rfetch_tot k a n s w ha hs h).mono fun e' w' ⟨p,c,he,hr,hb⟩=>⟨p,c,?_,⟨hb,fun h0=>?_⟩,fun h0=>?_⟩
    · rw[he,hf];rfl
    · rw[e] at h0;omega
    · rw[e] at h0;omega
theorem byL_bd{s:MS}(hs:s.Ok)(pc n i:Nat):0≤(byL s pc n).getD i 0∧(byL s pc n).getD i 0≤255:=by
  unfold byL
  rw[List.getD_eq_getElem?_getD,List.getElem?_map]
  cases h:(List.range n)[i]? with
  | none=>simp
  | some j=>simpa using hs.by_ (pc+j)
theorem byL_at(s:MS)(pc n i:Nat)(h:i < n):(byL s pc n).getD i 0=s.B (pc+i):=by
  unfold byL;simp[List.getD_eq_getElem?_getD,h]
structure DOk(r:Gu.DecR):Prop where
  op0:0≤r.op
  op1:r.op≤31
  D0:0≤r.D
  D1:r.D≤7
  S0:0≤r.S
  S1:r.S≤7
  im0:0≤r.imm
  im1:r.imm < 4294967296
  n0:1≤r.n
  n1:r.n≤9
  O0:0≤r.O
  O1:r.O≤15
  ld:r.op=30→r.O≤4
  st:r.op=31→r.O≤2
structure StOk(st:Gu.St):Prop where
  D0:0≤st.D
  S0:0≤st.S
  O0:0≤st.O
  O1:st.O≤15
  i0:0≤st.imm
  i1:st.imm < 4294967296
theorem stp_ok{zs:List Int}(hz:∀ i,0≤zs.getD i 0∧zs.getD i 0≤255){st:Gu.St}(h:StOk st)(c:Int):StOk (Gu.stp zs st c):=by
  have h0:=hz st.at'
  have h1:=hz (st.at'+1)
  have h2:=hz (st.at'+2)
  have h3:=hz (st.at'+3)
  obtain⟨a1,a2,a3,a4,a5,a6⟩:=h
  unfold Gu.stp
  simp only
  split
  · exact⟨a1,a2,a3,a4,h0.1,by show zs.getD st.at' 0 < _;omega⟩
  split
  · refine⟨a1,a2,a3,a4,?_,?_⟩
    · show 0≤ite _ _ _;split<;>omega
    · show ite _ _ _ < _;split<;>omega
  split
  · refine⟨a1,a2,a3,a4,?_,?_⟩
    · show(0:Int)≤_+_+_+_;omega
    · show(_+_+_+_:Int) < _;omega
  split
  · exact⟨h0.1,a2,a3,a4,a5,a6⟩
  split
  · exact⟨a1,h0.1,a3,a4,a5,a6⟩
  split
  · exact⟨by show 0≤_ / _;omega,by show 0≤_%_;omega,a3,a4,a5,a6⟩
  split
  · exact⟨by show 0≤_%_;omega,a2,by show 0≤_ / _;omega,by show _ / _≤_;omega,a5,a6⟩
  · exact⟨a1,a2,a3,a4,a5,a6⟩
theorem fold_ok{zs:List Int}(hz:∀ i,0≤zs.getD i 0∧zs.getD i 0≤255):∀ (l:List Int) (st:Gu.St),StOk st→StOk (l.foldl (Gu.stp zs) st)
  | [],_,h=>h
  | c :: l,st,h=>fold_ok hz l _ (stp_ok hz h c)
theorem fit_of_hit{x:Int}{k:Nat}(h:Gu.hitF x=some k):Gu.formI k 0≤x∧x < Gu.formI k 0+Gu.formI k 1:=by
  have:=List.find?_some h
  simpa[Gu.fitF] using this
theorem form_num:∀ k:_root_.Fin 32,Gu.formI k.val 1≤16∧(k.val=30→Gu.formI k.val 1≤5)∧(k.val=31→Gu.formI k.val 1≤3)∧(k.val=30∨k.val=31→Gu.formS k.val 2=⟨#[79]⟩∧∀ c∈Gu.formB k.val,c≠99):=by decide +kernel
theorem st0_ok{k:Nat}{y:Int}(h:Gu.hitF y=some k):StOk (Gu.st0 k y):=by
  have hk:=Gu.hitF_lt h
  have hf:=fit_of_hit h
  have hn:=(form_num ⟨k,hk⟩).1
  simp only at hn
  unfold Gu.st0
  simp only
  split
  · exact⟨by show 0≤_ - _;omega,by show(0:Int)≤0;omega,by show(0:Int)≤0;omega,by show(0:Int)≤15;omega,by show(0:Int)≤0;omega,by show(0:Int) < _;omega⟩
  split
  · exact⟨by show(0:Int)≤0;omega,by show 0≤_ - _;omega,by show(0:Int)≤0;omega,by show(0:Int)≤15;omega,by show(0:Int)≤0;omega,by show(0:Int) < _;omega⟩
  split
  · exact⟨by show(0:Int)≤0;omega,by show(0:Int)≤0;omega,by show 0≤_ - _;omega,by show _ - _≤(15:Int);omega,by show(0:Int)≤0;omega,by show(0:Int) < _;omega⟩
  · exact⟨by show(0:Int)≤0;omega,by show(0:Int)≤0;omega,by show(0:Int)≤0;omega,by show(0:Int)≤15;omega,by show(0:Int)≤0;omega,by show(0:Int) < _;omega⟩
theorem fold_O{zs:List Int}:∀ (l:List Int) (st:Gu.St),(∀ c∈l,c≠99)→(l.foldl (Gu.stp zs) st).O=st.O
  | [],_,_=>rfl
  | c :: l,st,h=>by
    rw[List.foldl_cons,fold_O l _ (fun d hd=>h d (List.mem_cons_of_mem _ hd))]
    have hc:=h c (List.mem_cons_self ..)
    unfold Gu.stp
    simp only
    split
    · rfl
    split
    · rfl
    split
    · rfl
    split
    · rfl
    split
    · rfl
    split
    · rfl
    first
      | rfl
      | (split
         · rename_i h9;exact absurd h9 hc
         · rfl)
theorem dec_ok_bd{zs:List Int}(len:Nat)(hz:∀ i,0≤zs.getD i 0∧zs.getD i 0≤255)(he:(Gu.refDec zs len).e=0):DOk (Gu.refDec zs len):=by
  unfold Gu.refDec at he ⊢
  by_cases hl:len=0
  · rw[if_pos hl] at he;exact absurd he (by decide)
  rw[if_neg hl] at he ⊢
  cases hk:Gu.hitF (zs.getD 0 0) with
  | none=>rw[hk] at he;exact absurd (show(2:Int)=0 from he) (by decide)
  | some k=>
    rw[hk] at he
    simp only at he ⊢
    split at he
    · exact absurd he (by decide)
    rename_i h1
    rw[if_neg h1]
    split at he
    · exact absurd he (by decide)
    rename_i h2
    rw[if_neg h2]
    have hlt:=Gu.hitF_lt hk
    have hs:=fold_ok hz (Gu.formB k) _ (st0_ok hk)
    have hb:=Gu.szL_bd (Gu.formB k)
    have hn:=Gu.formB_len ⟨k,hlt⟩
    have hfit:=fit_of_hit hk
    obtain⟨g1,g2,g3,g4⟩:=form_num ⟨k,hlt⟩
    simp only at hn g1 g2 g3 g4
    have hO:k=30∨k=31→(Gu.stF zs k).O=zs.getD 0 0 - Gu.formI k 0:=fun h=>by
      unfold Gu.stF
      rw[fold_O _ _ (g4 h).2,Gu.st0_O _ (g4 h).1]
    have hD:0≤(Gu.stF zs k).D:=hs.D0
    have hS:0≤(Gu.stF zs k).S:=hs.S0
    refine⟨by show(0:Int)≤k;omega,by show(k:Int)≤31;omega,hD,by show(Gu.stF zs k).D≤7;omega,hS,by show(Gu.stF zs k).S≤7;omega,hs.i0,hs.i1,by show 1≤1+_;omega,by show 1+_≤(9:Int);omega,hs.O0,hs.O1,fun h=>?_,fun h=>?_⟩
    · have h':(k:Int)=30:=h
      have e:=hO (.inl zo)
      have:=g2 zo
      show(Gu.stF zs k).O≤4
      omega
    · have h':(k:Int)=31:=h
      have e:=hO (.inr zo)
      have:=g3 zo
      show(Gu.stF zs k).O≤2
      omega
theorem rdec_f{s:MS}(hs:s.Ok)(pc m c:Nat)(p:Option Addr)(w:World)(hp:0 < m→∃ H,p=some ⟨H,0,none⟩∧NR w H m (fun i=>s.B (pc+i)))(hc:0 < m→m≤c∧c≤maxLen) :
    Calls Tryz.prog 59 #[.slice p m c] w fun e w'=>e=.returned (Gu.decV (Gu.refDec (byL s pc m) m))∧Below w.heap.size w w':=by
  by_cases h:0 < m
  · obtain⟨H,rfl,hN⟩:=hp h
    have hcap:=hc h
    refine Gu.redec_any H 0 m c (byL s pc m) w ⟨hcap.1,hcap.2,fun i hi=>?_,byL_bd hs pc m,?_⟩ h
    · rw[Nat.zero_add,byL_at _ _ _ _ hi];exact hN.cell i hi
    · exact lt_of_cell (hN.cell 0 h)
  · have:m=0:=zo
    subst this
    exact Gu.redec_nil p c (byL s pc 0) w
theorem rfetch_b(k:RB)(a x:Nat)(n:Int)(s:MS)(w:World)(ha:a < 4294967296)(hs:s.Ok)(h:RM w k s)(hf:fet s a n=some x) :
    Calls Tryz.prog 57 #[.pointer (some ⟨k.y,0,none⟩),.int .u32 a,.int .i64 n] w fun e w'=>∃ p c,e=.returned (.tuple #[.slice p (fetM s a n) c,.agg #[.int .i64 4,.int .u32 x]])∧Below w.heap.size w w':=by
  refine(rfetch_tot k a n s w ha hs h).mono fun e w' ⟨p,c,he,_,hb⟩=>⟨p,c,?_,hb⟩
  rw[he,hf];rfl
theorem rfetch_g(k:RB)(a:Nat)(n:Int)(s:MS)(w:World)(ha:a < 4294967296)(hs:s.Ok)(h:RM w k s)(hf:fet s a n=none) :
    Calls Tryz.prog 57 #[.pointer (some ⟨k.y,0,none⟩),.int .u32 a,.int .i64 n] w fun e w'=>∃ p c,e=.returned (.tuple #[.slice p (fetM s a n) c,.agg #[.int .i64 0,.int .u32 0]])∧SR w' p (fetM s a n) (fun i=>s.B (a+i))∧Below w.heap.size w w':=by
  refine(rfetch_tot k a n s w ha hs h).mono fun e w' ⟨p,c,he,hr,hb⟩=>⟨p,c,?_,hr,hb⟩
  rw[he,hf];rfl
structure IB(w0 w:World)(k a:Int)(q:Nat):Prop where
  b1:w.heap[w0.heap.size]?=some (Gu.insB 0 0 0 0 0)
  b2:w.heap[w0.heap.size+1]?=some (stopB 0 0)
  b3:w.heap[q]?=some (stopB k a)
  bel:Below w0.heap.size w0 w
  lt:w0.heap.size+1 < q
theorem lt_of_block{w:World}{q:Nat}{o:Obj}(h:w.heap[q]?=some o):q < w.heap.size:=by
  rcases Nat.lt_or_ge q w.heap.size with h'|h'
  · exact h'
  · rw[Array.getElem?_eq_none h'] at h;cases h
theorem IB.below{w0 w w':World}{k a:Int}{q:Nat}(h:IB w0 w k a q)(hb:Below w.heap.size w w'):IB w0 w' k a q:=
  ⟨(hb.block _ (lt_of_block h.b1)).trans h.b1,(hb.block _ (lt_of_block h.b2)).trans h.b2,(hb.block _ (lt_of_block h.b3)).trans h.b3,h.bel.trans (hb.mono h.bel.size),h.lt⟩
theorem heap_setOther(w:World)(q o:Nat)(v:Value)(b:Nat)(h:b≠q):(w.setCell ⟨q,o,none⟩ v).heap[b]?=w.heap[b]?:=Below.heap_setCell _ _ _ _ h
theorem IB.set{w0 w:World}{k a:Int}{q:Nat}(h:IB w0 w k a q)(k' a':Int):IB w0 ((w.setCell ⟨q,0,none⟩ (.int .i64 k')).setCell ⟨q,1,none⟩ (.int .u32 a')) k' a' q:=by
  have hl:=h.lt
  refine⟨?_,?_,stop_set h.b3 k' a',(h.bel.setCell (by show w0.heap.size≤q;omega) _).setCell (by show w0.heap.size≤q;omega) _,hl⟩
  · rw[heap_setOther _ _ _ _ _ zo,heap_setOther _ _ _ _ _ zo];exact h.b1
  · rw[heap_setOther _ _ _ _ _ zo,heap_setOther _ _ _ _ _ zo];exact h.b2
theorem ib_start{w w':World}(hb:Below ((w.alloc (Gu.insB 0 0 0 0 0)).alloc (stopB 0 0)).heap.size ((w.alloc (Gu.insB 0 0 0 0 0)).alloc (stopB 0 0)) w'):IB w (w'.alloc (stopB 0 0)) 0 0 w'.heap.size:=by
  have s1:=hb.size
  simp only[World.size_alloc] at s1 hb
  have hl:=heap_alloc_last (w.alloc (Gu.insB 0 0 0 0 0)) (stopB 0 0)
  simp only[World.size_alloc] at hl
  have h2:Below w.heap.size w w':=(((Below.refl _ _).alloc (Nat.le_refl _) _).alloc (by simp) _).trans (hb.mono zo)
  have ha:Below w'.heap.size w' (w'.alloc (stopB 0 0)):=(Below.refl _ _).alloc (Nat.le_refl _) _
  have hla:Below (w.alloc (Gu.insB 0 0 0 0 0)).heap.size (w.alloc (Gu.insB 0 0 0 0 0)) ((w.alloc (Gu.insB 0 0 0 0 0)).alloc (stopB 0 0)):=(Below.refl _ _).alloc (Nat.le_refl _) _
  refine⟨?_,?_,heap_alloc_last _ _,h2.alloc h2.size _,by omega⟩
  · rw[ha.block _ zo,hb.block _ zo,hla.block _ (by simp)];exact heap_alloc_last w _
  · rw[ha.block _ zo,hb.block _ zo];exact hl
structure IP(w w':World):Prop where
  b1:w'.heap[w.heap.size]?=some (Gu.insB 0 0 0 0 0)
  b2:w'.heap[w.heap.size+1]?=some (stopB 0 0)
  bel:Below w.heap.size w w'
  lt:w.heap.size+1 < w'.heap.size
theorem ip_start{w w':World}(hb:Below ((w.alloc (Gu.insB 0 0 0 0 0)).alloc (stopB 0 0)).heap.size ((w.alloc (Gu.insB 0 0 0 0 0)).alloc (stopB 0 0)) w'):IP w w':=by
  have s1:=hb.size
  simp only[World.size_alloc] at s1 hb
  have hl:=heap_alloc_last (w.alloc (Gu.insB 0 0 0 0 0)) (stopB 0 0)
  simp only[World.size_alloc] at hl
  have h2:Below w.heap.size w w':=(((Below.refl _ _).alloc (Nat.le_refl _) _).alloc (by simp) _).trans (hb.mono zo)
  have hla:Below (w.alloc (Gu.insB 0 0 0 0 0)).heap.size (w.alloc (Gu.insB 0 0 0 0 0)) ((w.alloc (Gu.insB 0 0 0 0 0)).alloc (stopB 0 0)):=(Below.refl _ _).alloc (Nat.le_refl _) _
  refine⟨?_,?_,h2,by omega⟩
  · rw[hb.block _ zo,hla.block _ (by simp)];exact heap_alloc_last w _
  · rw[hb.block _ zo];exact hl
theorem rins_bad1(k:RB)(pc x:Nat)(s:MS)(w:World)(hpc:pc < 4294967296)(hs:s.Ok)(h:RM w k s)(hf:fet s pc 1=some x) :
    Calls Tryz.prog 23 #[.pointer (some ⟨k.y,0,none⟩),.int .u32 pc] w fun e w'=>e=.returned (insV ⟨0,0,0,0,0,0,4,x⟩)∧Below w.heap.size w w':=by
  have HR:Hid (RM ((w.alloc (Gu.insB 0 0 0 0 0)).alloc (stopB 0 0)) k s):=(h.alloc _).alloc _
  have HF:Hid (fet s pc 1=some x):=hf
  clear h hf
  go_enter Tryz.func23,Tryz.ntmps23
  go_wp2_with (go_at_call 57;refine(rfetch_b k pc x 1 s _ hpc hs HR.out HF.out).mono ?_;rintro e w' ⟨p,c,rfl,hBl⟩;have HI:Hid (IP w w'):=ip_start hBl;obtain⟨i0,i1,i2,i3,i4⟩:=Gu.ins_cells HI.out.b1;obtain⟨f0,f1,f2,f3,f4⟩:=Gu.ins_frozen HI.out.b1;obtain⟨s0,s1,g0,g1⟩:=stop_cells HI.out.b2;have hl1:=HI.out.lt;have hl0:=Nat.lt_of_succ_lt hl1;clear hBl)
  go_region
  all_goals
    go_wp2
    exact bodyPost_ret (v:=insV ⟨0,0,0,0,0,0,4,x⟩) (by simp[results,Tryz.results23,go_sem,i0,i1,i2,i3,i4,s0,s1,hl0,hl1]) rfl ⟨rfl,by
      have hB:=HI.out.bel
      repeat first
        | with_reducible exact hB
        | with_reducible refine Below.setCell ?_ zq20 _
        | with_reducible refine Below.alloc ?_ zq36 _
        | with_reducible refine Below.drew ?_⟩
theorem one_byte{w:World}{b off pc:Nat}{s:MS}(hc:∀ i,i < fetM s pc 1→w.cell? ⟨b,off+i,none⟩=some (.int .u8 (s.B (pc+i))))(h1:fetM s pc 1=1):w.cell? ⟨b,off,none⟩=some (.int .u8 (s.B pc)):=by
  simpa using hc 0 zo
theorem rins_bad2(k:RB)(pc x:Nat)(s:MS)(w:World)(hpc:pc < 4294967296)(hs:s.Ok)(h:RM w k s)(hf:fet s pc 1=none)(hm:fetM s pc 1=1)(hf2:fet s pc (Gu.sizeF (s.B pc))=some x) :
    Calls Tryz.prog 23 #[.pointer (some ⟨k.y,0,none⟩),.int .u32 pc] w fun e w'=>e=.returned (insV ⟨0,0,0,0,0,0,4,x⟩)∧Below w.heap.size w w':=by
  have HR:Hid (RM ((w.alloc (Gu.insB 0 0 0 0 0)).alloc (stopB 0 0)) k s):=(h.alloc _).alloc _
  have HF:Hid (fet s pc 1=none):=hf
  have HM:Hid (fetM s pc 1=1):=hm
  obtain⟨y0,y1⟩:=hs.by_ pc
  have HF2:Hid (fet s pc (Gu.sizeF (s.B pc))=some x):=hf2
  clear h hf hm hf2
  go_enter Tryz.func23,Tryz.ntmps23
  go_wp2_with (first
    | (go_at_call 57;have HQ:=HR2;refine(rfetch_b k pc x (Gu.sizeF (s.B pc)) s _ hpc hs HR2.out HF2.out).mono ?_;rintro e w3 ⟨p3,c3,rfl,hb3⟩;have HI3:Hid _:=HI2.out.below hb3;obtain⟨i0,i1,i2,i3,i4⟩:=Gu.ins_cells HI3.out.b1;obtain⟨f0,f1,f2,f3,f4⟩:=Gu.ins_frozen HI3.out.b1;obtain⟨s0,s1,g0,g1⟩:=stop_cells HI3.out.b2;obtain⟨t0,t1,u0,u1⟩:=stop_cells HI3.out.b3;have hl1:=HI3.out.lt;have hl0:=Nat.lt_of_succ_lt hl1;clear hb3 HQ)
    | (go_at_call 57;have HQ:=HR;refine(rfetch_g k pc 1 s _ hpc hs HR.out HF.out).mono ?_;rintro e w' ⟨p,c,rfl,hS,hBl⟩;rw[HM.out];obtain⟨b,off,rfl,hc⟩:=hS zq42;have hc0:=one_byte hc HM.out;have hb0:=lt_of_cell hc0;have HB1:Hid _:=hBl;have HRA:Hid (RM w' k s):=HR.out.below hBl (Nat.le_refl _);clear hc hS hBl HR HQ)
    | (go_at_call 58;refine(Gu.resize_any (s.B pc) _ y0 y1).mono ?_;rintro e w2 ⟨rfl,hb2⟩;have HI2:Hid (IB w w2 0 0 w'.heap.size):=(ib_start HB1.out).below hb2;have HR2:Hid (RM w2 k s):=(HRA.out.alloc _).below hb2 (Nat.le_refl _);clear hb2))
  go_region
  all_goals
    go_wp2
    exact bodyPost_ret (v:=insV ⟨0,0,0,0,0,0,4,x⟩) (by simp[results,Tryz.results23,go_sem,i0,i1,i2,i3,i4,s0,s1,hl0,hl1,t0,t1]) rfl ⟨rfl,by
      have hB:=HI3.out.bel
      repeat first
        | with_reducible exact hB
        | with_reducible refine Below.setCell ?_ zq20 _
        | with_reducible refine Below.alloc ?_ zq36 _
        | with_reducible refine Below.drew ?_⟩
theorem nr_set{w2 w3:World}{p:Option Addr}{m q:Nat}{z:Nat→Int}(hO:Out w2 w3 p m z)(hq:q < w2.heap.size)(v0 v1:Value) :
    0 < m→∃ H,p=some ⟨H,0,none⟩∧NR ((w3.setCell ⟨q,0,none⟩ v0).setCell ⟨q,1,none⟩ v1) H m z:=fun h=>by
  obtain⟨H,e,hH,hN⟩:=hO.row h
  exact⟨H,e,hN.of_block (by rw[heap_setOther _ _ _ _ _ zo,heap_setOther _ _ _ _ _ zo])⟩
theorem rins_op(k:RB)(pc:Nat)(i:IR)(eR:Int)(s:MS)(w:World)(hpc:pc < 4294967296)(hs:s.Ok)(h:RM w k s)(hf:fet s pc 1=none)(hm:fetM s pc 1=1)(hf2:fet s pc (Gu.sizeF (s.B pc))=none)
    (hd:∀ (w3:World) (p:Option Addr) (c:Nat),(0 < fetM s pc (Gu.sizeF (s.B pc))→∃ H,p=some ⟨H,0,none⟩∧NR w3 H (fetM s pc (Gu.sizeF (s.B pc))) (fun i=>s.B (pc+i)))→(0 < fetM s pc (Gu.sizeF (s.B pc))→fetM s pc (Gu.sizeF (s.B pc))≤c∧c≤maxLen)→
      Calls Tryz.prog 59 #[.slice p (fetM s pc (Gu.sizeF (s.B pc))) c] w3 fun e w'=>e=.returned (.tuple #[.agg #[.int .i64 i.op,.int .i64 i.D,.int .i64 i.S,.int .i64 i.O,.int .u32 i.imm],.int .i64 i.n,.int .i64 eR])∧Below w3.heap.size w3 w') (he:(eR==0)=false) (he2:¬eR=0) :
    Calls Tryz.prog 23 #[.pointer (some ⟨k.y,0,none⟩),.int .u32 pc] w fun e w'=>e=.returned (insV ⟨0,0,0,0,0,0,3,0⟩)∧Below w.heap.size w w':=by
  have HR:Hid (RM ((w.alloc (Gu.insB 0 0 0 0 0)).alloc (stopB 0 0)) k s):=(h.alloc _).alloc _
  have HF:Hid (fet s pc 1=none):=hf
  have HM:Hid (fetM s pc 1=1):=hm
  obtain⟨y0,y1⟩:=hs.by_ pc
  have HF2:Hid (fet s pc (Gu.sizeF (s.B pc))=none):=hf2
  have HD:Hid _:=hd
  clear h hf hm hf2 hd
  go_enter Tryz.func23,Tryz.ntmps23
  go_wp2_with (first
    | (go_at_call 57;have HQ:=HR2;refine(rfetch_c k pc (Gu.sizeF (s.B pc)) s _ hpc hs HR2.out HF2.out).mono ?_;rintro e w3 ⟨p3,c3,rfl,hO,hC⟩;have HC3:Hid _:=hC;have HO3:Hid _:=hO;have HI3:Hid _:=HI2.out.below hO.bel;obtain⟨t0,t1,u0,u1⟩:=stop_cells HI3.out.b3;have hl1:=HI3.out.lt;have hl0:=Nat.lt_of_succ_lt hl1;clear hC hO HQ)
    | (go_at_call 59;refine(HD.out _ p3 c3 (nr_set HO3.out (lt_of_block HI2.out.b3) _ _) HC3.out).mono ?_;rintro e w4 ⟨rfl,hb4⟩;have HI4:Hid (IB w w4 0 0 w'.heap.size):=(HI3.out.set 0 0).below hb4;obtain⟨i0,i1,i2,i3,i4⟩:=Gu.ins_cells HI4.out.b1;obtain⟨f0,f1,f2,f3,f4⟩:=Gu.ins_frozen HI4.out.b1;obtain⟨s0,s1,g0,g1⟩:=stop_cells HI4.out.b2;obtain⟨t0,t1,u0,u1⟩:=stop_cells HI4.out.b3;have hm1:w.heap.size < w4.heap.size:=lt_of_block HI4.out.b1;have hm2:w.heap.size+1 < w4.heap.size:=lt_of_block HI4.out.b2;have hm3:w'.heap.size < w4.heap.size:=lt_of_block HI4.out.b3;clear hb4)
    | (go_at_call 57;have HQ:=HR;refine(rfetch_g k pc 1 s _ hpc hs HR.out HF.out).mono ?_;rintro e w' ⟨p,c,rfl,hS,hBl⟩;rw[HM.out];obtain⟨b,off,rfl,hc⟩:=hS zq42;have hc0:=one_byte hc HM.out;have hb0:=lt_of_cell hc0;have HB1:Hid _:=hBl;have HRA:Hid (RM w' k s):=HR.out.below hBl (Nat.le_refl _);clear hc hS hBl HR HQ)
    | (go_at_call 58;refine(Gu.resize_any (s.B pc) _ y0 y1).mono ?_;rintro e w2 ⟨rfl,hb2⟩;have HI2:Hid (IB w w2 0 0 w'.heap.size):=(ib_start HB1.out).below hb2;have HR2:Hid (RM w2 k s):=(HRA.out.alloc _).below hb2 (Nat.le_refl _);clear hb2))
  exact bodyPost_ret (v:=insV ⟨0,0,0,0,0,0,3,0⟩) (by simp[results,Tryz.results23,go_sem,i0,i1,i2,i3,i4,s0,s1,hl0,hl1,t0,t1,hm1,hm2,hm3]) rfl ⟨rfl,by
    have hB:=HI4.out.bel
    repeat first
      | with_reducible exact hB
      | with_reducible refine Below.setCell ?_ zq20 _
      | with_reducible refine Below.alloc ?_ zq36 _
      | with_reducible refine Below.drew ?_⟩
theorem rins_ok(k:RB)(pc:Nat)(i:IR)(s:MS)(w:World)(hpc:pc < 4294967296)(hs:s.Ok)(h:RM w k s)(hf:fet s pc 1=none)(hm:fetM s pc 1=1)(hf2:fet s pc (Gu.sizeF (s.B pc))=none)
    (hd:∀ (w3:World) (p:Option Addr) (c:Nat),(0 < fetM s pc (Gu.sizeF (s.B pc))→∃ H,p=some ⟨H,0,none⟩∧NR w3 H (fetM s pc (Gu.sizeF (s.B pc))) (fun i=>s.B (pc+i)))→(0 < fetM s pc (Gu.sizeF (s.B pc))→fetM s pc (Gu.sizeF (s.B pc))≤c∧c≤maxLen)→
      Calls Tryz.prog 59 #[.slice p (fetM s pc (Gu.sizeF (s.B pc))) c] w3 fun e w'=>e=.returned (.tuple #[.agg #[.int .i64 i.op,.int .i64 i.D,.int .i64 i.S,.int .i64 i.O,.int .u32 i.imm],.int .i64 i.n,.int .i64 0])∧Below w3.heap.size w3 w') :
    Calls Tryz.prog 23 #[.pointer (some ⟨k.y,0,none⟩),.int .u32 pc] w fun e w'=>e=.returned (insV { i with k:=0,a:=0 })∧Below w.heap.size w w':=by
  have HR:Hid (RM ((w.alloc (Gu.insB 0 0 0 0 0)).alloc (stopB 0 0)) k s):=(h.alloc _).alloc _
  have HF:Hid (fet s pc 1=none):=hf
  have HM:Hid (fetM s pc 1=1):=hm
  obtain⟨y0,y1⟩:=hs.by_ pc
  have HF2:Hid (fet s pc (Gu.sizeF (s.B pc))=none):=hf2
  have HD:Hid _:=hd
  clear h hf hm hf2 hd
  go_enter Tryz.func23,Tryz.ntmps23
  go_wp2_with (first
    | (go_at_call 57;have HQ:=HR2;refine(rfetch_c k pc (Gu.sizeF (s.B pc)) s _ hpc hs HR2.out HF2.out).mono ?_;rintro e w3 ⟨p3,c3,rfl,hO,hC⟩;have HC3:Hid _:=hC;have HO3:Hid _:=hO;have HI3:Hid _:=HI2.out.below hO.bel;obtain⟨t0,t1,u0,u1⟩:=stop_cells HI3.out.b3;have hl1:=HI3.out.lt;have hl0:=Nat.lt_of_succ_lt hl1;clear hC hO HQ)
    | (go_at_call 59;refine(HD.out _ p3 c3 (nr_set HO3.out (lt_of_block HI2.out.b3) _ _) HC3.out).mono ?_;rintro e w4 ⟨rfl,hb4⟩;have HI4:Hid (IB w w4 0 0 w'.heap.size):=(HI3.out.set 0 0).below hb4;obtain⟨i0,i1,i2,i3,i4⟩:=Gu.ins_cells HI4.out.b1;obtain⟨f0,f1,f2,f3,f4⟩:=Gu.ins_frozen HI4.out.b1;obtain⟨s0,s1,g0,g1⟩:=stop_cells HI4.out.b2;obtain⟨t0,t1,u0,u1⟩:=stop_cells HI4.out.b3;have hm1:w.heap.size < w4.heap.size:=lt_of_block HI4.out.b1;have hm2:w.heap.size+1 < w4.heap.size:=lt_of_block HI4.out.b2;have hm3:w'.heap.size < w4.heap.size:=lt_of_block HI4.out.b3;clear hb4)
    | (go_at_call 57;have HQ:=HR;refine(rfetch_g k pc 1 s _ hpc hs HR.out HF.out).mono ?_;rintro e w' ⟨p,c,rfl,hS,hBl⟩;rw[HM.out];obtain⟨b,off,rfl,hc⟩:=hS zq42;have hc0:=one_byte hc HM.out;have hb0:=lt_of_cell hc0;have HB1:Hid _:=hBl;have HRA:Hid (RM w' k s):=HR.out.below hBl (Nat.le_refl _);clear hc hS hBl HR HQ)
    | (go_at_call 58;refine(Gu.resize_any (s.B pc) _ y0 y1).mono ?_;rintro e w2 ⟨rfl,hb2⟩;have HI2:Hid (IB w w2 0 0 w'.heap.size):=(ib_start HB1.out).below hb2;have HR2:Hid (RM w2 k s):=(HRA.out.alloc _).below hb2 (Nat.le_refl _);clear hb2))
  exact bodyPost_ret (v:=insV { i with k:=0,a:=0 }) (by simp[results,Tryz.results23,go_sem,i0,i1,i2,i3,i4,s0,s1,hl0,hl1,t0,t1,hm1,hm2,hm3]) rfl ⟨rfl,by
    have hB:=HI4.out.bel
    repeat first
      | with_reducible exact hB
      | with_reducible refine Below.setCell ?_ zq20 _
      | with_reducible refine Below.alloc ?_ zq36 _
      | with_reducible refine Below.drew ?_⟩
theorem dec_err(zs:List Int)(len:Nat)(h:¬(Gu.refDec zs len).e=0):∃ x,Gu.refDec zs len=Gu.decErr x:=by
  unfold Gu.refDec at h ⊢
  by_cases hl:len=0
  · rw[if_pos hl];exact⟨_,rfl⟩
  rw[if_neg hl] at h ⊢
  cases hk:Gu.hitF (zs.getD 0 0) with
  | none=>exact⟨2,rfl⟩
  | some k=>
    rw[hk] at h
    simp only at h ⊢
    split
    · exact⟨_,rfl⟩
    rename_i h1
    rw[if_neg h1] at h
    split
    · exact⟨_,rfl⟩
    rename_i h2
    rw[if_neg h2] at h
    exact absurd rfl h
theorem rins_any(k:RB)(pc:Nat)(s:MS)(w:World)(hpc:pc < 4294967296)(hs:s.Ok)(h:RM w k s) :
    Calls Tryz.prog 23 #[.pointer (some ⟨k.y,0,none⟩),.int .u32 pc] w fun e w'=>e=.returned (insV (insOf s pc))∧Below w.heap.size w w':=by
  have e1:fet s pc 1=badN s 4 pc 1:=if_pos zo
  cases hb:badN s 4 pc 1 with
  | some x=>
    have e:insOf s pc=⟨0,0,0,0,0,0,4,x⟩:=by unfold insOf;rw[hb]
    rw[e];exact rins_bad1 k pc x s w hpc hs h (e1.trans hb)
  | none=>
    have hm:fetM s pc 1=1:=if_pos ⟨by omega,hb⟩
    cases hb2:fet s pc (Gu.sizeF (s.B pc)) with
    | some x=>
      have e:insOf s pc=⟨0,0,0,0,0,0,4,x⟩:=by unfold insOf;rw[hb];simp only[hb2]
      rw[e];exact rins_bad2 k pc x s w hpc hs h (e1.trans hb) hm hb2
    | none=>
      by_cases he:(Gu.refDec (byL s pc (fetM s pc (Gu.sizeF (s.B pc)))) (fetM s pc (Gu.sizeF (s.B pc)))).e=0
      · have hd:=dec_ok_bd (fetM s pc (Gu.sizeF (s.B pc))) (byL_bd hs pc (fetM s pc (Gu.sizeF (s.B pc)))) he
        have e:insOf s pc={ insOf s pc with k:=0,a:=0 }:=by unfold insOf;rw[hb];simp only[hb2];rw[if_pos he]
        rw[e]
        refine rins_ok k pc (insOf s pc) s w hpc hs h (e1.trans hb) hm hb2 fun w3 p c h1 h2=>(rdec_f hs pc _ c p w3 h1 h2).mono fun e w' ⟨he1,hb1⟩=>⟨?_,hb1⟩
        rw[he1]
        unfold insOf;rw[hb];simp only[hb2];rw[if_pos he]
        simp only[Gu.decV,he,Int.toNat_of_nonneg hd.D0,Int.toNat_of_nonneg hd.S0,Int.toNat_of_nonneg hd.im0,Int.toNat_of_nonneg (Int.le_trans zo hd.n0)]
      · have e:insOf s pc=⟨0,0,0,0,0,0,3,0⟩:=by unfold insOf;rw[hb];simp only[hb2];rw[if_neg he]
        rw[e]
        obtain⟨i,hi⟩:∃ i:IR,Gu.decV (Gu.refDec (byL s pc (fetM s pc (Gu.sizeF (s.B pc)))) (fetM s pc (Gu.sizeF (s.B pc))))=.tuple #[.agg #[.int .i64 i.op,.int .i64 i.D,.int .i64 i.S,.int .i64 i.O,.int .u32 i.imm],.int .i64 i.n,.int .i64 (Gu.refDec (byL s pc (fetM s pc (Gu.sizeF (s.B pc)))) (fetM s pc (Gu.sizeF (s.B pc)))).e]:=by
          obtain⟨x,hx⟩:=dec_err (byL s pc (fetM s pc (Gu.sizeF (s.B pc)))) (fetM s pc (Gu.sizeF (s.B pc))) he
          exact⟨⟨0,0,0,0,0,0,0,0⟩,by rw[hx];rfl⟩
        refine rins_op k pc i _ s w hpc hs h (e1.trans hb) hm hb2 (fun w3 p c h1 h2=>(rdec_f hs pc _ c p w3 h1 h2).mono fun e w' ⟨he1,hb1⟩=>⟨by rw[he1,hi],hb1⟩) (by simpa using he) he
structure InsOk(i:IR):Prop where
  op0:0≤i.op
  op1:i.op≤31
  D1:i.D≤7
  S1:i.S≤7
  im:i.imm < 4294967296
  n1:i.n≤9
  O0:0≤i.O
  O1:i.O≤15
  ld:i.op=30→i.O≤4
  st:i.op=31→i.O≤2
theorem insOf_ok(s:MS)(pc:Nat)(hs:s.Ok)(hk:(insOf s pc).k=0):InsOk (insOf s pc):=by
  unfold insOf at hk ⊢
  cases hb:badN s 4 pc 1 with
  | some x=>rw[hb] at hk;exact absurd (show(4:Int)=0 from hk) (by decide)
  | none=>
    rw[hb] at hk
    simp only at hk ⊢
    cases hb2:fet s pc (Gu.sizeF (s.B pc)) with
    | some x=>rw[hb2] at hk;exact absurd (show(4:Int)=0 from hk) (by decide)
    | none=>
      rw[hb2] at hk
      simp only at hk ⊢
      split at hk
      · rename_i he
        rw[if_pos he]
        have hd:=dec_ok_bd (fetM s pc (Gu.sizeF (s.B pc))) (byL_bd hs pc (fetM s pc (Gu.sizeF (s.B pc)))) he
        obtain⟨a1,a2,a3,a4,a5,a6,a7,a8,a9,a10,a11,a12,a13,a14⟩:=hd
        exact⟨a1,a2,by show Int.toNat _≤7;omega,by show Int.toNat _≤7;omega,by show Int.toNat _ < _;omega,by show Int.toNat _≤9;omega,a11,a12,a13,a14⟩
      · exact absurd (show(3:Int)=0 from hk) (by decide)
abbrev insA(op:Int)(d e:Nat)(O:Int)(im:Nat):Value:=.agg #[.int .i64 op,.int .i64 d,.int .i64 e,.int .i64 O,.int .u32 im]
theorem RM.off{w w':World}{k:RB}{m:MS}{T:Nat}(h:RM w k m)(hT:T∉k.y :: k.all)(ho:∀ b,b≠T→w'.heap[b]?=w.heap[b]?):RM w' k m:=
  h.of_blocks fun x hx=>ho x (fun e=>hT (e▸hx))
theorem RM.setOff{w:World}{k:RB}{m:MS}{T:Nat}(h:RM w k m)(hT:T∉k.y :: k.all)(o:Nat)(v:Value):RM (w.setCell ⟨T,o,none⟩ v) k m:=
  h.off hT fun b hb=>heap_setOther _ _ _ _ _ hb
theorem gs_at(s:GS)(d:Nat)(hd:d < 8):(gsC s)[d]?=some (.int .u32 (s.R d)):=by
  match d,hd with
  | 0,_=>rfl
  | 1,_=>rfl
  | 2,_=>rfl
  | 3,_=>rfl
  | 4,_=>rfl
  | 5,_=>rfl
  | 6,_=>rfl
  | 7,_=>rfl
  | n+8,h=>omega
theorem addF_bd(a b:Nat)(c:Int):0≤Fl.addF a b c∧Fl.addF a b c≤15:=by
  have h1:=Fl.valF_bd (((a:Int)+b+c)%4294967296)
  have h2:=Fl.isF_bd (decide (4294967296≤(a:Int)+b+c)) 4 zo
  have h3:=Fl.isF_bd (Fl.pastB (Fl.sgn a+Fl.sgn b+c)) 8 zo
  unfold Fl.addF;omega
theorem subF_bd(a b:Nat)(c:Int):0≤Fl.subF a b c∧Fl.subF a b c≤15:=by
  have h1:=Fl.valF_bd (((a:Int) - b - c)%4294967296)
  have h2:=Fl.isF_bd (decide ((a:Int) - b - c < 0)) 4 zo
  have h3:=Fl.isF_bd (Fl.pastB (Fl.sgn a - Fl.sgn b - c)) 8 zo
  unfold Fl.subF;omega
theorem mulF_bd(a b:Nat):0≤Fl.mulF a b∧Fl.mulF a b≤15:=by
  have h1:=Fl.valF_bd ((a*b%4294967296:Nat):Int)
  have h2:=Fl.isF_bd (decide (4294967296≤a*b)) 12 zo
  unfold Fl.mulF;omega
theorem incF_bd(a old:Nat):0≤Fl.incF a old∧Fl.incF a old≤15:=by
  have h1:=Fl.valF_bd (((a:Int)+1)%4294967296)
  have h2:=Fl.carF_bd old
  have h3:=Fl.isF_bd (Fl.pastB (Fl.sgn a+1)) 8 zo
  unfold Fl.incF;omega
theorem decF_bd(a old:Nat):0≤Fl.decF a old∧Fl.decF a old≤15:=by
  have h1:=Fl.valF_bd (((a:Int) - 1)%4294967296)
  have h2:=Fl.carF_bd old
  have h3:=Fl.isF_bd (Fl.pastB (Fl.sgn a - 1)) 8 zo
  unfold Fl.decF;omega
theorem shlF_bd(a n:Nat):0≤Fl.shlF a n∧Fl.shlF a n≤15:=by
  have h1:=Fl.valF_bd ((a*2 ^ n%4294967296:Nat):Int)
  have h2:=Fl.isF_bd (a*2 ^ n / 4294967296%2==1) 4 zo
  unfold Fl.shlF;omega
theorem shrF_bd(a n:Nat):0≤Fl.shrF a n∧Fl.shrF a n≤15:=by
  have h1:=Fl.valF_bd ((a:Int) / 2 ^ n)
  have h2:=Fl.isF_bd ((a:Int) / 2 ^ (n - 1)%2==1) 4 zo
  unfold Fl.shrF;omega
theorem sarF_bd(a n:Nat):0≤Fl.sarF a n∧Fl.sarF a n≤15:=by
  have h1:=Fl.valF_bd (Fl.sgn a / 2 ^ (n - 1) / 2%4294967296)
  have h2:=Fl.isF_bd (Fl.sgn a / 2 ^ (n - 1)%4294967296%2==1) 4 zo
  unfold Fl.sarF;omega
theorem rolF_bd(a n old:Nat):0≤Fl.rolF a n old∧Fl.rolF a n old≤15:=by
  have h2:=Fl.isF_bd (Fl.turN n a%2==1) 4 zo
  unfold Fl.rolF Fl.carF;omega
theorem flagsF_bd(k:Int)(a b old:Nat):0≤Fl.flagsF k a b old∧Fl.flagsF k a b old≤15:=by
  unfold Fl.flagsF
  by_cases h1:k=1
  · rw[if_pos h1];exact addF_bd ..
  rw[if_neg h1]
  by_cases h2:k=2
  · rw[if_pos h2];exact addF_bd ..
  rw[if_neg h2]
  by_cases h3:k=3
  · rw[if_pos h3];exact subF_bd ..
  rw[if_neg h3]
  by_cases h4:k=4
  · rw[if_pos h4];exact subF_bd ..
  rw[if_neg h4]
  by_cases h5:k=5
  · rw[if_pos h5];have:=Fl.valF_bd a;omega
  rw[if_neg h5]
  by_cases h6:k=10
  · rw[if_pos h6];exact mulF_bd ..
  rw[if_neg h6]
  by_cases h7:k=11
  · rw[if_pos h7];exact incF_bd ..
  rw[if_neg h7]
  by_cases h8:k=12
  · rw[if_pos h8];exact decF_bd ..
  rw[if_neg h8]
  by_cases h9:(k=6∨k=7∨k=8∨k=9)∧0 < b%32
  · rw[if_pos h9]
    by_cases g1:k=6
    · rw[if_pos g1];exact shlF_bd ..
    rw[if_neg g1]
    by_cases g2:k=7
    · rw[if_pos g2];exact shrF_bd ..
    rw[if_neg g2]
    by_cases g3:k=8
    · rw[if_pos g3];exact sarF_bd ..
    rw[if_neg g3]
    exact rolF_bd ..
  · rw[if_neg h9];omega
structure SwIn(w:World)(k:RB)(m:MS)(s t:GS)(T d at' v:Nat):Prop where
  rm:RM w k m
  mok:m.Ok
  sok:s.Ok
  bT:w.heap[T]?=some (gsB t)
  nT:T∉k.y :: k.all
  d:d < 8
  a:at' < 4294967296
  v:v < 4294967296
structure SwW(w W:World)(k:RB)(m:MS)(T q:Nat)(t':GS):Prop where
  rm:RM W k m
  chg:Chg (T :: k.all) w W
  bq:W.heap[q]?=some (stopB 0 0)
  bT:W.heap[T]?=some (gsB t')
  hq:w.heap.size≤q
  hT:T < w.heap.size
  nT:T∉k.y :: k.all
  lk:∀ x∈k.y :: k.all,x < w.heap.size
theorem SwW.drew{w W:World}{k:RB}{m:MS}{T q:Nat}{t':GS}(h:SwW w W k m T q t'):SwW w W.drew k m T q t':=
  ⟨h.rm.drew,⟨h.chg.os,h.chg.tape,h.chg.output,h.chg.size,h.chg.block⟩,h.bq,h.bT,h.hq,h.hT,h.nT,h.lk⟩
theorem sw_w{w w1:World}{k:RB}{m:MS}{T:Nat}{t':GS}(hr:RM w k m)(nT:T∉k.y :: k.all)(hT:T < w.heap.size)(hO:Only T w w1)(bT:w1.heap[T]?=some (gsB t'))(o1 o2:Obj) :
    SwW w (((w1.alloc o1).alloc o2).alloc (stopB 0 0)) k m T (w.heap.size+1+1) t':=by
  have hz:=hO.size
  have ha:Below w.heap.size w1 (((w1.alloc o1).alloc o2).alloc (stopB 0 0)):=(((Below.refl _ _).alloc zo _).alloc zq17 _).alloc zq17 _
  have hl:=heap_alloc_last ((w1.alloc o1).alloc o2) (stopB 0 0)
  simp only[World.size_alloc,hz] at hl
  refine⟨(((hr.off nT hO.block).alloc _).alloc _).alloc _,?_,hl,(ha.block _ hT).trans bT,by omega,hT,nT,hr.lt⟩
  exact⟨hO.os,hO.tape,hO.output,by simp;omega,fun b hb hs=>(ha.block b hb).trans (hO.block b (fun e=>hs (by rw[e];exact List.mem_cons_self ..)))⟩
theorem SwW.after{w W w':World}{k:RB}{m m':MS}{T q:Nat}{t':GS}(h:SwW w W k m T q t')(hR:RM w' k m')(hc:Chg k.all W w'):SwW w w' k m' T q t':=by
  have hqk:q∉k.all:=fun hm=>by have:=h.lk q (List.mem_cons_of_mem _ hm);have:=h.hq;omega
  have hTk:T∉k.all:=fun hm=>h.nT (List.mem_cons_of_mem _ hm)
  exact⟨hR,h.chg.trans (hc.mono fun x hx=>List.mem_cons_of_mem _ hx),(hc.block q (lt_of_block h.bq) hqk).trans h.bq,(hc.block T (lt_of_block h.bT) hTk).trans h.bT,h.hq,h.hT,h.nT,h.lk⟩
theorem SwW.fin{w w':World}{k:RB}{m':MS}{T q:Nat}{t':GS}(h:SwW w w' k m' T q t')(v0 v1:Value) :
    ((w'.setCell ⟨q,0,none⟩ v0).setCell ⟨q,1,none⟩ v1).heap[T]?=some (gsB t')∧RM ((w'.setCell ⟨q,0,none⟩ v0).setCell ⟨q,1,none⟩ v1) k m'∧Chg (T :: k.all) w ((w'.setCell ⟨q,0,none⟩ v0).setCell ⟨q,1,none⟩ v1):=by
  have hqk:q∉k.y :: k.all:=fun hm=>by have:=h.lk q hm;have:=h.hq;omega
  have hqT:T≠q:=by have:=h.hq;have:=h.hT;omega
  refine⟨?_,(h.rm.setOff hqk 0 v0).setOff hqk 1 v1,(h.chg.new h.hq ((Only.refl q w').setCell 0 v0)).new h.hq ((Only.refl q _).setCell 1 v1)⟩
  rw[heap_setOther _ _ _ _ _ hqT,heap_setOther _ _ _ _ _ hqT];exact h.bT
theorem rswap24(k:RB)(m:MS)(s t:GS)(T d e at' v im:Nat)(O:Int)(w:World)(H:SwIn w k m s t T d at' v) :
    Calls Tryz.prog 99 #[.pointer (some ⟨k.y,0,none⟩),insA 24 d e O im,gsV s,.pointer (some ⟨T,0,none⟩),.int .u32 at',.int .u32 v] w fun e w'=>
      e=.returned (stVV 6 (sto m at' 4))∧w'.heap[T]?=some (gsB (t.setR d v))∧RM w' k (storeT m at' 4 (s.R d))∧Chg (T :: k.all) w w':=by
  have HH:Hid _:=H
  have hd:=H.d
  have hd0:(0:Int)≤d:=zo
  have hd1:(d:Int) < 8:=zo
  have hat:=gs_at s d hd
  have cT:=gs_reg H.bT d hd
  have fT:=gs_fr H.bT d
  have hT:T < w.heap.size:=lt_of_block H.bT
  have hT1:T < w.heap.size+1:=zo
  have hT2:T < w.heap.size+1+1:=zo
  have HB:Hid ((w.setCell ⟨T,d,none⟩ (.int .u32 v)).heap[T]?=some (gsB (t.setR d v))):=gs_setR H.bT d hd v zo
  clear H
  go_enter Tryz.func99,Tryz.ntmps99
  go_wp2
  go_region
  go_wp2_with (go_at_call 98;refine(rstore_tot k at' (s.R d) 4 m _ HH.out.a (HH.out.sok.r d) HH.out.mok (sw_w HH.out.rm HH.out.nT hT ((Only.refl T w).setCell d _) HB.out _ _).drew.rm).mono ?_;rintro e w' ⟨rfl,hR,hC⟩;have HW:Hid (SwW w w' k _ T _ _):=(sw_w HH.out.rm HH.out.nT hT ((Only.refl T w).setCell d _) HB.out _ _).drew.after hR hC;obtain⟨q0,q1,u0,u1⟩:=stop_cells HW.out.bq;clear hR hC)
  exact bodyPost_ret (v:=stVV 6 (sto m at' 4)) (by simp[results,Tryz.results99,go_sem,q0,q1]) rfl ⟨rfl,HW.out.fin _ _⟩
theorem rswap25(k:RB)(m:MS)(s t:GS)(T d e at' v im:Nat)(O:Int)(w:World)(H:SwIn w k m s t T d at' v) :
    Calls Tryz.prog 99 #[.pointer (some ⟨k.y,0,none⟩),insA 25 d e O im,gsV s,.pointer (some ⟨T,0,none⟩),.int .u32 at',.int .u32 v] w fun e w'=>
      e=.returned (stVV 6 (sto m at' 4))∧w'.heap[T]?=some (gsB ((t.setR d v).setF (Fl.flagsF 1 v (s.R d) s.f).toNat))∧RM w' k (storeT m at' 4 (w32 ((v:Int)+s.R d)))∧Chg (T :: k.all) w w':=by
  have HH:Hid _:=H
  have hd:=H.d
  have hd0:(0:Int)≤d:=zo
  have hd1:(d:Int) < 8:=zo
  have hat:=gs_at s d hd
  have cT:=gs_reg H.bT d hd
  have fT:=gs_fr H.bT d
  have hT:T < w.heap.size:=lt_of_block H.bT
  have hT1:T < w.heap.size+1:=zo
  have hT2:T < w.heap.size+1+1:=zo
  have HB:Hid (((w.setCell ⟨T,d,none⟩ (.int .u32 v)).setCell ⟨T,9,none⟩ (.int .u32 (Fl.flagsF 1 v (s.R d) s.f))).heap[T]?=some (gsB ((t.setR d v).setF (Fl.flagsF 1 v (s.R d) s.f).toNat))):=gs_setF (gs_setR H.bT d hd v zo) _ (flagsF_bd _ _ _ _).1
  have hd9:¬9=d:=zo
  have hd9':¬d=9:=zo
  have cT9:=gs_f H.bT
  have fT9:=gs_fr H.bT 9
  clear H
  go_enter Tryz.func99,Tryz.ntmps99
  go_wp2
  go_region
  go_wp2_with (first
    | (go_at_call 62;refine(Fl.flags_any 1 v (s.R d) s.f _ HH.out.v (HH.out.sok.r d) HH.out.sok.f).mono ?_;rintro e w' ⟨rfl,rfl⟩)
    | (go_at_call 98;rw[← w32_cast];refine(rstore_tot k at' _ 4 m _ HH.out.a (w32_lt _) HH.out.mok (sw_w HH.out.rm HH.out.nT hT (((Only.refl T w).setCell d _).setCell 9 _) HB.out _ _).drew.rm).mono ?_;rintro e w' ⟨rfl,hR,hC⟩;have HW:Hid (SwW w w' k _ T _ _):=(sw_w HH.out.rm HH.out.nT hT (((Only.refl T w).setCell d _).setCell 9 _) HB.out _ _).drew.after hR hC;obtain⟨q0,q1,u0,u1⟩:=stop_cells HW.out.bq;clear hR hC))
  exact bodyPost_ret (v:=stVV 6 (sto m at' 4)) (by simp[results,Tryz.results99,go_sem,q0,q1]) rfl ⟨rfl,HW.out.fin _ _⟩
theorem rswap26e(k:RB)(m:MS)(s t:GS)(T d e at' v im:Nat)(O:Int)(w:World)(H:SwIn w k m s t T d at' v)(hv:v=s.R 0) :
    Calls Tryz.prog 99 #[.pointer (some ⟨k.y,0,none⟩),insA 26 d e O im,gsV s,.pointer (some ⟨T,0,none⟩),.int .u32 at',.int .u32 v] w fun e w'=>
      e=.returned (stVV 6 (sto m at' 4))∧w'.heap[T]?=some (gsB (t.setF (Fl.flagsF 3 (s.R 0) (s.R 0) s.f).toNat))∧RM w' k (storeT m at' 4 (s.R d))∧Chg (T :: k.all) w w':=by
  subst hv
  have HH:Hid _:=H
  have hd:=H.d
  have hd0:(0:Int)≤d:=zo
  have hd1:(d:Int) < 8:=zo
  have hat:=gs_at s d hd
  have cT:=gs_reg H.bT 0 zo
  have fT:=gs_fr H.bT 0
  have cT9:=gs_f H.bT
  have fT9:=gs_fr H.bT 9
  have hT:T < w.heap.size:=lt_of_block H.bT
  have hT1:T < w.heap.size+1:=zo
  have hT2:T < w.heap.size+1+1:=zo
  have HB:Hid ((w.setCell ⟨T,9,none⟩ (.int .u32 (Fl.flagsF 3 (s.R 0) (s.R 0) s.f))).heap[T]?=some (gsB (t.setF (Fl.flagsF 3 (s.R 0) (s.R 0) s.f).toNat))):=gs_setF H.bT _ (flagsF_bd _ _ _ _).1
  have HV:Hid (s.R d < 4294967296):=H.sok.r d
  clear H
  go_enter Tryz.func99,Tryz.ntmps99
  go_wp2_with (first
    | (go_at_call 62;refine(Fl.flags_any 3 (s.R 0) (s.R 0) s.f _ (HH.out.sok.r 0) HH.out.v HH.out.sok.f).mono ?_;rintro e w' ⟨rfl,rfl⟩)
    | (go_at_call 98;refine(rstore_tot k at' _ 4 m _ HH.out.a (HV.out) HH.out.mok (sw_w HH.out.rm HH.out.nT hT ((Only.refl T w).setCell 9 _) HB.out _ _).rm).mono ?_;rintro e w' ⟨rfl,hR,hC⟩;have HW:Hid (SwW w w' k _ T _ _):=(sw_w HH.out.rm HH.out.nT hT ((Only.refl T w).setCell 9 _) HB.out _ _).after hR hC;obtain⟨q0,q1,u0,u1⟩:=stop_cells HW.out.bq;clear hR hC))
  exact bodyPost_ret (v:=stVV 6 (sto m at' 4)) (by simp[results,Tryz.results99,go_sem,q0,q1]) rfl ⟨rfl,HW.out.fin _ _⟩
theorem rswap26n(k:RB)(m:MS)(s t:GS)(T d e at' v im:Nat)(O:Int)(w:World)(H:SwIn w k m s t T d at' v)(hv:¬v=s.R 0) :
    Calls Tryz.prog 99 #[.pointer (some ⟨k.y,0,none⟩),insA 26 d e O im,gsV s,.pointer (some ⟨T,0,none⟩),.int .u32 at',.int .u32 v] w fun e w'=>
      e=.returned (stVV 6 (sto m at' 4))∧w'.heap[T]?=some (gsB ((t.setF (Fl.flagsF 3 (s.R 0) v s.f).toNat).setR 0 v))∧RM w' k (storeT m at' 4 (v))∧Chg (T :: k.all) w w':=by
  have HH:Hid _:=H
  have hd:=H.d
  have hd0:(0:Int)≤d:=zo
  have hd1:(d:Int) < 8:=zo
  have hat:=gs_at s d hd
  have cT:=gs_reg H.bT 0 zo
  have fT:=gs_fr H.bT 0
  have cT9:=gs_f H.bT
  have fT9:=gs_fr H.bT 9
  have hT:T < w.heap.size:=lt_of_block H.bT
  have hT1:T < w.heap.size+1:=zo
  have hT2:T < w.heap.size+1+1:=zo
  have HB:Hid (((w.setCell ⟨T,9,none⟩ (.int .u32 (Fl.flagsF 3 (s.R 0) v s.f))).setCell ⟨T,0,none⟩ (.int .u32 v)).heap[T]?=some (gsB ((t.setF (Fl.flagsF 3 (s.R 0) v s.f).toNat).setR 0 v))):=by
    have:=gs_setR (gs_setF H.bT _ (flagsF_bd 3 (s.R 0) v s.f).1) 0 zo v zo
    rw[Int.toNat_natCast] at this
    exact this
  have HV:Hid (v < 4294967296):=H.v
  have hv1:¬((v:Int)=(s.R 0:Int)):=zo
  have hv2:(v==s.R 0)=false:=by simpa using hv
  have hv3:((v:Int)==(s.R 0:Int))=false:=by simpa using hv1
  clear H
  go_enter Tryz.func99,Tryz.ntmps99
  go_wp2_with (first
    | (go_at_call 62;refine(Fl.flags_any 3 (s.R 0) (v) s.f _ (HH.out.sok.r 0) HH.out.v HH.out.sok.f).mono ?_;rintro e w' ⟨rfl,rfl⟩)
    | (go_at_call 98;refine(rstore_tot k at' _ 4 m _ HH.out.a (HV.out) HH.out.mok (sw_w HH.out.rm HH.out.nT hT (((Only.refl T w).setCell 9 _).setCell 0 _) HB.out _ _).rm).mono ?_;rintro e w' ⟨rfl,hR,hC⟩;have HW:Hid (SwW w w' k _ T _ _):=(sw_w HH.out.rm HH.out.nT hT (((Only.refl T w).setCell 9 _).setCell 0 _) HB.out _ _).after hR hC;obtain⟨q0,q1,u0,u1⟩:=stop_cells HW.out.bq;clear hR hC))
  exact bodyPost_ret (v:=stVV 6 (sto m at' 4)) (by simp[results,Tryz.results99,go_sem,q0,q1]) rfl ⟨rfl,HW.out.fin _ _⟩
theorem rswap_any(k:RB)(m:MS)(i:IR)(s t:GS)(T at' v:Nat)(w:World)(H:SwIn w k m s t T i.D at' v)(hop:i.op=24∨i.op=25∨i.op=26) :
    Calls Tryz.prog 99 #[.pointer (some ⟨k.y,0,none⟩),insA i.op i.D i.S i.O i.imm,gsV s,.pointer (some ⟨T,0,none⟩),.int .u32 at',.int .u32 v] w fun e w'=>
      e=.returned (stVV 6 (sto m at' 4))∧w'.heap[T]?=some (gsB (swT i s t v))∧RM w' k (storeT m at' 4 (swV i s v))∧Chg (T :: k.all) w w':=by
  rcases hop with h|h|h
  · have e1:swT i s t v=t.setR i.D v:=if_pos h
    have e2:swV i s v=s.R i.D:=if_pos h
    rw[e1,e2,h];exact rswap24 k m s t T i.D i.S at' v i.imm i.O w H
  · have e1:swT i s t v=(t.setR i.D v).setF (Fl.flagsF 1 v (s.R i.D) s.f).toNat:=by unfold swT;rw[if_neg zo,if_pos h]
    have e2:swV i s v=w32 ((v:Int)+s.R i.D):=by unfold swV;rw[if_neg zo,if_pos h]
    rw[e1,e2,h];exact rswap25 k m s t T i.D i.S at' v i.imm i.O w H
  · by_cases hv:v=s.R 0
    · have e1:swT i s t v=t.setF (Fl.flagsF 3 (s.R 0) (s.R 0) s.f).toNat:=by unfold swT;rw[if_neg zo,if_neg zo,if_pos hv,hv]
      have e2:swV i s v=s.R i.D:=by unfold swV;rw[if_neg zo,if_neg zo,if_pos hv]
      rw[e1,e2,h];exact rswap26e k m s t T i.D i.S at' v i.imm i.O w H hv
    · have e1:swT i s t v=(t.setF (Fl.flagsF 3 (s.R 0) v s.f).toNat).setR 0 v:=by unfold swT;rw[if_neg zo,if_neg zo,if_neg hv]
      have e2:swV i s v=v:=by unfold swV;rw[if_neg zo,if_neg zo,if_neg hv]
      rw[e1,e2,h];exact rswap26n k m s t T i.D i.S at' v i.imm i.O w H hv
def gs0:GS:=⟨fun _=>0,0,0⟩
structure MmIn(w:World)(k:RB)(m:MS)(i:IR)(s t:GS)(at':Nat):Prop where
  rm:RM w k m
  mok:m.Ok
  sok:s.Ok
  tok:t.Ok
  iok:InsOk i
  a:at' < 4294967296
structure MmB(w0 w:World)(k:RB)(m:MS)(i:IR)(s t:GS)(kk aa:Int):Prop where
  rm:RM w k m
  chg:Chg k.all w0 w
  b0:w.heap[w0.heap.size]?=some (Gu.insB i.op i.D i.S i.O i.imm)
  b1:w.heap[w0.heap.size+1]?=some (gsB s)
  b2:w.heap[w0.heap.size+1+1]?=some (gsB t)
  b3:w.heap[w0.heap.size+1+1+1]?=some (gsB gs0)
  b4:w.heap[w0.heap.size+1+1+1+1]?=some (stopB 0 0)
  b5:w.heap[w0.heap.size+1+1+1+1+1]?=some (stopB kk aa)
  lk:∀ x∈k.y :: k.all,x < w0.heap.size
abbrev mmW(w:World)(i:IR)(s t:GS):World:=(((((w.alloc (Gu.insB i.op i.D i.S i.O i.imm)).alloc (gsB s)).alloc (gsB t)).alloc (gsB gs0)).alloc (stopB 0 0)).alloc (stopB 0 0)
theorem alloc_at{w w':World}{n:Nat}{o o':Obj}(h:w.heap[n]?=some o):(w.alloc o').heap[n]?=some o:=
  (((Below.refl w.heap.size w).alloc (Nat.le_refl _) o').block n (lt_of_block h)).trans h
theorem last_at(w:World)(o:Obj)(n:Nat)(h:n=w.heap.size):(w.alloc o).heap[n]?=some o:=by subst h;exact heap_alloc_last w o
theorem mm_start{w:World}{k:RB}{m:MS}{i:IR}{s t:GS}(h:RM w k m):MmB w (mmW w i s t) k m i s t 0 0:=by
  have hB:Below w.heap.size w (mmW w i s t):=((((((Below.refl _ _).alloc (Nat.le_refl _) _).alloc (by simp) _).alloc zq17 _).alloc zq17 _).alloc zq17 _).alloc zq17 _
  refine⟨h.below hB (Nat.le_refl _),Chg.of_below _ hB,?_,?_,?_,?_,?_,?_,h.lt⟩
  · exact alloc_at (w':=w) (alloc_at (w':=w) (alloc_at (w':=w) (alloc_at (w':=w) (alloc_at (w':=w) (last_at _ _ _ rfl)))))
  · exact alloc_at (w':=w) (alloc_at (w':=w) (alloc_at (w':=w) (alloc_at (w':=w) (last_at _ _ _ (by simp)))))
  · exact alloc_at (w':=w) (alloc_at (w':=w) (alloc_at (w':=w) (last_at _ _ _ (by simp))))
  · exact alloc_at (w':=w) (alloc_at (w':=w) (last_at _ _ _ (by simp)))
  · exact alloc_at (w':=w) (last_at _ _ _ (by simp))
  · exact last_at _ _ _ (by simp)
theorem ldX_bd{m:MS}(hm:m.Ok)(a:Nat)(n:Int):0≤ldX m a n∧ldX m a n < 4294967296:=by
  unfold ldX
  by_cases h:badN m 1 a n.toNat=none∧wid n
  · rw[if_pos h]
    have hb:=ldv_bd m.B a hm.by_ n.toNat
    rcases h.2 with rfl|rfl|rfl
    · have:(256:Int) ^ (1:Int).toNat=256:=rfl
      omega
    · have:(256:Int) ^ (2:Int).toNat=65536:=rfl
      omega
    · have:(256:Int) ^ (4:Int).toNat=4294967296:=rfl
      omega
  · rw[if_neg h];omega
theorem ldN_cast{m:MS}(hm:m.Ok)(a:Nat)(n:Int):((ldN m a n:Nat):Int)=ldX m a n:=by
  have:=ldX_bd hm a n;unfold ldN;omega
theorem ldN_lt{m:MS}(hm:m.Ok)(a:Nat)(n:Int):ldN m a n < 4294967296:=by
  have:=ldX_bd hm a n;unfold ldN;omega
theorem ldN_1{m:MS}(hm:m.Ok)(a:Nat):ldN m a 1≤255:=by
  unfold ldN ldX
  by_cases h:badN m 1 a (1:Int).toNat=none∧wid 1
  · rw[if_pos h]
    have hb:=ldv_bd m.B a hm.by_ (1:Int).toNat
    have:(256:Int) ^ (1:Int).toNat=256:=rfl
    omega
  · rw[if_neg h];omega
theorem ldN_2{m:MS}(hm:m.Ok)(a:Nat):ldN m a 2≤65535:=by
  unfold ldN ldX
  by_cases h:badN m 1 a (2:Int).toNat=none∧wid 2
  · rw[if_pos h]
    have hb:=ldv_bd m.B a hm.by_ (2:Int).toNat
    have:(256:Int) ^ (2:Int).toNat=65536:=rfl
    omega
  · rw[if_neg h];omega
theorem rload_l(k:RB)(a:Nat)(n:Int)(m:MS)(w:World)(ha:a < 4294967296)(hm:m.Ok)(h:RM w k m) :
    Calls Tryz.prog 97 #[.pointer (some ⟨k.y,0,none⟩),.int .u32 a,.int .i64 n] w fun e w'=>e=.returned (.tuple #[.int .u32 (ldN m a n),stVV 5 (badN m 1 a n.toNat)])∧Below w.heap.size w w':=
  (rload_tot k a n m w ha hm h).mono fun e w' ⟨he,hb⟩=>⟨by rw[he,ldN_cast hm],hb⟩
theorem ldG_eq(m:MS)(s:GS)(a:Nat)(n:Int)(g:Nat→GS):ldG m s a n g=⟨if stK 5 (badN m 1 a n.toNat)=0 then g (ldN m a n) else s,stK 5 (badN m 1 a n.toNat),stA (badN m 1 a n.toNat),m⟩:=by
  unfold ldG
  cases badN m 1 a n.toNat with
  | none=>rfl
  | some x=>rfl
theorem stG_eq(m:MS)(s:GS)(a:Nat)(n:Int)(v:Nat)(t:GS):stG m s a n v t=⟨if stK 6 (sto m a n)=0 then t else s,stK 6 (sto m a n),stA (sto m a n),storeT m a n v⟩:=by
  unfold stG
  cases h:sto m a n with
  | none=>rfl
  | some x=>
    have:storeT m a n v=m:=by
      unfold storeT
      refine if_neg fun hh=>?_
      unfold sto at h
      rw[if_pos hh.1,hh.2] at h
      cases h
    rw[this];rfl
theorem MmB.below{w0 w w':World}{k:RB}{m:MS}{i:IR}{s t:GS}{kk aa:Int}(h:MmB w0 w k m i s t kk aa)(hb:Below w.heap.size w w'):MmB w0 w' k m i s t kk aa:=
  ⟨h.rm.below hb (Nat.le_refl _),h.chg.trans (Chg.of_below _ hb),(hb.block _ (lt_of_block h.b0)).trans h.b0,(hb.block _ (lt_of_block h.b1)).trans h.b1,(hb.block _ (lt_of_block h.b2)).trans h.b2,(hb.block _ (lt_of_block h.b3)).trans h.b3,(hb.block _ (lt_of_block h.b4)).trans h.b4,(hb.block _ (lt_of_block h.b5)).trans h.b5,h.lk⟩
theorem MmB.after{w0 w w':World}{k:RB}{m m':MS}{i:IR}{s t:GS}{kk aa:Int}(h:MmB w0 w k m i s t kk aa)(hR:RM w' k m')(hc:Chg k.all w w'):MmB w0 w' k m' i s t kk aa:=by
  have hn:∀ b,w0.heap.size≤b→b∉k.all:=fun b hb hm=>by have:=h.lk b (List.mem_cons_of_mem _ hm);omega
  exact⟨hR,h.chg.trans hc,(hc.block _ (lt_of_block h.b0) (hn _ zo)).trans h.b0,(hc.block _ (lt_of_block h.b1) (hn _ zo)).trans h.b1,(hc.block _ (lt_of_block h.b2) (hn _ zo)).trans h.b2,(hc.block _ (lt_of_block h.b3) (hn _ zo)).trans h.b3,(hc.block _ (lt_of_block h.b4) (hn _ zo)).trans h.b4,(hc.block _ (lt_of_block h.b5) (hn _ zo)).trans h.b5,h.lk⟩
theorem MmB.putT{w0 w w':World}{k:RB}{m:MS}{i:IR}{s t t':GS}{kk aa:Int}(h:MmB w0 w k m i s t kk aa)(hO:Only (w0.heap.size+1+1) w w')(hb:w'.heap[w0.heap.size+1+1]?=some (gsB t')):MmB w0 w' k m i s t' kk aa:=by
  have hn:w0.heap.size+1+1∉k.y :: k.all:=fun hm=>by have:=h.lk _ hm;omega
  exact⟨h.rm.off hn hO.block,h.chg.new zo hO,(hO.block _ zo).trans h.b0,(hO.block _ zo).trans h.b1,hb,(hO.block _ zo).trans h.b3,(hO.block _ zo).trans h.b4,(hO.block _ zo).trans h.b5,h.lk⟩
theorem MmB.putQ{w0 w:World}{k:RB}{m:MS}{i:IR}{s t:GS}{kk aa:Int}(h:MmB w0 w k m i s t kk aa)(k' a':Int) :
    MmB w0 ((w.setCell ⟨w0.heap.size+1+1+1+1+1,0,none⟩ (.int .i64 k')).setCell ⟨w0.heap.size+1+1+1+1+1,1,none⟩ (.int .u32 a')) k m i s t k' a':=by
  have hn:w0.heap.size+1+1+1+1+1∉k.y :: k.all:=fun hm=>by have:=h.lk _ hm;omega
  have hO:Only (w0.heap.size+1+1+1+1+1) w ((w.setCell ⟨w0.heap.size+1+1+1+1+1,0,none⟩ (.int .i64 k')).setCell ⟨w0.heap.size+1+1+1+1+1,1,none⟩ (.int .u32 a')):=((Only.refl _ w).setCell 0 _).setCell 1 _
  exact⟨h.rm.off hn hO.block,h.chg.new zo hO,(hO.block _ zo).trans h.b0,(hO.block _ zo).trans h.b1,(hO.block _ zo).trans h.b2,(hO.block _ zo).trans h.b3,(hO.block _ zo).trans h.b4,stop_set h.b5 k' a',h.lk⟩
theorem MmB.drew{w0 w:World}{k:RB}{m:MS}{i:IR}{s t:GS}{kk aa:Int}(h:MmB w0 w k m i s t kk aa):MmB w0 w.drew k m i s t kk aa:=
  ⟨h.rm.drew,h.chg.drew,h.b0,h.b1,h.b2,h.b3,h.b4,h.b5,h.lk⟩
def memOp(op:Int):Prop:=op=11∨op=14∨op=3∨op=8∨op=10∨op=15∨op=4∨op=2∨op=30∨op=31∨op=24∨op=25∨op=26
theorem gs_all{w:World}{X:Nat}{s:GS}(h:w.heap[X]?=some (gsB s)):w.cell? ⟨X,0,none⟩=some (.int .u32 (s.R 0))∧w.cell? ⟨X,1,none⟩=some (.int .u32 (s.R 1))∧w.cell? ⟨X,2,none⟩=some (.int .u32 (s.R 2))∧w.cell? ⟨X,3,none⟩=some (.int .u32 (s.R 3))∧w.cell? ⟨X,4,none⟩=some (.int .u32 (s.R 4))∧w.cell? ⟨X,5,none⟩=some (.int .u32 (s.R 5))∧w.cell? ⟨X,6,none⟩=some (.int .u32 (s.R 6))∧w.cell? ⟨X,7,none⟩=some (.int .u32 (s.R 7))∧w.cell? ⟨X,8,none⟩=some (.int .u32 s.pc)∧w.cell? ⟨X,9,none⟩=some (.int .u32 s.f):=
  ⟨gs_reg h 0 zo,gs_reg h 1 zo,gs_reg h 2 zo,gs_reg h 3 zo,gs_reg h 4 zo,gs_reg h 5 zo,gs_reg h 6 zo,gs_reg h 7 zo,gs_pc h,gs_f h⟩
theorem Chg.setNew{S:List Nat}{w w':World}{T:Nat}(h:Chg S w w')(hT:w.heap.size≤T)(o:Nat)(v:Value):Chg S w (w'.setCell ⟨T,o,none⟩ v):=h.new hT ((Only.refl T w').setCell o v)
theorem RM.setOff'{w:World}{k:RB}{m:MS}{T n:Nat}(h:RM w k m)(hl:∀ x∈k.y :: k.all,x < n)(hT:n≤T)(o:Nat)(v:Value):RM (w.setCell ⟨T,o,none⟩ v) k m:=
  h.setOff (fun hm=>by have:=hl T hm;omega) o v
end Go.Proofs.YtfokgedjocnnmaaGreat
