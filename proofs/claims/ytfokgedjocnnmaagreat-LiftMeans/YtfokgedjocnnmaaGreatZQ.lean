import Derived.Test.YtfokgedjocnnmaaGreatProg
import Derived.WalkKit
import Derived.WalkSpells
import Derived.WalkLawsBesides
import Derived.Deep.QuietTactic
import Derived.BigQuiet
import Derived.KernelRfl
import Derived.Laws.Tables
import Derived.Deep.WholeRow
import Derived.Deep.LoopGhost
set_option linter.unusedVariables false
set_option linter.unusedSimpArgs false
set_option maxHeartbeats 400000
namespace Go.Proofs.YtfokgedjocnnmaaGreat
open Go.RowKit
set_option maxRecDepth 100000
theorem zo{p:Prop}(h:p:=by omega):p:=h
theorem zq0{p:Prop}(h:p:=by first|with_reducible exact hE|with_reducible exact((Em.refl hT).drew).trans hE|with_reducible exact((Em.refl hT).alloc _).trans hE|with_reducible exact(((Em.refl hT).alloc _).drew).trans hE|with_reducible exact(((Em.refl hT).drew).alloc _).trans hE|with_reducible exact(((Em.refl hT).alloc _).alloc _).trans hE|with_reducible exact((((Em.refl hT).alloc _).alloc _).drew).trans hE):p:=h
theorem zq1{p:Prop}(h:p:=by(first|with_reducible exact hT|with_reducible exact hT.drw|with_reducible exact(hT.alw _)|with_reducible exact(hT.alw _).drw|with_reducible exact(hT.drw.alw _)|with_reducible exact((hT.alw _).alw _)|with_reducible exact((hT.alw _).alw _).drw)):p:=h
theorem zq2{p:Prop}(h:p:=by repeat(first|with_reducible exact NA.out|with_reducible refine ND.out _ _ ?_)):p:=h
theorem zq3{p:Prop}(h:p:=by have:=HCNT.out;first|(simp[fieldBad,bd,bg];done)|(simp[fieldBad,bd,bg];omega)):p:=h
theorem zq4{p:Prop}(h:p:=by have hB:=HNW.out;repeat(first|with_reducible exact hB|with_reducible refine NW.alloc ?_ _)):p:=h
theorem zq5{p:Prop}(h:p:=by first|exact hf|rfl):p:=h
theorem zq6{p:Prop}(h:p:=by first|(simp;done)|(simp;omega)|omega):p:=h
theorem zq7{p:Prop}(h:p:=by simp[results,Tryz.results66,go_sem,x0,x1,x2,x3,x4,x5,x6,x7,x8,x9,z0,z1,z2,z3,z4,z5,z6,z7,z8,z9,p0,p1]):p:=h
theorem zq8{p:Prop}(h:p:=by simp[results,Tryz.results32,go_sem,x0,x1,x2,x3,x4,x5,x6,x7,x8,x9,z0,z1,z2,z3,z4,z5,z6,z7,z8,z9,p0,p1,l0,l1,l2]):p:=h
theorem zq9{p:Prop}(h:p:=by have:=HMX.out;omega):p:=h
theorem zq10{p:Prop}(h:p:=by(try dsimp only);simp[go_sem,z5_0,z5_1,z5_2,z5_3,z5_4,z5_5,z5_6]):p:=h
theorem zq11{p:Prop}(h:p:=by(first|with_reducible exact hT|with_reducible exact hT.drw)):p:=h
theorem zq12{p:Prop}(h:p:=by simp only[World.size_alloc];omega):p:=h
theorem zq13{p:Prop}(h:p:=by(repeat first|with_reducible exact Below.refl _ _|with_reducible exact hB|with_reducible refine Below.drew ?_|with_reducible refine Below.alloc ?_ zq6 _|with_reducible refine Below.setCell ?_ zq6 _)):p:=h
theorem zq14{p:Prop}(h:p:=by simp[results,Tryz.results71,go_sem,t0,t1,t2,t3,t4]):p:=h
theorem zq15{p:Prop}(h:p:=by(first|with_reducible exact hT.alw _|with_reducible exact(hT.alw _).drw)):p:=h
theorem zq16{p:Prop}(h:p:=by(first|with_reducible exact hT|with_reducible exact hT.drw|with_reducible exact(hT.alw _))):p:=h
theorem zq17{p:Prop}(h:p:=by simp;omega):p:=h
theorem zq18{p:Prop}(h:p:=by rw[HOE.out,HEF.out,HFB.out,HTB.out,HREN.out,hlast'];rfl):p:=h
theorem zq19{p:Prop}(h:p:=by first|exact H0.out.below h1|exact H0.out.drew.below h1|exact H0.out.drew.drew.below h1):p:=h
theorem zq20{p:Prop}(h:p:=by first|exact Nat.le_refl _|exact Nat.le_succ _|(simp only;omega)):p:=h
theorem zq21{p:Prop}(h:p:=by simp[results,Tryz.results6,go_sem,z0,z1,f0,f1]):p:=h
theorem zq22{p:Prop}(h:p:=by rw[HOE.out,HEF.out,HFB.out,HTB.out];rfl):p:=h
theorem zq23{p:Prop}(h:p:=by simpa[go_sem] using d0):p:=h
theorem zq24{p:Prop}(h:p:=by(try dsimp only);simp[go_sem,v5_0,v5_1,v5_2,v5_3,v5_4,v5_5,v5_6,nVD]):p:=h
theorem zq25{p:Prop}(h:p:=by first|exact Nat.le_refl _|omega):p:=h
theorem zq26{p:Prop}(h:p:=by(try dsimp only);simp[go_sem,v5_0,v5_1,v5_2,v5_3,v5_4,v5_5,v5_6]):p:=h
theorem zq27{p:Prop}(h:p:=by(first|with_reducible exact hT|with_reducible exact hT.drw|with_reducible exact hT.drw.drw)):p:=h
theorem zq28{p:Prop}(h:p:=by simp only;omega):p:=h
theorem zq29{p:Prop}(h:p:=by first|exact h2|exact Em.first H1.out.t h2):p:=h
theorem zq30{p:Prop}(h:p:=by simp[go_sem,s0]):p:=h
theorem zq31{p:Prop}(h:p:=by simp[go_sem,p0]):p:=h
theorem zq32{p:Prop}(h:p:=by simp[go_sem,pz]):p:=h
theorem zq33{p:Prop}(h:p:=by first|exact h3|exact Em.first H2.out.t h3):p:=h
theorem zq34{p:Prop}(h:p:=by simp only[World.size_setCell,World.size_drew,World.size_alloc];omega):p:=h
theorem zq35{p:Prop}(h:p:=by simp[results,Tryz.results86,go_sem,q0,q1,fr,l7]):p:=h
theorem zq36{p:Prop}(h:p:=by first|omega|(simp;omega)):p:=h
theorem zq37{p:Prop}(h:p:=by simp[results,Tryz.results59,go_sem,r0,r1,r2,r3,r4,decErr]):p:=h
theorem zq38{p:Prop}(h:p:=by have:=HLT.out;omega):p:=h
theorem zq39{p:Prop}(h:p:=by simp[Fl.recOk]):p:=h
theorem zq40{p:Prop}(h:p:=by simp[results,Tryz.results71,go_sem,t0',t1',t2',t3',t4']):p:=h
theorem zq41{p:Prop}(h:p:=by simp[results,Tryz.results5,go_sem,q0,q1,q2,q3,z0,z1,z2,z3,f0,f1,f2,f3]):p:=h
theorem zq42{p:Prop}(h:p:=by rw[HM.out];exact Nat.zero_lt_one):p:=h
end Go.Proofs.YtfokgedjocnnmaaGreat
namespace Go.Proofs.YtfokgedjocnnmaaGreat.Gu
open Go.RowKit
theorem fits_byte(p:Nat)(x op first count field regs imm:Int)(w:World)(hx:w.cell? ⟨p,0,none⟩=some (.int .u8 x))(hp:p < w.heap.size) :
  Calls Tryz.prog 101 #[.agg #[.int .u8 op,.int .u8 first,.int .u8 count,.int .u8 field,.int .u8 regs,.int .u8 imm],.pointer (some ⟨p,0,none⟩)] w
   fun e w'=>e=.returned (.bool (decide ((x - first)%256 < count)))∧Below w.heap.size w w':=by
 go_enter Tryz.func101,Tryz.ntmps101
 go_wp2
 go_ret
 exact⟨rfl,(Below.refl _ _).alloc (Nat.le_refl _) _⟩
def sizeN(regs imm:Int):Int:=1+(if imm=0 then 0 else if imm=3 then 4 else 1)+(if regs=0 then 0 else 1)
theorem size_any(op first count field regs imm:Int)(w:World)(h0:0≤imm)(h1:imm≤3) :
  Calls Tryz.prog 70 #[.agg #[.int .u8 op,.int .u8 first,.int .u8 count,.int .u8 field,.int .u8 regs,.int .u8 imm]] w
   fun e w'=>e=.returned (.int .i64 (sizeN regs imm))∧Below w.heap.size w w':=by
 have hb:∀ (o1 o2:Obj),Below w.heap.size w ((w.alloc o1).alloc o2):=fun o1 o2=>((Below.refl _ _).alloc (Nat.le_refl _) _).alloc (by simp) _
 rcases(by omega:imm=0∨imm=1∨imm=2∨imm=3) with rfl|rfl|rfl|rfl
 all_goals
  by_cases hr:regs=0
  ·subst hr
   go_enter Tryz.func70,Tryz.ntmps70
   go_wp2
   go_ret
   exact⟨rfl,hb _ _⟩
  ·have hr':(regs==0)=false:=by simpa using hr
   have hr2:(regs !=0)=true:=by simpa using hr
   simp only[sizeN,if_neg hr]
   clear hr
   go_enter Tryz.func70,Tryz.ntmps70
   go_wp2
   go_ret
   exact⟨rfl,hb _ _⟩
theorem byteOf_any(x:Int)(w:World)(h0:0≤x)(h1:x≤255) :
  Calls Tryz.prog 85 #[.int .u8 x] w fun e w'=>e=.returned (.int .u32 (if 128≤x then x+4294967040 else x))∧w=w':=by
 by_cases h:128≤x
 ·rw[if_pos h]
  go_enter Tryz.func85,Tryz.ntmps85
  go_wp2
  go_ret
  exact⟨rfl,rfl⟩
 ·rw[if_neg h]
  go_enter Tryz.func85,Tryz.ntmps85
  go_wp2
  go_ret
  exact⟨rfl,rfl⟩
theorem and15_nat:∀ n:Fin 256,bits BinOp.and IntKind.i64 ((n.val:Nat):Int) 15=((n.val:Nat):Int)%16:=by decide +kernel
theorem and15(x:Int)(h0:0≤x)(h1:x≤255):bits BinOp.and IntKind.i64 x 15=x%16:=by
 have:=and15_nat ⟨x.toNat,by omega⟩
 simp only[Int.toNat_of_nonneg h0] at this
 exact this
theorem halves_any(x:Int)(w:World)(h0:0≤x)(h1:x≤255) :
  Calls Tryz.prog 103 #[.int .i64 x] w fun e w'=>e=.returned (.tuple #[.int .i64 (x / 16),.int .i64 (x%16)])∧w=w':=by
 go_enter Tryz.func103,Tryz.ntmps103
 go_wp2
 go_ret2
 refine⟨?_,rfl⟩
 show Ending.returned (.tuple #[.int .i64 (x / 16),.int .i64 (bits BinOp.and IntKind.i64 x 15)])=_
 rw[and15 x h0 h1]
def pureB(P:Program)(o:Oper)(a:Act):Option Act:=
 match o.guard,o.op with
 | none,.build t parts=>(P.built t (parts.map fun (i,x)=>(i,a.eval x)).toList).map fun cs=>a.put o.dst (.agg cs)
 | _,_=>none
def pureN(P:Program):Nat→List Oper→Act→Option Act
 | 0,_,a=>some a
 | n+1,o :: r,a=>(pureB P o a).bind (pureN P n r)
 | _+1,[],_=>none
theorem wpList_build_as{P:Program}{ops:Array Oper}{rest:List Oper}{o:Oper}{a:Act}{w:World}{Q:Exit→Act→World→Prop}(hg:o.guard=none)(t:TypeId)(parts:Array (Nat × Operand))(ho:o.op=.build t parts)(cells:Array Value)
  (hc:P.built t (parts.map fun (i,x)=>(i,a.eval x)).toList=some cells)
  (h:wpList P ops Q rest (a.put o.dst (.agg cells)) w):wpList P ops Q (o :: rest) a w:=
 wpList_build hg t parts ho (by rw[hc];rfl) (by rw[hc];exact h)
theorem wpList_pureN{P:Program}{ops:Array Oper}{w:World}{Q:Exit→Act→World→Prop}:∀ (n:Nat) (l:List Oper) (a a':Act),pureN P n l a=some a'→
  wpList P ops Q (l.drop n) a' w→wpList P ops Q l a w
 | 0,_,_,_,h,k=>by simp only[pureN,Option.some.injEq] at h;subst h;exact k
 | n+1,[],_,_,h,_=>by simp[pureN] at h
 | n+1,o :: r,a,a',h,k=>by
  simp only[pureN] at h
  cases hb:pureB P o a with
  | none=>simp[hb] at h
  | some a1=>
   simp only[hb,Option.bind_some] at h
   unfold pureB at hb
   split at hb
   ·rename_i t parts hg ho
    simp only[Option.map_eq_some_iff] at hb
    obtain⟨cs,hcs,rfl⟩:=hb
    exact wpList_build_as hg t parts ho cs hcs (wpList_pureN n r _ a' h (by simpa using k))
   ·simp at hb
theorem wpList_pureAt{P:Program}{ops:Array Oper}{w:World}{Q:Exit→Act→World→Prop}(d n:Nat)(o:Oper)(l:List Oper)(a a':Act)(_hd:o.dst=some d)(h:pureN P n (o :: l) a=some a')
  (k:wpList P ops Q ((o :: l).drop n) a' w):wpList P ops Q (o :: l) a w:=wpList_pureN n (o :: l) a a' h k
theorem wpList_alloc_as{P:Program}{ops:Array Oper}{rest:List Oper}{o:Oper}{a:Act}{w:World}{Q:Exit→Act→World→Prop}(hg:o.guard=none)(t:TypeId)(ho:o.op=.alloc t)(cs:Array Value)(hz:∀ w,(zeroValue t).run P w=.ok (.agg cs) w)(H:Nat)(hH:w.heap.size=H)
  (h:wpList P ops Q rest (a.put o.dst (.pointer (some ⟨H,0,none⟩))) (w.alloc (.cells cs t))):wpList P ops Q (o :: rest) a w:=by
 subst hH
 refine wpList_plain hg fun _ hK=>?_
 unfold Oper.wp execOp
 simp[ho,hz,Instr.alloc,go_sem]
 exact hK _ _ h
theorem wpList_buildSlice_as{P:Program}{ops:Array Oper}{rest:List Oper}{o:Oper}{a:Act}{w:World}{Q:Exit→Act→World→Prop}(hg:o.guard=none)(t:TypeId)(len:Nat)(parts:Array (Nat × Operand))(ho:o.op=.buildSlice t len parts)(v:Value)(w':World)
  (hr:(Instr.buildSlice t len (parts.map fun (i,x)=>(i,a.eval x))).run P w=.ok v w')
  (h:wpList P ops Q rest (a.put o.dst v) w'):wpList P ops Q (o :: rest) a w:=by
 refine wpList_plain hg fun _ hK=>?_
 unfold Oper.wp execOp
 simp only[ho,Sem.run_bind,hr,Result.andThen_ok,Sem.run_pure]
 exact hK _ _ h
def tabL:List Int:=[0,0,1,0,0,0,1,1,1,0,0,0,2,2,1,0,0,0,3,3,1,0,0,0,4,4,1,0,0,0,5,5,1,0,0,1,6,6,1,0,0,2,7,7,1,0,0,3,8,8,1,0,0,3,9,9,1,0,1,0,10,10,1,0,1,0,11,11,1,0,1,2,12,16,16,1,0,2,13,32,16,1,0,3,14,48,8,2,0,0,15,56,8,3,0,0,16,64,8,3,0,3,17,72,8,3,0,0,18,80,8,3,0,0,19,88,8,3,0,0,20,96,8,3,0,0,21,104,1,0,3,0,22,105,1,0,4,0,23,106,1,0,4,2,24,107,1,0,4,2,25,108,1,0,4,2,26,109,1,0,4,2,27,112,16,1,4,0,28,128,16,1,2,3,29,144,16,1,2,2,30,160,5,1,4,2,31,165,3,1,4,2]
def tabV:List Value:=tabL.map (Value.int .u8)
def tabCells:Array Value:=tabV.toArray
def tabZero:Array Value:=Array.replicate 192 (.int .u8 0)
def tg(k j:Nat):Int:=tabL.getD (k*6+j) 0
def rowC(k:Nat):Value:=.agg #[.int .u8 (tg k 0),.int .u8 (tg k 1),.int .u8 (tg k 2),.int .u8 (tg k 3),.int .u8 (tg k 4),.int .u8 (tg k 5)]
def rg(h:Option Nat)(j:Nat):Int:=
 match h with
 | some k=>tg k j
 | none=>0
abbrev rowV(h:Option Nat):Value:=.agg #[.int .u8 (rg h 0),.int .u8 (rg h 1),.int .u8 (rg h 2),.int .u8 (rg h 3),.int .u8 (rg h 4),.int .u8 (rg h 5)]
def formV:List Value:=[.int .i64 0,.int .i64 1,.string { data:=#[] },.string { data:=#[] },.int .i64 1,.int .i64 1,.string { data:=#[] },.string { data:=#[] },.int .i64 2,.int .i64 1,.string { data:=#[] },.string { data:=#[] },.int .i64 3,.int .i64 1,.string { data:=#[] },.string { data:=#[] },.int .i64 4,.int .i64 1,.string { data:=#[] },.string { data:=#[] },.int .i64 5,.int .i64 1,.string { data:=#[] },.string { data:=#[98] },.int .i64 6,.int .i64 1,.string { data:=#[] },.string { data:=#[115] },.int .i64 7,.int .i64 1,.string { data:=#[] },.string { data:=#[119] },.int .i64 8,.int .i64 1,.string { data:=#[] },.string { data:=#[119] },.int .i64 9,.int .i64 1,.string { data:=#[] },.string { data:=#[101] },.int .i64 10,.int .i64 1,.string { data:=#[] },.string { data:=#[101] },.int .i64 11,.int .i64 1,.string { data:=#[] },.string { data:=#[101,115] },.int .i64 16,.int .i64 16,.string { data:=#[79] },.string { data:=#[115] },.int .i64 32,.int .i64 16,.string { data:=#[79] },.string { data:=#[119] },.int .i64 48,.int .i64 8,.string { data:=#[83] },.string { data:=#[] },.int .i64 56,.int .i64 8,.string { data:=#[68] },.string { data:=#[] },.int .i64 64,.int .i64 8,.string { data:=#[68] },.string { data:=#[119] },.int .i64 72,.int .i64 8,.string { data:=#[68] },.string { data:=#[] },.int .i64 80,.int .i64 8,.string { data:=#[68] },.string { data:=#[] },.int .i64 88,.int .i64 8,.string { data:=#[68] },.string { data:=#[] },.int .i64 96,.int .i64 8,.string { data:=#[68] },.string { data:=#[] },.int .i64 104,.int .i64 1,.string { data:=#[] },.string { data:=#[99] },.int .i64 105,.int .i64 1,.string { data:=#[] },.string { data:=#[112] },.int .i64 106,.int .i64 1,.string { data:=#[] },.string { data:=#[112,115] },.int .i64 107,.int .i64 1,.string { data:=#[] },.string { data:=#[112,115] },.int .i64 108,.int .i64 1,.string { data:=#[] },.string { data:=#[112,115] },.int .i64 109,.int .i64 1,.string { data:=#[] },.string { data:=#[112,115] },.int .i64 112,.int .i64 16,.string { data:=#[79] },.string { data:=#[112] },.int .i64 128,.int .i64 16,.string { data:=#[79] },.string { data:=#[100,119] },.int .i64 144,.int .i64 16,.string { data:=#[79] },.string { data:=#[100,115] },.int .i64 160,.int .i64 5,.string { data:=#[79] },.string { data:=#[112,115] },.int .i64 165,.int .i64 3,.string { data:=#[79] },.string { data:=#[112,115] }]
def formC(k:Nat):Value:=.agg ((formV.drop (4*k)).take 4).toArray
def formCells:Array Value:=formV.toArray
theorem info59:(Tryz.prog.info? 159).map (fun i=>(i.zero,i.size))=some (some (.agg tabZero),192):=by kernel_rfl
set_option maxRecDepth 100000 in
theorem forms_any(w:World) :
  Calls Tryz.prog 84 #[] w
   fun e w'=>e=.returned (.slice (some ⟨w.heap.size,0,none⟩) 32 32)∧w.alloc (.cells formCells 126)=w':=by
 go_enter Tryz.func84,Tryz.ntmps84
 go_wp2_with (first|(refine wpList_pureAt 1 32 _ _ _ ⟨#[.slice none 0 0,formC 0,formC 1,formC 2,formC 3,formC 4,formC 5,formC 6,formC 7,formC 8,formC 9,formC 10,formC 11,formC 12,formC 13,formC 14,formC 15,formC 16,formC 17,formC 18,formC 19,formC 20,formC 21,formC 22,formC 23,formC 24,formC 25,formC 26,formC 27,formC 28,formC 29,formC 30,formC 31,undef],[]⟩ rfl (by kernel_rfl) ?_;simp only[List.drop_succ_cons,List.drop_zero])|(refine wpList_buildSlice_as rfl 127 32 _ rfl (.slice (some ⟨w.heap.size,0,none⟩) 32 32) (w.alloc (.cells formCells 126)) (by kernel_rfl) ?_))
 go_ret
 exact⟨rfl,rfl⟩
theorem tab_len:tabL.length=192:=by kernel_rfl
theorem tab_at(i:Nat)(h:i < 192):tabCells[i]?=some (.int .u8 (tabL.getD i 0)):=by
 have hl:i < tabL.length:=by rw[tab_len];exact h
 simp only[tabCells,tabV,List.getElem?_toArray,List.getElem?_map,List.getElem?_eq_getElem hl,Option.map_some,List.getD_eq_getElem?_getD,Option.getD_some]
def hit(fit:Nat→Bool):Option Nat:=(List.range 32).find? fit
theorem hit_some{fit:Nat→Bool}{k:Nat}(hk:k < 32)(h:fit k=true)(hn:∀ j,j < k→fit j=false):hit fit=some k:=by
 unfold hit
 rw[List.find?_range_eq_some]
 exact⟨h,by simpa using hk,fun j hj=>by simp[hn j hj]⟩
theorem hit_none{fit:Nat→Bool}(hn:∀ j,j < 32→fit j=false):hit fit=none:=by
 unfold hit
 rw[List.find?_eq_none]
 intro j hj
 simp[hn j (by simpa using hj)]
theorem info_cells{w wr:World}{B:Nat}{cs:Array Value}{t:TypeId}(h:Below (w.heap.size+1) (w.alloc (.cells cs t)) wr)(hB:B=w.heap.size)(i:Nat):wr.cell? ⟨B,i,none⟩=cs[i]?:=by
 subst hB
 rw[h.cell (p:=⟨w.heap.size,i,none⟩) (Nat.lt_succ_self _)]
 exact cell_of_row _ _ i cs t (0,0) (heap_alloc_last w _)
theorem bcell{W w1:World}(hb:Below W.heap.size W w1):(∀ b o,b < W.heap.size→w1.cell? ⟨b,o,none⟩=W.cell? ⟨b,o,none⟩)∧(∀ b o,b < W.heap.size→w1.frozen? ⟨b,o,none⟩=W.frozen? ⟨b,o,none⟩):=
 ⟨fun b o h=>hb.cell (p:=⟨b,o,none⟩) h,fun b o h=>hb.frozen (p:=⟨b,o,none⟩) h⟩
end Go.Proofs.YtfokgedjocnnmaaGreat.Gu
