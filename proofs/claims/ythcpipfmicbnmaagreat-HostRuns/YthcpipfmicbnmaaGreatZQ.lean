import Derived.Test.YthcpipfmicbnmaaGreatProg
import Derived.WalkKit
import Derived.WalkSpells
import Derived.WalkLawsBesides
import Derived.Deep.QuietTactic
import Derived.BigQuiet
import Derived.KernelRfl
import Derived.Below
import Derived.BigRegion
import Derived.Laws.Tables
import Derived.Laws.BitsAllLaws
import Derived.Deep.WholeRow
import Derived.Deep.LoopGhost
set_option linter.unusedVariables false
set_option linter.unusedSimpArgs false
set_option maxHeartbeats 1000000
namespace Go.Proofs.YthcpipfmicbnmaaGreat
open Go.RowKit
set_option maxRecDepth 100000
theorem aO{p:Prop}(h:p:=by omega):p:=h
theorem aS{p:Prop}(h:p:=by simp):p:=h
theorem aD{p:Prop}(h:p:=by decide):p:=h
theorem aT{p:Prop}[Decidable p](h:p:=by omega):decide p=true:=decide_eq_true h
theorem aF{p:Prop}[Decidable p](h:¬p:=by omega):decide p=false:=decide_eq_false h
theorem aC{α:Type}{a:α}{l:List α}:a∈a :: l:=List.mem_cons_self
theorem aM{α:Type}{a:α}{l:List α}(b:α)(h:a∈l):a∈b :: l:=List.mem_cons_of_mem b h
theorem aL{n:Nat}:n≤n:=Nat.le_refl n
theorem aB{n:Nat}{w:World}:Below n w w:=Below.refl n w
theorem aP:(∀ (l:List Value) (i:Nat) (h:i < l.toArray.size),l.toArray[i]=l[i]'(by simpa using h))∧(∀ (a:Value) (l:List Value) (h:0 < (a :: l).length),(a :: l)[0]=a)∧(∀ (a:Value) (l:List Value) (i:Nat) (h:i+1 < (a :: l).length),(a :: l)[i+1]=l[i]'(by simpa using h))∧(∀ (l:List Value) (i:Nat) (a:Value),l.toArray.setIfInBounds i a=(l.set i a).toArray)∧(∀ (a b:Value) (l:List Value),(a :: l).set 0 b=b :: l)∧∀ (a b:Value) (l:List Value) (i:Nat),(a :: l).set (i+1) b=a :: l.set i b:=⟨fun _ _ h=>List.getElem_toArray h,fun _ _ _=>rfl,fun _ _ _ _=>rfl,fun _ _ _=>List.setIfInBounds_toArray ..,fun _ _ _=>rfl,fun _ _ _ _=>rfl⟩
theorem zq0{p:Prop}(h:p:=by have hB:=HX.out.bel;repeat first|with_reducible exact hB|with_reducible refine Below.setCell ?_ (by first|exact Nat.le_refl _|(simp;done)) _|with_reducible refine Below.alloc ?_ (by have:=hB.size;first|omega|(simp;omega)) _):p:=h
theorem zq1{p:Prop}(h:p:=by(repeat first|with_reducible exact Below.refl _ _|with_reducible exact hB|with_reducible refine Below.drew ?_|with_reducible refine Below.alloc ?_ (by first|(simp;done)|(simp;omega)|omega) _|with_reducible refine Below.setCell ?_ (by first|(simp;done)|(simp;omega)|omega) _)):p:=h
theorem zq2{p:Prop}(h:p:=by first|exact .inl rfl|exact .inr (.inl rfl)|exact .inr (.inr (.inl rfl))|exact .inr (.inr (.inr (.inl rfl)))|exact .inr (.inr (.inr (.inr rfl)))):p:=h
theorem zq3{p:Prop}(h:p:=by focus(repeat first|with_reducible exact HQ'.out|with_reducible refine QW.al ?_ _|with_reducible refine QW.dr ?_|with_reducible refine QW.drN ?_ _)):p:=h
theorem zq4{p:Prop}(h:p:=by focus(repeat first|with_reducible exact(zI.refl _ _)|with_reducible exact zI.refl _ _|with_reducible refine zI.alloc ?_ _|with_reducible refine zI.drew ?_|with_reducible refine zI.dN ?_ _)):p:=h
theorem zq5{p:Prop}(h:p:=by simp[results,Tryz.results23,go_sem,uJ,r0,r1,r2,r3,r4,r5,r6,r7,lr]):p:=h
theorem zq6{p:Prop}(h:p:=by have hB:=HR9.out;repeat first|with_reducible exact hB|with_reducible refine RB.other ?_ nr _ _|with_reducible refine RB.drw ?_):p:=h
theorem zq7{p:Prop}(h:p:=by simp;omega):p:=h
theorem zq8{p:Prop}(h:p:=by have hB:=Below.refl w.heap.size w;repeat first|with_reducible exact hB|with_reducible refine Below.setCell ?_ (by first|exact Nat.le_refl _|(simp;done)) _|with_reducible refine Below.alloc ?_ (by first|exact Nat.le_refl _|(simp;done)) _):p:=h
theorem zq9{p:Prop}(h:p:=by simp[results,Tryz.results52,go_sem,r0,r1,r2,r3,r4,r5,lr9]):p:=h
theorem zq10{p:Prop}(h:p:=by have hB:=HG.out.c.trans HC9.out;repeat first|with_reducible exact hB|with_reducible refine zI.new ?_ aO _ _|with_reducible refine zI.drew ?_):p:=h
theorem zq11{p:Prop}(h:p:=by first|(simp;done)|(simp;omega)|omega):p:=h
theorem zq12{p:Prop}(h:p:=by focus(repeat first|with_reducible exact HB1.out.ch|with_reducible exact zI.refl _ _|with_reducible refine zI.setNew ?_ aO _ _|with_reducible refine zI.alloc ?_ _|with_reducible refine zI.drew ?_|with_reducible refine zI.dN ?_ _)):p:=h
theorem zq13{p:Prop}(h:p:=by focus(repeat first|with_reducible exact HW1.out.q|with_reducible refine QW.al ?_ _|with_reducible refine QW.dr ?_|with_reducible refine QW.drN ?_ _)):p:=h
theorem zq14{p:Prop}(h:p:=by first|exact⟨HB9.out,H3.out.ch.trans HC9.out⟩|exact(D2.mk HB9.out (H3.out.ch.trans HC9.out)).drw):p:=h
theorem zq15{p:Prop}(h:p:=by first|exact D2.form H.out|exact(D2.form H.out).drw):p:=h
theorem zq16{p:Prop}(h:p:=by rw[eF,eX];exact H4.out.b):p:=h
theorem zq17{p:Prop}(h:p:=by have:=zBI f.has;rw[HN.out] at this;exact this):p:=h
theorem zq18{p:Prop}(h:p:=by simp[results,Tryz.results24,go_sem,z0,z1,z2,z3,z4,z5,zl,zf]):p:=h
theorem zq19{p:Prop}(h:p:=by first|exact uA (zG k) HI.out HB1.out|exact(uA (zG k) HI.out HB1.out).drw):p:=h
theorem zq20{p:Prop}(h:p:=by have hB:=HG.out.b;repeat first|with_reducible exact hB|with_reducible refine RB.other ?_ nr _ _|with_reducible refine RB.drw ?_):p:=h
theorem zq21{p:Prop}(h:p:=by have hB:=HG.out.c;repeat first|with_reducible exact hB|with_reducible refine zI.new ?_ aO _ _|with_reducible refine zI.drew ?_):p:=h
theorem zq22{p:Prop}(h:p:=by show((op:Int):Int)≠15;omega):p:=h
theorem zq23{p:Prop}(h:p:=by show((op:Int):Int)≠96;omega):p:=h
theorem zq24{p:Prop}(h:p:=by show((op:Int):Int)≠1;omega):p:=h
theorem zq25{p:Prop}(h:p:=by show((op:Int):Int)≠4;omega):p:=h
theorem zq26{p:Prop}(h:p:=by show((op:Int):Int)≠3;omega):p:=h
theorem zq27{p:Prop}(h:p:=by have hB:=((zI.of_below [R,X] HBL.out)).trans HC9.out;repeat first|with_reducible exact hB|with_reducible refine zI.new ?_ aO _ _|with_reducible refine zI.drew ?_):p:=h
theorem zq28{p:Prop}(h:p:=by focus(repeat first|with_reducible exact(zI.refl k.own w)|with_reducible exact zI.refl _ _|with_reducible refine zI.setNew ?_ aO _ _|with_reducible refine zI.alloc ?_ _|with_reducible refine zI.drew ?_|with_reducible refine zI.dN ?_ _)):p:=h
theorem zq29{p:Prop}(h:p:=by show ¬(op:Int)=8;omega):p:=h
theorem zq30{p:Prop}(h:p:=by first|(simp;done)|(simp;omega)):p:=h
theorem zq31{p:Prop}(h:p:=by have hB:=(HG.out.c.drew).trans HC9.out;repeat first|with_reducible exact hB|with_reducible refine zI.new ?_ aO _ _|with_reducible refine zI.drew ?_):p:=h
theorem zq32{p:Prop}(h:p:=by have:=P.dn;omega):p:=h
theorem zq33{p:Prop}(h:p:=by simp only[World.size_alloc];omega):p:=h
theorem zq34{p:Prop}(h:p:=by have hB:=Below.refl w.heap.size w9;repeat first|with_reducible exact hB|with_reducible refine uM ?_ aO _ _|with_reducible refine Below.drew ?_):p:=h
theorem zq35{p:Prop}(h:p:=by have hB:=HO.out.b;repeat first|with_reducible exact hB|with_reducible refine RB.other ?_ nR2 _ _|with_reducible refine RB.other ?_ nR3 _ _|with_reducible refine RB.drwN ?_ _|with_reducible refine RB.drw ?_):p:=h
theorem zq36{p:Prop}(h:p:=by have hB:=zI.refl [R] w;repeat first|with_reducible exact hB|with_reducible refine zI.new ?_ aO _ _|with_reducible refine zI.drew ?_|with_reducible refine zI.drwN ?_ _|with_reducible refine zI.alloc ?_ _):p:=h
theorem zq37{p:Prop}(h:p:=by have hB:=HO.out.c;repeat first|with_reducible exact hB|with_reducible refine zI.new ?_ (by first|exact Nat.le_refl _|omega) _ _|with_reducible refine zI.drwN ?_ _|with_reducible refine zI.drew ?_):p:=h
theorem zq38{p:Prop}(h:p:=by have hB:=HR.out;repeat first|with_reducible exact hB|with_reducible refine RB.other ?_ nr _ _|with_reducible refine RB.drw ?_|with_reducible refine RB.drwN ?_ _|with_reducible refine RB.al ?_ _):p:=h
theorem zq39{p:Prop}(h:p:=by show(q.stuck || !(q.has a))=true;rw[g1];simp):p:=h
theorem zq40{p:Prop}(h:p:=by focus(repeat first|with_reducible exact HC1.out|with_reducible exact zI.refl _ _|with_reducible refine zI.alloc ?_ _|with_reducible refine zI.drew ?_|with_reducible refine zI.dN ?_ _)):p:=h
theorem zq41{p:Prop}(h:p:=by focus(repeat first|with_reducible exact HC.out|with_reducible exact zI.refl _ _|with_reducible refine zI.alloc ?_ _|with_reducible refine zI.drew ?_|with_reducible refine zI.dN ?_ _)):p:=h
theorem zq42{p:Prop}(h:p:=by have h9:=hc.1;simp only[] at h9;omega):p:=h
theorem zq43{p:Prop}(h:p:=by have h9:=hc.2;simp only[] at h9;omega):p:=h
theorem zq44{p:Prop}(h:p:=by simp[results,Tryz.results7,go_sem,m0,m1,m2,m3,m4,m5,m6,m7,m8,m9,m10,m11,ml,y0,y1,y2,y3,y4,y5,yl,yf]):p:=h
theorem zq45{p:Prop}(h:p:=by have hB:=HR9.out;repeat first|with_reducible exact hB|with_reducible refine RB.other ?_ nr _ _|with_reducible refine RB.other ?_ no _ _|with_reducible refine RB.drw ?_):p:=h
theorem zq46{p:Prop}(h:p:=by have hB:=(HG.out.c.new aO 0 (.int .i64 3)).trans HC9.out;repeat first|with_reducible exact hB|with_reducible refine zI.new ?_ aO _ _|with_reducible refine zI.drew ?_):p:=h
theorem zq47{p:Prop}(h:p:=by simp[results,Tryz.results24,go_sem,z0,z1,z2,z3,z4,z5,zl,zf,u1,u2,u3,u4]):p:=h
theorem zq48{p:Prop}(h:p:=by simp[results,Tryz.results52,go_sem,r0,r1,r2,r3,r4,r5,lr]):p:=h
theorem zq49{p:Prop}(h:p:=by first|exact .inl rfl|exact .inr (.inl rfl)|exact .inr (.inr (.inl rfl))|exact .inr (.inr (.inr rfl))):p:=h
theorem zq50{p:Prop}(h:p:=by first|exact zAn (zG k) HI.out HB2.out|exact(zAn (zG k) HI.out HB2.out).drw):p:=h
theorem zq51{p:Prop}(h:p:=by first|exact H2.out.words 3|exact(H2.out.words 3).drw):p:=h
theorem zq52{p:Prop}(h:p:=by first|exact H2.out.words 2|exact(H2.out.words 2).drw):p:=h
theorem zq53{p:Prop}(h:p:=by show(q.stuck || !(q.has a))=false;rw[g1,H.st];simp):p:=h
theorem zq54{p:Prop}(h:p:=by have h9:=hb1.size;first|(simp at h9;omega)|omega):p:=h
theorem zq55{p:Prop}(h:p:=by have:=HLX.out;simp;omega):p:=h
theorem zq56{p:Prop}(h:p:=by simp[QB.own]):p:=h
theorem zq57{p:Prop}(h:p:=by simp[results,Tryz.results66,go_sem,r0,r1,r2,r3,r4,r5,lr,nR2,nBr,nRr]):p:=h
theorem zq58{p:Prop}(h:p:=by focus(repeat first|with_reducible exact HB.out.sb.ch|with_reducible exact zI.refl _ _|with_reducible refine zI.setNew ?_ aO _ _|with_reducible refine zI.alloc ?_ _|with_reducible refine zI.drew ?_|with_reducible refine zI.dN ?_ _)):p:=h
theorem zq59{p:Prop}(h:p:=by focus(repeat first|with_reducible exact HM1.out.ch|with_reducible exact zI.refl _ _|with_reducible refine zI.setNew ?_ aO _ _|with_reducible refine zI.alloc ?_ _|with_reducible refine zI.drew ?_|with_reducible refine zI.dN ?_ _)):p:=h
theorem zq60{p:Prop}(h:p:=by have:=zDS (P.m.below hW lX);rwa [ht] at this):p:=h
theorem zq61{p:Prop}(h:p:=by focus(repeat first|with_reducible exact hc|with_reducible exact zI.refl _ _|with_reducible refine zI.setNew ?_ aO _ _|with_reducible refine zI.alloc ?_ _|with_reducible refine zI.drew ?_|with_reducible refine zI.dN ?_ _)):p:=h
theorem zq62{p:Prop}(h:p:=by simp[results,Tryz.results24,go_sem]):p:=h
theorem zq63{p:Prop}(h:p:=by focus(repeat first|with_reducible exact(zI.set (zI.refl _ _) (zAQ k) _ _)|with_reducible exact zI.refl _ _|with_reducible refine zI.alloc ?_ _|with_reducible refine zI.drew ?_|with_reducible refine zI.dN ?_ _)):p:=h
theorem zq64{p:Prop}(h:p:=by simp[results,Tryz.results54,go_sem,q0,q1,fr,l7]):p:=h
theorem zq65{p:Prop}(h:p:=by simp[results,Tryz.results20,go_sem,g0,g1,g2,g3,g4,g5,gf,gl]):p:=h
theorem zq66{p:Prop}(h:p:=by simp[results,Tryz.results34,go_sem,g0,g1,g2,g3,g4,g5,gf,gl]):p:=h
theorem zq67{p:Prop}(h:p:=by simp[results,Tryz.results23,go_sem,uJ]):p:=h
theorem zq68{p:Prop}(h:p:=by simpa using HXR.out):p:=h
theorem zq69{p:Prop}(h:p:=by simpa using nr):p:=h
theorem zq70{p:Prop}(h:p:=by show 0 < 4294967296;decide):p:=h
theorem zq71{p:Prop}(h:p:=by simpa using hz):p:=h
theorem zq72{p:Prop}(h:p:=by rw[← eV];exact hb9):p:=h
end Go.Proofs.YthcpipfmicbnmaaGreat
namespace Go.Proofs.YthcpipfmicbnmaaGreat.Ho
open Go.RowKit
def zC4(P:Program)(o:Oper)(a:Act):Option Act:=
 match o.guard,o.op with
 | none,.build t parts=>(P.built t (parts.map fun (i,x)=>(i,a.eval x)).toList).map fun cs=>a.put o.dst (.agg cs)
 | _,_=>none
def zA5(P:Program):Nat→List Oper→Act→Option Act
 | 0,_,a=>some a
 | n+1,o :: r,a=>(zC4 P o a).bind (zA5 P n r)
 | _+1,[],_=>none
theorem vX{P:Program}{ops:Array Oper}{rest:List Oper}{o:Oper}{a:Act}{w:World}{Q:Exit→Act→World→Prop}(hg:o.guard=none)(t:TypeId)(parts:Array (Nat × Operand))(ho:o.op=.build t parts)(cells:Array Value)
  (hc:P.built t (parts.map fun (i,x)=>(i,a.eval x)).toList=some cells)
  (h:wpList P ops Q rest (a.put o.dst (.agg cells)) w):wpList P ops Q (o :: rest) a w:=
 wpList_build hg t parts ho (by rw[hc];rfl) (by rw[hc];exact h)
theorem zAp{P:Program}{ops:Array Oper}{w:World}{Q:Exit→Act→World→Prop}:∀ (n:Nat) (l:List Oper) (a a':Act),zA5 P n l a=some a'→
  wpList P ops Q (l.drop n) a' w→wpList P ops Q l a w
 | 0,_,_,_,h,k=>by simp only[zA5,Option.some.injEq] at h;subst h;exact k
 | n+1,[],_,_,h,_=>by simp[zA5] at h
 | n+1,o :: r,a,a',h,k=>by
  simp only[zA5] at h
  cases hb:zC4 P o a with
  | none=>simp[hb] at h
  | some a1=>
   simp only[hb,Option.bind_some] at h
   unfold zC4 at hb
   split at hb
   ·rename_i t parts hg ho
    simp only[Option.map_eq_some_iff] at hb
    obtain⟨cs,hcs,rfl⟩:=hb
    exact vX hg t parts ho cs hcs (zAp n r _ a' h (by simpa using k))
   ·simp at hb
theorem zL{P:Program}{ops:Array Oper}{w:World}{Q:Exit→Act→World→Prop}(d n:Nat)(o:Oper)(l:List Oper)(a a':Act)(_hd:o.dst=some d)(h:zA5 P n (o :: l) a=some a')
  (k:wpList P ops Q ((o :: l).drop n) a' w):wpList P ops Q (o :: l) a w:=zAp n (o :: l) a a' h k
theorem zK{P:Program}{ops:Array Oper}{rest:List Oper}{o:Oper}{a:Act}{w:World}{Q:Exit→Act→World→Prop}(hg:o.guard=none)(t:TypeId)(ho:o.op=.alloc t)(cs:Array Value)(hz:∀ w,(zeroValue t).run P w=.ok (.agg cs) w)(H:Nat)(hH:w.heap.size=H)
  (h:wpList P ops Q rest (a.put o.dst (.pointer (some ⟨H,0,none⟩))) (w.alloc (.cells cs t))):wpList P ops Q (o :: rest) a w:=by
 subst hH
 refine wpList_plain hg fun _ hK=>?_
 unfold Oper.wp execOp
 simp[ho,hz,Instr.alloc,go_sem]
 exact hK _ _ h
def hfN:List Int:=[1,1,0,24,64,2,2,1,80,0,3,3,0,65,0,4,4,0,9,64,5,5,6,71,0,6,6,0,72,11,7,7,0,9,11,8,8,0,72,2047,9,9,0,9,2047,10,10,0,24,64,11,11,0,25,64,12,12,0,312,64,13,13,0,281,64,14,14,0,24,64,15,15,0,24,64,16,31,4,67,0,32,38,5,65,0,48,60,7,71,0,64,79,8,65,0,80,84,0,89,64,88,90,0,153,64,96,96,0,25,64,97,97,0,64,0]
def hfV:List Value:=[.int .u8 1,.int .u8 1,.int .u8 0,.int .u16 24,.int .u16 64,.int .u8 2,.int .u8 2,.int .u8 1,.int .u16 80,.int .u16 0,.int .u8 3,.int .u8 3,.int .u8 0,.int .u16 65,.int .u16 0,.int .u8 4,.int .u8 4,.int .u8 0,.int .u16 9,.int .u16 64,.int .u8 5,.int .u8 5,.int .u8 6,.int .u16 71,.int .u16 0,.int .u8 6,.int .u8 6,.int .u8 0,.int .u16 72,.int .u16 11,.int .u8 7,.int .u8 7,.int .u8 0,.int .u16 9,.int .u16 11,.int .u8 8,.int .u8 8,.int .u8 0,.int .u16 72,.int .u16 2047,.int .u8 9,.int .u8 9,.int .u8 0,.int .u16 9,.int .u16 2047,.int .u8 10,.int .u8 10,.int .u8 0,.int .u16 24,.int .u16 64,.int .u8 11,.int .u8 11,.int .u8 0,.int .u16 25,.int .u16 64,.int .u8 12,.int .u8 12,.int .u8 0,.int .u16 312,.int .u16 64,.int .u8 13,.int .u8 13,.int .u8 0,.int .u16 281,.int .u16 64,.int .u8 14,.int .u8 14,.int .u8 0,.int .u16 24,.int .u16 64,.int .u8 15,.int .u8 15,.int .u8 0,.int .u16 24,.int .u16 64,.int .u8 16,.int .u8 31,.int .u8 4,.int .u16 67,.int .u16 0,.int .u8 32,.int .u8 38,.int .u8 5,.int .u16 65,.int .u16 0,.int .u8 48,.int .u8 60,.int .u8 7,.int .u16 71,.int .u16 0,.int .u8 64,.int .u8 79,.int .u8 8,.int .u16 65,.int .u16 0,.int .u8 80,.int .u8 84,.int .u8 0,.int .u16 89,.int .u16 64,.int .u8 88,.int .u8 90,.int .u8 0,.int .u16 153,.int .u16 64,.int .u8 96,.int .u8 96,.int .u8 0,.int .u16 25,.int .u16 64,.int .u8 97,.int .u8 97,.int .u8 0,.int .u16 64,.int .u16 0]
def hfC:Array Value:=hfV.toArray
def hfZ:Array Value:=#[.int .u8 0,.int .u8 0,.int .u8 0,.int .u16 0,.int .u16 0,.int .u8 0,.int .u8 0,.int .u8 0,.int .u16 0,.int .u16 0,.int .u8 0,.int .u8 0,.int .u8 0,.int .u16 0,.int .u16 0,.int .u8 0,.int .u8 0,.int .u8 0,.int .u16 0,.int .u16 0,.int .u8 0,.int .u8 0,.int .u8 0,.int .u16 0,.int .u16 0,.int .u8 0,.int .u8 0,.int .u8 0,.int .u16 0,.int .u16 0,.int .u8 0,.int .u8 0,.int .u8 0,.int .u16 0,.int .u16 0,.int .u8 0,.int .u8 0,.int .u8 0,.int .u16 0,.int .u16 0,.int .u8 0,.int .u8 0,.int .u8 0,.int .u16 0,.int .u16 0,.int .u8 0,.int .u8 0,.int .u8 0,.int .u16 0,.int .u16 0,.int .u8 0,.int .u8 0,.int .u8 0,.int .u16 0,.int .u16 0,.int .u8 0,.int .u8 0,.int .u8 0,.int .u16 0,.int .u16 0,.int .u8 0,.int .u8 0,.int .u8 0,.int .u16 0,.int .u16 0,.int .u8 0,.int .u8 0,.int .u8 0,.int .u16 0,.int .u16 0,.int .u8 0,.int .u8 0,.int .u8 0,.int .u16 0,.int .u16 0,.int .u8 0,.int .u8 0,.int .u8 0,.int .u16 0,.int .u16 0,.int .u8 0,.int .u8 0,.int .u8 0,.int .u16 0,.int .u16 0,.int .u8 0,.int .u8 0,.int .u8 0,.int .u16 0,.int .u16 0,.int .u8 0,.int .u8 0,.int .u8 0,.int .u16 0,.int .u16 0,.int .u8 0,.int .u8 0,.int .u8 0,.int .u16 0,.int .u16 0,.int .u8 0,.int .u8 0,.int .u8 0,.int .u16 0,.int .u16 0,.int .u8 0,.int .u8 0,.int .u8 0,.int .u16 0,.int .u16 0,.int .u8 0,.int .u8 0,.int .u8 0,.int .u16 0,.int .u16 0]
def tg(k j:Nat):Int:=hfN.getD (k*5+j) 0
def zAB(k:Nat):Value:=.agg #[.int .u8 (tg k 0),.int .u8 (tg k 1),.int .u8 (tg k 2),.int .u16 (tg k 3),.int .u16 (tg k 4)]
def rg(h:Option Nat)(j:Nat):Int:=
 match h with
 | some k=>tg k j
 | none=>0
abbrev zQs(h:Option Nat):Value:=.agg #[.int .u8 (rg h 0),.int .u8 (rg h 1),.int .u8 (rg h 2),.int .u16 (rg h 3),.int .u16 (rg h 4)]
theorem zG4:(Tryz.prog.info? 128).map (fun i=>(i.zero,i.size))=some (some (.agg hfZ),115):=by kernel_rfl
theorem zOt(k:Nat)(h:k < 23):hfC[k*5]?=some (.int .u8 (tg k 0))∧hfC[k*5+1]?=some (.int .u8 (tg k 1))∧hfC[k*5+2]?=some (.int .u8 (tg k 2))∧hfC[k*5+3]?=some (.int .u16 (tg k 3))∧hfC[k*5+4]?=some (.int .u16 (tg k 4)):=by
 rcases(by omega:k=0∨k=1∨k=2∨k=3∨k=4∨k=5∨k=6∨k=7∨k=8∨k=9∨k=10∨k=11∨k=12∨k=13∨k=14∨k=15∨k=16∨k=17∨k=18∨k=19∨k=20∨k=21∨k=22) with rfl|rfl|rfl|rfl|rfl|rfl|rfl|rfl|rfl|rfl|rfl|rfl|rfl|rfl|rfl|rfl|rfl|rfl|rfl|rfl|rfl|rfl|rfl<;>exact⟨rfl,rfl,rfl,rfl,rfl⟩
theorem zPw(k:Nat)(h:k < 23):(0≤tg k 0∧tg k 0≤255)∧(0≤tg k 1∧tg k 1≤255):=by
 rcases(by omega:k=0∨k=1∨k=2∨k=3∨k=4∨k=5∨k=6∨k=7∨k=8∨k=9∨k=10∨k=11∨k=12∨k=13∨k=14∨k=15∨k=16∨k=17∨k=18∨k=19∨k=20∨k=21∨k=22) with rfl|rfl|rfl|rfl|rfl|rfl|rfl|rfl|rfl|rfl|rfl|rfl|rfl|rfl|rfl|rfl|rfl|rfl|rfl|rfl|rfl|rfl|rfl<;>decide
def zEz(op:Int)(k:Nat):Bool:=decide (tg k 0≤op) && decide (op≤tg k 1)
def hit(op:Int):Option Nat:=(List.range 23).find? (zEz op)
theorem zJj{op:Int}{k:Nat}(hk:k < 23)(h:zEz op k=true)(hn:∀ j,j < k→zEz op j=false):hit op=some k:=by
 unfold hit
 rw[List.find?_range_eq_some]
 exact⟨h,by simpa using hk,fun j hj=>by simp[hn j hj]⟩
theorem zJi{op:Int}(hn:∀ j,j < 23→zEz op j=false):hit op=none:=by
 unfold hit
 rw[List.find?_eq_none]
 intro j hj
 simp[hn j (by simpa using hj)]
theorem zGi{w wr:World}{B:Nat}{cs:Array Value}{t:TypeId}(h:Below (w.heap.size+1) (w.alloc (.cells cs t)) wr)(hB:B=w.heap.size)(i:Nat):wr.cell? ⟨B,i,none⟩=cs[i]?:=by
 subst hB
 rw[h.cell (p:=⟨w.heap.size,i,none⟩) (Nat.lt_succ_self _)]
 exact cell_of_row _ _ i cs t (0,0) (heap_alloc_last w _)
set_option maxRecDepth 100000 in
theorem vK(op:Int)(w:World) :
  Calls Tryz.prog 42 #[.int .i64 op] w
   fun e w'=>e=.returned (.tuple #[zQs (hit op),.bool (hit op).isSome])∧Below w.heap.size w w':=by
 have zW:=(zero_of_info zG4).1
 go_enter Tryz.func42,Tryz.ntmps42
 go_wp2_with (first|(refine zL 7 24 _ _ _ ⟨#[.int .i64 op,undef,.pointer (some ⟨w.heap.size,0,none⟩),.bool false,undef,undef,undef,zAB 0,zAB 1,zAB 2,zAB 3,zAB 4,zAB 5,zAB 6,zAB 7,zAB 8,zAB 9,zAB 10,zAB 11,zAB 12,zAB 13,zAB 14,zAB 15,zAB 16,zAB 17,zAB 18,zAB 19,zAB 20,zAB 21,zAB 22,.agg hfC,undef,undef,undef,undef,undef,undef,undef,undef,undef,undef,undef,undef,undef,undef,undef,undef,undef,undef,undef,undef,undef,undef,undef,undef,undef,undef],[]⟩ rfl (by kernel_rfl) ?_;simp only[List.drop_succ_cons,List.drop_zero])|(refine zK rfl 128 rfl _ zW (w.heap.size+1) aS ?_)|(refine wpList_store_row rfl 128 _ _ rfl (w.heap.size+1) hfC (by rfl) (by rfl) 128 hfZ (by exact heap_alloc2_new w _ _) (zero_of_info zG4).2 (by rfl) (by kernel_rfl) ?_;rw[show w.heap.size+1=(w.alloc (.cells #[.int .u8 0,.int .u8 0,.int .u8 0,.int .u16 0,.int .u16 0] 88)).heap.size from by simp,World.setRow_alloc_new];simp only[World.size_alloc]))
 clear zW
 generalize hW1:w.alloc (.cells #[.int .u8 0,.int .u8 0,.int .u8 0,.int .u16 0,.int .u16 0] 88)=W1
 have hs1:W1.heap.size=w.heap.size+1:=by rw[← hW1];simp
 have hb1:Below w.heap.size w W1:=by rw[← hW1];exact aB.alloc aL _
 have hc1:∀ i,W1.cell? ⟨w.heap.size,i,none⟩=#[Value.int .u8 0,.int .u8 0,.int .u8 0,.int .u16 0,.int .u16 0][i]?:=by
  intro i;rw[← hW1];exact cell_of_row _ _ i _ 88 (0,0) (heap_alloc_last w _)
 have hf1:∀ i,W1.frozen? ⟨w.heap.size,i,none⟩=false:=by
  intro i;rw[← hW1];exact frozen_of_row _ _ i _ 88 (heap_alloc_last w _)
 clear hW1
 go_loopw [31] (fun i wr=>∃ k:Nat,k≤23∧i=.int .i64 k∧(∀ j,j < k→zEz op j=false)∧Below (W1.heap.size+1) (W1.alloc (.cells hfC 128)) wr) (fun i _=>23 - (intOf i).toNat)
 case atStart=>exact⟨0,by omega,rfl,fun j hj=>by omega,Below.refl _ _⟩
 case round=>
  obtain⟨k,hk,rfl,hno,hbel⟩:=hrel
  have hbw:Below w.heap.size w wr:=hb1.trans ((aB.alloc aO _).trans (hbel.mono aO))
  have hsz:w.heap.size+1 < wr.heap.size:=by have:=hbel.size;simp at this;omega
  have hsz0:w.heap.size < wr.heap.size:=aO
  have hcell:∀ i,wr.cell? ⟨w.heap.size+1,i,none⟩=hfC[i]?:=fun i=>zGi hbel hs1.symm i
  have hres:∀ i,wr.cell? ⟨w.heap.size,i,none⟩=#[Value.int .u8 0,.int .u8 0,.int .u8 0,.int .u16 0,.int .u16 0][i]?:=fun i=>by
   rw[hbel.cell (p:=⟨w.heap.size,i,none⟩) (by show w.heap.size < _;omega),World.cell?_alloc_past _ _ _ (by show w.heap.size < _;omega),hc1]
  have hfrz:∀ i,wr.frozen? ⟨w.heap.size,i,none⟩=false:=fun i=>by
   rw[hbel.frozen (p:=⟨w.heap.size,i,none⟩) (by show w.heap.size < _;omega),World.frozen?_of_block (w:=W1) (Below.heap_alloc _ _ _ (by show w.heap.size < _;omega)),hf1]
  have r0:=hres 0
  have r1:=hres 1
  have r2:=hres 2
  have r3:=hres 3
  have r4:=hres 4
  have z0:=hfrz 0
  have z1:=hfrz 1
  have z2:=hfrz 2
  have z3:=hfrz 3
  have z4:=hfrz 4
  simp at r0 r1 r2 r3 r4
  by_cases hlt:k < 23
  ·obtain⟨a0,a1,a2,a3,a4⟩:=zOt k hlt
   have c0:=(hcell _).trans a0
   have c1:=(hcell _).trans a1
   have c2:=(hcell _).trans a2
   have c3:=(hcell _).trans a3
   have c4:=(hcell _).trans a4
   obtain⟨⟨b0,b1⟩,b2,b3⟩:=zPw k hlt
   clear hcell hres hfrz hc1 hf1 a0 a1 a2 a3 a4
   have hfk:zEz op k=(decide (tg k 0≤op) && decide (op≤tg k 1)):=rfl
   have hyes:=fun (h:zEz op k=true)=>zJj hlt h hno
   generalize e0:tg k 0=t0 at *
   generalize e1:tg k 1=t1 at *
   go_wp2
   ·have hq:=hyes (by rw[hfk];simp;constructor<;>assumption)
    refine bodyPost_ret (v:=.tuple #[.agg #[.int .u8 t0,.int .u8 t1,.int .u8 (tg k 2),.int .u16 (tg k 3),.int .u16 (tg k 4)],.bool true]) (by simp[results,Tryz.results42,go_sem,hsz0,r0,r1,r2,r3,r4]) rfl ⟨by rw[hq,← e0,← e1];rfl,?_⟩
    exact((((hbw.setCell aS _).setCell aS _).setCell aS _).setCell aS _).setCell aS _
   all_goals
    have hnot:zEz op k=false:=by
     rw[hfk];simp;intros;omega
    go_roundw
    case rel=>exact⟨k+1,by omega,by go_num,fun j hj=>by rcases Nat.lt_succ_iff_lt_or_eq.1 hj with h|h;exact hno j h;rw[h];exact hnot,hbel⟩
    case measure=>simp[intOf];omega
  ·clear hcell hres hfrz hc1 hf1
   go_wp2
   have hk23:k=23:=aO
   refine bodyPost_ret (v:=.tuple #[.agg #[.int .u8 0,.int .u8 0,.int .u8 0,.int .u16 0,.int .u16 0],.bool false]) (by simp[results,Tryz.results42,go_sem,hsz0,r0,r1,r2,r3,r4]) rfl ⟨by rw[zJi (fun j hj=>hno j aO)];rfl,?_⟩
   exact((((hbw.setCell aS _).setCell aS _).setCell aS _).setCell aS _).setCell aS _
end Go.Proofs.YthcpipfmicbnmaaGreat.Ho
namespace Go.Proofs.YthcpipfmicbnmaaGreat.Va.Gu
open Go.RowKit
def zC4(P:Program)(o:Oper)(a:Act):Option Act:=
 match o.guard,o.op with
 | none,.build t parts=>(P.built t (parts.map fun (i,x)=>(i,a.eval x)).toList).map fun cs=>a.put o.dst (.agg cs)
 | _,_=>none
def zA5(P:Program):Nat→List Oper→Act→Option Act
 | 0,_,a=>some a
 | n+1,o :: r,a=>(zC4 P o a).bind (zA5 P n r)
 | _+1,[],_=>none
theorem vX{P:Program}{ops:Array Oper}{rest:List Oper}{o:Oper}{a:Act}{w:World}{Q:Exit→Act→World→Prop}(hg:o.guard=none)(t:TypeId)(parts:Array (Nat × Operand))(ho:o.op=.build t parts)(cells:Array Value)
  (hc:P.built t (parts.map fun (i,x)=>(i,a.eval x)).toList=some cells)
  (h:wpList P ops Q rest (a.put o.dst (.agg cells)) w):wpList P ops Q (o :: rest) a w:=
 wpList_build hg t parts ho (by rw[hc];rfl) (by rw[hc];exact h)
theorem zAp{P:Program}{ops:Array Oper}{w:World}{Q:Exit→Act→World→Prop}:∀ (n:Nat) (l:List Oper) (a a':Act),zA5 P n l a=some a'→
  wpList P ops Q (l.drop n) a' w→wpList P ops Q l a w
 | 0,_,_,_,h,k=>by simp only[zA5,Option.some.injEq] at h;subst h;exact k
 | n+1,[],_,_,h,_=>by simp[zA5] at h
 | n+1,o :: r,a,a',h,k=>by
  simp only[zA5] at h
  cases hb:zC4 P o a with
  | none=>simp[hb] at h
  | some a1=>
   simp only[hb,Option.bind_some] at h
   unfold zC4 at hb
   split at hb
   ·rename_i t parts hg ho
    simp only[Option.map_eq_some_iff] at hb
    obtain⟨cs,hcs,rfl⟩:=hb
    exact vX hg t parts ho cs hcs (zAp n r _ a' h (by simpa using k))
   ·simp at hb
theorem zL{P:Program}{ops:Array Oper}{w:World}{Q:Exit→Act→World→Prop}(d n:Nat)(o:Oper)(l:List Oper)(a a':Act)(_hd:o.dst=some d)(h:zA5 P n (o :: l) a=some a')
  (k:wpList P ops Q ((o :: l).drop n) a' w):wpList P ops Q (o :: l) a w:=zAp n (o :: l) a a' h k
theorem zK{P:Program}{ops:Array Oper}{rest:List Oper}{o:Oper}{a:Act}{w:World}{Q:Exit→Act→World→Prop}(hg:o.guard=none)(t:TypeId)(ho:o.op=.alloc t)(cs:Array Value)(hz:∀ w,(zeroValue t).run P w=.ok (.agg cs) w)(H:Nat)(hH:w.heap.size=H)
  (h:wpList P ops Q rest (a.put o.dst (.pointer (some ⟨H,0,none⟩))) (w.alloc (.cells cs t))):wpList P ops Q (o :: rest) a w:=by
 subst hH
 refine wpList_plain hg fun _ hK=>?_
 unfold Oper.wp execOp
 simp[ho,hz,Instr.alloc,go_sem]
 exact hK _ _ h
end Go.Proofs.YthcpipfmicbnmaaGreat.Va.Gu
