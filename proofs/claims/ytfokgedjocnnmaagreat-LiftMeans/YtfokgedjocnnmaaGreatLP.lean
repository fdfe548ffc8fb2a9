import Derived.Test.YtfokgedjocnnmaaGreatLB
import Derived.Test.YtfokgedjocnnmaaGreatJ29
set_option maxRecDepth 100000
set_option linter.unusedVariables false
set_option linter.unusedSimpArgs false
namespace Go.Proofs.YtfokgedjocnnmaaGreat
open Go.RowKit
def reckOps(O:Nat)(D b:Int)(pc:Nat)(done m:Int):List OpR:=
 match O with
 | 0=>[⟨2,D,0,0,0,0,0⟩,⟨4,0,m,b,0,0,0⟩,⟨3,D,m+1,0,0,0,0⟩,⟨1,0,0,0,0,1,0⟩,⟨3,8,m+1+1+1,0,0,0,0⟩,⟨3,9,m,0,0,0,0⟩,⟨3,10,b,0,0,0,0⟩]
 | 1=>[⟨2,D,0,0,0,0,0⟩,⟨4,0,m,b,0,0,0⟩,⟨17,0,0,0,0,0,0⟩,⟨8,2,m+1+1,0,0,0,0⟩,⟨4,0,m+1,m+1+1+1,0,0,0⟩,⟨3,D,m+1+1+1+1,0,0,0,0⟩,⟨1,0,0,0,0,2,0⟩,⟨3,8,m+1+1+1+1+1+1,0,0,0,0⟩,⟨3,9,m,0,0,0,0⟩,⟨3,10,b,0,0,0,0⟩,⟨3,11,m+1+1,0,0,0,0⟩]
 | 2=>[⟨2,D,0,0,0,0,0⟩,⟨4,1,m,b,0,0,0⟩,⟨3,D,m+1,0,0,0,0⟩,⟨1,0,0,0,0,3,0⟩,⟨3,8,m+1+1+1,0,0,0,0⟩,⟨3,9,m,0,0,0,0⟩,⟨3,10,b,0,0,0,0⟩]
 | 3=>[⟨2,D,0,0,0,0,0⟩,⟨4,1,m,b,0,0,0⟩,⟨17,0,0,0,0,0,0⟩,⟨8,2,m+1+1,0,0,0,0⟩,⟨4,1,m+1,m+1+1+1,0,0,0⟩,⟨3,D,m+1+1+1+1,0,0,0,0⟩,⟨1,0,0,0,0,4,0⟩,⟨3,8,m+1+1+1+1+1+1,0,0,0,0⟩,⟨3,9,m,0,0,0,0⟩,⟨3,10,b,0,0,0,0⟩,⟨3,11,m+1+1,0,0,0,0⟩]
 | 4=>[⟨2,D,0,0,0,0,0⟩,⟨4,2,m,b,0,0,0⟩,⟨3,D,m+1,0,0,0,0⟩,⟨1,0,0,0,0,5,0⟩,⟨3,8,m+1+1+1,0,0,0,0⟩,⟨3,9,m+1,0,0,0,0⟩]
 | 5=>[⟨2,D,0,0,0,0,0⟩,⟨4,3,m,b,0,0,0⟩,⟨3,D,m+1,0,0,0,0⟩,⟨1,0,0,0,0,5,0⟩,⟨3,8,m+1+1+1,0,0,0,0⟩,⟨3,9,m+1,0,0,0,0⟩]
 | 6=>[⟨2,D,0,0,0,0,0⟩,⟨4,4,m,b,0,0,0⟩,⟨3,D,m+1,0,0,0,0⟩,⟨1,0,0,0,0,5,0⟩,⟨3,8,m+1+1+1,0,0,0,0⟩,⟨3,9,m+1,0,0,0,0⟩]
 | 7=>[⟨2,D,0,0,0,0,0⟩,⟨1,0,0,0,0,3,0⟩,⟨3,8,m+1,0,0,0,0⟩,⟨3,9,m,0,0,0,0⟩,⟨3,10,b,0,0,0,0⟩]
 | 8=>[⟨2,D,0,0,0,0,0⟩,⟨4,2,m,b,0,0,0⟩,⟨1,0,0,0,0,5,0⟩,⟨3,8,m+1+1,0,0,0,0⟩,⟨3,9,m+1,0,0,0,0⟩]
 | 9=>[⟨2,D,0,0,0,0,0⟩,⟨4,5,m,b,0,0,0⟩,⟨17,0,0,0,0,0,0⟩,⟨3,D,m+1,0,0,0,0⟩,⟨1,0,0,0,0,6,0⟩,⟨3,8,m+1+1+1+1,0,0,0,0⟩,⟨3,9,m,0,0,0,0⟩,⟨3,10,b,0,0,0,0⟩,⟨3,11,m+1+1,0,0,0,0⟩]
 | 10=>[⟨2,D,0,0,0,0,0⟩,⟨4,6,m,b,0,0,0⟩,⟨17,0,0,0,0,0,0⟩,⟨3,D,m+1,0,0,0,0⟩,⟨1,0,0,0,0,7,0⟩,⟨3,8,m+1+1+1+1,0,0,0,0⟩,⟨3,9,m,0,0,0,0⟩,⟨3,10,b,0,0,0,0⟩,⟨3,11,m+1+1,0,0,0,0⟩]
 | 11=>[⟨2,D,0,0,0,0,0⟩,⟨4,7,m,b,0,0,0⟩,⟨17,0,0,0,0,0,0⟩,⟨3,D,m+1,0,0,0,0⟩,⟨1,0,0,0,0,8,0⟩,⟨3,8,m+1+1+1+1,0,0,0,0⟩,⟨3,9,m,0,0,0,0⟩,⟨3,10,b,0,0,0,0⟩,⟨3,11,m+1+1,0,0,0,0⟩]
 | 12=>[⟨2,D,0,0,0,0,0⟩,⟨4,8,m,b,0,0,0⟩,⟨17,0,0,0,0,0,0⟩,⟨3,D,m+1,0,0,0,0⟩,⟨1,0,0,0,0,9,0⟩,⟨3,8,m+1+1+1+1,0,0,0,0⟩,⟨3,9,m,0,0,0,0⟩,⟨3,10,b,0,0,0,0⟩,⟨3,11,m+1+1,0,0,0,0⟩]
 | 13=>[⟨2,D,0,0,0,0,0⟩,⟨4,9,m,b,0,0,0⟩,⟨3,D,m+1,0,0,0,0⟩,⟨1,0,0,0,0,10,0⟩,⟨3,8,m+1+1+1,0,0,0,0⟩,⟨3,9,m,0,0,0,0⟩,⟨3,10,b,0,0,0,0⟩]
 | 14=>[⟨2,D,0,0,0,0,0⟩,⟨5,6,b,0,0,0,0⟩,⟨13,7,m+1,0,0,pc,done⟩,⟨4,11,m,b,0,0,0⟩,⟨3,D,m+1+1+1,0,0,0,0⟩,⟨1,0,0,0,0,5,0⟩,⟨3,8,m+1+1+1+1+1,0,0,0,0⟩,⟨3,9,m+1+1+1,0,0,0,0⟩]
 | 15=>[⟨2,D,0,0,0,0,0⟩,⟨5,6,b,0,0,0,0⟩,⟨13,7,m+1,0,0,pc,done⟩,⟨4,12,m,b,0,0,0⟩,⟨3,D,m+1+1+1,0,0,0,0⟩,⟨1,0,0,0,0,5,0⟩,⟨3,8,m+1+1+1+1+1,0,0,0,0⟩,⟨3,9,m+1+1+1,0,0,0,0⟩]
 | _=>[]
def liftF(x:XI)(m:Int):List OpR:=
 match x.op.toNat with
 | 0=>[]
 | 1=>[⟨14,2,0,0,0,x.pc,x.done⟩]
 | 2=>[⟨2,7,0,0,0,0,0⟩,⟨9,4,m,0,0,x.pc,x.done⟩,⟨1,0,0,0,0,4,0⟩,⟨4,0,m,m+1+1,0,0,0⟩,⟨3,7,m+1+1+1,0,0,0,0⟩,⟨16,0,m+1,0,0,0,x.done+1⟩]
 | 3=>[⟨17,0,0,0,0,0,0⟩,⟨2,7,0,0,0,0,0⟩,⟨1,0,0,0,0,4,0⟩,⟨4,1,m+1,m+1+1,0,0,0⟩,⟨10,2,m+1+1+1,m,0,x.pc,x.done⟩,⟨3,7,m+1+1+1,0,0,0,0⟩,⟨11,0,0,0,0,x.next,x.done+1⟩]
 | 4=>[⟨2,7,0,0,0,0,0⟩,⟨9,4,m,0,0,x.pc,x.done⟩,⟨1,0,0,0,0,4,0⟩,⟨4,0,m,m+1+1,0,0,0⟩,⟨3,7,m+1+1+1,0,0,0,0⟩,⟨1,0,0,0,0,0,0⟩,⟨3,8,m+1+1+1+1+1,0,0,0,0⟩,⟨3,11,m+1,0,0,0,0⟩]
 | 5=>[⟨14,1,0,x.im,0,x.next,x.done+1⟩]
 | 6=>[⟨15,0,0,0,0,((x.next+x.im)%4294967296),x.done+1⟩]
 | 7=>[⟨15,0,0,0,0,((x.next+x.im)%4294967296),x.done+1⟩]
 | 8=>[⟨1,0,0,0,0,x.next,0⟩,⟨2,7,0,0,0,0,0⟩,⟨1,0,0,0,0,4,0⟩,⟨4,1,m+1,m+1+1,0,0,0⟩,⟨10,2,m+1+1+1,m,0,x.pc,x.done⟩,⟨3,7,m+1+1+1,0,0,0,0⟩,⟨15,0,0,0,0,((x.next+x.im)%4294967296),x.done+1⟩]
 | 9=>[⟨2,x.S,0,0,0,0,0⟩,⟨16,0,m,0,0,0,x.done+1⟩]
 | 10=>[⟨2,x.S,0,0,0,0,0⟩,⟨1,0,0,0,0,x.next,0⟩,⟨2,7,0,0,0,0,0⟩,⟨1,0,0,0,0,4,0⟩,⟨4,1,m+1+1,m+1+1+1,0,0,0⟩,⟨10,2,m+1+1+1+1,m+1,0,x.pc,x.done⟩,⟨3,7,m+1+1+1+1,0,0,0,0⟩,⟨16,0,m,0,0,0,x.done+1⟩]
 | 11=>[⟨2,x.S,0,0,0,0,0⟩,⟨1,0,0,0,0,x.im,0⟩,⟨4,0,m,m+1,0,0,0⟩,⟨9,4,m+1+1,0,0,x.pc,x.done⟩,⟨16,0,m+1+1+1,0,0,0,x.done+1⟩]
 | 12=>[⟨17,0,0,0,0,0,0⟩,⟨8,x.O,m,0,0,0,0⟩,⟨12,0,m+1,0,0,((x.next+x.im)%4294967296),x.done+1⟩,⟨15,0,0,0,0,x.next,x.done+1⟩]
 | 13=>[⟨17,0,0,0,0,0,0⟩,⟨8,x.O,m,0,0,0,0⟩,⟨12,0,m+1,0,0,((x.next+x.im)%4294967296),x.done+1⟩,⟨15,0,0,0,0,x.next,x.done+1⟩]
 | 14=>[⟨2,x.S,0,0,0,0,0⟩,⟨2,7,0,0,0,0,0⟩,⟨1,0,0,0,0,4,0⟩,⟨4,1,m+1,m+1+1,0,0,0⟩,⟨10,2,m+1+1+1,m,0,x.pc,x.done⟩,⟨3,7,m+1+1+1,0,0,0,0⟩,⟨11,0,0,0,0,x.next,x.done+1⟩]
 | 15=>[⟨2,7,0,0,0,0,0⟩,⟨9,4,m,0,0,x.pc,x.done⟩,⟨1,0,0,0,0,4,0⟩,⟨4,0,m,m+1+1,0,0,0⟩,⟨3,7,m+1+1+1,0,0,0,0⟩,⟨3,x.D,m+1,0,0,0,0⟩]
 | 16=>[⟨1,0,0,0,0,x.im,0⟩,⟨3,x.D,m,0,0,0,0⟩]
 | 17=>[⟨2,x.D,0,0,0,0,0⟩,⟨1,0,0,0,0,1,0⟩,⟨17,0,0,0,0,0,0⟩,⟨4,0,m,m+1,0,0,0⟩,⟨3,x.D,m+1+1+1,0,0,0,0⟩,⟨1,0,0,0,0,11,0⟩,⟨3,8,m+1+1+1+1+1,0,0,0,0⟩,⟨3,9,m,0,0,0,0⟩,⟨3,10,m+1,0,0,0,0⟩,⟨3,11,m+1+1,0,0,0,0⟩]
 | 18=>[⟨2,x.D,0,0,0,0,0⟩,⟨1,0,0,0,0,1,0⟩,⟨17,0,0,0,0,0,0⟩,⟨4,1,m,m+1,0,0,0⟩,⟨3,x.D,m+1+1+1,0,0,0,0⟩,⟨1,0,0,0,0,12,0⟩,⟨3,8,m+1+1+1+1+1,0,0,0,0⟩,⟨3,9,m,0,0,0,0⟩,⟨3,10,m+1,0,0,0,0⟩,⟨3,11,m+1+1,0,0,0,0⟩]
 | 19=>[⟨1,0,0,0,0,0,0⟩,⟨2,x.D,0,0,0,0,0⟩,⟨4,1,m,m+1,0,0,0⟩,⟨3,x.D,m+1+1,0,0,0,0⟩,⟨1,0,0,0,0,3,0⟩,⟨3,8,m+1+1+1+1,0,0,0,0⟩,⟨3,9,m,0,0,0,0⟩,⟨3,10,m+1,0,0,0,0⟩]
 | 20=>[⟨2,x.D,0,0,0,0,0⟩,⟨5,0,m,0,0,0,0⟩,⟨3,x.D,m+1,0,0,0,0⟩]
 | 21=>[⟨17,0,0,0,0,0,0⟩,⟨8,x.O,m,0,0,0,0⟩,⟨3,x.D,m+1,0,0,0,0⟩]
 | 22=>[⟨2,x.S,0,0,0,0,0⟩,⟨3,x.D,m,0,0,0,0⟩]
 | 23=>[⟨2,x.S,0,0,0,0,0⟩,⟨1,0,0,0,0,x.im,0⟩,⟨4,0,m,m+1,0,0,0⟩,⟨3,x.D,m+1+1,0,0,0,0⟩]
 | 24=>[⟨2,x.S,0,0,0,0,0⟩,⟨1,0,0,0,0,x.im,0⟩,⟨4,0,m,m+1,0,0,0⟩,⟨9,4,m+1+1,0,0,x.pc,x.done⟩,⟨2,x.D,0,0,0,0,0⟩,⟨10,2,m+1+1,m+1+1+1+1,0,x.pc,x.done⟩,⟨3,x.D,m+1+1+1,0,0,0,0⟩,⟨11,0,0,0,0,x.next,x.done+1⟩]
 | 25=>[⟨2,x.S,0,0,0,0,0⟩,⟨1,0,0,0,0,x.im,0⟩,⟨4,0,m,m+1,0,0,0⟩,⟨9,4,m+1+1,0,0,x.pc,x.done⟩,⟨2,x.D,0,0,0,0,0⟩,⟨4,0,m+1+1+1,m+1+1+1+1,0,0,0⟩,⟨10,2,m+1+1,m+1+1+1+1+1,0,x.pc,x.done⟩,⟨3,x.D,m+1+1+1,0,0,0,0⟩,⟨1,0,0,0,0,1,0⟩,⟨3,8,m+1+1+1+1+1+1+1+1,0,0,0,0⟩,⟨3,9,m+1+1+1,0,0,0,0⟩,⟨3,10,m+1+1+1+1,0,0,0,0⟩,⟨11,0,0,0,0,x.next,x.done+1⟩]
 | 26=>[⟨2,x.S,0,0,0,0,0⟩,⟨1,0,0,0,0,x.im,0⟩,⟨4,0,m,m+1,0,0,0⟩,⟨9,4,m+1+1,0,0,x.pc,x.done⟩,⟨2,x.D,0,0,0,0,0⟩,⟨2,0,0,0,0,0,0⟩,⟨4,13,m+1+1+1+1+1,m+1+1+1,0,0,0⟩,⟨6,0,m+1+1+1+1+1+1,m+1+1+1+1,m+1+1+1,0,0⟩,⟨10,2,m+1+1,m+1+1+1+1+1+1+1,0,x.pc,x.done⟩,⟨3,0,m+1+1+1,0,0,0,0⟩,⟨1,0,0,0,0,3,0⟩,⟨3,8,m+1+1+1+1+1+1+1+1+1+1,0,0,0,0⟩,⟨3,9,m+1+1+1+1+1,0,0,0,0⟩,⟨3,10,m+1+1+1,0,0,0,0⟩,⟨11,0,0,0,0,x.next,x.done+1⟩]
 | 30=>[⟨2,x.S,0,0,0,0,0⟩,⟨1,0,0,0,0,x.im,0⟩,⟨4,0,m,m+1,0,0,0⟩,⟨9,x.O,m+1+1,0,0,x.pc,x.done⟩,⟨3,x.D,m+1+1+1,0,0,0,0⟩]
 | 31=>[⟨2,x.S,0,0,0,0,0⟩,⟨1,0,0,0,0,x.im,0⟩,⟨4,0,m,m+1,0,0,0⟩,⟨2,x.D,0,0,0,0,0⟩,⟨10,x.O,m+1+1,m+1+1+1,0,x.pc,x.done⟩,⟨11,0,0,0,0,x.next,x.done+1⟩]
 | 27=>⟨2,x.S,0,0,0,0,0⟩ :: reckOps x.O.toNat x.D m x.pc x.done (m+1)
 | 28=>⟨1,0,0,0,0,x.im,0⟩ :: reckOps x.O.toNat x.D m x.pc x.done (m+1)
 | 29=>⟨1,0,0,0,0,x.im,0⟩ :: reckOps x.O.toNat x.D m x.pc x.done (m+1)
 | _=>[]
structure XOk(x:XI):Prop where
 op:0≤x.op∧x.op < 32
 im:x.im < 4294967296
 O:0≤x.O∧x.O < 16
def gvL(l:List OpR)(t:Int):Bool:=decide (0≤t∧t < l.length) && (rr (l.getD t.toNat ⟨0,0,0,0,0,0,0⟩).kind).gives
def tkL(x:FL)(o:OpR)(l:List OpR):Bool:=(x.ha && !gvL l o.a) || (x.hb && !gvL l o.b) || (x.hc && !gvL l o.c)
structure StO(c:Int)(l:List OpR)(o:OpR):Prop where
 e:eOp o=false
 f:fieldBad (flT o.kind.toNat) o c=false
 t:tkL (flT o.kind.toNat) o l=false
def OkR(c:Int)(l:List OpR):List OpR→List OpR→Prop
 | _,[]=>True
 | r,o :: q=>StO c (l++r) o∧(rr o.kind).ends=false∧OkR c l (r++[o]) q
theorem gvAt(l r:List OpR)(M:Int)(hl:(l.length:Int)=M)(j:Nat)(t:Int)(ht:t=M+j)(o:OpR)(h:r[j]?=some o)(hg:(rr o.kind).gives=true):gvL (l++r) t=true:=by
 have hj:j < r.length:=by
  rcases Nat.lt_or_ge j r.length with g|g
  ·exact g
  ·rw[List.getElem?_eq_none g] at h;cases h
 have e1:t.toNat=l.length+j:=zo
 unfold gvL
 rw[List.getD_eq_getElem?_getD,e1,List.getElem?_append_right zo,Nat.add_sub_cancel_left,h]
 simp only[Option.getD_some,hg,Bool.and_true,decide_eq_true_eq,List.length_append]
 omega
section
variable {c:Int} {l:List OpR}
theorem so1{k:Nat}(hc:0≤c):StO c l ⟨1,0,0,0,0,k,0⟩:=⟨rfl,by simp[fieldBad,bd,bg,flT,hc],by simp[tkL,flT]⟩
theorem so2{w:Int}(hc:0≤c)(hw:0≤w∧w≤11):StO c l ⟨2,w,0,0,0,0,0⟩:=⟨by simp[eOp,isK,rr,rrT];omega,by simp[fieldBad,bd,bg,flT,hc],by simp[tkL,flT]⟩
theorem so3{w a:Int}(hc:0≤c)(hw:0≤w∧w≤11)(ha:gvL l a=true):StO c l ⟨3,w,a,0,0,0,0⟩:=⟨by simp[eOp,isK,rr,rrT];omega,by simp[fieldBad,bd,bg,flT,hc],by simp[tkL,flT,ha]⟩
theorem so4{g a b:Int}(hc:0≤c)(hw:0≤g∧g≤15)(ha:gvL l a=true)(hb:gvL l b=true):StO c l ⟨4,g,a,b,0,0,0⟩:=⟨by simp[eOp,isK,rr,rrT];omega,by simp[fieldBad,bd,bg,flT,hc],by simp[tkL,flT,ha,hb]⟩
theorem so5{g a:Int}(hc:0≤c)(hw:0≤g∧g≤6)(ha:gvL l a=true):StO c l ⟨5,g,a,0,0,0,0⟩:=⟨by simp[eOp,isK,rr,rrT];omega,by simp[fieldBad,bd,bg,flT,hc],by simp[tkL,flT,ha]⟩
theorem so6{a b d:Int}(hc:0≤c)(ha:gvL l a=true)(hb:gvL l b=true)(hd:gvL l d=true):StO c l ⟨6,0,a,b,d,0,0⟩:=⟨rfl,by simp[fieldBad,bd,bg,flT,hc],by simp[tkL,flT,ha,hb,hd]⟩
theorem so8{w a:Int}(hc:0≤c)(hw:0≤w∧w≤15)(ha:gvL l a=true):StO c l ⟨8,w,a,0,0,0,0⟩:=⟨by simp[eOp,isK,rr,rrT];omega,by simp[fieldBad,bd,bg,flT,hc],by simp[tkL,flT,ha]⟩
theorem so9{w a n:Int}{k:Nat}(hw:0≤w∧w≤4)(ha:gvL l a=true)(hn:0≤n∧n≤c):StO c l ⟨9,w,a,0,0,k,n⟩:=⟨by simp[eOp,isK,rr,rrT];omega,by simp[fieldBad,bd,bg,flT];omega,by simp[tkL,flT,ha]⟩
theorem so10{w a b n:Int}{k:Nat}(hw:0≤w∧w≤2)(ha:gvL l a=true)(hb:gvL l b=true)(hn:0≤n∧n≤c):StO c l ⟨10,w,a,b,0,k,n⟩:=⟨by simp[eOp,isK,rr,rrT];omega,by simp[fieldBad,bd,bg,flT];omega,by simp[tkL,flT,ha,hb]⟩
theorem so11{n:Int}{k:Nat}(hn:0≤n∧n≤c):StO c l ⟨11,0,0,0,0,k,n⟩:=⟨rfl,by simp[fieldBad,bd,bg,flT];omega,by simp[tkL,flT]⟩
theorem so12{a n:Int}{k:Nat}(ha:gvL l a=true)(hn:0≤n∧n≤c):StO c l ⟨12,0,a,0,0,k,n⟩:=⟨rfl,by simp[fieldBad,bd,bg,flT];omega,by simp[tkL,flT,ha]⟩
theorem so13{w a n:Int}{k:Nat}(hw:1≤w∧w≤7)(ha:gvL l a=true)(hn:0≤n∧n≤c):StO c l ⟨13,w,a,0,0,k,n⟩:=⟨by simp[eOp,isK,rr,rrT];omega,by simp[fieldBad,bd,bg,flT];omega,by simp[tkL,flT,ha]⟩
theorem so14{w b n:Int}{k:Nat}(hw:1≤w∧w≤7)(hb:0≤b∧b≤4294967295)(hn:0≤n∧n≤c):StO c l ⟨14,w,0,b,0,k,n⟩:=⟨by simp[eOp,isK,rr,rrT];omega,by simp[fieldBad,bd,bg,flT];omega,by simp[tkL,flT]⟩
theorem so15{n:Int}{k:Nat}(hn:0≤n∧n≤c):StO c l ⟨15,0,0,0,0,k,n⟩:=⟨rfl,by simp[fieldBad,bd,bg,flT];omega,by simp[tkL,flT]⟩
theorem so16{a n:Int}(ha:gvL l a=true)(hn:0≤n∧n≤c):StO c l ⟨16,0,a,0,0,0,n⟩:=⟨rfl,by simp[fieldBad,bd,bg,flT];omega,by simp[tkL,flT,ha]⟩
theorem so17(hc:0≤c):StO c l ⟨17,0,0,0,0,0,0⟩:=⟨rfl,by simp[fieldBad,bd,bg,flT,hc],by simp[tkL,flT]⟩
end
def endsF(op:Int):Bool:=decide (op=1∨op=2∨(5≤op∧op≤13))
structure XGood(x:XI)(c:Int):Prop where
 op:0≤x.op∧x.op < 32
 D:0≤x.D∧x.D≤7
 S:0≤x.S∧x.S≤7
 O:0≤x.O∧x.O < 16
 im:x.im < 4294967296
 ld:x.op=30→x.O≤4
 st:x.op=31→x.O≤2
 n0:0≤x.done
 n1:x.done+1≤c
theorem reck_ok(c:Int)(l:List OpR)(m:Int)(hm:(l.length:Int)=m)(f:OpR)(hf:(rr f.kind).gives=true)(O:Nat)(hO:O < 16)(D:Int)(hD:0≤D∧D≤7)(pc:Nat)(done:Int)(h0:0≤done)(h1:done+1≤c) :
  OkR c l [f] (reckOps O D m pc done (m+1)):=by
 have hc:0≤c:=zo
 match O,hO with
 | 0,_=>exact⟨so2 zo zo,rfl,⟨so4 zo zo (gvAt l _ m hm 1 _ zo _ rfl zq5) (gvAt l _ m hm 0 _ zo _ rfl zq5),rfl,⟨so3 zo zo (gvAt l _ m hm 2 _ zo _ rfl zq5),rfl,⟨so1 zo,rfl,⟨so3 zo zo (gvAt l _ m hm 4 _ zo _ rfl zq5),rfl,⟨so3 zo zo (gvAt l _ m hm 1 _ zo _ rfl zq5),rfl,⟨so3 zo zo (gvAt l _ m hm 0 _ zo _ rfl zq5),rfl,trivial⟩⟩⟩⟩⟩⟩⟩
 | 1,_=>exact⟨so2 zo zo,rfl,⟨so4 zo zo (gvAt l _ m hm 1 _ zo _ rfl zq5) (gvAt l _ m hm 0 _ zo _ rfl zq5),rfl,⟨so17 zo,rfl,⟨so8 zo zo (gvAt l _ m hm 3 _ zo _ rfl zq5),rfl,⟨so4 zo zo (gvAt l _ m hm 2 _ zo _ rfl zq5) (gvAt l _ m hm 4 _ zo _ rfl zq5),rfl,⟨so3 zo zo (gvAt l _ m hm 5 _ zo _ rfl zq5),rfl,⟨so1 zo,rfl,⟨so3 zo zo (gvAt l _ m hm 7 _ zo _ rfl zq5),rfl,⟨so3 zo zo (gvAt l _ m hm 1 _ zo _ rfl zq5),rfl,⟨so3 zo zo (gvAt l _ m hm 0 _ zo _ rfl zq5),rfl,⟨so3 zo zo (gvAt l _ m hm 3 _ zo _ rfl zq5),rfl,trivial⟩⟩⟩⟩⟩⟩⟩⟩⟩⟩⟩
 | 2,_=>exact⟨so2 zo zo,rfl,⟨so4 zo zo (gvAt l _ m hm 1 _ zo _ rfl zq5) (gvAt l _ m hm 0 _ zo _ rfl zq5),rfl,⟨so3 zo zo (gvAt l _ m hm 2 _ zo _ rfl zq5),rfl,⟨so1 zo,rfl,⟨so3 zo zo (gvAt l _ m hm 4 _ zo _ rfl zq5),rfl,⟨so3 zo zo (gvAt l _ m hm 1 _ zo _ rfl zq5),rfl,⟨so3 zo zo (gvAt l _ m hm 0 _ zo _ rfl zq5),rfl,trivial⟩⟩⟩⟩⟩⟩⟩
 | 3,_=>exact⟨so2 zo zo,rfl,⟨so4 zo zo (gvAt l _ m hm 1 _ zo _ rfl zq5) (gvAt l _ m hm 0 _ zo _ rfl zq5),rfl,⟨so17 zo,rfl,⟨so8 zo zo (gvAt l _ m hm 3 _ zo _ rfl zq5),rfl,⟨so4 zo zo (gvAt l _ m hm 2 _ zo _ rfl zq5) (gvAt l _ m hm 4 _ zo _ rfl zq5),rfl,⟨so3 zo zo (gvAt l _ m hm 5 _ zo _ rfl zq5),rfl,⟨so1 zo,rfl,⟨so3 zo zo (gvAt l _ m hm 7 _ zo _ rfl zq5),rfl,⟨so3 zo zo (gvAt l _ m hm 1 _ zo _ rfl zq5),rfl,⟨so3 zo zo (gvAt l _ m hm 0 _ zo _ rfl zq5),rfl,⟨so3 zo zo (gvAt l _ m hm 3 _ zo _ rfl zq5),rfl,trivial⟩⟩⟩⟩⟩⟩⟩⟩⟩⟩⟩
 | 4,_=>exact⟨so2 zo zo,rfl,⟨so4 zo zo (gvAt l _ m hm 1 _ zo _ rfl zq5) (gvAt l _ m hm 0 _ zo _ rfl zq5),rfl,⟨so3 zo zo (gvAt l _ m hm 2 _ zo _ rfl zq5),rfl,⟨so1 zo,rfl,⟨so3 zo zo (gvAt l _ m hm 4 _ zo _ rfl zq5),rfl,⟨so3 zo zo (gvAt l _ m hm 2 _ zo _ rfl zq5),rfl,trivial⟩⟩⟩⟩⟩⟩
 | 5,_=>exact⟨so2 zo zo,rfl,⟨so4 zo zo (gvAt l _ m hm 1 _ zo _ rfl zq5) (gvAt l _ m hm 0 _ zo _ rfl zq5),rfl,⟨so3 zo zo (gvAt l _ m hm 2 _ zo _ rfl zq5),rfl,⟨so1 zo,rfl,⟨so3 zo zo (gvAt l _ m hm 4 _ zo _ rfl zq5),rfl,⟨so3 zo zo (gvAt l _ m hm 2 _ zo _ rfl zq5),rfl,trivial⟩⟩⟩⟩⟩⟩
 | 6,_=>exact⟨so2 zo zo,rfl,⟨so4 zo zo (gvAt l _ m hm 1 _ zo _ rfl zq5) (gvAt l _ m hm 0 _ zo _ rfl zq5),rfl,⟨so3 zo zo (gvAt l _ m hm 2 _ zo _ rfl zq5),rfl,⟨so1 zo,rfl,⟨so3 zo zo (gvAt l _ m hm 4 _ zo _ rfl zq5),rfl,⟨so3 zo zo (gvAt l _ m hm 2 _ zo _ rfl zq5),rfl,trivial⟩⟩⟩⟩⟩⟩
 | 7,_=>exact⟨so2 zo zo,rfl,⟨so1 zo,rfl,⟨so3 zo zo (gvAt l _ m hm 2 _ zo _ rfl zq5),rfl,⟨so3 zo zo (gvAt l _ m hm 1 _ zo _ rfl zq5),rfl,⟨so3 zo zo (gvAt l _ m hm 0 _ zo _ rfl zq5),rfl,trivial⟩⟩⟩⟩⟩
 | 8,_=>exact⟨so2 zo zo,rfl,⟨so4 zo zo (gvAt l _ m hm 1 _ zo _ rfl zq5) (gvAt l _ m hm 0 _ zo _ rfl zq5),rfl,⟨so1 zo,rfl,⟨so3 zo zo (gvAt l _ m hm 3 _ zo _ rfl zq5),rfl,⟨so3 zo zo (gvAt l _ m hm 2 _ zo _ rfl zq5),rfl,trivial⟩⟩⟩⟩⟩
 | 9,_=>exact⟨so2 zo zo,rfl,⟨so4 zo zo (gvAt l _ m hm 1 _ zo _ rfl zq5) (gvAt l _ m hm 0 _ zo _ rfl zq5),rfl,⟨so17 zo,rfl,⟨so3 zo zo (gvAt l _ m hm 2 _ zo _ rfl zq5),rfl,⟨so1 zo,rfl,⟨so3 zo zo (gvAt l _ m hm 5 _ zo _ rfl zq5),rfl,⟨so3 zo zo (gvAt l _ m hm 1 _ zo _ rfl zq5),rfl,⟨so3 zo zo (gvAt l _ m hm 0 _ zo _ rfl zq5),rfl,⟨so3 zo zo (gvAt l _ m hm 3 _ zo _ rfl zq5),rfl,trivial⟩⟩⟩⟩⟩⟩⟩⟩⟩
 | 10,_=>exact⟨so2 zo zo,rfl,⟨so4 zo zo (gvAt l _ m hm 1 _ zo _ rfl zq5) (gvAt l _ m hm 0 _ zo _ rfl zq5),rfl,⟨so17 zo,rfl,⟨so3 zo zo (gvAt l _ m hm 2 _ zo _ rfl zq5),rfl,⟨so1 zo,rfl,⟨so3 zo zo (gvAt l _ m hm 5 _ zo _ rfl zq5),rfl,⟨so3 zo zo (gvAt l _ m hm 1 _ zo _ rfl zq5),rfl,⟨so3 zo zo (gvAt l _ m hm 0 _ zo _ rfl zq5),rfl,⟨so3 zo zo (gvAt l _ m hm 3 _ zo _ rfl zq5),rfl,trivial⟩⟩⟩⟩⟩⟩⟩⟩⟩
 | 11,_=>exact⟨so2 zo zo,rfl,⟨so4 zo zo (gvAt l _ m hm 1 _ zo _ rfl zq5) (gvAt l _ m hm 0 _ zo _ rfl zq5),rfl,⟨so17 zo,rfl,⟨so3 zo zo (gvAt l _ m hm 2 _ zo _ rfl zq5),rfl,⟨so1 zo,rfl,⟨so3 zo zo (gvAt l _ m hm 5 _ zo _ rfl zq5),rfl,⟨so3 zo zo (gvAt l _ m hm 1 _ zo _ rfl zq5),rfl,⟨so3 zo zo (gvAt l _ m hm 0 _ zo _ rfl zq5),rfl,⟨so3 zo zo (gvAt l _ m hm 3 _ zo _ rfl zq5),rfl,trivial⟩⟩⟩⟩⟩⟩⟩⟩⟩
 | 12,_=>exact⟨so2 zo zo,rfl,⟨so4 zo zo (gvAt l _ m hm 1 _ zo _ rfl zq5) (gvAt l _ m hm 0 _ zo _ rfl zq5),rfl,⟨so17 zo,rfl,⟨so3 zo zo (gvAt l _ m hm 2 _ zo _ rfl zq5),rfl,⟨so1 zo,rfl,⟨so3 zo zo (gvAt l _ m hm 5 _ zo _ rfl zq5),rfl,⟨so3 zo zo (gvAt l _ m hm 1 _ zo _ rfl zq5),rfl,⟨so3 zo zo (gvAt l _ m hm 0 _ zo _ rfl zq5),rfl,⟨so3 zo zo (gvAt l _ m hm 3 _ zo _ rfl zq5),rfl,trivial⟩⟩⟩⟩⟩⟩⟩⟩⟩
 | 13,_=>exact⟨so2 zo zo,rfl,⟨so4 zo zo (gvAt l _ m hm 1 _ zo _ rfl zq5) (gvAt l _ m hm 0 _ zo _ rfl zq5),rfl,⟨so3 zo zo (gvAt l _ m hm 2 _ zo _ rfl zq5),rfl,⟨so1 zo,rfl,⟨so3 zo zo (gvAt l _ m hm 4 _ zo _ rfl zq5),rfl,⟨so3 zo zo (gvAt l _ m hm 1 _ zo _ rfl zq5),rfl,⟨so3 zo zo (gvAt l _ m hm 0 _ zo _ rfl zq5),rfl,trivial⟩⟩⟩⟩⟩⟩⟩
 | 14,_=>exact⟨so2 zo zo,rfl,⟨so5 zo zo (gvAt l _ m hm 0 _ zo _ rfl zq5),rfl,⟨so13 zo (gvAt l _ m hm 2 _ zo _ rfl zq5) zo,rfl,⟨so4 zo zo (gvAt l _ m hm 1 _ zo _ rfl zq5) (gvAt l _ m hm 0 _ zo _ rfl zq5),rfl,⟨so3 zo zo (gvAt l _ m hm 4 _ zo _ rfl zq5),rfl,⟨so1 zo,rfl,⟨so3 zo zo (gvAt l _ m hm 6 _ zo _ rfl zq5),rfl,⟨so3 zo zo (gvAt l _ m hm 4 _ zo _ rfl zq5),rfl,trivial⟩⟩⟩⟩⟩⟩⟩⟩
 | 15,_=>exact⟨so2 zo zo,rfl,⟨so5 zo zo (gvAt l _ m hm 0 _ zo _ rfl zq5),rfl,⟨so13 zo (gvAt l _ m hm 2 _ zo _ rfl zq5) zo,rfl,⟨so4 zo zo (gvAt l _ m hm 1 _ zo _ rfl zq5) (gvAt l _ m hm 0 _ zo _ rfl zq5),rfl,⟨so3 zo zo (gvAt l _ m hm 4 _ zo _ rfl zq5),rfl,⟨so1 zo,rfl,⟨so3 zo zo (gvAt l _ m hm 6 _ zo _ rfl zq5),rfl,⟨so3 zo zo (gvAt l _ m hm 4 _ zo _ rfl zq5),rfl,trivial⟩⟩⟩⟩⟩⟩⟩⟩
 | n+16,h=>exact absurd h zo
theorem lift_mid(c:Int)(l:List OpR)(m:Int)(hm:(l.length:Int)=m)(x:XI)(hx:XGood x c)(he:endsF x.op=false):OkR c l [] (liftF x m):=by
 obtain⟨t,ht⟩:∃ t:Nat,x.op=t:=⟨x.op.toNat,by have:=hx.op;omega⟩
 have hlt:t < 32:=by have:=hx.op;omega
 have et:x.op.toNat=t:=zo
 obtain⟨-,hD,hS,hO,him,hld,hst,h0,h1⟩:=hx
 have hc:0≤c:=zo
 have hOn:x.O.toNat < 16:=zo
 match t,hlt,ht,et with
 | 0,_,_,et=>simp only[liftF,et];trivial
 | 1,_,ht,_=>rw[ht] at he;exact absurd he (by decide)
 | 2,_,ht,_=>rw[ht] at he;exact absurd he (by decide)
 | 3,_,ht,et=>simp only[liftF,et];exact⟨so17 zo,rfl,⟨so2 zo zo,rfl,⟨so1 zo,rfl,⟨so4 zo zo (gvAt l _ m hm 1 _ zo _ rfl rfl) (gvAt l _ m hm 2 _ zo _ rfl rfl),rfl,⟨so10 zo (gvAt l _ m hm 3 _ zo _ rfl rfl) (gvAt l _ m hm 0 _ zo _ rfl rfl) zo,rfl,⟨so3 zo zo (gvAt l _ m hm 3 _ zo _ rfl rfl),rfl,⟨so11 zo,rfl,trivial⟩⟩⟩⟩⟩⟩⟩
 | 4,_,ht,et=>simp only[liftF,et];exact⟨so2 zo zo,rfl,⟨so9 zo (gvAt l _ m hm 0 _ zo _ rfl rfl) zo,rfl,⟨so1 zo,rfl,⟨so4 zo zo (gvAt l _ m hm 0 _ zo _ rfl rfl) (gvAt l _ m hm 2 _ zo _ rfl rfl),rfl,⟨so3 zo zo (gvAt l _ m hm 3 _ zo _ rfl rfl),rfl,⟨so1 zo,rfl,⟨so3 zo zo (gvAt l _ m hm 5 _ zo _ rfl rfl),rfl,⟨so3 zo zo (gvAt l _ m hm 1 _ zo _ rfl rfl),rfl,trivial⟩⟩⟩⟩⟩⟩⟩⟩
 | 5,_,ht,_=>rw[ht] at he;exact absurd he (by decide)
 | 6,_,ht,_=>rw[ht] at he;exact absurd he (by decide)
 | 7,_,ht,_=>rw[ht] at he;exact absurd he (by decide)
 | 8,_,ht,_=>rw[ht] at he;exact absurd he (by decide)
 | 9,_,ht,_=>rw[ht] at he;exact absurd he (by decide)
 | 10,_,ht,_=>rw[ht] at he;exact absurd he (by decide)
 | 11,_,ht,_=>rw[ht] at he;exact absurd he (by decide)
 | 12,_,ht,_=>rw[ht] at he;exact absurd he (by decide)
 | 13,_,ht,_=>rw[ht] at he;exact absurd he (by decide)
 | 14,_,ht,et=>simp only[liftF,et];exact⟨so2 zo zo,rfl,⟨so2 zo zo,rfl,⟨so1 zo,rfl,⟨so4 zo zo (gvAt l _ m hm 1 _ zo _ rfl rfl) (gvAt l _ m hm 2 _ zo _ rfl rfl),rfl,⟨so10 zo (gvAt l _ m hm 3 _ zo _ rfl rfl) (gvAt l _ m hm 0 _ zo _ rfl rfl) zo,rfl,⟨so3 zo zo (gvAt l _ m hm 3 _ zo _ rfl rfl),rfl,⟨so11 zo,rfl,trivial⟩⟩⟩⟩⟩⟩⟩
 | 15,_,ht,et=>simp only[liftF,et];exact⟨so2 zo zo,rfl,⟨so9 zo (gvAt l _ m hm 0 _ zo _ rfl rfl) zo,rfl,⟨so1 zo,rfl,⟨so4 zo zo (gvAt l _ m hm 0 _ zo _ rfl rfl) (gvAt l _ m hm 2 _ zo _ rfl rfl),rfl,⟨so3 zo zo (gvAt l _ m hm 3 _ zo _ rfl rfl),rfl,⟨so3 zo zo (gvAt l _ m hm 1 _ zo _ rfl rfl),rfl,trivial⟩⟩⟩⟩⟩⟩
 | 16,_,ht,et=>simp only[liftF,et];exact⟨so1 zo,rfl,⟨so3 zo zo (gvAt l _ m hm 0 _ zo _ rfl rfl),rfl,trivial⟩⟩
 | 17,_,ht,et=>simp only[liftF,et];exact⟨so2 zo zo,rfl,⟨so1 zo,rfl,⟨so17 zo,rfl,⟨so4 zo zo (gvAt l _ m hm 0 _ zo _ rfl rfl) (gvAt l _ m hm 1 _ zo _ rfl rfl),rfl,⟨so3 zo zo (gvAt l _ m hm 3 _ zo _ rfl rfl),rfl,⟨so1 zo,rfl,⟨so3 zo zo (gvAt l _ m hm 5 _ zo _ rfl rfl),rfl,⟨so3 zo zo (gvAt l _ m hm 0 _ zo _ rfl rfl),rfl,⟨so3 zo zo (gvAt l _ m hm 1 _ zo _ rfl rfl),rfl,⟨so3 zo zo (gvAt l _ m hm 2 _ zo _ rfl rfl),rfl,trivial⟩⟩⟩⟩⟩⟩⟩⟩⟩⟩
 | 18,_,ht,et=>simp only[liftF,et];exact⟨so2 zo zo,rfl,⟨so1 zo,rfl,⟨so17 zo,rfl,⟨so4 zo zo (gvAt l _ m hm 0 _ zo _ rfl rfl) (gvAt l _ m hm 1 _ zo _ rfl rfl),rfl,⟨so3 zo zo (gvAt l _ m hm 3 _ zo _ rfl rfl),rfl,⟨so1 zo,rfl,⟨so3 zo zo (gvAt l _ m hm 5 _ zo _ rfl rfl),rfl,⟨so3 zo zo (gvAt l _ m hm 0 _ zo _ rfl rfl),rfl,⟨so3 zo zo (gvAt l _ m hm 1 _ zo _ rfl rfl),rfl,⟨so3 zo zo (gvAt l _ m hm 2 _ zo _ rfl rfl),rfl,trivial⟩⟩⟩⟩⟩⟩⟩⟩⟩⟩
 | 19,_,ht,et=>simp only[liftF,et];exact⟨so1 zo,rfl,⟨so2 zo zo,rfl,⟨so4 zo zo (gvAt l _ m hm 0 _ zo _ rfl rfl) (gvAt l _ m hm 1 _ zo _ rfl rfl),rfl,⟨so3 zo zo (gvAt l _ m hm 2 _ zo _ rfl rfl),rfl,⟨so1 zo,rfl,⟨so3 zo zo (gvAt l _ m hm 4 _ zo _ rfl rfl),rfl,⟨so3 zo zo (gvAt l _ m hm 0 _ zo _ rfl rfl),rfl,⟨so3 zo zo (gvAt l _ m hm 1 _ zo _ rfl rfl),rfl,trivial⟩⟩⟩⟩⟩⟩⟩⟩
 | 20,_,ht,et=>simp only[liftF,et];exact⟨so2 zo zo,rfl,⟨so5 zo zo (gvAt l _ m hm 0 _ zo _ rfl rfl),rfl,⟨so3 zo zo (gvAt l _ m hm 1 _ zo _ rfl rfl),rfl,trivial⟩⟩⟩
 | 21,_,ht,et=>simp only[liftF,et];exact⟨so17 zo,rfl,⟨so8 zo zo (gvAt l _ m hm 0 _ zo _ rfl rfl),rfl,⟨so3 zo zo (gvAt l _ m hm 1 _ zo _ rfl rfl),rfl,trivial⟩⟩⟩
 | 22,_,ht,et=>simp only[liftF,et];exact⟨so2 zo zo,rfl,⟨so3 zo zo (gvAt l _ m hm 0 _ zo _ rfl rfl),rfl,trivial⟩⟩
 | 23,_,ht,et=>simp only[liftF,et];exact⟨so2 zo zo,rfl,⟨so1 zo,rfl,⟨so4 zo zo (gvAt l _ m hm 0 _ zo _ rfl rfl) (gvAt l _ m hm 1 _ zo _ rfl rfl),rfl,⟨so3 zo zo (gvAt l _ m hm 2 _ zo _ rfl rfl),rfl,trivial⟩⟩⟩⟩
 | 24,_,ht,et=>simp only[liftF,et];exact⟨so2 zo zo,rfl,⟨so1 zo,rfl,⟨so4 zo zo (gvAt l _ m hm 0 _ zo _ rfl rfl) (gvAt l _ m hm 1 _ zo _ rfl rfl),rfl,⟨so9 zo (gvAt l _ m hm 2 _ zo _ rfl rfl) zo,rfl,⟨so2 zo zo,rfl,⟨so10 zo (gvAt l _ m hm 2 _ zo _ rfl rfl) (gvAt l _ m hm 4 _ zo _ rfl rfl) zo,rfl,⟨so3 zo zo (gvAt l _ m hm 3 _ zo _ rfl rfl),rfl,⟨so11 zo,rfl,trivial⟩⟩⟩⟩⟩⟩⟩⟩
 | 25,_,ht,et=>simp only[liftF,et];exact⟨so2 zo zo,rfl,⟨so1 zo,rfl,⟨so4 zo zo (gvAt l _ m hm 0 _ zo _ rfl rfl) (gvAt l _ m hm 1 _ zo _ rfl rfl),rfl,⟨so9 zo (gvAt l _ m hm 2 _ zo _ rfl rfl) zo,rfl,⟨so2 zo zo,rfl,⟨so4 zo zo (gvAt l _ m hm 3 _ zo _ rfl rfl) (gvAt l _ m hm 4 _ zo _ rfl rfl),rfl,⟨so10 zo (gvAt l _ m hm 2 _ zo _ rfl rfl) (gvAt l _ m hm 5 _ zo _ rfl rfl) zo,rfl,⟨so3 zo zo (gvAt l _ m hm 3 _ zo _ rfl rfl),rfl,⟨so1 zo,rfl,⟨so3 zo zo (gvAt l _ m hm 8 _ zo _ rfl rfl),rfl,⟨so3 zo zo (gvAt l _ m hm 3 _ zo _ rfl rfl),rfl,⟨so3 zo zo (gvAt l _ m hm 4 _ zo _ rfl rfl),rfl,⟨so11 zo,rfl,trivial⟩⟩⟩⟩⟩⟩⟩⟩⟩⟩⟩⟩⟩
 | 26,_,ht,et=>simp only[liftF,et];exact⟨so2 zo zo,rfl,⟨so1 zo,rfl,⟨so4 zo zo (gvAt l _ m hm 0 _ zo _ rfl rfl) (gvAt l _ m hm 1 _ zo _ rfl rfl),rfl,⟨so9 zo (gvAt l _ m hm 2 _ zo _ rfl rfl) zo,rfl,⟨so2 zo zo,rfl,⟨so2 zo zo,rfl,⟨so4 zo zo (gvAt l _ m hm 5 _ zo _ rfl rfl) (gvAt l _ m hm 3 _ zo _ rfl rfl),rfl,⟨so6 zo (gvAt l _ m hm 6 _ zo _ rfl rfl) (gvAt l _ m hm 4 _ zo _ rfl rfl) (gvAt l _ m hm 3 _ zo _ rfl rfl),rfl,⟨so10 zo (gvAt l _ m hm 2 _ zo _ rfl rfl) (gvAt l _ m hm 7 _ zo _ rfl rfl) zo,rfl,⟨so3 zo zo (gvAt l _ m hm 3 _ zo _ rfl rfl),rfl,⟨so1 zo,rfl,⟨so3 zo zo (gvAt l _ m hm 10 _ zo _ rfl rfl),rfl,⟨so3 zo zo (gvAt l _ m hm 5 _ zo _ rfl rfl),rfl,⟨so3 zo zo (gvAt l _ m hm 3 _ zo _ rfl rfl),rfl,⟨so11 zo,rfl,trivial⟩⟩⟩⟩⟩⟩⟩⟩⟩⟩⟩⟩⟩⟩⟩
 | 27,_,_,et=>simp only[liftF,et];exact⟨so2 zo zo,rfl,reck_ok c l m hm _ rfl _ hOn _ hD _ _ h0 h1⟩
 | 28,_,_,et=>simp only[liftF,et];exact⟨so1 zo,rfl,reck_ok c l m hm _ rfl _ hOn _ hD _ _ h0 h1⟩
 | 29,_,_,et=>simp only[liftF,et];exact⟨so1 zo,rfl,reck_ok c l m hm _ rfl _ hOn _ hD _ _ h0 h1⟩
 | 30,_,ht,et=>have:=hld ht;simp only[liftF,et];exact⟨so2 zo zo,rfl,⟨so1 zo,rfl,⟨so4 zo zo (gvAt l _ m hm 0 _ zo _ rfl rfl) (gvAt l _ m hm 1 _ zo _ rfl rfl),rfl,⟨so9 zo (gvAt l _ m hm 2 _ zo _ rfl rfl) zo,rfl,⟨so3 zo zo (gvAt l _ m hm 3 _ zo _ rfl rfl),rfl,trivial⟩⟩⟩⟩⟩
 | 31,_,ht,et=>have:=hst ht;simp only[liftF,et];exact⟨so2 zo zo,rfl,⟨so1 zo,rfl,⟨so4 zo zo (gvAt l _ m hm 0 _ zo _ rfl rfl) (gvAt l _ m hm 1 _ zo _ rfl rfl),rfl,⟨so2 zo zo,rfl,⟨so10 zo (gvAt l _ m hm 2 _ zo _ rfl rfl) (gvAt l _ m hm 3 _ zo _ rfl rfl) zo,rfl,⟨so11 zo,rfl,trivial⟩⟩⟩⟩⟩⟩
 | n+32,h,_,_=>exact absurd h zo
theorem lift_end(c:Int)(l:List OpR)(m:Int)(hm:(l.length:Int)=m)(x:XI)(hx:XGood x c)(he:endsF x.op=true):∃ r o,liftF x m=r++[o]∧OkR c l [] r∧StO c (l++r) o∧(rr o.kind).ends=true:=by
 obtain⟨t,ht⟩:∃ t:Nat,x.op=t:=⟨x.op.toNat,by have:=hx.op;omega⟩
 have hlt:t < 32:=by have:=hx.op;omega
 have et:x.op.toNat=t:=zo
 obtain⟨-,hD,hS,hO,him,hld,hst,h0,h1⟩:=hx
 have hc:0≤c:=zo
 match t,hlt,ht,et with
 | 0,_,ht,_=>rw[ht] at he;exact absurd he (by decide)
 | 1,_,ht,et=>exact⟨[],⟨14,2,0,0,0,x.pc,x.done⟩,by simp only[liftF,et];rfl,trivial,so14 zo zo zo,rfl⟩
 | 2,_,ht,et=>exact⟨[⟨2,7,0,0,0,0,0⟩,⟨9,4,m,0,0,x.pc,x.done⟩,⟨1,0,0,0,0,4,0⟩,⟨4,0,m,m+1+1,0,0,0⟩,⟨3,7,m+1+1+1,0,0,0,0⟩],⟨16,0,m+1,0,0,0,x.done+1⟩,by simp only[liftF,et];rfl,⟨so2 zo zo,rfl,⟨so9 zo (gvAt l _ m hm 0 _ zo _ rfl rfl) zo,rfl,⟨so1 zo,rfl,⟨so4 zo zo (gvAt l _ m hm 0 _ zo _ rfl rfl) (gvAt l _ m hm 2 _ zo _ rfl rfl),rfl,⟨so3 zo zo (gvAt l _ m hm 3 _ zo _ rfl rfl),rfl,trivial⟩⟩⟩⟩⟩,so16 (gvAt l _ m hm 1 _ zo _ rfl rfl) zo,rfl⟩
 | 3,_,ht,_=>rw[ht] at he;exact absurd he (by decide)
 | 4,_,ht,_=>rw[ht] at he;exact absurd he (by decide)
 | 5,_,ht,et=>exact⟨[],⟨14,1,0,x.im,0,x.next,x.done+1⟩,by simp only[liftF,et];rfl,trivial,so14 zo zo zo,rfl⟩
 | 6,_,ht,et=>exact⟨[],⟨15,0,0,0,0,((x.next+x.im)%4294967296),x.done+1⟩,by simp only[liftF,et];rfl,trivial,so15 zo,rfl⟩
 | 7,_,ht,et=>exact⟨[],⟨15,0,0,0,0,((x.next+x.im)%4294967296),x.done+1⟩,by simp only[liftF,et];rfl,trivial,so15 zo,rfl⟩
 | 8,_,ht,et=>exact⟨[⟨1,0,0,0,0,x.next,0⟩,⟨2,7,0,0,0,0,0⟩,⟨1,0,0,0,0,4,0⟩,⟨4,1,m+1,m+1+1,0,0,0⟩,⟨10,2,m+1+1+1,m,0,x.pc,x.done⟩,⟨3,7,m+1+1+1,0,0,0,0⟩],⟨15,0,0,0,0,((x.next+x.im)%4294967296),x.done+1⟩,by simp only[liftF,et];rfl,⟨so1 zo,rfl,⟨so2 zo zo,rfl,⟨so1 zo,rfl,⟨so4 zo zo (gvAt l _ m hm 1 _ zo _ rfl rfl) (gvAt l _ m hm 2 _ zo _ rfl rfl),rfl,⟨so10 zo (gvAt l _ m hm 3 _ zo _ rfl rfl) (gvAt l _ m hm 0 _ zo _ rfl rfl) zo,rfl,⟨so3 zo zo (gvAt l _ m hm 3 _ zo _ rfl rfl),rfl,trivial⟩⟩⟩⟩⟩⟩,so15 zo,rfl⟩
 | 9,_,ht,et=>exact⟨[⟨2,x.S,0,0,0,0,0⟩],⟨16,0,m,0,0,0,x.done+1⟩,by simp only[liftF,et];rfl,⟨so2 zo zo,rfl,trivial⟩,so16 (gvAt l _ m hm 0 _ zo _ rfl rfl) zo,rfl⟩
 | 10,_,ht,et=>exact⟨[⟨2,x.S,0,0,0,0,0⟩,⟨1,0,0,0,0,x.next,0⟩,⟨2,7,0,0,0,0,0⟩,⟨1,0,0,0,0,4,0⟩,⟨4,1,m+1+1,m+1+1+1,0,0,0⟩,⟨10,2,m+1+1+1+1,m+1,0,x.pc,x.done⟩,⟨3,7,m+1+1+1+1,0,0,0,0⟩],⟨16,0,m,0,0,0,x.done+1⟩,by simp only[liftF,et];rfl,⟨so2 zo zo,rfl,⟨so1 zo,rfl,⟨so2 zo zo,rfl,⟨so1 zo,rfl,⟨so4 zo zo (gvAt l _ m hm 2 _ zo _ rfl rfl) (gvAt l _ m hm 3 _ zo _ rfl rfl),rfl,⟨so10 zo (gvAt l _ m hm 4 _ zo _ rfl rfl) (gvAt l _ m hm 1 _ zo _ rfl rfl) zo,rfl,⟨so3 zo zo (gvAt l _ m hm 4 _ zo _ rfl rfl),rfl,trivial⟩⟩⟩⟩⟩⟩⟩,so16 (gvAt l _ m hm 0 _ zo _ rfl rfl) zo,rfl⟩
 | 11,_,ht,et=>exact⟨[⟨2,x.S,0,0,0,0,0⟩,⟨1,0,0,0,0,x.im,0⟩,⟨4,0,m,m+1,0,0,0⟩,⟨9,4,m+1+1,0,0,x.pc,x.done⟩],⟨16,0,m+1+1+1,0,0,0,x.done+1⟩,by simp only[liftF,et];rfl,⟨so2 zo zo,rfl,⟨so1 zo,rfl,⟨so4 zo zo (gvAt l _ m hm 0 _ zo _ rfl rfl) (gvAt l _ m hm 1 _ zo _ rfl rfl),rfl,⟨so9 zo (gvAt l _ m hm 2 _ zo _ rfl rfl) zo,rfl,trivial⟩⟩⟩⟩,so16 (gvAt l _ m hm 3 _ zo _ rfl rfl) zo,rfl⟩
 | 12,_,ht,et=>exact⟨[⟨17,0,0,0,0,0,0⟩,⟨8,x.O,m,0,0,0,0⟩,⟨12,0,m+1,0,0,((x.next+x.im)%4294967296),x.done+1⟩],⟨15,0,0,0,0,x.next,x.done+1⟩,by simp only[liftF,et];rfl,⟨so17 zo,rfl,⟨so8 zo zo (gvAt l _ m hm 0 _ zo _ rfl rfl),rfl,⟨so12 (gvAt l _ m hm 1 _ zo _ rfl rfl) zo,rfl,trivial⟩⟩⟩,so15 zo,rfl⟩
 | 13,_,ht,et=>exact⟨[⟨17,0,0,0,0,0,0⟩,⟨8,x.O,m,0,0,0,0⟩,⟨12,0,m+1,0,0,((x.next+x.im)%4294967296),x.done+1⟩],⟨15,0,0,0,0,x.next,x.done+1⟩,by simp only[liftF,et];rfl,⟨so17 zo,rfl,⟨so8 zo zo (gvAt l _ m hm 0 _ zo _ rfl rfl),rfl,⟨so12 (gvAt l _ m hm 1 _ zo _ rfl rfl) zo,rfl,trivial⟩⟩⟩,so15 zo,rfl⟩
 | 14,_,ht,_=>rw[ht] at he;exact absurd he (by decide)
 | 15,_,ht,_=>rw[ht] at he;exact absurd he (by decide)
 | 16,_,ht,_=>rw[ht] at he;exact absurd he (by decide)
 | 17,_,ht,_=>rw[ht] at he;exact absurd he (by decide)
 | 18,_,ht,_=>rw[ht] at he;exact absurd he (by decide)
 | 19,_,ht,_=>rw[ht] at he;exact absurd he (by decide)
 | 20,_,ht,_=>rw[ht] at he;exact absurd he (by decide)
 | 21,_,ht,_=>rw[ht] at he;exact absurd he (by decide)
 | 22,_,ht,_=>rw[ht] at he;exact absurd he (by decide)
 | 23,_,ht,_=>rw[ht] at he;exact absurd he (by decide)
 | 24,_,ht,_=>rw[ht] at he;exact absurd he (by decide)
 | 25,_,ht,_=>rw[ht] at he;exact absurd he (by decide)
 | 26,_,ht,_=>rw[ht] at he;exact absurd he (by decide)
 | 27,_,ht,_=>rw[ht] at he;exact absurd he (by decide)
 | 28,_,ht,_=>rw[ht] at he;exact absurd he (by decide)
 | 29,_,ht,_=>rw[ht] at he;exact absurd he (by decide)
 | 30,_,ht,_=>rw[ht] at he;exact absurd he (by decide)
 | 31,_,ht,_=>rw[ht] at he;exact absurd he (by decide)
 | n+32,h,_,_=>exact absurd h zo
theorem reckOps_len(O:Nat)(D b:Int)(pc:Nat)(done m:Int):(reckOps O D b pc done m).length≤12:=by unfold reckOps;split<;>(simp only[List.length_cons,List.length_nil];omega)
theorem liftF_len(x:XI)(m:Int):(liftF x m).length≤20:=by
 unfold liftF
 split<;>(first|(simp only[List.length_cons,List.length_nil];omega)|(have:=reckOps_len x.O.toNat x.D m x.pc x.done (m+1);simp only[List.length_cons];omega))
end Go.Proofs.YtfokgedjocnnmaaGreat
