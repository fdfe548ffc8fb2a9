import Derived.Test.YtkmjenjahbicpaaWJ02
import Derived.Laws.Tables
import Derived.Deep.RegionHeld3
import Derived.Deep.RegionWith
set_option linter.unusedVariables false
set_option linter.unusedSimpArgs false
set_option maxHeartbeats 8000000
namespace Go.Proofs.Ytkmjenjahbicpaa.Va
open Go.RowKit
set_option maxRecDepth 100000
def isU:Value→Bool
 | .int .u8 (.ofNat 0)=>true
 | _=>false
def isI:Value→Bool
 | .int .i64 (.ofNat 0)=>true
 | _=>false
def isB:Value→Bool
 | .bool false=>true
 | _=>false
def one(p:Value→Bool):List Value→Option (List Value)
 | []=>none
 | x :: t=>match p x with
  | true=>some t
  | false=>none
noncomputable def eat(p:Value→Bool)(k:Nat):List Value→Option (List Value):=
 Nat.rec (motive:=fun _=>List Value→Option (List Value)) (fun l=>one p l) (fun _ ih l=>match ih l with
  | some t=>ih t
  | none=>none) k
def zOP:List Value→Bool
 | [x]=>isI x
 | _=>false
noncomputable def chk(l:List Value):Bool:=
 match eat isU 16 l with
 | none=>false
 | some a=>match eat isI 8 a with
  | none=>false
  | some b=>match eat isB 9 b with
   | none=>false
   | some c=>zOP c
noncomputable def zCt:Array Value:=match Try.t105.zero with
 | some v=>v.cells
 | none=>#[]
theorem zME:chk zCt.toList=true:=by kernel_rfl
theorem zK5(p:Value→Bool)(l:List Value):eat p 0 l=one p l:=rfl
theorem zK4(p:Value→Bool)(k:Nat)(l:List Value):eat p (k+1) l=match eat p k l with|some t=>eat p k t|none=>none:=rfl
theorem zCz(p:Value→Bool):∀ (k:Nat) (l t:List Value),eat p k l=some t→∃ pre,l=pre++t∧pre.length=2 ^ k∧∀ x∈pre,p x=true
 | 0,l,t,h=>by
  rw[zK5] at h
  cases l with
  | nil=>simp[one] at h
  | cons x r=>
   cases hp:p x with
   | false=>simp[one,hp] at h
   | true=>simp[one,hp] at h;subst h;exact⟨[x],rfl,rfl,by simpa using hp⟩
 | k+1,l,t,h=>by
  rw[zK4] at h
  cases he:eat p k l with
  | none=>simp[he] at h
  | some u=>
   simp only[he] at h
   obtain⟨p1,e1,l1,a1⟩:=zCz p k l u he
   obtain⟨p2,e2,l2,a2⟩:=zCz p k u t h
   refine⟨p1++p2,by rw[e1,e2,List.append_assoc],by rw[List.length_append,l1,l2,Nat.pow_succ];omega,fun x hx=>?_⟩
   rcases List.mem_append.1 hx with h|h
   ·exact a1 x h
   ·exact a2 x h
theorem zQm(x:Value)(h:isU x=true):x=.int .u8 0:=by
 unfold isU at h;split at h
 ·rfl
 ·cases h
theorem zKs(x:Value)(h:isI x=true):x=.int .i64 0:=by
 unfold isI at h;split at h
 ·rfl
 ·cases h
theorem zQl(x:Value)(h:isB x=true):x=.bool false:=by
 unfold isB at h;split at h
 ·rfl
 ·cases h
theorem zHU:∃ a b c:List Value,∃ z:Value,zCt.toList=a++(b++(c++[z]))∧a.length=65536∧b.length=256∧c.length=512∧(∀ x∈a,x=.int .u8 0)∧(∀ x∈b,x=.int .i64 0)∧(∀ x∈c,x=.bool false)∧z=.int .i64 0:=by
 have h:=zME
 unfold chk at h
 cases h1:eat isU 16 zCt.toList with
 | none=>simp[h1] at h
 | some l1=>
  cases h2:eat isI 8 l1 with
  | none=>simp[h1,h2] at h
  | some l2=>
   cases h3:eat isB 9 l2 with
   | none=>simp[h1,h2,h3] at h
   | some l3=>
    simp only[h1,h2,h3] at h
    obtain⟨a,e1,n1,p1⟩:=zCz _ _ _ _ h1
    obtain⟨b,e2,n2,p2⟩:=zCz _ _ _ _ h2
    obtain⟨c,e3,n3,p3⟩:=zCz _ _ _ _ h3
    unfold zOP at h
    split at h
    ·rename_i z
     exact⟨a,b,c,z,by rw[e1,e2,e3],n1,n2,n3,fun x hx=>zQm x (p1 x hx),fun x hx=>zKs x (p2 x hx),fun x hx=>zQl x (p3 x hx),zKs z h⟩
    ·cases h
theorem zFz{l:List Value}{v:Value}(h:∀ x∈l,x=v)(i:Nat)(hi:i < l.length):l[i]?=some v:=by
 rw[List.getElem?_eq_getElem hi];exact congrArg some (h _ (List.getElem_mem hi))
def zD4:MS:=⟨fun _=>0,fun _=>0,fun _=>false,fun _=>false⟩
theorem zIk:zD4.Ok:=⟨fun _=>⟨by show(0:Int)≤0;omega,by show(0:Int)≤255;omega⟩,fun _=>⟨by show(0:Int)≤0;omega,by show(0:Int)≤7;omega⟩⟩
theorem zQs(w:World):PM (w.alloc (.cells zCt 105)) w.heap.size zD4:=by
 obtain⟨a,b,c,z,he,n1,n2,n3,p1,p2,p3,p4⟩:=zHU
 have hl:=heap_alloc_last w (.cells zCt 105)
 have hc:∀ o,(w.alloc (.cells zCt 105)).cell? ⟨w.heap.size,o,none⟩=(a++(b++(c++[z])))[o]?:=fun o=>by
  rw[cell_of_row _ _ o _ 105 (0,0) hl,← he,Array.getElem?_toList]
 refine⟨fun i hi=>?_,fun i hi=>?_,fun i hi=>?_,fun i hi=>?_,?_,fun o=>?_⟩
 ·rw[hc,List.getElem?_append_left aO];exact zFz p1 i aO
 ·rw[hc,List.getElem?_append_right aO,List.getElem?_append_left aO];exact zFz p2 _ aO
 ·rw[hc,List.getElem?_append_right aO,List.getElem?_append_right aO,List.getElem?_append_left aO];exact zFz p3 _ aO
 ·rw[hc,List.getElem?_append_right aO,List.getElem?_append_right aO,List.getElem?_append_left aO];exact zFz p3 _ aO
 ·rw[hc,List.getElem?_append_right aO,List.getElem?_append_right aO,List.getElem?_append_right aO,show 66304 - a.length - b.length - c.length=0 by omega,p4]
  rw[zCy zD4.T 256 (fun _ _=>rfl)];rfl
 ·simp only[World.frozen?,hl];simp
theorem zHT:Try.prog.built 105 []=some zCt:=by kernel_rfl
theorem zAc{P:Program}{ops:Array Oper}{rest:List Oper}{o:Oper}{a:Act}{w:World}{Q:Exit→Act→World→Prop}(hg:o.guard=none)(t:TypeId)(parts:Array (Nat × Operand))(ho:o.op=.build t parts)(cells:Array Value)
  (hc:P.built t (parts.map fun (i,x)=>(i,a.eval x)).toList=some cells)
  (h:wpList P ops Q rest (a.put o.dst (.agg cells)) w):wpList P ops Q (o :: rest) a w:=
 wpList_build hg t parts ho (by rw[hc];rfl) (by rw[hc];exact h)
theorem zDs{P:Program}{ops:Array Oper}{rest:List Oper}{o:Oper}{a:Act}{w:World}{Q:Exit→Act→World→Prop}(hg:o.guard=none)(t:TypeId)(ho:o.op=.build t #[])(cells:Array Value)
  (hc:P.built t []=some cells) (h:wpList P ops Q rest (a.put o.dst (.agg cells)) w):wpList P ops Q (o :: rest) a w:=
 zAc hg t #[] ho cells (by simpa using hc) h
theorem zN2(w:World) :
  Calls Try.prog 11 #[] w fun e w'=>e=.returned (.pointer (some ⟨w.heap.size,0,none⟩))∧w.alloc (.cells zCt 105)=w':=by
 go_enter Try.func11,Try.ntmps11
 go_wp2_with (refine zDs rfl 105 rfl zCt zHT ?_)
 go_ret
 exact⟨rfl,rfl⟩
def zB:Array Value:=madeCells #[.int .u8 0] 65536
def zR:Array Value:=madeCells #[.int .i64 0] 256
def zM:Array Value:=madeCells #[.bool false] 256
theorem zOL:(Try.prog.info? 4).map (fun i=>(i.zero,i.size,i.bytes))=some (some (.bool false),1,1):=by kernel_rfl
theorem zEt{t e:TypeId}{z:Value}{b:Nat}(n:Nat)(hu:Try.prog.underlying t=some (.slice e))(hi:(Try.prog.info? e).map (fun i=>(i.zero,i.size,i.bytes))=some (some z,1,b))(hb:b≤8)(hn:n≤65536)(hz:z.cells=#[z])(w:World) :
  (Instr.makeSlice t (.int .i64 n) (.int .i64 n)).run Try.prog w=.ok (.slice (some ⟨w.heap.size,0,none⟩) n n) (w.alloc (.cells (madeCells #[z] n) e)):=by
 obtain⟨i,h2,h3,h4,h5⟩:=info_parts hi
 have hbb:(i.bytes:Int)*(n:Int)≤281474976710656:=by
  have:(i.bytes:Int)*(n:Int)≤8*65536:=Int.mul_le_mul aO aO aO aO
  omega
 have uF:=run_make (P:=Try.prog) w t e i z hu h2 h3 .i64 .i64 n n aO (Int.le_refl _) hbb aO
 simp only[Int.toNat_natCast,h4,Nat.mul_one,hz] at uF
 exact uF
theorem zQo(w:World):(Instr.makeSlice 56 (.int .i64 65536) (.int .i64 65536)).run Try.prog w=.ok (.slice (some ⟨w.heap.size,0,none⟩) 65536 65536) (w.alloc (.cells zB 5)):=zEt 65536 Try.underlying56 zOM aD aD rfl w
theorem zQq(w:World):(Instr.makeSlice 29 (.int .i64 256) (.int .i64 256)).run Try.prog w=.ok (.slice (some ⟨w.heap.size,0,none⟩) 256 256) (w.alloc (.cells zR 3)):=zEt 256 Try.underlying29 zOK aD aD rfl w
theorem zQp(w:World):(Instr.makeSlice 82 (.int .i64 256) (.int .i64 256)).run Try.prog w=.ok (.slice (some ⟨w.heap.size,0,none⟩) 256 256) (w.alloc (.cells zM 4)):=zEt 256 Try.underlying82 zOL aD aD rfl w
theorem zQt{w:World}{y b r m t:Nat}(hy:w.heap[y]?=some (.cells #[.slice (some ⟨b,0,none⟩) 65536 65536,.slice (some ⟨r,0,none⟩) 256 256,.slice (some ⟨m,0,none⟩) 256 256,.slice (some ⟨t,0,none⟩) 256 256] 84))
  (hb:w.heap[b]?=some (.cells zB 5)) (hr:w.heap[r]?=some (.cells zR 3)) (hm:w.heap[m]?=some (.cells zM 4)) (ht:w.heap[t]?=some (.cells zM 4))
  (ne:y≠b∧y≠r∧y≠m∧y≠t∧b≠r∧b≠m∧b≠t∧r≠m∧r≠t∧m≠t):RM w ⟨y,b,r,m,t,65536,256,256,256,Nat.le_refl _⟩ zD4:=
 ⟨(cell_of_row _ _ 0 _ 84 (0,0) hy).trans rfl,(cell_of_row _ _ 1 _ 84 (0,0) hy).trans rfl,(cell_of_row _ _ 2 _ 84 (0,0) hy).trans rfl,(cell_of_row _ _ 3 _ 84 (0,0) hy).trans rfl,
  fun i hi=>(cell_of_row _ _ i _ 5 (0,0) hb).trans (zDc _ _ _ hi),fun i hi=>(cell_of_row _ _ i _ 3 (0,0) hr).trans (zDc _ _ _ hi),fun i hi=>(cell_of_row _ _ i _ 4 (0,0) hm).trans (zDc _ _ _ hi),fun i hi=>(cell_of_row _ _ i _ 4 (0,0) ht).trans (zDc _ _ _ hi),
  fun o=>by simp only[World.frozen?,hb];simp,fun o=>by simp only[World.frozen?,hr];simp,fun o=>by simp only[World.frozen?,hm];simp,fun o=>by simp only[World.frozen?,ht];simp,ne⟩
theorem zTo(w:World)(o0 o1 o2 o3 o4:Obj) :
  (((((w.alloc o0).alloc o1).alloc o2).alloc o3).alloc o4).heap[w.heap.size]?=some o0∧(((((w.alloc o0).alloc o1).alloc o2).alloc o3).alloc o4).heap[w.heap.size+1]?=some o1∧
  (((((w.alloc o0).alloc o1).alloc o2).alloc o3).alloc o4).heap[w.heap.size+1+1]?=some o2∧(((((w.alloc o0).alloc o1).alloc o2).alloc o3).alloc o4).heap[w.heap.size+1+1+1]?=some o3∧
  (((((w.alloc o0).alloc o1).alloc o2).alloc o3).alloc o4).heap[w.heap.size+1+1+1+1]?=some o4∧Below w.heap.size w (((((w.alloc o0).alloc o1).alloc o2).alloc o3).alloc o4):=by
 have e0:=heap_alloc_last w o0
 have e1:=heap_alloc_last (w.alloc o0) o1
 have e2:=heap_alloc_last ((w.alloc o0).alloc o1) o2
 have e3:=heap_alloc_last (((w.alloc o0).alloc o1).alloc o2) o3
 have e4:=heap_alloc_last ((((w.alloc o0).alloc o1).alloc o2).alloc o3) o4
 simp only[World.size_alloc] at e1 e2 e3 e4
 refine⟨?_,?_,?_,?_,e4,?_⟩
 ·rw[Below.heap_alloc _ _ _ zq23,Below.heap_alloc _ _ _ zq23,Below.heap_alloc _ _ _ zq23,Below.heap_alloc _ _ _ zq23];exact e0
 ·rw[Below.heap_alloc _ _ _ zq23,Below.heap_alloc _ _ _ zq23,Below.heap_alloc _ _ _ zq23];exact e1
 ·rw[Below.heap_alloc _ _ _ zq23,Below.heap_alloc _ _ _ zq23];exact e2
 ·rw[Below.heap_alloc _ _ _ zq23];exact e3
 ·exact((((aB.alloc aL _).alloc zq23 _).alloc zq23 _).alloc zq23 _).alloc zq23 _
structure zO2(w:World)(k:RB)(w':World):Prop where
 rm:RM w' k zD4
 bel:Below w.heap.size w w'
 le:∀ x∈k.y :: k.all,w.heap.size≤x
 size:w'.heap.size=w.heap.size+5
theorem zMk(w:World) :
  Calls Try.prog 12 #[] w fun e w'=>∃ k:RB,e=.returned (.pointer (some ⟨k.y,0,none⟩))∧zO2 w k w':=by
 have m1:=zQo
 have m2:=zQq
 have m3:=zQp
 go_enter Try.func12,Try.ntmps12
 go_wp2
 go_region
 all_goals
  clear m1 m2 m3
  go_wp2
  go_ret
  obtain⟨f0,f1,f2,f3,f4,f5⟩:=zTo w _ _ _ _ _
  refine⟨⟨_,_,_,_,_,_,_,_,_,_⟩,rfl,⟨(zQt f4 (by assumption) (by assumption) (by assumption) (by assumption) aO).drew,f5.drew,?_,?_⟩⟩
  ·simp[RB.all];omega
  ·show(World.alloc _ _).heap.size=_
   simp only[World.size_alloc]
theorem zJ.same(S:List Nat){w w':World}(h:w=w'):zJ S w w':=by subst h;exact zJ.refl _ _
def zBp(p r:Int):Prop:=(0≤p∧p < 256)∧0≤r∧r≤7
instance (p r:Int):Decidable (zBp p r):=by unfold zBp;infer_instance
def zE7(p r:Int):Int:=if zBp p r then 0 else 4
def zBs(s:MS)(p r:Int):MS:=if zBp p r then zBG s p.toNat r else s
theorem zGA(X:Nat)(p r:Int)(s:MS)(w:World)(h:PM w X s) :
  Calls Try.prog 15 #[.pointer (some ⟨X,0,none⟩),.int .i64 p,.int .i64 r] w fun e w'=>e=.returned (.int .i64 (zE7 p r))∧PM w' X (zBs s p r)∧zJ [X] w w':=by
 by_cases hv:zBp p r
 ·obtain⟨n,rfl⟩:∃ n:Nat,p=n:=⟨p.toNat,by unfold zBp at hv;omega⟩
  have e1:zE7 n r=0:=if_pos hv
  have e2:zBs s n r=zBG s n r:=if_pos hv
  rw[e1,e2]
  exact zL8 X n r s w (by unfold zBp at hv;omega) hv.2.1 hv.2.2 h
 ·have e1:zE7 p r=4:=if_neg hv
  have e2:zBs s p r=s:=if_neg hv
  rw[e1,e2]
  refine(zOd X p r w (by unfold zBp at hv;omega)).mono fun e w' ⟨he,hw⟩=>⟨he,?_,zJ.same _ hw⟩
  subst hw;exact h
theorem zFr(k:RB)(p r:Int)(s:MS)(w:World)(h:RM w k s) :
  Calls Try.prog 16 #[.pointer (some ⟨k.y,0,none⟩),.int .i64 p,.int .i64 r] w fun e w'=>e=.returned (.int .i64 (zE7 p r))∧RM w' k (zBs s p r)∧zJ k.all w w':=by
 by_cases hv:zBp p r
 ·obtain⟨n,rfl⟩:∃ n:Nat,p=n:=⟨p.toNat,by unfold zBp at hv;omega⟩
  have e1:zE7 n r=0:=if_pos hv
  have e2:zBs s n r=zBG s n r:=if_pos hv
  rw[e1,e2]
  exact zJU k n r s w (by unfold zBp at hv;omega) hv.2.1 hv.2.2 h
 ·have e1:zE7 p r=4:=if_neg hv
  have e2:zBs s p r=s:=if_neg hv
  rw[e1,e2]
  refine(zMm k p r w (by unfold zBp at hv;omega)).mono fun e w' ⟨he,hw⟩=>⟨he,?_,zJ.same _ hw⟩
  subst hw;exact h
def zBn(a n:Int):Prop:=0≤a∧a≤65536∧0≤n∧n≤65536 - a
instance (a n:Int):Decidable (zBn a n):=by unfold zBn;infer_instance
abbrev I64(a:Int):Prop:=-9223372036854775808≤a∧a≤9223372036854775807
def zE6(a:Int)(n:Nat):Int:=if zBn a n then 0 else 4
def zAk(s:MS)(a:Int)(n:Nat)(z:Nat→Int):MS:=if zBn a n then uL s a.toNat n z else s
theorem zGz(X:Nat)(a:Int)(bp:Option Addr)(n c:Nat)(z:Nat→Int)(s:MS)(w:World)(ha:I64 a)(hz:SR w bp n z)(h:PM w X s) :
  Calls Try.prog 13 #[.pointer (some ⟨X,0,none⟩),.int .i64 a,.slice bp n c] w fun e w'=>e=.returned (.int .i64 (zE6 a n))∧PM w' X (zAk s a n z)∧zJ [X] w w':=by
 by_cases hv:zBn a n
 ·obtain⟨m,rfl⟩:∃ m:Nat,a=m:=⟨a.toNat,by unfold zBn at hv;omega⟩
  have e1:zE6 m n=0:=if_pos hv
  have e2:zAk s m n z=uL s m n z:=if_pos hv
  rw[e1,e2]
  exact zL6 X m bp n c z s w (by unfold zBn at hv;omega) hz h
 ·have e1:zE6 a n=4:=if_neg hv
  have e2:zAk s a n z=s:=if_neg hv
  rw[e1,e2]
  refine(zOc X a bp n c w ha (by unfold zBn at hv;omega)).mono fun e w' ⟨he,hw⟩=>⟨he,?_,zJ.same _ hw⟩
  subst hw;exact h
theorem zFq(k:RB)(a:Int)(bp:Option Addr)(n c:Nat)(z:Nat→Int)(s:MS)(w:World)(ha:I64 a)(hn:n≤maxLen)(hz:SR w bp n z)(hb:0 < n→∀ b off,bp=some ⟨b,off,none⟩→b∉k.all)(h:RM w k s) :
  Calls Try.prog 14 #[.pointer (some ⟨k.y,0,none⟩),.int .i64 a,.slice bp n c] w fun e w'=>e=.returned (.int .i64 (zE6 a n))∧RM w' k (zAk s a n z)∧zJ k.all w w':=by
 by_cases hv:zBn a n
 ·obtain⟨m,rfl⟩:∃ m:Nat,a=m:=⟨a.toNat,by unfold zBn at hv;omega⟩
  have e1:zE6 m n=0:=if_pos hv
  have e2:zAk s m n z=uL s m n z:=if_pos hv
  rw[e1,e2]
  exact zJT k m bp n c z s w (by unfold zBn at hv;omega) hz hb h
 ·have e1:zE6 a n=4:=if_neg hv
  have e2:zAk s a n z=s:=if_neg hv
  rw[e1,e2]
  refine(zMl k a bp n c w ha hn (by unfold zBn at hv;omega)).mono fun e w' ⟨he,hw⟩=>⟨he,?_,zJ.same _ hw⟩
  subst hw;exact h
def stK(kind:Int):Option Nat→Int
 | none=>0
 | some _=>kind
def stA:Option Nat→Int
 | none=>0
 | some x=>x
abbrev zRd(kind:Int)(o:Option Nat):Value:=.agg #[.int .i64 (stK kind o),.int .u32 (stA o)]
def wid(n:Int):Prop:=n=1∨n=2∨n=4
instance (n:Int):Decidable (wid n):=by unfold wid;infer_instance
def ldX(s:MS)(a:Nat)(n:Int):Int:=if vA s 1 a n.toNat=none∧wid n then ldv s.B a n.toNat else 0
theorem zB4(k:RB)(a:Nat)(n:Int)(s:MS)(w:World)(ha:a < 4294967296)(hs:s.Ok)(h:RM w k s) :
  Calls Try.prog 55 #[.pointer (some ⟨k.y,0,none⟩),.int .u32 a,.int .i64 n] w fun e w'=>e=.returned (.tuple #[.int .u32 (ldX s a n),zRd 5 (vA s 1 a n.toNat)])∧Below w.heap.size w w':=by
 cases hb:vA s 1 a n.toNat with
 | some x=>
  have e:ldX s a n=0:=if_neg (by simp[hb])
  rw[e]
  exact zJQ k a x n s w ha hs h hb
 | none=>
  by_cases hw:wid n
  ·have e:ldX s a n=ldv s.B a n.toNat:=if_pos ⟨hb,hw⟩
   rw[e]
   obtain⟨m,rfl⟩:∃ m:Nat,n=m:=⟨n.toNat,by unfold wid at hw;omega⟩
   exact zMi k a m s w (by unfold wid at hw;omega) ha hs h hb
  ·have e:ldX s a n=0:=if_neg (fun h=>hw h.2)
   rw[e]
   exact zHL k a n s w hw ha hs h hb
def sto(s:MS)(a:Nat)(n:Int):Option Nat:=if wid n then vA s 2 a n.toNat else none
def storeT(s:MS)(a:Nat)(n:Int)(v:Nat):MS:=if wid n∧vA s 2 a n.toNat=none then uL s a n.toNat (zv v) else s
theorem zC1(k:RB)(a v:Nat)(n:Int)(s:MS)(w:World)(ha:a < 4294967296)(hv:v < 4294967296)(hs:s.Ok)(h:RM w k s) :
  Calls Try.prog 57 #[.pointer (some ⟨k.y,0,none⟩),.int .u32 a,.int .i64 n,.int .u32 v] w fun e w'=>e=.returned (zRd 6 (sto s a n))∧RM w' k (storeT s a n v)∧zJ k.all w w':=by
 by_cases hw:wid n
 ·have e0:sto s a n=vA s 2 a n.toNat:=if_pos hw
  rw[e0]
  cases hb:vA s 2 a n.toNat with
  | some x=>
   have e:storeT s a n v=s:=if_neg (by simp[hb])
   rw[e]
   exact(zHM k a v x n s w hw ha hs h hb).mono fun e w' ⟨he,hB⟩=>⟨he,h.below hB aL,zJ.of_below _ hB⟩
  | none=>
   have e:storeT s a n v=uL s a n.toNat (zv v):=if_pos ⟨hw,hb⟩
   rw[e]
   obtain⟨m,rfl⟩:∃ m:Nat,n=m:=⟨n.toNat,by unfold wid at hw;omega⟩
   exact zJW k a v m s w (by unfold wid at hw;omega) ha hv hs h hb
 ·have e0:sto s a n=none:=if_neg hw
  have e:storeT s a n v=s:=if_neg (fun h=>hw h.1)
  rw[e0,e]
  exact(zGP k a v n w hw).mono fun e w' ⟨he,hB⟩=>⟨he,h.below hB aL,zJ.of_below _ hB⟩
structure zTi(w:World)(X:Nat)(k:RB)(s:MS):Prop where
 pm:PM w X s
 rm:RM w k s
 ok:s.Ok
 ne:X∉k.y :: k.all
def Fin(w:World)(X:Nat)(k:RB)(w':World):Prop:=(∃ s',zTi w' X k s')∧zJ (X :: k.all) w w'
theorem zQ5{f:Nat→Int}{lo hi:Int}(h:∀ i,lo≤f i∧f i≤hi)(p:Nat)(v:Int)(hv:lo≤v∧v≤hi):∀ i,lo≤upd f p v i∧upd f p v i≤hi:=by
 intro i;unfold upd;split
 ·exact hv
 ·exact h i
theorem zL1{s:MS}(h:s.Ok)(p:Nat):(vP s p).Ok:=⟨by rw[zOz];exact h.by_,by rw[zOA];exact h.ri⟩
theorem zL0{s:MS}(h:s.Ok)(a n:Nat):(zAP s a n).Ok:=⟨by rw[zOx];exact h.by_,by rw[zOy];exact h.ri⟩
theorem zDl{s:MS}(h:s.Ok)(p r:Int):(zBs s p r).Ok:=by
 unfold zBs;split
 ·rename_i hv
  unfold zBG;split
  ·exact h
  ·exact zL1 (s:={ s with R:=upd s.R p.toNat r }) ⟨h.by_,zQ5 h.ri _ _ hv.2⟩ _
 ·exact h
theorem zGx{s:MS}(h:s.Ok)(a n:Nat)(z:Nat→Int)(hz:∀ i,i < n→0≤z i∧z i≤255):(uL s a n z).Ok:=by
 refine zL0 (s:={ s with B:=ovr s.B a n z }) ⟨fun i=>?_,h.ri⟩ _ _
 show 0≤ovr s.B a n z i∧ovr s.B a n z i≤255
 unfold ovr;split
 ·exact hz _ aO
 ·exact h.by_ i
theorem zBk{s:MS}(h:s.Ok)(a:Int)(n:Nat)(z:Nat→Int)(hz:∀ i,i < n→0≤z i∧z i≤255):(zAk s a n z).Ok:=by
 unfold zAk;split
 ·exact zGx h _ _ _ hz
 ·exact h
theorem zTf(v i:Nat):0≤zv v i∧zv v i≤255:=by unfold zv;omega
theorem zFn{s:MS}(h:s.Ok)(a:Nat)(n:Int)(v:Nat):(storeT s a n v).Ok:=by
 unfold storeT;split
 ·exact zGx h _ _ _ (fun i _=>zTf v i)
 ·exact h
end Go.Proofs.Ytkmjenjahbicpaa.Va
