import Derived.Test.YthcpipfmicbnmaaGreatWJ02
import Derived.Laws.Tables
import Derived.Deep.RegionHeld3
import Derived.Deep.RegionWith
set_option linter.unusedVariables false
set_option linter.unusedSimpArgs false
set_option maxHeartbeats 8000000
namespace Go.Proofs.YthcpipfmicbnmaaGreat.Va
open Go.RowKit
set_option maxRecDepth 100000
def isU:Value→Bool
 | .int .u8 (.ofNat 0)=>true
 | _=>false
def isI:Value→Bool
 | .int .i64 (.ofNat 0)=>true
 | _=>false
def isB:Value→Bool
 | .bool false=>true
 | _=>false
def one(p:Value→Bool):List Value→Option (List Value)
 | []=>none
 | x :: t=>match p x with
  | true=>some t
  | false=>none
noncomputable def eat(p:Value→Bool)(k:Nat):List Value→Option (List Value):=
 Nat.rec (motive:=fun _=>List Value→Option (List Value)) (fun l=>one p l) (fun _ ih l=>match ih l with
  | some t=>ih t
  | none=>none) k
def zLO:List Value→Bool
 | [x]=>isI x
 | _=>false
noncomputable def chk(l:List Value):Bool:=
 match eat isU 16 l with
 | none=>false
 | some a=>match eat isI 8 a with
  | none=>false
  | some b=>match eat isB 9 b with
   | none=>false
   | some c=>zLO c
noncomputable def zBl:Array Value:=match Tryz.t81.zero with
 | some v=>v.cells
 | none=>#[]
theorem zKe:chk zBl.toList=true:=by kernel_rfl
theorem zIX(p:Value→Bool)(l:List Value):eat p 0 l=one p l:=rfl
theorem zIW(p:Value→Bool)(k:Nat)(l:List Value):eat p (k+1) l=match eat p k l with|some t=>eat p k t|none=>none:=rfl
theorem zBo(p:Value→Bool):∀ (k:Nat) (l t:List Value),eat p k l=some t→∃ pre,l=pre++t∧pre.length=2 ^ k∧∀ x∈pre,p x=true
 | 0,l,t,h=>by
  rw[zIX] at h
  cases l with
  | nil=>simp[one] at h
  | cons x r=>
   cases hp:p x with
   | false=>simp[one,hp] at h
   | true=>simp[one,hp] at h;subst h;exact⟨[x],rfl,rfl,by simpa using hp⟩
 | k+1,l,t,h=>by
  rw[zIW] at h
  cases he:eat p k l with
  | none=>simp[he] at h
  | some u=>
   simp only[he] at h
   obtain⟨p1,e1,l1,a1⟩:=zBo p k l u he
   obtain⟨p2,e2,l2,a2⟩:=zBo p k u t h
   refine⟨p1++p2,by rw[e1,e2,List.append_assoc],by rw[List.length_append,l1,l2,Nat.pow_succ];omega,fun x hx=>?_⟩
   rcases List.mem_append.1 hx with h|h
   ·exact a1 x h
   ·exact a2 x h
theorem zMU(x:Value)(h:isU x=true):x=.int .u8 0:=by
 unfold isU at h;split at h
 ·rfl
 ·cases h
theorem zIv(x:Value)(h:isI x=true):x=.int .i64 0:=by
 unfold isI at h;split at h
 ·rfl
 ·cases h
theorem zMT(x:Value)(h:isB x=true):x=.bool false:=by
 unfold isB at h;split at h
 ·rfl
 ·cases h
theorem zGG:∃ a b c:List Value,∃ z:Value,zBl.toList=a++(b++(c++[z]))∧a.length=65536∧b.length=256∧c.length=512∧(∀ x∈a,x=.int .u8 0)∧(∀ x∈b,x=.int .i64 0)∧(∀ x∈c,x=.bool false)∧z=.int .i64 0:=by
 have h:=zKe
 unfold chk at h
 cases h1:eat isU 16 zBl.toList with
 | none=>simp[h1] at h
 | some l1=>
  cases h2:eat isI 8 l1 with
  | none=>simp[h1,h2] at h
  | some l2=>
   cases h3:eat isB 9 l2 with
   | none=>simp[h1,h2,h3] at h
   | some l3=>
    simp only[h1,h2,h3] at h
    obtain⟨a,e1,n1,p1⟩:=zBo _ _ _ _ h1
    obtain⟨b,e2,n2,p2⟩:=zBo _ _ _ _ h2
    obtain⟨c,e3,n3,p3⟩:=zBo _ _ _ _ h3
    unfold zLO at h
    split at h
    ·rename_i z
     exact⟨a,b,c,z,by rw[e1,e2,e3],n1,n2,n3,fun x hx=>zMU x (p1 x hx),fun x hx=>zIv x (p2 x hx),fun x hx=>zMT x (p3 x hx),zIv z h⟩
    ·cases h
theorem zD9{l:List Value}{v:Value}(h:∀ x∈l,x=v)(i:Nat)(hi:i < l.length):l[i]?=some v:=by
 rw[List.getElem?_eq_getElem hi];exact congrArg some (h _ (List.getElem_mem hi))
def zDE:MS:=⟨fun _=>0,fun _=>0,fun _=>false,fun _=>false⟩
theorem zG7:zDE.Ok:=⟨fun _=>⟨by show(0:Int)≤0;omega,by show(0:Int)≤255;omega⟩,fun _=>⟨by show(0:Int)≤0;omega,by show(0:Int)≤7;omega⟩⟩
theorem zM4(w:World):PM (w.alloc (.cells zBl 81)) w.heap.size zDE:=by
 obtain⟨a,b,c,z,he,n1,n2,n3,p1,p2,p3,p4⟩:=zGG
 have hl:=heap_alloc_last w (.cells zBl 81)
 have hc:∀ o,(w.alloc (.cells zBl 81)).cell? ⟨w.heap.size,o,none⟩=(a++(b++(c++[z])))[o]?:=fun o=>by
  rw[cell_of_row _ _ o _ 81 (0,0) hl,← he,Array.getElem?_toList]
 refine⟨fun i hi=>?_,fun i hi=>?_,fun i hi=>?_,fun i hi=>?_,?_,fun o=>?_⟩
 ·rw[hc,List.getElem?_append_left aO];exact zD9 p1 i aO
 ·rw[hc,List.getElem?_append_right aO,List.getElem?_append_left aO];exact zD9 p2 _ aO
 ·rw[hc,List.getElem?_append_right aO,List.getElem?_append_right aO,List.getElem?_append_left aO];exact zD9 p3 _ aO
 ·rw[hc,List.getElem?_append_right aO,List.getElem?_append_right aO,List.getElem?_append_left aO];exact zD9 p3 _ aO
 ·rw[hc,List.getElem?_append_right aO,List.getElem?_append_right aO,List.getElem?_append_right aO,show 66304 - a.length - b.length - c.length=0 by omega,p4]
  rw[zE0 zDE.T 256 (fun _ _=>rfl)];rfl
 ·simp only[World.frozen?,hl];simp
theorem zGF:Tryz.prog.built 81 []=some zBl:=by kernel_rfl
theorem vX{P:Program}{ops:Array Oper}{rest:List Oper}{o:Oper}{a:Act}{w:World}{Q:Exit→Act→World→Prop}(hg:o.guard=none)(t:TypeId)(parts:Array (Nat × Operand))(ho:o.op=.build t parts)(cells:Array Value)
  (hc:P.built t (parts.map fun (i,x)=>(i,a.eval x)).toList=some cells)
  (h:wpList P ops Q rest (a.put o.dst (.agg cells)) w):wpList P ops Q (o :: rest) a w:=
 wpList_build hg t parts ho (by rw[hc];rfl) (by rw[hc];exact h)
theorem zCd{P:Program}{ops:Array Oper}{rest:List Oper}{o:Oper}{a:Act}{w:World}{Q:Exit→Act→World→Prop}(hg:o.guard=none)(t:TypeId)(ho:o.op=.build t #[])(cells:Array Value)
  (hc:P.built t []=some cells) (h:wpList P ops Q rest (a.put o.dst (.agg cells)) w):wpList P ops Q (o :: rest) a w:=
 vX hg t #[] ho cells (by simpa using hc) h
theorem zLg(w:World) :
  Calls Tryz.prog 12 #[] w fun e w'=>e=.returned (.pointer (some ⟨w.heap.size,0,none⟩))∧w.alloc (.cells zBl 81)=w':=by
 go_enter Tryz.func12,Tryz.ntmps12
 go_wp2_with (refine zCd rfl 81 rfl zBl zGF ?_)
 go_ret
 exact⟨rfl,rfl⟩
def zB:Array Value:=madeCells #[.int .u8 0] 65536
def zR:Array Value:=madeCells #[.int .i64 0] 256
def zM:Array Value:=madeCells #[.bool false] 256
theorem zOF:(Tryz.prog.info? 4).map (fun i=>(i.zero,i.size,i.bytes))=some (some (.bool false),1,1):=by kernel_rfl
theorem zDi{t e:TypeId}{z:Value}{b:Nat}(n:Nat)(hu:Tryz.prog.underlying t=some (.slice e))(hi:(Tryz.prog.info? e).map (fun i=>(i.zero,i.size,i.bytes))=some (some z,1,b))(hb:b≤8)(hn:n≤65536)(hz:z.cells=#[z])(w:World) :
  (Instr.makeSlice t (.int .i64 n) (.int .i64 n)).run Tryz.prog w=.ok (.slice (some ⟨w.heap.size,0,none⟩) n n) (w.alloc (.cells (madeCells #[z] n) e)):=by
 obtain⟨i,h2,h3,h4,h5⟩:=info_parts hi
 have hbb:(i.bytes:Int)*(n:Int)≤281474976710656:=by
  have:(i.bytes:Int)*(n:Int)≤8*65536:=Int.mul_le_mul aO aO aO aO
  omega
 have hrun:=run_make (P:=Tryz.prog) w t e i z hu h2 h3 .i64 .i64 n n aO (Int.le_refl _) hbb aO
 simp only[Int.toNat_natCast,h4,Nat.mul_one,hz] at hrun
 exact hrun
theorem zMW(w:World):(Instr.makeSlice 49 (.int .i64 65536) (.int .i64 65536)).run Tryz.prog w=.ok (.slice (some ⟨w.heap.size,0,none⟩) 65536 65536) (w.alloc (.cells zB 5)):=zDi 65536 Tryz.underlying49 zLM aD aD rfl w
theorem zMY(w:World):(Instr.makeSlice 27 (.int .i64 256) (.int .i64 256)).run Tryz.prog w=.ok (.slice (some ⟨w.heap.size,0,none⟩) 256 256) (w.alloc (.cells zR 3)):=zDi 256 Tryz.underlying27 zOE aD aD rfl w
theorem zMX(w:World):(Instr.makeSlice 64 (.int .i64 256) (.int .i64 256)).run Tryz.prog w=.ok (.slice (some ⟨w.heap.size,0,none⟩) 256 256) (w.alloc (.cells zM 4)):=zDi 256 Tryz.underlying64 zOF aD aD rfl w
theorem zM5{w:World}{y b r m t:Nat}(hy:w.heap[y]?=some (.cells #[.slice (some ⟨b,0,none⟩) 65536 65536,.slice (some ⟨r,0,none⟩) 256 256,.slice (some ⟨m,0,none⟩) 256 256,.slice (some ⟨t,0,none⟩) 256 256] 76))
  (hb:w.heap[b]?=some (.cells zB 5)) (hr:w.heap[r]?=some (.cells zR 3)) (hm:w.heap[m]?=some (.cells zM 4)) (ht:w.heap[t]?=some (.cells zM 4))
  (ne:y≠b∧y≠r∧y≠m∧y≠t∧b≠r∧b≠m∧b≠t∧r≠m∧r≠t∧m≠t):RM w ⟨y,b,r,m,t⟩ zDE:=
 ⟨(cell_of_row _ _ 0 _ 76 (0,0) hy).trans rfl,(cell_of_row _ _ 1 _ 76 (0,0) hy).trans rfl,(cell_of_row _ _ 2 _ 76 (0,0) hy).trans rfl,(cell_of_row _ _ 3 _ 76 (0,0) hy).trans rfl,
  fun i hi=>(cell_of_row _ _ i _ 5 (0,0) hb).trans (zBY _ _ _ hi),fun i hi=>(cell_of_row _ _ i _ 3 (0,0) hr).trans (zBY _ _ _ hi),fun i hi=>(cell_of_row _ _ i _ 4 (0,0) hm).trans (zBY _ _ _ hi),fun i hi=>(cell_of_row _ _ i _ 4 (0,0) ht).trans (zBY _ _ _ hi),
  fun o=>by simp only[World.frozen?,hb];simp,fun o=>by simp only[World.frozen?,hr];simp,fun o=>by simp only[World.frozen?,hm];simp,fun o=>by simp only[World.frozen?,ht];simp,ne⟩
theorem zPT(w:World)(o0 o1 o2 o3 o4:Obj) :
  (((((w.alloc o0).alloc o1).alloc o2).alloc o3).alloc o4).heap[w.heap.size]?=some o0∧(((((w.alloc o0).alloc o1).alloc o2).alloc o3).alloc o4).heap[w.heap.size+1]?=some o1∧
  (((((w.alloc o0).alloc o1).alloc o2).alloc o3).alloc o4).heap[w.heap.size+1+1]?=some o2∧(((((w.alloc o0).alloc o1).alloc o2).alloc o3).alloc o4).heap[w.heap.size+1+1+1]?=some o3∧
  (((((w.alloc o0).alloc o1).alloc o2).alloc o3).alloc o4).heap[w.heap.size+1+1+1+1]?=some o4∧Below w.heap.size w (((((w.alloc o0).alloc o1).alloc o2).alloc o3).alloc o4):=by
 have e0:=heap_alloc_last w o0
 have e1:=heap_alloc_last (w.alloc o0) o1
 have e2:=heap_alloc_last ((w.alloc o0).alloc o1) o2
 have e3:=heap_alloc_last (((w.alloc o0).alloc o1).alloc o2) o3
 have e4:=heap_alloc_last ((((w.alloc o0).alloc o1).alloc o2).alloc o3) o4
 simp only[World.size_alloc] at e1 e2 e3 e4
 refine⟨?_,?_,?_,?_,e4,?_⟩
 ·rw[Below.heap_alloc _ _ _ zq33,Below.heap_alloc _ _ _ zq33,Below.heap_alloc _ _ _ zq33,Below.heap_alloc _ _ _ zq33];exact e0
 ·rw[Below.heap_alloc _ _ _ zq33,Below.heap_alloc _ _ _ zq33,Below.heap_alloc _ _ _ zq33];exact e1
 ·rw[Below.heap_alloc _ _ _ zq33,Below.heap_alloc _ _ _ zq33];exact e2
 ·rw[Below.heap_alloc _ _ _ zq33];exact e3
 ·exact((((aB.alloc aL _).alloc zq33 _).alloc zq33 _).alloc zq33 _).alloc zq33 _
structure zLX(w:World)(k:RB)(w':World):Prop where
 rm:RM w' k zDE
 bel:Below w.heap.size w w'
 le:∀ x∈k.y :: k.all,w.heap.size≤x
 size:w'.heap.size=w.heap.size+5
theorem zJS(w:World) :
  Calls Tryz.prog 13 #[] w fun e w'=>∃ k:RB,e=.returned (.pointer (some ⟨k.y,0,none⟩))∧zLX w k w':=by
 have m1:=zMW
 have m2:=zMY
 have m3:=zMX
 go_enter Tryz.func13,Tryz.ntmps13
 go_wp2
 go_region
 all_goals
  clear m1 m2 m3
  go_wp2
  go_ret
  obtain⟨f0,f1,f2,f3,f4,f5⟩:=zPT w _ _ _ _ _
  refine⟨⟨_,_,_,_,_⟩,rfl,⟨(zM5 f4 (by assumption) (by assumption) (by assumption) (by assumption) aO).drew,f5.drew,?_,?_⟩⟩
  ·simp[RB.all];omega
  ·show(World.alloc _ _).heap.size=_
   simp only[World.size_alloc]
theorem zI.same(S:List Nat){w w':World}(h:w=w'):zI S w w':=by subst h;exact zI.refl _ _
def zAF(p r:Int):Prop:=(0≤p∧p < 256)∧0≤r∧r≤7
instance (p r:Int):Decidable (zAF p r):=by unfold zAF;infer_instance
def zDR(p r:Int):Int:=if zAF p r then 0 else 4
def zAV(s:MS)(p r:Int):MS:=if zAF p r then zAU s p.toNat r else s
theorem zFd(X:Nat)(p r:Int)(s:MS)(w:World)(h:PM w X s) :
  Calls Tryz.prog 16 #[.pointer (some ⟨X,0,none⟩),.int .i64 p,.int .i64 r] w fun e w'=>e=.returned (.int .i64 (zDR p r))∧PM w' X (zAV s p r)∧zI [X] w w':=by
 by_cases hv:zAF p r
 ·obtain⟨n,rfl⟩:∃ n:Nat,p=n:=⟨p.toNat,by unfold zAF at hv;omega⟩
  have e1:zDR n r=0:=if_pos hv
  have e2:zAV s n r=zAU s n r:=if_pos hv
  rw[e1,e2]
  exact zJI X n r s w (by unfold zAF at hv;omega) hv.2.1 hv.2.2 h
 ·have e1:zDR p r=4:=if_neg hv
  have e2:zAV s p r=s:=if_neg hv
  rw[e1,e2]
  refine(zLm X p r w (by unfold zAF at hv;omega)).mono fun e w' ⟨he,hw⟩=>⟨he,?_,zI.same _ hw⟩
  subst hw;exact h
theorem zD4(k:RB)(p r:Int)(s:MS)(w:World)(h:RM w k s) :
  Calls Tryz.prog 17 #[.pointer (some ⟨k.y,0,none⟩),.int .i64 p,.int .i64 r] w fun e w'=>e=.returned (.int .i64 (zDR p r))∧RM w' k (zAV s p r)∧zI k.all w w':=by
 by_cases hv:zAF p r
 ·obtain⟨n,rfl⟩:∃ n:Nat,p=n:=⟨p.toNat,by unfold zAF at hv;omega⟩
  have e1:zDR n r=0:=if_pos hv
  have e2:zAV s n r=zAU s n r:=if_pos hv
  rw[e1,e2]
  exact zH3 k n r s w (by unfold zAF at hv;omega) hv.2.1 hv.2.2 h
 ·have e1:zDR p r=4:=if_neg hv
  have e2:zAV s p r=s:=if_neg hv
  rw[e1,e2]
  refine(zJU k p r w (by unfold zAF at hv;omega)).mono fun e w' ⟨he,hw⟩=>⟨he,?_,zI.same _ hw⟩
  subst hw;exact h
def uN(a n:Int):Prop:=0≤a∧a≤65536∧0≤n∧n≤65536 - a
instance (a n:Int):Decidable (uN a n):=by unfold uN;infer_instance
abbrev I64(a:Int):Prop:=-9223372036854775808≤a∧a≤9223372036854775807
def zDQ(a:Int)(n:Nat):Int:=if uN a n then 0 else 4
def uY(s:MS)(a:Int)(n:Nat)(z:Nat→Int):MS:=if uN a n then uD s a.toNat n z else s
theorem zFc(X:Nat)(a:Int)(bp:Option Addr)(n c:Nat)(z:Nat→Int)(s:MS)(w:World)(ha:I64 a)(hz:SR w bp n z)(h:PM w X s) :
  Calls Tryz.prog 14 #[.pointer (some ⟨X,0,none⟩),.int .i64 a,.slice bp n c] w fun e w'=>e=.returned (.int .i64 (zDQ a n))∧PM w' X (uY s a n z)∧zI [X] w w':=by
 by_cases hv:uN a n
 ·obtain⟨m,rfl⟩:∃ m:Nat,a=m:=⟨a.toNat,by unfold uN at hv;omega⟩
  have e1:zDQ m n=0:=if_pos hv
  have e2:uY s m n z=uD s m n z:=if_pos hv
  rw[e1,e2]
  exact zJH X m bp n c z s w (by unfold uN at hv;omega) hz h
 ·have e1:zDQ a n=4:=if_neg hv
  have e2:uY s a n z=s:=if_neg hv
  rw[e1,e2]
  refine(zLl X a bp n c w ha (by unfold uN at hv;omega)).mono fun e w' ⟨he,hw⟩=>⟨he,?_,zI.same _ hw⟩
  subst hw;exact h
theorem zD3(k:RB)(a:Int)(bp:Option Addr)(n c:Nat)(z:Nat→Int)(s:MS)(w:World)(ha:I64 a)(hn:n≤maxLen)(hz:SR w bp n z)(hb:0 < n→∀ b off,bp=some ⟨b,off,none⟩→b∉k.all)(h:RM w k s) :
  Calls Tryz.prog 15 #[.pointer (some ⟨k.y,0,none⟩),.int .i64 a,.slice bp n c] w fun e w'=>e=.returned (.int .i64 (zDQ a n))∧RM w' k (uY s a n z)∧zI k.all w w':=by
 by_cases hv:uN a n
 ·obtain⟨m,rfl⟩:∃ m:Nat,a=m:=⟨a.toNat,by unfold uN at hv;omega⟩
  have e1:zDQ m n=0:=if_pos hv
  have e2:uY s m n z=uD s m n z:=if_pos hv
  rw[e1,e2]
  exact zH2 k m bp n c z s w (by unfold uN at hv;omega) hz hb h
 ·have e1:zDQ a n=4:=if_neg hv
  have e2:uY s a n z=s:=if_neg hv
  rw[e1,e2]
  refine(zJT k a bp n c w ha hn (by unfold uN at hv;omega)).mono fun e w' ⟨he,hw⟩=>⟨he,?_,zI.same _ hw⟩
  subst hw;exact h
structure Out(w w':World)(p:Option Addr)(m:Nat)(z:Nat→Int):Prop where
 bel:Below w.heap.size w w'
 row:0 < m→∃ H,p=some ⟨H,0,none⟩∧w.heap.size≤H∧NR w' H m z
def zEU(a n:Int):Nat:=if uN a n then n.toNat else 0
def zGL(a n:Int):Int:=if uN a n then 0 else 4
theorem zJF(X:Nat)(a n:Int)(s:MS)(w:World)(ha:I64 a)(h:PM w X s) :
  Calls Tryz.prog 25 #[.pointer (some ⟨X,0,none⟩),.int .i64 a,.int .i64 n] w fun e w'=>∃ p c,e=.returned (.tuple #[.slice p (zEU a n) c,.int .i64 (zGL a n)])∧Out w w' p (zEU a n) (fun i=>s.B (a.toNat+i)):=by
 by_cases hv:uN a n
 ·obtain⟨b,rfl⟩:∃ m:Nat,a=m:=⟨a.toNat,by unfold uN at hv;omega⟩
  obtain⟨m,rfl⟩:∃ m:Nat,n=m:=⟨n.toNat,by unfold uN at hv;omega⟩
  have e1:zGL b m=0:=if_pos hv
  have e2:zEU b m=m:=if_pos hv
  rw[e1,e2]
  refine(zJG X b m s w (by unfold uN at hv;omega) h).mono fun e w' ⟨he,hN,hB,hS⟩=>⟨_,_,he,hB,fun _=>⟨_,rfl,Nat.le_refl _,hN⟩⟩
 ·have e1:zGL a n=4:=if_neg hv
  have e2:zEU a n=0:=if_neg hv
  rw[e1,e2]
  refine(zLk X a n w ha hv).mono fun e w' ⟨he,hw⟩=>⟨_,_,he,?_,fun h=>by omega⟩
  subst hw;exact Below.refl _ _
def vS(kind:Int):Option Nat→Int
 | none=>0
 | some _=>kind
def stA:Option Nat→Int
 | none=>0
 | some x=>x
abbrev zKl(kind:Int)(o:Option Nat):Value:=.agg #[.int .i64 (vS kind o),.int .u32 (stA o)]
def wid(n:Int):Prop:=n=1∨n=2∨n=4
instance (n:Int):Decidable (wid n):=by unfold wid;infer_instance
def ldX(s:MS)(a:Nat)(n:Int):Int:=if yA s 1 a n.toNat=none∧wid n then ldv s.B a n.toNat else 0
theorem zBq(X a:Nat)(n:Int)(s:MS)(w:World)(ha:a < 4294967296)(hs:s.Ok)(h:PM w X s) :
  Calls Tryz.prog 99 #[.pointer (some ⟨X,0,none⟩),.int .u32 a,.int .i64 n] w fun e w'=>e=.returned (.tuple #[.int .u32 (ldX s a n),zKl 5 (yA s 1 a n.toNat)])∧Below w.heap.size w w':=by
 cases hb:yA s 1 a n.toNat with
 | some x=>
  have e:ldX s a n=0:=if_neg (by simp[hb])
  rw[e]
  exact zJu X a x n s w ha hs h hb
 | none=>
  by_cases hw:wid n
  ·have e:ldX s a n=ldv s.B a n.toNat:=if_pos ⟨hb,hw⟩
   rw[e]
   obtain⟨m,rfl⟩:∃ m:Nat,n=m:=⟨n.toNat,by unfold wid at hw;omega⟩
   exact zLb X a m s w (by unfold wid at hw;omega) ha hs h hb
  ·have e:ldX s a n=0:=if_neg (fun h=>hw h.2)
   rw[e]
   exact zHF X a n s w hw ha hs h hb
theorem zA8(k:RB)(a:Nat)(n:Int)(s:MS)(w:World)(ha:a < 4294967296)(hs:s.Ok)(h:RM w k s) :
  Calls Tryz.prog 71 #[.pointer (some ⟨k.y,0,none⟩),.int .u32 a,.int .i64 n] w fun e w'=>e=.returned (.tuple #[.int .u32 (ldX s a n),zKl 5 (yA s 1 a n.toNat)])∧Below w.heap.size w w':=by
 cases hb:yA s 1 a n.toNat with
 | some x=>
  have e:ldX s a n=0:=if_neg (by simp[hb])
  rw[e]
  exact zHY k a x n s w ha hs h hb
 | none=>
  by_cases hw:wid n
  ·have e:ldX s a n=ldv s.B a n.toNat:=if_pos ⟨hb,hw⟩
   rw[e]
   obtain⟨m,rfl⟩:∃ m:Nat,n=m:=⟨n.toNat,by unfold wid at hw;omega⟩
   exact zJQ k a m s w (by unfold wid at hw;omega) ha hs h hb
  ·have e:ldX s a n=0:=if_neg (fun h=>hw h.2)
   rw[e]
   exact zGv k a n s w hw ha hs h hb
def sto(s:MS)(a:Nat)(n:Int):Option Nat:=if wid n then yA s 2 a n.toNat else none
def storeT(s:MS)(a:Nat)(n:Int)(v:Nat):MS:=if wid n∧yA s 2 a n.toNat=none then uD s a n.toNat (zv v) else s
theorem zCt(X a v:Nat)(n:Int)(s:MS)(w:World)(ha:a < 4294967296)(hv:v < 4294967296)(hs:s.Ok)(h:PM w X s) :
  Calls Tryz.prog 100 #[.pointer (some ⟨X,0,none⟩),.int .u32 a,.int .i64 n,.int .u32 v] w fun e w'=>e=.returned (zKl 6 (sto s a n))∧PM w' X (storeT s a n v)∧zI [X] w w':=by
 by_cases hw:wid n
 ·have e0:sto s a n=yA s 2 a n.toNat:=if_pos hw
  rw[e0]
  cases hb:yA s 2 a n.toNat with
  | some x=>
   have e:storeT s a n v=s:=if_neg (by simp[hb])
   rw[e]
   exact(zH9 X a v x n s w hw ha hs h hb).mono fun e w' ⟨he,hB⟩=>⟨he,h.below hB h.lt,zI.of_below _ hB⟩
  | none=>
   have e:storeT s a n v=uD s a n.toNat (zv v):=if_pos ⟨hw,hb⟩
   rw[e]
   obtain⟨m,rfl⟩:∃ m:Nat,n=m:=⟨n.toNat,by unfold wid at hw;omega⟩
   exact zJ7 X a v m s w (by unfold wid at hw;omega) ha hv hs h hb
 ·have e0:sto s a n=none:=if_neg hw
  have e:storeT s a n v=s:=if_neg (fun h=>hw h.1)
  rw[e0,e]
  exact(zGB X a v n w hw).mono fun e w' ⟨he,hB⟩=>⟨he,h.below hB h.lt,zI.of_below _ hB⟩
theorem zBP(k:RB)(a v:Nat)(n:Int)(s:MS)(w:World)(ha:a < 4294967296)(hv:v < 4294967296)(hs:s.Ok)(h:RM w k s) :
  Calls Tryz.prog 73 #[.pointer (some ⟨k.y,0,none⟩),.int .u32 a,.int .i64 n,.int .u32 v] w fun e w'=>e=.returned (zKl 6 (sto s a n))∧RM w' k (storeT s a n v)∧zI k.all w w':=by
 by_cases hw:wid n
 ·have e0:sto s a n=yA s 2 a n.toNat:=if_pos hw
  rw[e0]
  cases hb:yA s 2 a n.toNat with
  | some x=>
   have e:storeT s a n v=s:=if_neg (by simp[hb])
   rw[e]
   exact(zGx k a v x n s w hw ha hs h hb).mono fun e w' ⟨he,hB⟩=>⟨he,h.below hB aL,zI.of_below _ hB⟩
  | none=>
   have e:storeT s a n v=uD s a n.toNat (zv v):=if_pos ⟨hw,hb⟩
   rw[e]
   obtain⟨m,rfl⟩:∃ m:Nat,n=m:=⟨n.toNat,by unfold wid at hw;omega⟩
   exact zH4 k a v m s w (by unfold wid at hw;omega) ha hv hs h hb
 ·have e0:sto s a n=none:=if_neg hw
  have e:storeT s a n v=s:=if_neg (fun h=>hw h.1)
  rw[e0,e]
  exact(zFE k a v n w hw).mono fun e w' ⟨he,hB⟩=>⟨he,h.below hB aL,zI.of_below _ hB⟩
theorem Out.sr{w w':World}{p:Option Addr}{m:Nat}{z:Nat→Int}(h:Out w w' p m z):SR w' p m z:=fun hm=>by
 obtain⟨H,rfl,-,hN⟩:=h.row hm
 exact hN.sr hm
structure zPH(w:World)(X:Nat)(k:RB)(s:MS):Prop where
 pm:PM w X s
 rm:RM w k s
 ok:s.Ok
 ne:X∉k.y :: k.all
def Fin(w:World)(X:Nat)(k:RB)(w':World):Prop:=(∃ s',zPH w' X k s')∧zI (X :: k.all) w w'
theorem zNJ{f:Nat→Int}{lo hi:Int}(h:∀ i,lo≤f i∧f i≤hi)(p:Nat)(v:Int)(hv:lo≤v∧v≤hi):∀ i,lo≤upd f p v i∧upd f p v i≤hi:=by
 intro i;unfold upd;split
 ·exact hv
 ·exact h i
theorem zJA{s:MS}(h:s.Ok)(p:Nat):(vL s p).Ok:=⟨by rw[zLE];exact h.by_,by rw[zLF];exact h.ri⟩
theorem zJz{s:MS}(h:s.Ok)(a n:Nat):(zAq s a n).Ok:=⟨by rw[zLC];exact h.by_,by rw[zLD];exact h.ri⟩
theorem zB4{s:MS}(h:s.Ok)(p r:Int):(zAV s p r).Ok:=by
 unfold zAV;split
 ·rename_i hv
  unfold zAU;split
  ·exact h
  ·exact zJA (s:={ s with R:=upd s.R p.toNat r }) ⟨h.by_,zNJ h.ri _ _ hv.2⟩ _
 ·exact h
theorem zE6{s:MS}(h:s.Ok)(a n:Nat)(z:Nat→Int)(hz:∀ i,i < n→0≤z i∧z i≤255):(uD s a n z).Ok:=by
 refine zJz (s:={ s with B:=ovr s.B a n z }) ⟨fun i=>?_,h.ri⟩ _ _
 show 0≤ovr s.B a n z i∧ovr s.B a n z i≤255
 unfold ovr;split
 ·exact hz _ aO
 ·exact h.by_ i
theorem zAy{s:MS}(h:s.Ok)(a:Int)(n:Nat)(z:Nat→Int)(hz:∀ i,i < n→0≤z i∧z i≤255):(uY s a n z).Ok:=by
 unfold uY;split
 ·exact zE6 h _ _ _ hz
 ·exact h
theorem zPE(v i:Nat):0≤zv v i∧zv v i≤255:=by unfold zv;omega
theorem zD1{s:MS}(h:s.Ok)(a:Nat)(n:Int)(v:Nat):(storeT s a n v).Ok:=by
 unfold storeT;split
 ·exact zE6 h _ _ _ (fun i _=>zPE v i)
 ·exact h
end Go.Proofs.YthcpipfmicbnmaaGreat.Va
