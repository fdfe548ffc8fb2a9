import Derived.Test.YtfokgedjocnnmaaGreatJ02
import Derived.Laws.Tables
import Derived.Deep.RegionHeld3
import Derived.Deep.RegionWith
set_option linter.unusedVariables false
set_option linter.unusedSimpArgs false
set_option maxHeartbeats 8000000
namespace Go.Proofs.YtfokgedjocnnmaaGreat
open Go.RowKit
set_option maxRecDepth 100000
def isU:Value→Bool
 | .int .u8 (.ofNat 0)=>true
 | _=>false
def isI:Value→Bool
 | .int .i64 (.ofNat 0)=>true
 | _=>false
def isB:Value→Bool
 | .bool false=>true
 | _=>false
def one(p:Value→Bool):List Value→Option (List Value)
 | []=>none
 | x :: t=>match p x with
  | true=>some t
  | false=>none
noncomputable def eat(p:Value→Bool)(k:Nat):List Value→Option (List Value):=
 Nat.rec (motive:=fun _=>List Value→Option (List Value)) (fun l=>one p l) (fun _ ih l=>match ih l with
  | some t=>ih t
  | none=>none) k
def lastI:List Value→Bool
 | [x]=>isI x
 | _=>false
noncomputable def chk(l:List Value):Bool:=
 match eat isU 16 l with
 | none=>false
 | some a=>match eat isI 8 a with
  | none=>false
  | some b=>match eat isB 9 b with
   | none=>false
   | some c=>lastI c
noncomputable def zeroC:Array Value:=match Tryz.t87.zero with
 | some v=>v.cells
 | none=>#[]
theorem zero_chk:chk zeroC.toList=true:=by kernel_rfl
theorem eat_zero(p:Value→Bool)(l:List Value):eat p 0 l=one p l:=rfl
theorem eat_succ(p:Value→Bool)(k:Nat)(l:List Value):eat p (k+1) l=match eat p k l with|some t=>eat p k t|none=>none:=rfl
theorem eat_spec(p:Value→Bool):∀ (k:Nat) (l t:List Value),eat p k l=some t→∃ pre,l=pre++t∧pre.length=2 ^ k∧∀ x∈pre,p x=true
 | 0,l,t,h=>by
  rw[eat_zero] at h
  cases l with
  | nil=>simp[one] at h
  | cons x r=>
   cases hp:p x with
   | false=>simp[one,hp] at h
   | true=>simp[one,hp] at h;subst h;exact⟨[x],rfl,rfl,by simpa using hp⟩
 | k+1,l,t,h=>by
  rw[eat_succ] at h
  cases he:eat p k l with
  | none=>simp[he] at h
  | some u=>
   simp only[he] at h
   obtain⟨p1,e1,l1,a1⟩:=eat_spec p k l u he
   obtain⟨p2,e2,l2,a2⟩:=eat_spec p k u t h
   refine⟨p1++p2,by rw[e1,e2,List.append_assoc],by rw[List.length_append,l1,l2,Nat.pow_succ];omega,fun x hx=>?_⟩
   rcases List.mem_append.1 hx with h|h
   ·exact a1 x h
   ·exact a2 x h
theorem isU_eq(x:Value)(h:isU x=true):x=.int .u8 0:=by
 unfold isU at h;split at h
 ·rfl
 ·cases h
theorem isI_eq(x:Value)(h:isI x=true):x=.int .i64 0:=by
 unfold isI at h;split at h
 ·rfl
 ·cases h
theorem isB_eq(x:Value)(h:isB x=true):x=.bool false:=by
 unfold isB at h;split at h
 ·rfl
 ·cases h
theorem zero_parts:∃ a b c:List Value,∃ z:Value,zeroC.toList=a++(b++(c++[z]))∧a.length=65536∧b.length=256∧c.length=512∧(∀ x∈a,x=.int .u8 0)∧(∀ x∈b,x=.int .i64 0)∧(∀ x∈c,x=.bool false)∧z=.int .i64 0:=by
 have h:=zero_chk
 unfold chk at h
 cases h1:eat isU 16 zeroC.toList with
 | none=>simp[h1] at h
 | some l1=>
  cases h2:eat isI 8 l1 with
  | none=>simp[h1,h2] at h
  | some l2=>
   cases h3:eat isB 9 l2 with
   | none=>simp[h1,h2,h3] at h
   | some l3=>
    simp only[h1,h2,h3] at h
    obtain⟨a,e1,n1,p1⟩:=eat_spec _ _ _ _ h1
    obtain⟨b,e2,n2,p2⟩:=eat_spec _ _ _ _ h2
    obtain⟨c,e3,n3,p3⟩:=eat_spec _ _ _ _ h3
    unfold lastI at h
    split at h
    ·rename_i z
     exact⟨a,b,c,z,by rw[e1,e2,e3],n1,n2,n3,fun x hx=>isU_eq x (p1 x hx),fun x hx=>isI_eq x (p2 x hx),fun x hx=>isB_eq x (p3 x hx),isI_eq z h⟩
    ·cases h
theorem all_at{l:List Value}{v:Value}(h:∀ x∈l,x=v)(i:Nat)(hi:i < l.length):l[i]?=some v:=by
 rw[List.getElem?_eq_getElem hi];exact congrArg some (h _ (List.getElem_mem hi))
def newS:MS:=⟨fun _=>0,fun _=>0,fun _=>false,fun _=>false⟩
theorem newS_ok:newS.Ok:=⟨fun _=>⟨by show(0:Int)≤0;omega,by show(0:Int)≤255;omega⟩,fun _=>⟨by show(0:Int)≤0;omega,by show(0:Int)≤7;omega⟩⟩
theorem new_pm(w:World):PM (w.alloc (.cells zeroC 87)) w.heap.size newS:=by
 obtain⟨a,b,c,z,he,n1,n2,n3,p1,p2,p3,p4⟩:=zero_parts
 have hl:=heap_alloc_last w (.cells zeroC 87)
 have hc:∀ o,(w.alloc (.cells zeroC 87)).cell? ⟨w.heap.size,o,none⟩=(a++(b++(c++[z])))[o]?:=fun o=>by
  rw[cell_of_row _ _ o _ 87 (0,0) hl,← he,Array.getElem?_toList]
 refine⟨fun i hi=>?_,fun i hi=>?_,fun i hi=>?_,fun i hi=>?_,?_,fun o=>?_⟩
 ·rw[hc,List.getElem?_append_left zo];exact all_at p1 i zo
 ·rw[hc,List.getElem?_append_right zo,List.getElem?_append_left zo];exact all_at p2 _ zo
 ·rw[hc,List.getElem?_append_right zo,List.getElem?_append_right zo,List.getElem?_append_left zo];exact all_at p3 _ zo
 ·rw[hc,List.getElem?_append_right zo,List.getElem?_append_right zo,List.getElem?_append_left zo];exact all_at p3 _ zo
 ·rw[hc,List.getElem?_append_right zo,List.getElem?_append_right zo,List.getElem?_append_right zo,show 66304 - a.length - b.length - c.length=0 by omega,p4]
  rw[cnt_none newS.T 256 (fun _ _=>rfl)];rfl
 ·simp only[World.frozen?,hl];simp
theorem zero_built:Tryz.prog.built 87 []=some zeroC:=by kernel_rfl
theorem wpList_build_as{P:Program}{ops:Array Oper}{rest:List Oper}{o:Oper}{a:Act}{w:World}{Q:Exit→Act→World→Prop}(hg:o.guard=none)(t:TypeId)(parts:Array (Nat × Operand))(ho:o.op=.build t parts)(cells:Array Value)
  (hc:P.built t (parts.map fun (i,x)=>(i,a.eval x)).toList=some cells)
  (h:wpList P ops Q rest (a.put o.dst (.agg cells)) w):wpList P ops Q (o :: rest) a w:=
 wpList_build hg t parts ho (by rw[hc];rfl) (by rw[hc];exact h)
theorem wpList_build_zero{P:Program}{ops:Array Oper}{rest:List Oper}{o:Oper}{a:Act}{w:World}{Q:Exit→Act→World→Prop}(hg:o.guard=none)(t:TypeId)(ho:o.op=.build t #[])(cells:Array Value)
  (hc:P.built t []=some cells) (h:wpList P ops Q rest (a.put o.dst (.agg cells)) w):wpList P ops Q (o :: rest) a w:=
 wpList_build_as hg t #[] ho cells (by simpa using hc) h
theorem new_any(w:World) :
  Calls Tryz.prog 10 #[] w fun e w'=>e=.returned (.pointer (some ⟨w.heap.size,0,none⟩))∧w.alloc (.cells zeroC 87)=w':=by
 go_enter Tryz.func10,Tryz.ntmps10
 go_wp2_with (refine wpList_build_zero rfl 87 rfl zeroC zero_built ?_)
 go_ret
 exact⟨rfl,rfl⟩
def zB:Array Value:=madeCells #[.int .u8 0] 65536
def zR:Array Value:=madeCells #[.int .i64 0] 256
def zM:Array Value:=madeCells #[.bool false] 256
theorem info4:(Tryz.prog.info? 4).map (fun i=>(i.zero,i.size,i.bytes))=some (some (.bool false),1,1):=by kernel_rfl
theorem made_run{t e:TypeId}{z:Value}{b:Nat}(n:Nat)(hu:Tryz.prog.underlying t=some (.slice e))(hi:(Tryz.prog.info? e).map (fun i=>(i.zero,i.size,i.bytes))=some (some z,1,b))(hb:b≤8)(hn:n≤65536)(hz:z.cells=#[z])(w:World) :
  (Instr.makeSlice t (.int .i64 n) (.int .i64 n)).run Tryz.prog w=.ok (.slice (some ⟨w.heap.size,0,none⟩) n n) (w.alloc (.cells (madeCells #[z] n) e)):=by
 obtain⟨i,h2,h3,h4,h5⟩:=info_parts hi
 have hbb:(i.bytes:Int)*(n:Int)≤281474976710656:=by
  have:(i.bytes:Int)*(n:Int)≤8*65536:=Int.mul_le_mul zo zo zo zo
  omega
 have hrun:=run_make (P:=Tryz.prog) w t e i z hu h2 h3 .i64 .i64 n n zo (Int.le_refl _) hbb zo
 simp only[Int.toNat_natCast,h4,Nat.mul_one,hz] at hrun
 exact hrun
theorem made22(w:World):(Instr.makeSlice 47 (.int .i64 65536) (.int .i64 65536)).run Tryz.prog w=.ok (.slice (some ⟨w.heap.size,0,none⟩) 65536 65536) (w.alloc (.cells zB 5)):=made_run 65536 Tryz.underlying47 info5 (by decide) (by decide) rfl w
theorem made68(w:World):(Instr.makeSlice 26 (.int .i64 256) (.int .i64 256)).run Tryz.prog w=.ok (.slice (some ⟨w.heap.size,0,none⟩) 256 256) (w.alloc (.cells zR 3)):=made_run 256 Tryz.underlying26 info3 (by decide) (by decide) rfl w
theorem made40(w:World):(Instr.makeSlice 88 (.int .i64 256) (.int .i64 256)).run Tryz.prog w=.ok (.slice (some ⟨w.heap.size,0,none⟩) 256 256) (w.alloc (.cells zM 4)):=made_run 256 Tryz.underlying88 info4 (by decide) (by decide) rfl w
theorem new_rm{w:World}{y b r m t:Nat}(hy:w.heap[y]?=some (.cells #[.slice (some ⟨b,0,none⟩) 65536 65536,.slice (some ⟨r,0,none⟩) 256 256,.slice (some ⟨m,0,none⟩) 256 256,.slice (some ⟨t,0,none⟩) 256 256] 90))
  (hb:w.heap[b]?=some (.cells zB 5)) (hr:w.heap[r]?=some (.cells zR 3)) (hm:w.heap[m]?=some (.cells zM 4)) (ht:w.heap[t]?=some (.cells zM 4))
  (ne:y≠b∧y≠r∧y≠m∧y≠t∧b≠r∧b≠m∧b≠t∧r≠m∧r≠t∧m≠t):RM w ⟨y,b,r,m,t,65536,256,256,256,Nat.le_refl _⟩ newS:=
 ⟨(cell_of_row _ _ 0 _ 90 (0,0) hy).trans rfl,(cell_of_row _ _ 1 _ 90 (0,0) hy).trans rfl,(cell_of_row _ _ 2 _ 90 (0,0) hy).trans rfl,(cell_of_row _ _ 3 _ 90 (0,0) hy).trans rfl,
  fun i hi=>(cell_of_row _ _ i _ 5 (0,0) hb).trans (made_at _ _ _ hi),fun i hi=>(cell_of_row _ _ i _ 3 (0,0) hr).trans (made_at _ _ _ hi),fun i hi=>(cell_of_row _ _ i _ 4 (0,0) hm).trans (made_at _ _ _ hi),fun i hi=>(cell_of_row _ _ i _ 4 (0,0) ht).trans (made_at _ _ _ hi),
  fun o=>by simp only[World.frozen?,hb];simp,fun o=>by simp only[World.frozen?,hr];simp,fun o=>by simp only[World.frozen?,hm];simp,fun o=>by simp only[World.frozen?,ht];simp,ne⟩
theorem five(w:World)(o0 o1 o2 o3 o4:Obj) :
  (((((w.alloc o0).alloc o1).alloc o2).alloc o3).alloc o4).heap[w.heap.size]?=some o0∧(((((w.alloc o0).alloc o1).alloc o2).alloc o3).alloc o4).heap[w.heap.size+1]?=some o1∧
  (((((w.alloc o0).alloc o1).alloc o2).alloc o3).alloc o4).heap[w.heap.size+1+1]?=some o2∧(((((w.alloc o0).alloc o1).alloc o2).alloc o3).alloc o4).heap[w.heap.size+1+1+1]?=some o3∧
  (((((w.alloc o0).alloc o1).alloc o2).alloc o3).alloc o4).heap[w.heap.size+1+1+1+1]?=some o4∧Below w.heap.size w (((((w.alloc o0).alloc o1).alloc o2).alloc o3).alloc o4):=by
 have e0:=heap_alloc_last w o0
 have e1:=heap_alloc_last (w.alloc o0) o1
 have e2:=heap_alloc_last ((w.alloc o0).alloc o1) o2
 have e3:=heap_alloc_last (((w.alloc o0).alloc o1).alloc o2) o3
 have e4:=heap_alloc_last ((((w.alloc o0).alloc o1).alloc o2).alloc o3) o4
 simp only[World.size_alloc] at e1 e2 e3 e4
 refine⟨?_,?_,?_,?_,e4,?_⟩
 ·rw[Below.heap_alloc _ _ _ zq12,Below.heap_alloc _ _ _ zq12,Below.heap_alloc _ _ _ zq12,Below.heap_alloc _ _ _ zq12];exact e0
 ·rw[Below.heap_alloc _ _ _ zq12,Below.heap_alloc _ _ _ zq12,Below.heap_alloc _ _ _ zq12];exact e1
 ·rw[Below.heap_alloc _ _ _ zq12,Below.heap_alloc _ _ _ zq12];exact e2
 ·rw[Below.heap_alloc _ _ _ zq12];exact e3
 ·exact(((((Below.refl _ _).alloc (Nat.le_refl _) _).alloc zq12 _).alloc zq12 _).alloc zq12 _).alloc zq12 _
structure NewR(w:World)(k:RB)(w':World):Prop where
 rm:RM w' k newS
 bel:Below w.heap.size w w'
 le:∀ x∈k.y :: k.all,w.heap.size≤x
 size:w'.heap.size=w.heap.size+5
theorem rnew_any(w:World) :
  Calls Tryz.prog 11 #[] w fun e w'=>∃ k:RB,e=.returned (.pointer (some ⟨k.y,0,none⟩))∧NewR w k w':=by
 have m1:=made22
 have m2:=made68
 have m3:=made40
 go_enter Tryz.func11,Tryz.ntmps11
 go_wp2
 go_region
 all_goals
  clear m1 m2 m3
  go_wp2
  go_ret
  obtain⟨f0,f1,f2,f3,f4,f5⟩:=five w _ _ _ _ _
  refine⟨⟨_,_,_,_,_,_,_,_,_,_⟩,rfl,⟨(new_rm f4 (by assumption) (by assumption) (by assumption) (by assumption) zo).drew,f5.drew,?_,?_⟩⟩
  ·simp[RB.all];omega
  ·show(World.alloc _ _).heap.size=_
   simp only[World.size_alloc]
theorem Chg.same(S:List Nat){w w':World}(h:w=w'):Chg S w w':=by subst h;exact Chg.refl _ _
def protOk(p r:Int):Prop:=(0≤p∧p < 256)∧0≤r∧r≤7
instance (p r:Int):Decidable (protOk p r):=by unfold protOk;infer_instance
def protE(p r:Int):Int:=if protOk p r then 0 else 4
def protT(s:MS)(p r:Int):MS:=if protOk p r then protS s p.toNat r else s
theorem prot_tot(X:Nat)(p r:Int)(s:MS)(w:World)(h:PM w X s) :
  Calls Tryz.prog 14 #[.pointer (some ⟨X,0,none⟩),.int .i64 p,.int .i64 r] w fun e w'=>e=.returned (.int .i64 (protE p r))∧PM w' X (protT s p r)∧Chg [X] w w':=by
 by_cases hv:protOk p r
 ·obtain⟨n,rfl⟩:∃ n:Nat,p=n:=⟨p.toNat,by unfold protOk at hv;omega⟩
  have e1:protE n r=0:=if_pos hv
  have e2:protT s n r=protS s n r:=if_pos hv
  rw[e1,e2]
  exact prot_yes X n r s w (by unfold protOk at hv;omega) hv.2.1 hv.2.2 h
 ·have e1:protE p r=4:=if_neg hv
  have e2:protT s p r=s:=if_neg hv
  rw[e1,e2]
  refine(prot_no X p r w (by unfold protOk at hv;omega)).mono fun e w' ⟨he,hw⟩=>⟨he,?_,Chg.same _ hw⟩
  subst hw;exact h
theorem rprot_tot(k:RB)(p r:Int)(s:MS)(w:World)(h:RM w k s) :
  Calls Tryz.prog 15 #[.pointer (some ⟨k.y,0,none⟩),.int .i64 p,.int .i64 r] w fun e w'=>e=.returned (.int .i64 (protE p r))∧RM w' k (protT s p r)∧Chg k.all w w':=by
 by_cases hv:protOk p r
 ·obtain⟨n,rfl⟩:∃ n:Nat,p=n:=⟨p.toNat,by unfold protOk at hv;omega⟩
  have e1:protE n r=0:=if_pos hv
  have e2:protT s n r=protS s n r:=if_pos hv
  rw[e1,e2]
  exact rprot_yes k n r s w (by unfold protOk at hv;omega) hv.2.1 hv.2.2 h
 ·have e1:protE p r=4:=if_neg hv
  have e2:protT s p r=s:=if_neg hv
  rw[e1,e2]
  refine(rprot_no k p r w (by unfold protOk at hv;omega)).mono fun e w' ⟨he,hw⟩=>⟨he,?_,Chg.same _ hw⟩
  subst hw;exact h
def liesOk(a n:Int):Prop:=0≤a∧a≤65536∧0≤n∧n≤65536 - a
instance (a n:Int):Decidable (liesOk a n):=by unfold liesOk;infer_instance
abbrev I64(a:Int):Prop:=-9223372036854775808≤a∧a≤9223372036854775807
def pokeE(a:Int)(n:Nat):Int:=if liesOk a n then 0 else 4
def pokeT(s:MS)(a:Int)(n:Nat)(z:Nat→Int):MS:=if liesOk a n then pokeS s a.toNat n z else s
theorem poke_tot(X:Nat)(a:Int)(bp:Option Addr)(n c:Nat)(z:Nat→Int)(s:MS)(w:World)(ha:I64 a)(hz:SR w bp n z)(h:PM w X s) :
  Calls Tryz.prog 12 #[.pointer (some ⟨X,0,none⟩),.int .i64 a,.slice bp n c] w fun e w'=>e=.returned (.int .i64 (pokeE a n))∧PM w' X (pokeT s a n z)∧Chg [X] w w':=by
 by_cases hv:liesOk a n
 ·obtain⟨m,rfl⟩:∃ m:Nat,a=m:=⟨a.toNat,by unfold liesOk at hv;omega⟩
  have e1:pokeE m n=0:=if_pos hv
  have e2:pokeT s m n z=pokeS s m n z:=if_pos hv
  rw[e1,e2]
  exact poke_yes X m bp n c z s w (by unfold liesOk at hv;omega) hz h
 ·have e1:pokeE a n=4:=if_neg hv
  have e2:pokeT s a n z=s:=if_neg hv
  rw[e1,e2]
  refine(poke_no X a bp n c w ha (by unfold liesOk at hv;omega)).mono fun e w' ⟨he,hw⟩=>⟨he,?_,Chg.same _ hw⟩
  subst hw;exact h
theorem rpoke_tot(k:RB)(a:Int)(bp:Option Addr)(n c:Nat)(z:Nat→Int)(s:MS)(w:World)(ha:I64 a)(hn:n≤maxLen)(hz:SR w bp n z)(hb:0 < n→∀ b off,bp=some ⟨b,off,none⟩→b∉k.all)(h:RM w k s) :
  Calls Tryz.prog 13 #[.pointer (some ⟨k.y,0,none⟩),.int .i64 a,.slice bp n c] w fun e w'=>e=.returned (.int .i64 (pokeE a n))∧RM w' k (pokeT s a n z)∧Chg k.all w w':=by
 by_cases hv:liesOk a n
 ·obtain⟨m,rfl⟩:∃ m:Nat,a=m:=⟨a.toNat,by unfold liesOk at hv;omega⟩
  have e1:pokeE m n=0:=if_pos hv
  have e2:pokeT s m n z=pokeS s m n z:=if_pos hv
  rw[e1,e2]
  exact rpoke_yes k m bp n c z s w (by unfold liesOk at hv;omega) hz hb h
 ·have e1:pokeE a n=4:=if_neg hv
  have e2:pokeT s a n z=s:=if_neg hv
  rw[e1,e2]
  refine(rpoke_no k a bp n c w ha hn (by unfold liesOk at hv;omega)).mono fun e w' ⟨he,hw⟩=>⟨he,?_,Chg.same _ hw⟩
  subst hw;exact h
structure Out(w w':World)(p:Option Addr)(m:Nat)(z:Nat→Int):Prop where
 bel:Below w.heap.size w w'
 row:0 < m→∃ H,p=some ⟨H,0,none⟩∧w.heap.size≤H∧NR w' H m z
def stK(kind:Int):Option Nat→Int
 | none=>0
 | some _=>kind
def stA:Option Nat→Int
 | none=>0
 | some x=>x
abbrev stVV(kind:Int)(o:Option Nat):Value:=.agg #[.int .i64 (stK kind o),.int .u32 (stA o)]
def wid(n:Int):Prop:=n=1∨n=2∨n=4
instance (n:Int):Decidable (wid n):=by unfold wid;infer_instance
def ldX(s:MS)(a:Nat)(n:Int):Int:=if badN s 1 a n.toNat=none∧wid n then ldv s.B a n.toNat else 0
theorem rload_tot(k:RB)(a:Nat)(n:Int)(s:MS)(w:World)(ha:a < 4294967296)(hs:s.Ok)(h:RM w k s) :
  Calls Tryz.prog 97 #[.pointer (some ⟨k.y,0,none⟩),.int .u32 a,.int .i64 n] w fun e w'=>e=.returned (.tuple #[.int .u32 (ldX s a n),stVV 5 (badN s 1 a n.toNat)])∧Below w.heap.size w w':=by
 cases hb:badN s 1 a n.toNat with
 | some x=>
  have e:ldX s a n=0:=if_neg (by simp[hb])
  rw[e]
  exact rload_bad k a x n s w ha hs h hb
 | none=>
  by_cases hw:wid n
  ·have e:ldX s a n=ldv s.B a n.toNat:=if_pos ⟨hb,hw⟩
   rw[e]
   obtain⟨m,rfl⟩:∃ m:Nat,n=m:=⟨n.toNat,by unfold wid at hw;omega⟩
   exact rload_ok k a m s w (by unfold wid at hw;omega) ha hs h hb
  ·have e:ldX s a n=0:=if_neg (fun h=>hw h.2)
   rw[e]
   exact rload_none k a n s w hw ha hs h hb
def sto(s:MS)(a:Nat)(n:Int):Option Nat:=if wid n then badN s 2 a n.toNat else none
def storeT(s:MS)(a:Nat)(n:Int)(v:Nat):MS:=if wid n∧badN s 2 a n.toNat=none then pokeS s a n.toNat (zv v) else s
theorem rstore_tot(k:RB)(a v:Nat)(n:Int)(s:MS)(w:World)(ha:a < 4294967296)(hv:v < 4294967296)(hs:s.Ok)(h:RM w k s) :
  Calls Tryz.prog 98 #[.pointer (some ⟨k.y,0,none⟩),.int .u32 a,.int .i64 n,.int .u32 v] w fun e w'=>e=.returned (stVV 6 (sto s a n))∧RM w' k (storeT s a n v)∧Chg k.all w w':=by
 by_cases hw:wid n
 ·have e0:sto s a n=badN s 2 a n.toNat:=if_pos hw
  rw[e0]
  cases hb:badN s 2 a n.toNat with
  | some x=>
   have e:storeT s a n v=s:=if_neg (by simp[hb])
   rw[e]
   exact(rstore_bad k a v x n s w hw ha hs h hb).mono fun e w' ⟨he,hB⟩=>⟨he,h.below hB (Nat.le_refl _),Chg.of_below _ hB⟩
  | none=>
   have e:storeT s a n v=pokeS s a n.toNat (zv v):=if_pos ⟨hw,hb⟩
   rw[e]
   obtain⟨m,rfl⟩:∃ m:Nat,n=m:=⟨n.toNat,by unfold wid at hw;omega⟩
   exact rstore_ok k a v m s w (by unfold wid at hw;omega) ha hv hs h hb
 ·have e0:sto s a n=none:=if_neg hw
  have e:storeT s a n v=s:=if_neg (fun h=>hw h.1)
  rw[e0,e]
  exact(rstore_none k a v n w hw).mono fun e w' ⟨he,hB⟩=>⟨he,h.below hB (Nat.le_refl _),Chg.of_below _ hB⟩
def fet(s:MS)(a:Nat)(n:Int):Option Nat:=if 0 < n∧n≤8 then badN s 4 a n.toNat else none
def fetM(s:MS)(a:Nat)(n:Int):Nat:=if(0 < n∧n≤8)∧badN s 4 a n.toNat=none then n.toNat else 0
theorem fetch_tot(X a:Nat)(n:Int)(s:MS)(w:World)(ha:a < 4294967296)(hs:s.Ok)(h:PM w X s) :
  Calls Tryz.prog 42 #[.pointer (some ⟨X,0,none⟩),.int .u32 a,.int .i64 n] w fun e w'=>∃ p c,e=.returned (.tuple #[.slice p (fetM s a n) c,stVV 4 (fet s a n)])∧Out w w' p (fetM s a n) (fun i=>s.B (a+i)):=by
 by_cases hw:0 < n∧n≤8
 ·have e0:fet s a n=badN s 4 a n.toNat:=if_pos hw
  rw[e0]
  cases hb:badN s 4 a n.toNat with
  | some x=>
   have e:fetM s a n=0:=if_neg (by simp[hb])
   rw[e]
   exact(fetch_bad X a x n s w hw.1 hw.2 ha hs h hb).mono fun e w' ⟨he,hB⟩=>⟨_,_,he,hB,fun h=>by omega⟩
  | none=>
   have e:fetM s a n=n.toNat:=if_pos ⟨hw,hb⟩
   rw[e]
   obtain⟨m,rfl⟩:∃ m:Nat,n=m:=⟨n.toNat,by omega⟩
   exact(fetch_ok X a m s w zo zo ha hs h hb).mono fun e w' ⟨he,hN,hB,hS⟩=>⟨_,_,he,hB,fun _=>⟨_,rfl,by omega,hN⟩⟩
 ·have e0:fet s a n=none:=if_neg hw
  have e:fetM s a n=0:=if_neg (fun h=>hw h.1)
  rw[e0,e]
  exact(fetch_none X a n w zo).mono fun e w' ⟨he,hB⟩=>⟨_,_,he,hB,fun h=>by omega⟩
theorem rfetch_tot(k:RB)(a:Nat)(n:Int)(s:MS)(w:World)(ha:a < 4294967296)(hs:s.Ok)(h:RM w k s) :
  Calls Tryz.prog 57 #[.pointer (some ⟨k.y,0,none⟩),.int .u32 a,.int .i64 n] w fun e w'=>∃ p c,e=.returned (.tuple #[.slice p (fetM s a n) c,stVV 4 (fet s a n)])∧SR w' p (fetM s a n) (fun i=>s.B (a+i))∧Below w.heap.size w w':=by
 by_cases hw:0 < n∧n≤8
 ·have e0:fet s a n=badN s 4 a n.toNat:=if_pos hw
  rw[e0]
  cases hb:badN s 4 a n.toNat with
  | some x=>
   have e:fetM s a n=0:=if_neg (by simp[hb])
   rw[e]
   exact(rfetch_bad k a x n s w hw.1 hw.2 ha hs h hb).mono fun e w' ⟨he,hB⟩=>⟨_,_,he,fun h=>by omega,hB⟩
  | none=>
   have e:fetM s a n=n.toNat:=if_pos ⟨hw,hb⟩
   rw[e]
   obtain⟨m,rfl⟩:∃ m:Nat,n=m:=⟨n.toNat,by omega⟩
   exact rfetch_ok k a m s w zo zo ha hs h hb
 ·have e0:fet s a n=none:=if_neg hw
  have e:fetM s a n=0:=if_neg (fun h=>hw h.1)
  rw[e0,e]
  by_cases hn:n=0
  ·subst hn
   exact(rfetch_zero k a s w ha hs h).mono fun e w' ⟨he,hB⟩=>⟨_,_,he,fun h=>by omega,hB⟩
  ·exact(rfetch_none k a n w zo).mono fun e w' ⟨he,hB⟩=>⟨_,_,he,fun h=>by omega,hB⟩
structure Both(w:World)(X:Nat)(k:RB)(s:MS):Prop where
 pm:PM w X s
 rm:RM w k s
 ok:s.Ok
 ne:X∉k.y :: k.all
def Fin(w:World)(X:Nat)(k:RB)(w':World):Prop:=(∃ s',Both w' X k s')∧Chg (X :: k.all) w w'
theorem upd_bd{f:Nat→Int}{lo hi:Int}(h:∀ i,lo≤f i∧f i≤hi)(p:Nat)(v:Int)(hv:lo≤v∧v≤hi):∀ i,lo≤upd f p v i∧upd f p v i≤hi:=by
 intro i;unfold upd;split
 ·exact hv
 ·exact h i
theorem ok_tellS{s:MS}(h:s.Ok)(p:Nat):(tellS s p).Ok:=⟨by rw[tellS_B];exact h.by_,by rw[tellS_R];exact h.ri⟩
theorem ok_tellB{s:MS}(h:s.Ok)(a n:Nat):(tellB s a n).Ok:=⟨by rw[tellB_B];exact h.by_,by rw[tellB_R];exact h.ri⟩
theorem ok_protT{s:MS}(h:s.Ok)(p r:Int):(protT s p r).Ok:=by
 unfold protT;split
 ·rename_i hv
  unfold protS;split
  ·exact h
  ·exact ok_tellS (s:={ s with R:=upd s.R p.toNat r }) ⟨h.by_,upd_bd h.ri _ _ hv.2⟩ _
 ·exact h
theorem ok_pokeS{s:MS}(h:s.Ok)(a n:Nat)(z:Nat→Int)(hz:∀ i,i < n→0≤z i∧z i≤255):(pokeS s a n z).Ok:=by
 refine ok_tellB (s:={ s with B:=ovr s.B a n z }) ⟨fun i=>?_,h.ri⟩ _ _
 show 0≤ovr s.B a n z i∧ovr s.B a n z i≤255
 unfold ovr;split
 ·exact hz _ zo
 ·exact h.by_ i
theorem ok_pokeT{s:MS}(h:s.Ok)(a:Int)(n:Nat)(z:Nat→Int)(hz:∀ i,i < n→0≤z i∧z i≤255):(pokeT s a n z).Ok:=by
 unfold pokeT;split
 ·exact ok_pokeS h _ _ _ hz
 ·exact h
theorem zv_bd(v i:Nat):0≤zv v i∧zv v i≤255:=by unfold zv;omega
theorem ok_storeT{s:MS}(h:s.Ok)(a:Nat)(n:Int)(v:Nat):(storeT s a n v).Ok:=by
 unfold storeT;split
 ·exact ok_pokeS h _ _ _ (fun i _=>zv_bd v i)
 ·exact h
end Go.Proofs.YtfokgedjocnnmaaGreat
