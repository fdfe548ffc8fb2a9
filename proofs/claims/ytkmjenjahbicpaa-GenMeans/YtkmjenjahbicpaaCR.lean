import Derived.Test.YtkmjenjahbicpaaC1
import Derived.Test.YtkmjenjahbicpaaCH
set_option linter.unusedVariables false
set_option linter.unusedSimpArgs false
set_option maxHeartbeats 40000000
namespace Go.Proofs.Ytkmjenjahbicpaa
open Go.RowKit
set_option maxRecDepth 100000
theorem zOE(w:World)(o1:Obj):Below w.heap.size w (w.alloc o1):=aB.alloc aL _
theorem yN(pc:Nat)(count bytes:Int)(bp:Option Addr)(n cap i:Nat)(t:Int)(f:Nat→zL)(w:World)(hO:vN w bp n f)(hi:i≤n) :
  Calls Try.prog 21 #[.agg #[.int .u32 pc,.int .i64 count,.int .i64 bytes,.slice bp n cap],.int .i64 i,.int .i64 t] w fun e w'=>e=.returned (.bool (gvn f i t))∧w.alloc (.cells #[.int .u32 pc,.int .i64 count,.int .i64 bytes,.slice bp n cap] 25)=w':=by
 by_cases h0:0≤t
 ·have d0:decide (0≤t)=true:=decide_eq_true h0
  by_cases h1:t < i
  ·have d1:decide (t < (i:Int))=true:=decide_eq_true h1
   obtain⟨b,off,rfl,hb,hc⟩:=hO aO
   have hk:=(hc t.toNat aO).c0
   have hn:t < (n:Int):=aO
   have HG:Hid (gvn f i t=zD5 (f t.toNat).kind):=by show _=_;unfold gvn;rw[decide_eq_true ⟨h0,h1⟩,zPG];rfl
   have lb:=Nat.lt_succ_of_lt hb
   clear hO hc hi
   go_enter Try.func21,Try.ntmps21
   go_wp2_with (go_at_call 42;refine(zHJ _ _).mono ?_;rintro e w1 ⟨rfl,rfl⟩)
   go_ret
   exact⟨by rw[HG.out];rfl,rfl⟩
  ·have d1:decide (t < (i:Int))=false:=decide_eq_false h1
   have HG:Hid (gvn f i t=false):=by show _=_;unfold gvn;rw[decide_eq_false (fun h=>h1 h.2)];rfl
   clear hO hi
   go_enter Try.func21,Try.ntmps21
   go_wp2
   go_ret
   exact⟨by rw[HG.out];rfl,rfl⟩
 ·have d0:decide (0≤t)=false:=decide_eq_false h0
  have HG:Hid (gvn f i t=false):=by show _=_;unfold gvn;rw[decide_eq_false (fun h=>h0 h.1)];rfl
  clear hO hi
  go_enter Try.func21,Try.ntmps21
  go_wp2
  go_ret
  exact⟨by rw[HG.out];rfl,rfl⟩
def zEX(c:Int):Bool:=false
theorem zB9(c f t:Int)(w:World)(hc:c=107∨c=110∨c=97∨c=98∨c=103∨c=99):Calls Try.prog 20 #[.agg #[.int .i64 f,.int .i64 t,.string { data:=#[] }],.int .u8 c] w fun e w'=>e=.returned (.bool (zEX c))∧w.alloc (.cells #[.int .i64 f,.int .i64 t,.string { data:=#[] }] 63)=w':=by
 rcases hc with rfl|rfl|rfl|rfl|rfl|rfl
 ·exact zPP f t w
 ·exact zG5 f t w
 ·exact zG2 f t w
 ·exact zG3 f t w
 ·exact zPO f t w
 ·exact zG4 f t w
def zC6(c:Int):Bool:=c==107
theorem zBR(c f t:Int)(w:World)(hc:c=107∨c=110∨c=97∨c=98∨c=103∨c=99):Calls Try.prog 20 #[.agg #[.int .i64 f,.int .i64 t,.string { data:=#[107] }],.int .u8 c] w fun e w'=>e=.returned (.bool (zC6 c))∧w.alloc (.cells #[.int .i64 f,.int .i64 t,.string { data:=#[107] }] 63)=w':=by
 rcases hc with rfl|rfl|rfl|rfl|rfl|rfl
 ·exact zNr f t w
 ·exact zNs f t w
 ·exact zNn f t w
 ·exact zNo f t w
 ·exact zNq f t w
 ·exact zNp f t w
def zCT(c:Int):Bool:=c==97
theorem zBA(c f t:Int)(w:World)(hc:c=107∨c=110∨c=97∨c=98∨c=103∨c=99):Calls Try.prog 20 #[.agg #[.int .i64 f,.int .i64 t,.string { data:=#[97] }],.int .u8 c] w fun e w'=>e=.returned (.bool (zCT c))∧w.alloc (.cells #[.int .i64 f,.int .i64 t,.string { data:=#[97] }] 63)=w':=by
 rcases hc with rfl|rfl|rfl|rfl|rfl|rfl
 ·exact zNg f t w
 ·exact zNh f t w
 ·exact zNc f t w
 ·exact zNd f t w
 ·exact zNf f t w
 ·exact zNe f t w
def zBW(c:Int):Bool:=c==97 || c==98
theorem zA5(c f t:Int)(w:World)(hc:c=107∨c=110∨c=97∨c=98∨c=103∨c=99):Calls Try.prog 20 #[.agg #[.int .i64 f,.int .i64 t,.string { data:=#[97,98] }],.int .u8 c] w fun e w'=>e=.returned (.bool (zBW c))∧w.alloc (.cells #[.int .i64 f,.int .i64 t,.string { data:=#[97,98] }] 63)=w':=by
 rcases hc with rfl|rfl|rfl|rfl|rfl|rfl
 ·exact zLn f t w
 ·exact zLo f t w
 ·exact zLj f t w
 ·exact zLk f t w
 ·exact zLm f t w
 ·exact zLl f t w
def zBd(c:Int):Bool:=c==97 || c==98 || c==99
theorem zAv(c f t:Int)(w:World)(hc:c=107∨c=110∨c=97∨c=98∨c=103∨c=99):Calls Try.prog 20 #[.agg #[.int .i64 f,.int .i64 t,.string { data:=#[97,98,99] }],.int .u8 c] w fun e w'=>e=.returned (.bool (zBd c))∧w.alloc (.cells #[.int .i64 f,.int .i64 t,.string { data:=#[97,98,99] }] 63)=w':=by
 rcases hc with rfl|rfl|rfl|rfl|rfl|rfl
 ·exact zI5 f t w
 ·exact zI6 f t w
 ·exact zI1 f t w
 ·exact zI2 f t w
 ·exact zI4 f t w
 ·exact zI3 f t w
def zBQ(c:Int):Bool:=c==97 || c==107 || c==110
theorem zBa(c f t:Int)(w:World)(hc:c=107∨c=110∨c=97∨c=98∨c=103∨c=99):Calls Try.prog 20 #[.agg #[.int .i64 f,.int .i64 t,.string { data:=#[97,107,110] }],.int .u8 c] w fun e w'=>e=.returned (.bool (zBQ c))∧w.alloc (.cells #[.int .i64 f,.int .i64 t,.string { data:=#[97,107,110] }] 63)=w':=by
 rcases hc with rfl|rfl|rfl|rfl|rfl|rfl
 ·exact zJb f t w
 ·exact zJc f t w
 ·exact zI7 f t w
 ·exact zI8 f t w
 ·exact zJa f t w
 ·exact zI9 f t w
def zBi(c:Int):Bool:=c==97 || c==98 || c==107 || c==110
theorem zAL(c f t:Int)(w:World)(hc:c=107∨c=110∨c=97∨c=98∨c=103∨c=99):Calls Try.prog 20 #[.agg #[.int .i64 f,.int .i64 t,.string { data:=#[97,98,107,110] }],.int .u8 c] w fun e w'=>e=.returned (.bool (zBi c))∧w.alloc (.cells #[.int .i64 f,.int .i64 t,.string { data:=#[97,98,107,110] }] 63)=w':=by
 rcases hc with rfl|rfl|rfl|rfl|rfl|rfl
 ·exact zHu f t w
 ·exact zHv f t w
 ·exact zHq f t w
 ·exact zHr f t w
 ·exact zHt f t w
 ·exact zHs f t w
def zCv(c:Int):Bool:=c==107 || c==110
theorem zBJ(c f t:Int)(w:World)(hc:c=107∨c=110∨c=97∨c=98∨c=103∨c=99):Calls Try.prog 20 #[.agg #[.int .i64 f,.int .i64 t,.string { data:=#[107,110] }],.int .u8 c] w fun e w'=>e=.returned (.bool (zCv c))∧w.alloc (.cells #[.int .i64 f,.int .i64 t,.string { data:=#[107,110] }] 63)=w':=by
 rcases hc with rfl|rfl|rfl|rfl|rfl|rfl
 ·exact zLE f t w
 ·exact zLF f t w
 ·exact zLA f t w
 ·exact zLB f t w
 ·exact zLD f t w
 ·exact zLC f t w
def zBz(c:Int):Bool:=c==103 || c==107 || c==110
theorem zAR(c f t:Int)(w:World)(hc:c=107∨c=110∨c=97∨c=98∨c=103∨c=99):Calls Try.prog 20 #[.agg #[.int .i64 f,.int .i64 t,.string { data:=#[103,107,110] }],.int .u8 c] w fun e w'=>e=.returned (.bool (zBz c))∧w.alloc (.cells #[.int .i64 f,.int .i64 t,.string { data:=#[103,107,110] }] 63)=w':=by
 rcases hc with rfl|rfl|rfl|rfl|rfl|rfl
 ·exact zJp f t w
 ·exact zJq f t w
 ·exact zJl f t w
 ·exact zJm f t w
 ·exact zJo f t w
 ·exact zJn f t w
def zB8(c:Int):Bool:=c==97 || c==110
theorem zBj(c f t:Int)(w:World)(hc:c=107∨c=110∨c=97∨c=98∨c=103∨c=99):Calls Try.prog 20 #[.agg #[.int .i64 f,.int .i64 t,.string { data:=#[97,110] }],.int .u8 c] w fun e w'=>e=.returned (.bool (zB8 c))∧w.alloc (.cells #[.int .i64 f,.int .i64 t,.string { data:=#[97,110] }] 63)=w':=by
 rcases hc with rfl|rfl|rfl|rfl|rfl|rfl
 ·exact zLr f t w
 ·exact zEo f t w
 ·exact zEl f t w
 ·exact zEm f t w
 ·exact zLq f t w
 ·exact zEn f t w
theorem zTC(k:Nat)(h1:1≤k)(h2:k≤17):((nnT k).s={ data:=#[] }∧flT k=⟨false,false,false,false,false,false⟩)∨((nnT k).s={ data:=#[107] }∧flT k=⟨false,false,false,true,false,false⟩)∨((nnT k).s={ data:=#[97] }∧flT k=⟨true,false,false,false,false,false⟩)∨((nnT k).s={ data:=#[97,98] }∧flT k=⟨true,true,false,false,false,false⟩)∨((nnT k).s={ data:=#[97,98,99] }∧flT k=⟨true,true,true,false,false,false⟩)∨((nnT k).s={ data:=#[97,107,110] }∧flT k=⟨true,false,false,true,true,false⟩)∨((nnT k).s={ data:=#[97,98,107,110] }∧flT k=⟨true,true,false,true,true,false⟩)∨((nnT k).s={ data:=#[107,110] }∧flT k=⟨false,false,false,true,true,false⟩)∨((nnT k).s={ data:=#[103,107,110] }∧flT k=⟨false,false,false,true,true,true⟩)∨((nnT k).s={ data:=#[97,110] }∧flT k=⟨true,false,false,false,true,false⟩):=by
 match k,h1,h2 with
 | 1,_,_=>exact .inr (.inl ⟨rfl,rfl⟩)
 | 2,_,_=>exact .inl ⟨rfl,rfl⟩
 | 3,_,_=>exact .inr (.inr (.inl ⟨rfl,rfl⟩))
 | 4,_,_=>exact .inr (.inr (.inr (.inl ⟨rfl,rfl⟩)))
 | 5,_,_=>exact .inr (.inr (.inl ⟨rfl,rfl⟩))
 | 6,_,_=>exact .inr (.inr (.inr (.inr (.inl ⟨rfl,rfl⟩))))
 | 7,_,_=>exact .inr (.inr (.inr (.inr (.inl ⟨rfl,rfl⟩))))
 | 8,_,_=>exact .inr (.inr (.inl ⟨rfl,rfl⟩))
 | 9,_,_=>exact .inr (.inr (.inr (.inr (.inr (.inl ⟨rfl,rfl⟩)))))
 | 10,_,_=>exact .inr (.inr (.inr (.inr (.inr (.inr (.inl ⟨rfl,rfl⟩))))))
 | 11,_,_=>exact .inr (.inr (.inr (.inr (.inr (.inr (.inr (.inl ⟨rfl,rfl⟩)))))))
 | 12,_,_=>exact .inr (.inr (.inr (.inr (.inr (.inl ⟨rfl,rfl⟩)))))
 | 13,_,_=>exact .inr (.inr (.inr (.inr (.inr (.inl ⟨rfl,rfl⟩)))))
 | 14,_,_=>exact .inr (.inr (.inr (.inr (.inr (.inr (.inr (.inr (.inl ⟨rfl,rfl⟩))))))))
 | 15,_,_=>exact .inr (.inr (.inr (.inr (.inr (.inr (.inr (.inl ⟨rfl,rfl⟩)))))))
 | 16,_,_=>exact .inr (.inr (.inr (.inr (.inr (.inr (.inr (.inr (.inr (⟨rfl,rfl⟩)))))))))
 | 17,_,_=>exact .inl ⟨rfl,rfl⟩
 | n+18,_,h=>exact absurd h aO
theorem zSi(k:Nat)(h1:1≤k)(h2:k≤17):(nnT k).fr=(rrT k).lo∧(nnT k).fr+(nnT k).so=(rrT k).hi+1∧0≤(nnT k).fr∧(nnT k).fr≤1∧0≤(nnT k).so∧(nnT k).so≤16:=by
 match k,h1,h2 with
 | 1,_,_|2,_,_|3,_,_|4,_,_|5,_,_|6,_,_|7,_,_|8,_,_|9,_,_|10,_,_|11,_,_|12,_,_|13,_,_|14,_,_|15,_,_|16,_,_|17,_,_=>decide
 | n+18,_,h=>exact absurd h aO
theorem zLW(kind fr so:Int)(s:ByteArray)(w:World)(h:1≤kind∧kind≤17)(h1:(nnT kind.toNat).fr=fr)(h2:(nnT kind.toNat).so=so)(h3:(nnT kind.toNat).s=s):Calls Try.prog 19 #[.int .i64 kind] w fun e w'=>e=.returned (.tuple #[.agg #[.int .i64 fr,.int .i64 so,.string s],.bool true])∧Below w.heap.size w w':=by
 obtain⟨k,rfl⟩:∃ k:Nat,kind=k:=⟨kind.toNat,by omega⟩
 have:=zJB k w aO aO
 subst h1 h2 h3
 exact this
structure NW(w wx:World)(T V pc:Nat)(count bytes:Int)(bp:Option Addr)(n cap:Nat)(o:zL)(fr so:Int)(s:ByteArray):Prop where
 b1:wx.heap[w.heap.size]?=some (.cells #[.int .u32 pc,.int .i64 count,.int .i64 bytes,.slice bp n cap] 25)
 b5:wx.heap[T]?=some (.cells #[.int .i64 o.kind,.int .i64 o.w,.int .i64 o.a,.int .i64 o.b,.int .i64 o.c,.int .u32 o.k,.int .i64 o.n] 52)
 b6:wx.heap[V]?=some (.cells #[.int .i64 fr,.int .i64 so,.string s] 63)
 bel:Below w.heap.size w wx
theorem NW.alloc{w wx:World}{T V pc:Nat}{count bytes:Int}{bp:Option Addr}{n cap:Nat}{o:zL}{fr so:Int}{s:ByteArray}(h:NW w wx T V pc count bytes bp n cap o fr so s)(x:Obj):NW w (wx.alloc x) T V pc count bytes bp n cap o fr so s:=
 ⟨(yW _ x _ (zE h.b1)).trans h.b1,(yW _ x _ (zE h.b5)).trans h.b5,(yW _ x _ (zE h.b6)).trans h.b6,h.bel.alloc (Nat.le_of_lt (zE h.b1)) x⟩
theorem zEP(pc:Nat)(count bytes:Int)(bp:Option Addr)(n cap:Nat)(f:Nat→zL)(w:World)(hO:vN w bp n f)(hn:n < 9223372036854775807) :
  Calls Try.prog 5 #[.agg #[.int .u32 pc,.int .i64 count,.int .i64 bytes,.slice bp n cap]] w fun e w'=>e=.returned (.tuple #[.int .i64 (yH count bytes n f).1,.int .i64 (yH count bytes n f).2])∧Below w.heap.size w w':=by
 have HO:Hid (vN w bp n f):=hO
 have n0:(0:Int)≤(n:Int):=aO
 have nb:(n:Int)≤9223372036854775807:=aO
 have HW:Hid (CW w (w.alloc (.cells #[.int .u32 pc,.int .i64 count,.int .i64 bytes,.slice bp n cap] 25)) pc count bytes bp n cap):=⟨heap_alloc_last w _,zOE w _⟩
 clear hO
 by_cases hL:2048 < n
 ·have d:decide (2048 < (n:Int))=true:=aT
  have HE:Hid (yH count bytes n f=(5,-1)):=by show _=_;unfold yH;rw[if_pos hL]
  clear hL
  go_enter Try.func5,Try.ntmps5
  go_wp2
  go_ret2
  exact⟨by rw[HE.out];rfl,HW.out.bel⟩
 have d:decide (2048 < (n:Int))=false:=aF
 by_cases hC0:count < 0
 ·have d1:decide (count < 0)=true:=decide_eq_true hC0
  have HE:Hid (yH count bytes n f=(4,-1)):=by show _=_;unfold yH;rw[if_neg hL,if_neg aO]
  clear hL
  go_enter Try.func5,Try.ntmps5
  go_wp2
  go_ret2
  exact⟨by rw[HE.out];rfl,HW.out.bel⟩
 have d1:decide (count < 0)=false:=decide_eq_false hC0
 by_cases hC1:64 < count
 ·have d2:decide (64 < count)=true:=decide_eq_true hC1
  have HE:Hid (yH count bytes n f=(4,-1)):=by show _=_;unfold yH;rw[if_neg hL,if_neg aO]
  clear hL
  go_enter Try.func5,Try.ntmps5
  go_wp2
  go_ret2
  exact⟨by rw[HE.out];rfl,HW.out.bel⟩
 have d2:decide (64 < count)=false:=decide_eq_false hC1
 by_cases hB0:bytes < 0
 ·have d3:decide (bytes < 0)=true:=decide_eq_true hB0
  have HE:Hid (yH count bytes n f=(4,-1)):=by show _=_;unfold yH;rw[if_neg hL,if_neg aO]
  clear hL
  go_enter Try.func5,Try.ntmps5
  go_wp2
  go_ret2
  exact⟨by rw[HE.out];rfl,HW.out.bel⟩
 have d3:decide (bytes < 0)=false:=decide_eq_false hB0
 by_cases hB1:384 < bytes
 ·have d4:decide (384 < bytes)=true:=decide_eq_true hB1
  have HE:Hid (yH count bytes n f=(4,-1)):=by show _=_;unfold yH;rw[if_neg hL,if_neg aO]
  clear hL
  go_enter Try.func5,Try.ntmps5
  go_wp2
  go_ret2
  exact⟨by rw[HE.out];rfl,HW.out.bel⟩
 have d4:decide (384 < bytes)=false:=decide_eq_false hB1
 obtain⟨E,HE⟩:∃ E,Hid (yH count bytes n f=E):=⟨_,rfl⟩
 have HS:Hid (zBX count n f n 0=E):=by show _=_;rw[← HE.out];unfold yH;rw[if_neg hL,if_pos aO]
 have HL:Hid (n≤2048):=show n≤2048 by omega
 have HCNT:Hid (0≤count):=show 0≤count by omega
 have n1:(n:Int)≤2048:=aO
 clear hL hC0 hC1 hB0 hB1
 rw[HE.out]
 go_enter Try.func5,Try.ntmps5
 go_wp2
 clear d d1 d2 d3 d4
 go_loopw [33] (fun i' wr=>∃ j:Nat,i'=.int .i64 j∧j≤n∧zBX count n f (n - j) j=E∧CW w wr pc count bytes bp n cap) (fun i _=>n - (intOf i).toNat)
 case atStart=>exact⟨0,rfl,by omega,HS.out,HW.out⟩
 case round=>
  obtain⟨j,rfl,hj,hsc,hW⟩:=hrel
  have HSC:Hid _:=hsc
  have HWr:Hid _:=hW
  have l1:=zE hW.b1
  have l1':=Nat.lt_succ_of_lt l1
  have m0:wr.cell? ⟨w.heap.size,0,none⟩=some (.int .u32 pc):=zA hW.b1 0
  have m1:wr.cell? ⟨w.heap.size,1,none⟩=some (.int .i64 count):=zA hW.b1 1
  have m2:wr.cell? ⟨w.heap.size,2,none⟩=some (.int .i64 bytes):=zA hW.b1 2
  have m3:wr.cell? ⟨w.heap.size,3,none⟩=some (.slice bp n cap):=zA hW.b1 3
  clear hsc hW HW
  by_cases hlt:j < n
  ·have hji:(j:Int) < (n:Int):=aO
   have dj:decide ((j:Int) < (n:Int))=true:=decide_eq_true hji
   have j0:(0:Int)≤(j:Int):=aO
   have HLT:Hid _:=hlt
   have HST:Hid (zBX count n f ((n - (j+1))+1) j=E):=by have:=HSC.out;rwa [show n - j=(n - (j+1))+1 by omega] at this
   obtain⟨q,HQ⟩:∃ q,Hid (uQ count n f j=q):=⟨_,rfl⟩
   have HBAD:Hid (q≠0→E=(q,(j:Int))):=show q≠0→E=(q,(j:Int)) from fun hq=>by
    have:=HST.out
    simp only[zBX,HQ.out,if_neg hq] at this
    exact this.symm
   have HGOOD:Hid (q=0→zBX count n f (n - (j+1)) (j+1)=E):=show q=0→zBX count n f (n - (j+1)) (j+1)=E from fun hq=>by
    have:=HST.out
    simp only[zBX,HQ.out,if_pos hq] at this
    exact this
   obtain⟨b,off,rfl,hb,hc⟩:=HO.out aO
   obtain⟨o,HOO⟩:∃ o,Hid (f j=o):=⟨_,rfl⟩
   have HOB:Hid (vN w (some ⟨b,off,none⟩) n f):=HO.out
   obtain⟨z0,z1,z2,z3,z4,z5,z6⟩:zAm wr b (off+j*7) o:=(HOO.out▸hc j hlt).below HWr.out.bel hb
   have lb:b < wr.heap.size:=by have:=HWr.out.bel.size;omega
   have lb':=Nat.lt_succ_of_lt lb
   have hne:b≠wr.heap.size:=aO
   clear hc hlt HSC HST
   by_cases hk:1≤o.kind∧o.kind≤17
   rotate_left
   ·have HK:Hid _:=hk
    have HQ2:Hid (q=2):=by
     show _=_
     rw[← HQ.out];unfold uQ;rw[HOO.out,if_pos]
     unfold eOp;rw[show isK o.kind=false by rw[Bool.eq_false_iff];exact fun h=>hk ((zCI _).1 h)];rfl
    have HN:Hid (E=(2,(j:Int))):=by have:=HQ2.out;subst this;exact HBAD.out aD
    clear hk HBAD HGOOD
    go_wp2_with (go_at_call 19;refine(zLX o.kind _ HK.out).mono ?_;rintro e w1 ⟨rfl,h1⟩)
    go_ret2
    exact⟨by rw[HN.out];rfl,((((HWr.out.bel.alloc (Nat.le_of_lt l1) _).trans (h1.mono zq19))).alloc (by have:=h1.size;simp at this;omega) _)⟩
   obtain⟨k,hkk⟩:∃ k:Nat,o.kind=k:=⟨o.kind.toNat,by omega⟩
   have hk1:1≤k:=aO
   have hk2:k≤17:=aO
   obtain⟨fr,Hfr⟩:∃ x,Hid ((nnT o.kind.toNat).fr=x):=⟨_,rfl⟩
   obtain⟨so,Hso⟩:∃ x,Hid ((nnT o.kind.toNat).so=x):=⟨_,rfl⟩
   obtain⟨R,HR⟩:∃ R,Hid (rr o.kind=R):=⟨_,rfl⟩
   have hrr:fr=R.lo∧fr+so=R.hi+1∧0≤fr∧fr≤1∧0≤so∧so≤16:=by
    rw[← Hfr.out,← Hso.out,← HR.out];exact zSi _ aO aO
   obtain⟨hlo,hhi,fr0,fr1,so0,so1⟩:=hrr
   have HK:Hid _:=hk
   have HEO:Hid (eOp o=(decide (o.w < fr) || decide (fr+so≤o.w))):=by
    show _=_;unfold eOp;rw[(zCI _).2 hk,HR.out,← hlo,show decide (R.hi < o.w)=decide (fr+so≤o.w) from decide_eq_decide.2 aO];rfl
   have hpat:=zTC o.kind.toNat aO aO
   clear hlo hhi hkk hk1 hk2 hk
   obtain⟨s,HSS⟩:∃ s,Hid ((nnT o.kind.toNat).s=s):=⟨_,rfl⟩
   obtain⟨X,HFX⟩:∃ X,Hid (flT o.kind.toNat=X):=⟨_,rfl⟩
   have HPT:Hid _:=hpat
   clear hpat
   have HOE:Hid (q=if eOp o then 2 else if zG X o count then 3 else if zK X o f j then 6 else if R.ends && decide (j+1≠n) then 7 else 0):=by
    show _=_;rw[← HQ.out];unfold uQ;rw[HOO.out,HFX.out,HR.out]
   go_upto_region 9 with (first|(go_at_call 19;refine(zLW o.kind fr so s _ HK.out Hfr.out Hso.out HSS.out).mono ?_;rintro e w1 ⟨rfl,h1⟩;have HB1:Hid (w1.heap[w.heap.size]?=some (.cells #[.int .u32 pc,.int .i64 count,.int .i64 bytes,.slice (some ⟨b,off,none⟩) n cap] 25)):=(h1.block _ zq19).trans ((yW _ _ _ l1).trans HWr.out.b1);have HB5:Hid (w1.heap[wr.heap.size]?=some (.cells #[.int .i64 o.kind,.int .i64 o.w,.int .i64 o.a,.int .i64 o.b,.int .i64 o.c,.int .u32 o.k,.int .i64 o.n] 52)):=(h1.block _ aS).trans (heap_alloc_last wr _);have HB1B:Hid (Below w.heap.size w w1):=(HWr.out.bel.alloc (Nat.le_of_lt l1) _).trans (h1.mono zq19);have g1:=zE HB1.out;have g5:=zE HB5.out;have x0:w1.cell? ⟨w.heap.size,0,none⟩=some (.int .u32 pc):=zA HB1.out 0;have x1:w1.cell? ⟨w.heap.size,1,none⟩=some (.int .i64 count):=zA HB1.out 1;have x2:w1.cell? ⟨w.heap.size,2,none⟩=some (.int .i64 bytes):=zA HB1.out 2;have x3:w1.cell? ⟨w.heap.size,3,none⟩=some (.slice (some ⟨b,off,none⟩) n cap):=zA HB1.out 3;have y0:w1.cell? ⟨wr.heap.size,0,none⟩=some (.int .i64 o.kind):=zA HB5.out 0;have y1:w1.cell? ⟨wr.heap.size,1,none⟩=some (.int .i64 o.w):=zA HB5.out 1;have y2:w1.cell? ⟨wr.heap.size,2,none⟩=some (.int .i64 o.a):=zA HB5.out 2;have y3:w1.cell? ⟨wr.heap.size,3,none⟩=some (.int .i64 o.b):=zA HB5.out 3;have y4:w1.cell? ⟨wr.heap.size,4,none⟩=some (.int .i64 o.c):=zA HB5.out 4;have y5:w1.cell? ⟨wr.heap.size,5,none⟩=some (.int .u32 o.k):=zA HB5.out 5;have y6:w1.cell? ⟨wr.heap.size,6,none⟩=some (.int .i64 o.n):=zA HB5.out 6;have p1:wr.heap.size < w1.heap.size+1:=Nat.lt_succ_of_lt g5;have r1:w.heap.size < w1.heap.size+1:=Nat.lt_succ_of_lt g1;have p2:wr.heap.size < w1.heap.size+1+1:=Nat.lt_succ_of_lt p1;have r2:w.heap.size < w1.heap.size+1+1:=Nat.lt_succ_of_lt r1;have p3:wr.heap.size < w1.heap.size+1+1+1:=Nat.lt_succ_of_lt p2;have r3:w.heap.size < w1.heap.size+1+1+1:=Nat.lt_succ_of_lt r2;have p4:wr.heap.size < w1.heap.size+1+1+1+1:=Nat.lt_succ_of_lt p3;have r4:w.heap.size < w1.heap.size+1+1+1+1:=Nat.lt_succ_of_lt r3;have p5:wr.heap.size < w1.heap.size+1+1+1+1+1:=Nat.lt_succ_of_lt p4;have r5:w.heap.size < w1.heap.size+1+1+1+1+1:=Nat.lt_succ_of_lt r4;have p6:wr.heap.size < w1.heap.size+1+1+1+1+1+1:=Nat.lt_succ_of_lt p5;have r6:w.heap.size < w1.heap.size+1+1+1+1+1+1:=Nat.lt_succ_of_lt r5;have p7:wr.heap.size < w1.heap.size+1+1+1+1+1+1+1:=Nat.lt_succ_of_lt p6;have r7:w.heap.size < w1.heap.size+1+1+1+1+1+1+1:=Nat.lt_succ_of_lt r6;have p8:wr.heap.size < w1.heap.size+1+1+1+1+1+1+1+1:=Nat.lt_succ_of_lt p7;have r8:w.heap.size < w1.heap.size+1+1+1+1+1+1+1+1:=Nat.lt_succ_of_lt r7;have p9:wr.heap.size < w1.heap.size+1+1+1+1+1+1+1+1+1:=Nat.lt_succ_of_lt p8;have r9:w.heap.size < w1.heap.size+1+1+1+1+1+1+1+1+1:=Nat.lt_succ_of_lt r8;have p10:wr.heap.size < w1.heap.size+1+1+1+1+1+1+1+1+1+1:=Nat.lt_succ_of_lt p9;have r10:w.heap.size < w1.heap.size+1+1+1+1+1+1+1+1+1+1:=Nat.lt_succ_of_lt r9;have p11:wr.heap.size < w1.heap.size+1+1+1+1+1+1+1+1+1+1+1:=Nat.lt_succ_of_lt p10;have r11:w.heap.size < w1.heap.size+1+1+1+1+1+1+1+1+1+1+1:=Nat.lt_succ_of_lt r10;have p12:wr.heap.size < w1.heap.size+1+1+1+1+1+1+1+1+1+1+1+1:=Nat.lt_succ_of_lt p11;have r12:w.heap.size < w1.heap.size+1+1+1+1+1+1+1+1+1+1+1+1:=Nat.lt_succ_of_lt r11;clear h1))
   have HNW:Hid (NW w (w1.alloc (.cells #[.int .i64 fr,.int .i64 so,.string s] 63)) wr.heap.size w1.heap.size pc count bytes (some ⟨b,off,none⟩) n cap o fr so s):=⟨(yW _ _ _ g1).trans HB1.out,(yW _ _ _ g5).trans HB5.out,heap_alloc_last w1 _,HB1B.out.alloc (Nat.le_of_lt g1) _⟩
   by_cases hw0:o.w < fr
   ·have e0:decide (o.w < fr)=true:=decide_eq_true hw0
    have HN:Hid (E=(2,(j:Int))):=by show _=_;have h:q=2:=(by rw[HOE.out,HEO.out,e0];rfl);subst h;exact HBAD.out aD
    go_wp2
    go_ret2
    exact⟨by rw[HN.out];rfl,HNW.out.bel⟩
   have e0:decide (o.w < fr)=false:=decide_eq_false hw0
   by_cases hw1:fr+so≤o.w
   ·have e1:decide (fr+so≤o.w)=true:=decide_eq_true hw1
    have HN:Hid (E=(2,(j:Int))):=by show _=_;have h:q=2:=(by rw[HOE.out,HEO.out,e0,e1];rfl);subst h;exact HBAD.out aD
    go_wp2
    go_ret2
    exact⟨by rw[HN.out];rfl,HNW.out.bel⟩
   have e1:decide (fr+so≤o.w)=false:=decide_eq_false hw1
   have HEF:Hid (eOp o=false):=by show _=_;rw[HEO.out,e0,e1];rfl
   clear hw0 hw1
   go_upto_region 11 with fail
   dsimp only [List.append]
   clear e0 e1
   obtain⟨NP,NA,ND,NB⟩:∃ NP:World→Prop,Hid (NP (w1.alloc (.cells #[.int .i64 fr,.int .i64 so,.string s] 63)))∧Hid (∀ W o,NP W→NP (W.alloc o))∧Hid (∀ W,NP W→Below w.heap.size w W):=⟨fun W=>NW w W wr.heap.size w1.heap.size pc count bytes (some ⟨b,off,none⟩) n cap o fr so s,HNW.out,fun W o h=>NW.alloc h o,fun W h=>NW.bel h⟩
   have HN3:Hid (zG X o count=true→E=(3,(j:Int))):=show zG X o count=true→E=(3,(j:Int)) from fun hf=>by have h:q=3:=(by rw[HOE.out,HEF.out,hf];rfl);subst h;exact HBAD.out aD
   have hpat:=HPT.out
   clear HPT
   rcases hpat with ⟨hs,hx⟩|⟨hs,hx⟩|⟨hs,hx⟩|⟨hs,hx⟩|⟨hs,hx⟩|⟨hs,hx⟩|⟨hs,hx⟩|⟨hs,hx⟩|⟨hs,hx⟩|⟨hs,hx⟩
   ·as_aux_lemma=>
     obtain rfl:=HSS.out.symm.trans hs
     obtain rfl:=HFX.out.symm.trans hx
     clear hs hx
     by_cases h0:o.k≠0
     ·have f0:((o.k:Int) !=0)=true:=by simp;omega
      have HN:Hid (E=(3,(j:Int))):=HN3.out zq5
      clear h0
      go_wp2_with (first|(go_at_call 20;refine(zB9 _ fr so _ aS).mono ?_;rintro e w9 ⟨rfl,rfl⟩;simp only[zEX,Int.reduceBEq,Bool.true_or,Bool.false_or,Bool.or_self]))
      go_ret2
      exact⟨by rw[HN.out];rfl,(NB.out _ zq0)⟩
     have f0:((o.k:Int) !=0)=false:=by simp;omega
     by_cases h1:o.n≠0
     ·have f1:(o.n !=0)=true:=by simp;omega
      have HN:Hid (E=(3,(j:Int))):=HN3.out zq5
      clear h0 h1
      go_wp2_with (first|(go_at_call 20;refine(zB9 _ fr so _ aS).mono ?_;rintro e w9 ⟨rfl,rfl⟩;simp only[zEX,Int.reduceBEq,Bool.true_or,Bool.false_or,Bool.or_self]))
      go_ret2
      exact⟨by rw[HN.out];rfl,(NB.out _ zq0)⟩
     have f1:(o.n !=0)=false:=by simp;omega
     by_cases h2:o.n < 0
     ·have f2:decide (o.n < 0)=true:=decide_eq_true h2
      have HN:Hid (E=(3,(j:Int))):=HN3.out zq5
      clear h0 h1 h2
      go_wp2_with (first|(go_at_call 20;refine(zB9 _ fr so _ aS).mono ?_;rintro e w9 ⟨rfl,rfl⟩;simp only[zEX,Int.reduceBEq,Bool.true_or,Bool.false_or,Bool.or_self]))
      go_ret2
      exact⟨by rw[HN.out];rfl,(NB.out _ zq0)⟩
     have f2:decide (o.n < 0)=false:=decide_eq_false h2
     by_cases h3:count < o.n
     ·have f3:decide (count < o.n)=true:=decide_eq_true h3
      have HN:Hid (E=(3,(j:Int))):=HN3.out zq5
      clear h0 h1 h2 h3
      go_wp2_with (first|(go_at_call 20;refine(zB9 _ fr so _ aS).mono ?_;rintro e w9 ⟨rfl,rfl⟩;simp only[zEX,Int.reduceBEq,Bool.true_or,Bool.false_or,Bool.or_self]))
      go_ret2
      exact⟨by rw[HN.out];rfl,(NB.out _ zq0)⟩
     have f3:decide (count < o.n)=false:=decide_eq_false h3
     by_cases h4:o.a≠0
     ·have f4:(o.a !=0)=true:=by simp;omega
      have HN:Hid (E=(3,(j:Int))):=HN3.out zq5
      clear h0 h1 h2 h3 h4
      go_wp2_with (first|(go_at_call 20;refine(zB9 _ fr so _ aS).mono ?_;rintro e w9 ⟨rfl,rfl⟩;simp only[zEX,Int.reduceBEq,Bool.true_or,Bool.false_or,Bool.or_self]))
      go_ret2
      exact⟨by rw[HN.out];rfl,(NB.out _ zq0)⟩
     have f4:(o.a !=0)=false:=by simp;omega
     by_cases h5:o.b≠0
     ·have f5:(o.b !=0)=true:=by simp;omega
      have HN:Hid (E=(3,(j:Int))):=HN3.out zq5
      clear h0 h1 h2 h3 h4 h5
      go_wp2_with (first|(go_at_call 20;refine(zB9 _ fr so _ aS).mono ?_;rintro e w9 ⟨rfl,rfl⟩;simp only[zEX,Int.reduceBEq,Bool.true_or,Bool.false_or,Bool.or_self]))
      go_ret2
      exact⟨by rw[HN.out];rfl,(NB.out _ zq0)⟩
     have f5:(o.b !=0)=false:=by simp;omega
     by_cases h6:o.c≠0
     ·have f6:(o.c !=0)=true:=by simp;omega
      have HN:Hid (E=(3,(j:Int))):=HN3.out zq5
      clear h0 h1 h2 h3 h4 h5 h6
      go_wp2_with (first|(go_at_call 20;refine(zB9 _ fr so _ aS).mono ?_;rintro e w9 ⟨rfl,rfl⟩;simp only[zEX,Int.reduceBEq,Bool.true_or,Bool.false_or,Bool.or_self]))
      go_ret2
      exact⟨by rw[HN.out];rfl,(NB.out _ zq0)⟩
     have f6:(o.c !=0)=false:=by simp;omega
     have HFB:Hid (zG ⟨false,false,false,false,false,false⟩ o count=false):=by show _=_;have:=HCNT.out;first|(simp[zG,bd,bg];done)|(simp[zG,bd,bg];omega)
     clear h0 h1 h2 h3 h4 h5 h6
     go_upto_region 13 with (first|(go_at_call 20;refine(zB9 _ fr so _ aS).mono ?_;rintro e w9 ⟨rfl,rfl⟩;simp only[zEX,Int.reduceBEq,Bool.true_or,Bool.false_or,Bool.or_self]))
     clear f0 f1 f2 f3 f4 f5 f6
     have HTB:Hid (zK ⟨false,false,false,false,false,false⟩ o f j=false):=by show _=_;simp[zK,tk]
     go_upto_region 15 with (first|(go_at_call 20;refine(zB9 _ fr so _ aS).mono ?_;rintro e w9 ⟨rfl,rfl⟩;simp only[zEX,Int.reduceBEq,Bool.true_or,Bool.false_or,Bool.or_self])|(go_at_call 21;refine(yN pc count bytes (some ⟨b,off,none⟩) n cap j _ f _ ?_ (Nat.le_of_lt HLT.out)).mono ?_;(focus(exact HOB.out.below (NB.out _ zq0) aL));rintro e w8 ⟨rfl,rfl⟩;first|skip))
     obtain⟨en,HEN⟩:∃ en,Hid (zB5 o.kind=en):=⟨_,rfl⟩
     have HREN:Hid (R.ends=en):=by show _=_;rw[← HEN.out,zBH,HR.out]
     by_cases hlast:j+1=n
     ·have dl:decide ((j:Int)+1 < (n:Int))=false:=aF
      have HG0:Hid (q=0):=by show _=_;rw[HOE.out,HEF.out,HFB.out,HTB.out,decide_eq_false (fun h=>h hlast)];simp
      clear hlast
      cases en with
      | true=>
       go_wp2_with (go_at_call 22;refine(zO o.kind _).mono ?_;rintro e w3 ⟨rfl,rfl⟩;rw[HEN.out])
       go_round
       case rel=>exact⟨j+1,by go_num,HLT.out,HGOOD.out HG0.out,CW.mk (show NW w _ wr.heap.size w1.heap.size pc count bytes (some ⟨b,off,none⟩) n cap o fr so { data:=#[] } from zq6).b1 ((NB.out _ zq0))⟩
       case measure=>have:=HLT.out;simp[intOf];omega
      | false=>
       go_wp2_with (go_at_call 22;refine(zO o.kind _).mono ?_;rintro e w3 ⟨rfl,rfl⟩;rw[HEN.out])
       go_round
       case rel=>exact⟨j+1,by go_num,HLT.out,HGOOD.out HG0.out,CW.mk (show NW w _ wr.heap.size w1.heap.size pc count bytes (some ⟨b,off,none⟩) n cap o fr so { data:=#[] } from zq6).b1 ((NB.out _ zq0))⟩
       case measure=>have:=HLT.out;simp[intOf];omega
     ·have dl:decide ((j:Int)+1 < (n:Int))=true:=decide_eq_true zq47
      have hlast':=decide_eq_true hlast
      cases en with
      | true=>
       have HN:Hid (E=(7,(j:Int))):=by show _=_;have h:q=7:=zq20;subst h;exact HBAD.out aD
       clear hlast hlast'
       go_wp2_with (go_at_call 22;refine(zO o.kind _).mono ?_;rintro e w3 ⟨rfl,rfl⟩;rw[HEN.out])
       go_ret2
       exact⟨by rw[HN.out];rfl,(NB.out _ zq0)⟩
      | false=>
       have HG0:Hid (q=0):=by show _=_;rw[HOE.out,HEF.out,HFB.out,HTB.out,HREN.out];rfl
       clear hlast hlast'
       go_wp2_with (go_at_call 22;refine(zO o.kind _).mono ?_;rintro e w3 ⟨rfl,rfl⟩;rw[HEN.out])
       go_round
       case rel=>exact⟨j+1,by go_num,HLT.out,HGOOD.out HG0.out,CW.mk (show NW w _ wr.heap.size w1.heap.size pc count bytes (some ⟨b,off,none⟩) n cap o fr so { data:=#[] } from zq6).b1 ((NB.out _ zq0))⟩
       case measure=>have:=HLT.out;simp[intOf];omega
   ·as_aux_lemma=>
     obtain rfl:=HSS.out.symm.trans hs
     obtain rfl:=HFX.out.symm.trans hx
     clear hs hx
     by_cases h0:o.n≠0
     ·have f0:(o.n !=0)=true:=by simp;omega
      have HN:Hid (E=(3,(j:Int))):=HN3.out zq5
      clear h0
      go_wp2_with (first|(go_at_call 20;refine(zBR _ fr so _ aS).mono ?_;rintro e w9 ⟨rfl,rfl⟩;simp only[zC6,Int.reduceBEq,Bool.true_or,Bool.false_or,Bool.or_self]))
      go_ret2
      exact⟨by rw[HN.out];rfl,(NB.out _ zq0)⟩
     have f0:(o.n !=0)=false:=by simp;omega
     by_cases h1:o.n < 0
     ·have f1:decide (o.n < 0)=true:=decide_eq_true h1
      have HN:Hid (E=(3,(j:Int))):=HN3.out zq5
      clear h0 h1
      go_wp2_with (first|(go_at_call 20;refine(zBR _ fr so _ aS).mono ?_;rintro e w9 ⟨rfl,rfl⟩;simp only[zC6,Int.reduceBEq,Bool.true_or,Bool.false_or,Bool.or_self]))
      go_ret2
      exact⟨by rw[HN.out];rfl,(NB.out _ zq0)⟩
     have f1:decide (o.n < 0)=false:=decide_eq_false h1
     by_cases h2:count < o.n
     ·have f2:decide (count < o.n)=true:=decide_eq_true h2
      have HN:Hid (E=(3,(j:Int))):=HN3.out zq5
      clear h0 h1 h2
      go_wp2_with (first|(go_at_call 20;refine(zBR _ fr so _ aS).mono ?_;rintro e w9 ⟨rfl,rfl⟩;simp only[zC6,Int.reduceBEq,Bool.true_or,Bool.false_or,Bool.or_self]))
      go_ret2
      exact⟨by rw[HN.out];rfl,(NB.out _ zq0)⟩
     have f2:decide (count < o.n)=false:=decide_eq_false h2
     by_cases h3:o.a≠0
     ·have f3:(o.a !=0)=true:=by simp;omega
      have HN:Hid (E=(3,(j:Int))):=HN3.out zq5
      clear h0 h1 h2 h3
      go_wp2_with (first|(go_at_call 20;refine(zBR _ fr so _ aS).mono ?_;rintro e w9 ⟨rfl,rfl⟩;simp only[zC6,Int.reduceBEq,Bool.true_or,Bool.false_or,Bool.or_self]))
      go_ret2
      exact⟨by rw[HN.out];rfl,(NB.out _ zq0)⟩
     have f3:(o.a !=0)=false:=by simp;omega
     by_cases h4:o.b≠0
     ·have f4:(o.b !=0)=true:=by simp;omega
      have HN:Hid (E=(3,(j:Int))):=HN3.out zq5
      clear h0 h1 h2 h3 h4
      go_wp2_with (first|(go_at_call 20;refine(zBR _ fr so _ aS).mono ?_;rintro e w9 ⟨rfl,rfl⟩;simp only[zC6,Int.reduceBEq,Bool.true_or,Bool.false_or,Bool.or_self]))
      go_ret2
      exact⟨by rw[HN.out];rfl,(NB.out _ zq0)⟩
     have f4:(o.b !=0)=false:=by simp;omega
     by_cases h5:o.c≠0
     ·have f5:(o.c !=0)=true:=by simp;omega
      have HN:Hid (E=(3,(j:Int))):=HN3.out zq5
      clear h0 h1 h2 h3 h4 h5
      go_wp2_with (first|(go_at_call 20;refine(zBR _ fr so _ aS).mono ?_;rintro e w9 ⟨rfl,rfl⟩;simp only[zC6,Int.reduceBEq,Bool.true_or,Bool.false_or,Bool.or_self]))
      go_ret2
      exact⟨by rw[HN.out];rfl,(NB.out _ zq0)⟩
     have f5:(o.c !=0)=false:=by simp;omega
     have HFB:Hid (zG ⟨false,false,false,true,false,false⟩ o count=false):=by show _=_;have:=HCNT.out;first|(simp[zG,bd,bg];done)|(simp[zG,bd,bg];omega)
     clear h0 h1 h2 h3 h4 h5
     go_upto_region 13 with (first|(go_at_call 20;refine(zBR _ fr so _ aS).mono ?_;rintro e w9 ⟨rfl,rfl⟩;simp only[zC6,Int.reduceBEq,Bool.true_or,Bool.false_or,Bool.or_self]))
     clear f0 f1 f2 f3 f4 f5
     have HTB:Hid (zK ⟨false,false,false,true,false,false⟩ o f j=false):=by show _=_;simp[zK,tk]
     go_upto_region 15 with (first|(go_at_call 20;refine(zBR _ fr so _ aS).mono ?_;rintro e w9 ⟨rfl,rfl⟩;simp only[zC6,Int.reduceBEq,Bool.true_or,Bool.false_or,Bool.or_self])|(go_at_call 21;refine(yN pc count bytes (some ⟨b,off,none⟩) n cap j _ f _ ?_ (Nat.le_of_lt HLT.out)).mono ?_;(focus(exact HOB.out.below (NB.out _ zq0) aL));rintro e w8 ⟨rfl,rfl⟩;first|skip))
     obtain⟨en,HEN⟩:∃ en,Hid (zB5 o.kind=en):=⟨_,rfl⟩
     have HREN:Hid (R.ends=en):=by show _=_;rw[← HEN.out,zBH,HR.out]
     by_cases hlast:j+1=n
     ·have dl:decide ((j:Int)+1 < (n:Int))=false:=aF
      have HG0:Hid (q=0):=by show _=_;rw[HOE.out,HEF.out,HFB.out,HTB.out,decide_eq_false (fun h=>h hlast)];simp
      clear hlast
      cases en with
      | true=>
       go_wp2_with (go_at_call 22;refine(zO o.kind _).mono ?_;rintro e w3 ⟨rfl,rfl⟩;rw[HEN.out])
       go_round
       case rel=>exact⟨j+1,by go_num,HLT.out,HGOOD.out HG0.out,CW.mk (show NW w _ wr.heap.size w1.heap.size pc count bytes (some ⟨b,off,none⟩) n cap o fr so { data:=#[107] } from zq6).b1 ((NB.out _ zq0))⟩
       case measure=>have:=HLT.out;simp[intOf];omega
      | false=>
       go_wp2_with (go_at_call 22;refine(zO o.kind _).mono ?_;rintro e w3 ⟨rfl,rfl⟩;rw[HEN.out])
       go_round
       case rel=>exact⟨j+1,by go_num,HLT.out,HGOOD.out HG0.out,CW.mk (show NW w _ wr.heap.size w1.heap.size pc count bytes (some ⟨b,off,none⟩) n cap o fr so { data:=#[107] } from zq6).b1 ((NB.out _ zq0))⟩
       case measure=>have:=HLT.out;simp[intOf];omega
     ·have dl:decide ((j:Int)+1 < (n:Int))=true:=decide_eq_true zq47
      have hlast':=decide_eq_true hlast
      cases en with
      | true=>
       have HN:Hid (E=(7,(j:Int))):=by show _=_;have h:q=7:=zq20;subst h;exact HBAD.out aD
       clear hlast hlast'
       go_wp2_with (go_at_call 22;refine(zO o.kind _).mono ?_;rintro e w3 ⟨rfl,rfl⟩;rw[HEN.out])
       go_ret2
       exact⟨by rw[HN.out];rfl,(NB.out _ zq0)⟩
      | false=>
       have HG0:Hid (q=0):=by show _=_;rw[HOE.out,HEF.out,HFB.out,HTB.out,HREN.out];rfl
       clear hlast hlast'
       go_wp2_with (go_at_call 22;refine(zO o.kind _).mono ?_;rintro e w3 ⟨rfl,rfl⟩;rw[HEN.out])
       go_round
       case rel=>exact⟨j+1,by go_num,HLT.out,HGOOD.out HG0.out,CW.mk (show NW w _ wr.heap.size w1.heap.size pc count bytes (some ⟨b,off,none⟩) n cap o fr so { data:=#[107] } from zq6).b1 ((NB.out _ zq0))⟩
       case measure=>have:=HLT.out;simp[intOf];omega
   ·as_aux_lemma=>
     obtain rfl:=HSS.out.symm.trans hs
     obtain rfl:=HFX.out.symm.trans hx
     clear hs hx
     by_cases h0:o.k≠0
     ·have f0:((o.k:Int) !=0)=true:=by simp;omega
      have HN:Hid (E=(3,(j:Int))):=HN3.out zq5
      clear h0
      go_wp2_with (first|(go_at_call 20;refine(zBA _ fr so _ aS).mono ?_;rintro e w9 ⟨rfl,rfl⟩;simp only[zCT,Int.reduceBEq,Bool.true_or,Bool.false_or,Bool.or_self]))
      go_ret2
      exact⟨by rw[HN.out];rfl,(NB.out _ zq0)⟩
     have f0:((o.k:Int) !=0)=false:=by simp;omega
     by_cases h1:o.n≠0
     ·have f1:(o.n !=0)=true:=by simp;omega
      have HN:Hid (E=(3,(j:Int))):=HN3.out zq5
      clear h0 h1
      go_wp2_with (first|(go_at_call 20;refine(zBA _ fr so _ aS).mono ?_;rintro e w9 ⟨rfl,rfl⟩;simp only[zCT,Int.reduceBEq,Bool.true_or,Bool.false_or,Bool.or_self]))
      go_ret2
      exact⟨by rw[HN.out];rfl,(NB.out _ zq0)⟩
     have f1:(o.n !=0)=false:=by simp;omega
     by_cases h2:o.n < 0
     ·have f2:decide (o.n < 0)=true:=decide_eq_true h2
      have HN:Hid (E=(3,(j:Int))):=HN3.out zq5
      clear h0 h1 h2
      go_wp2_with (first|(go_at_call 20;refine(zBA _ fr so _ aS).mono ?_;rintro e w9 ⟨rfl,rfl⟩;simp only[zCT,Int.reduceBEq,Bool.true_or,Bool.false_or,Bool.or_self]))
      go_ret2
      exact⟨by rw[HN.out];rfl,(NB.out _ zq0)⟩
     have f2:decide (o.n < 0)=false:=decide_eq_false h2
     by_cases h3:count < o.n
     ·have f3:decide (count < o.n)=true:=decide_eq_true h3
      have HN:Hid (E=(3,(j:Int))):=HN3.out zq5
      clear h0 h1 h2 h3
      go_wp2_with (first|(go_at_call 20;refine(zBA _ fr so _ aS).mono ?_;rintro e w9 ⟨rfl,rfl⟩;simp only[zCT,Int.reduceBEq,Bool.true_or,Bool.false_or,Bool.or_self]))
      go_ret2
      exact⟨by rw[HN.out];rfl,(NB.out _ zq0)⟩
     have f3:decide (count < o.n)=false:=decide_eq_false h3
     by_cases h4:o.b≠0
     ·have f4:(o.b !=0)=true:=by simp;omega
      have HN:Hid (E=(3,(j:Int))):=HN3.out zq5
      clear h0 h1 h2 h3 h4
      go_wp2_with (first|(go_at_call 20;refine(zBA _ fr so _ aS).mono ?_;rintro e w9 ⟨rfl,rfl⟩;simp only[zCT,Int.reduceBEq,Bool.true_or,Bool.false_or,Bool.or_self]))
      go_ret2
      exact⟨by rw[HN.out];rfl,(NB.out _ zq0)⟩
     have f4:(o.b !=0)=false:=by simp;omega
     by_cases h5:o.c≠0
     ·have f5:(o.c !=0)=true:=by simp;omega
      have HN:Hid (E=(3,(j:Int))):=HN3.out zq5
      clear h0 h1 h2 h3 h4 h5
      go_wp2_with (first|(go_at_call 20;refine(zBA _ fr so _ aS).mono ?_;rintro e w9 ⟨rfl,rfl⟩;simp only[zCT,Int.reduceBEq,Bool.true_or,Bool.false_or,Bool.or_self]))
      go_ret2
      exact⟨by rw[HN.out];rfl,(NB.out _ zq0)⟩
     have f5:(o.c !=0)=false:=by simp;omega
     have HFB:Hid (zG ⟨true,false,false,false,false,false⟩ o count=false):=by show _=_;have:=HCNT.out;first|(simp[zG,bd,bg];done)|(simp[zG,bd,bg];omega)
     clear h0 h1 h2 h3 h4 h5
     go_upto_region 13 with (first|(go_at_call 20;refine(zBA _ fr so _ aS).mono ?_;rintro e w9 ⟨rfl,rfl⟩;simp only[zCT,Int.reduceBEq,Bool.true_or,Bool.false_or,Bool.or_self]))
     clear f0 f1 f2 f3 f4 f5
     obtain⟨ga,HGa⟩:∃ g,Hid (gvn f j o.a=g):=⟨_,rfl⟩
     cases ga with
     | false=>
      have HTB:Hid (zK ⟨true,false,false,false,false,false⟩ o f j=true):=by show _=_;simp[zK,tk,HGa.out]
      have HN:Hid (E=(6,(j:Int))):=by show _=_;have h:q=6:=zq24;subst h;exact HBAD.out aD
      go_wp2_with (first|(go_at_call 20;refine(zBA _ fr so _ aS).mono ?_;rintro e w9 ⟨rfl,rfl⟩;simp only[zCT,Int.reduceBEq,Bool.true_or,Bool.false_or,Bool.or_self])|(go_at_call 21;refine(yN pc count bytes (some ⟨b,off,none⟩) n cap j _ f _ ?_ (Nat.le_of_lt HLT.out)).mono ?_;(focus(exact HOB.out.below (NB.out _ zq0) aL));rintro e w8 ⟨rfl,rfl⟩;first|rw[HGa.out]))
      go_ret2
      exact⟨by rw[HN.out];rfl,(NB.out _ zq0)⟩
     | true=>
     have HTB:Hid (zK ⟨true,false,false,false,false,false⟩ o f j=false):=by show _=_;simp[zK,tk,HGa.out]
     go_upto_region 15 with (first|(go_at_call 20;refine(zBA _ fr so _ aS).mono ?_;rintro e w9 ⟨rfl,rfl⟩;simp only[zCT,Int.reduceBEq,Bool.true_or,Bool.false_or,Bool.or_self])|(go_at_call 21;refine(yN pc count bytes (some ⟨b,off,none⟩) n cap j _ f _ ?_ (Nat.le_of_lt HLT.out)).mono ?_;(focus(exact HOB.out.below (NB.out _ zq0) aL));rintro e w8 ⟨rfl,rfl⟩;first|rw[HGa.out]))
     obtain⟨en,HEN⟩:∃ en,Hid (zB5 o.kind=en):=⟨_,rfl⟩
     have HREN:Hid (R.ends=en):=by show _=_;rw[← HEN.out,zBH,HR.out]
     by_cases hlast:j+1=n
     ·have dl:decide ((j:Int)+1 < (n:Int))=false:=aF
      have HG0:Hid (q=0):=by show _=_;rw[HOE.out,HEF.out,HFB.out,HTB.out,decide_eq_false (fun h=>h hlast)];simp
      clear hlast
      cases en with
      | true=>
       go_wp2_with (go_at_call 22;refine(zO o.kind _).mono ?_;rintro e w3 ⟨rfl,rfl⟩;rw[HEN.out])
       go_round
       case rel=>exact⟨j+1,by go_num,HLT.out,HGOOD.out HG0.out,CW.mk (show NW w _ wr.heap.size w1.heap.size pc count bytes (some ⟨b,off,none⟩) n cap o fr so { data:=#[97] } from zq6).b1 ((NB.out _ zq0))⟩
       case measure=>have:=HLT.out;simp[intOf];omega
      | false=>
       go_wp2_with (go_at_call 22;refine(zO o.kind _).mono ?_;rintro e w3 ⟨rfl,rfl⟩;rw[HEN.out])
       go_round
       case rel=>exact⟨j+1,by go_num,HLT.out,HGOOD.out HG0.out,CW.mk (show NW w _ wr.heap.size w1.heap.size pc count bytes (some ⟨b,off,none⟩) n cap o fr so { data:=#[97] } from zq6).b1 ((NB.out _ zq0))⟩
       case measure=>have:=HLT.out;simp[intOf];omega
     ·have dl:decide ((j:Int)+1 < (n:Int))=true:=decide_eq_true zq47
      have hlast':=decide_eq_true hlast
      cases en with
      | true=>
       have HN:Hid (E=(7,(j:Int))):=by show _=_;have h:q=7:=zq20;subst h;exact HBAD.out aD
       clear hlast hlast'
       go_wp2_with (go_at_call 22;refine(zO o.kind _).mono ?_;rintro e w3 ⟨rfl,rfl⟩;rw[HEN.out])
       go_ret2
       exact⟨by rw[HN.out];rfl,(NB.out _ zq0)⟩
      | false=>
       have HG0:Hid (q=0):=by show _=_;rw[HOE.out,HEF.out,HFB.out,HTB.out,HREN.out];rfl
       clear hlast hlast'
       go_wp2_with (go_at_call 22;refine(zO o.kind _).mono ?_;rintro e w3 ⟨rfl,rfl⟩;rw[HEN.out])
       go_round
       case rel=>exact⟨j+1,by go_num,HLT.out,HGOOD.out HG0.out,CW.mk (show NW w _ wr.heap.size w1.heap.size pc count bytes (some ⟨b,off,none⟩) n cap o fr so { data:=#[97] } from zq6).b1 ((NB.out _ zq0))⟩
       case measure=>have:=HLT.out;simp[intOf];omega
   ·as_aux_lemma=>
     obtain rfl:=HSS.out.symm.trans hs
     obtain rfl:=HFX.out.symm.trans hx
     clear hs hx
     by_cases h0:o.k≠0
     ·have f0:((o.k:Int) !=0)=true:=by simp;omega
      have HN:Hid (E=(3,(j:Int))):=HN3.out zq5
      clear h0
      go_wp2_with (first|(go_at_call 20;refine(zA5 _ fr so _ aS).mono ?_;rintro e w9 ⟨rfl,rfl⟩;simp only[zBW,Int.reduceBEq,Bool.true_or,Bool.false_or,Bool.or_self]))
      go_ret2
      exact⟨by rw[HN.out];rfl,(NB.out _ zq0)⟩
     have f0:((o.k:Int) !=0)=false:=by simp;omega
     by_cases h1:o.n≠0
     ·have f1:(o.n !=0)=true:=by simp;omega
      have HN:Hid (E=(3,(j:Int))):=HN3.out zq5
      clear h0 h1
      go_wp2_with (first|(go_at_call 20;refine(zA5 _ fr so _ aS).mono ?_;rintro e w9 ⟨rfl,rfl⟩;simp only[zBW,Int.reduceBEq,Bool.true_or,Bool.false_or,Bool.or_self]))
      go_ret2
      exact⟨by rw[HN.out];rfl,(NB.out _ zq0)⟩
     have f1:(o.n !=0)=false:=by simp;omega
     by_cases h2:o.n < 0
     ·have f2:decide (o.n < 0)=true:=decide_eq_true h2
      have HN:Hid (E=(3,(j:Int))):=HN3.out zq5
      clear h0 h1 h2
      go_wp2_with (first|(go_at_call 20;refine(zA5 _ fr so _ aS).mono ?_;rintro e w9 ⟨rfl,rfl⟩;simp only[zBW,Int.reduceBEq,Bool.true_or,Bool.false_or,Bool.or_self]))
      go_ret2
      exact⟨by rw[HN.out];rfl,(NB.out _ zq0)⟩
     have f2:decide (o.n < 0)=false:=decide_eq_false h2
     by_cases h3:count < o.n
     ·have f3:decide (count < o.n)=true:=decide_eq_true h3
      have HN:Hid (E=(3,(j:Int))):=HN3.out zq5
      clear h0 h1 h2 h3
      go_wp2_with (first|(go_at_call 20;refine(zA5 _ fr so _ aS).mono ?_;rintro e w9 ⟨rfl,rfl⟩;simp only[zBW,Int.reduceBEq,Bool.true_or,Bool.false_or,Bool.or_self]))
      go_ret2
      exact⟨by rw[HN.out];rfl,(NB.out _ zq0)⟩
     have f3:decide (count < o.n)=false:=decide_eq_false h3
     by_cases h4:o.c≠0
     ·have f4:(o.c !=0)=true:=by simp;omega
      have HN:Hid (E=(3,(j:Int))):=HN3.out zq5
      clear h0 h1 h2 h3 h4
      go_wp2_with (first|(go_at_call 20;refine(zA5 _ fr so _ aS).mono ?_;rintro e w9 ⟨rfl,rfl⟩;simp only[zBW,Int.reduceBEq,Bool.true_or,Bool.false_or,Bool.or_self]))
      go_ret2
      exact⟨by rw[HN.out];rfl,(NB.out _ zq0)⟩
     have f4:(o.c !=0)=false:=by simp;omega
     have HFB:Hid (zG ⟨true,true,false,false,false,false⟩ o count=false):=by show _=_;have:=HCNT.out;first|(simp[zG,bd,bg];done)|(simp[zG,bd,bg];omega)
     clear h0 h1 h2 h3 h4
     go_upto_region 13 with (first|(go_at_call 20;refine(zA5 _ fr so _ aS).mono ?_;rintro e w9 ⟨rfl,rfl⟩;simp only[zBW,Int.reduceBEq,Bool.true_or,Bool.false_or,Bool.or_self]))
     clear f0 f1 f2 f3 f4
     obtain⟨ga,HGa⟩:∃ g,Hid (gvn f j o.a=g):=⟨_,rfl⟩
     obtain⟨gb,HGb⟩:∃ g,Hid (gvn f j o.b=g):=⟨_,rfl⟩
     cases ga with
     | false=>
      have HTB:Hid (zK ⟨true,true,false,false,false,false⟩ o f j=true):=by show _=_;simp[zK,tk,HGa.out]
      have HN:Hid (E=(6,(j:Int))):=by show _=_;have h:q=6:=zq24;subst h;exact HBAD.out aD
      go_wp2_with (first|(go_at_call 20;refine(zA5 _ fr so _ aS).mono ?_;rintro e w9 ⟨rfl,rfl⟩;simp only[zBW,Int.reduceBEq,Bool.true_or,Bool.false_or,Bool.or_self])|(go_at_call 21;refine(yN pc count bytes (some ⟨b,off,none⟩) n cap j _ f _ ?_ (Nat.le_of_lt HLT.out)).mono ?_;(focus(exact HOB.out.below (NB.out _ zq0) aL));rintro e w8 ⟨rfl,rfl⟩;first|rw[HGa.out]|rw[HGb.out]))
      go_ret2
      exact⟨by rw[HN.out];rfl,(NB.out _ zq0)⟩
     | true=>
     cases gb with
     | false=>
      have HTB:Hid (zK ⟨true,true,false,false,false,false⟩ o f j=true):=by show _=_;simp[zK,tk,HGa.out,HGb.out]
      have HN:Hid (E=(6,(j:Int))):=by show _=_;have h:q=6:=zq24;subst h;exact HBAD.out aD
      go_wp2_with (first|(go_at_call 20;refine(zA5 _ fr so _ aS).mono ?_;rintro e w9 ⟨rfl,rfl⟩;simp only[zBW,Int.reduceBEq,Bool.true_or,Bool.false_or,Bool.or_self])|(go_at_call 21;refine(yN pc count bytes (some ⟨b,off,none⟩) n cap j _ f _ ?_ (Nat.le_of_lt HLT.out)).mono ?_;(focus(exact HOB.out.below (NB.out _ zq0) aL));rintro e w8 ⟨rfl,rfl⟩;first|rw[HGa.out]|rw[HGb.out]))
      go_ret2
      exact⟨by rw[HN.out];rfl,(NB.out _ zq0)⟩
     | true=>
     have HTB:Hid (zK ⟨true,true,false,false,false,false⟩ o f j=false):=by show _=_;simp[zK,tk,HGa.out,HGb.out]
     go_upto_region 15 with (first|(go_at_call 20;refine(zA5 _ fr so _ aS).mono ?_;rintro e w9 ⟨rfl,rfl⟩;simp only[zBW,Int.reduceBEq,Bool.true_or,Bool.false_or,Bool.or_self])|(go_at_call 21;refine(yN pc count bytes (some ⟨b,off,none⟩) n cap j _ f _ ?_ (Nat.le_of_lt HLT.out)).mono ?_;(focus(exact HOB.out.below (NB.out _ zq0) aL));rintro e w8 ⟨rfl,rfl⟩;first|rw[HGa.out]|rw[HGb.out]))
     obtain⟨en,HEN⟩:∃ en,Hid (zB5 o.kind=en):=⟨_,rfl⟩
     have HREN:Hid (R.ends=en):=by show _=_;rw[← HEN.out,zBH,HR.out]
     by_cases hlast:j+1=n
     ·have dl:decide ((j:Int)+1 < (n:Int))=false:=aF
      have HG0:Hid (q=0):=by show _=_;rw[HOE.out,HEF.out,HFB.out,HTB.out,decide_eq_false (fun h=>h hlast)];simp
      clear hlast
      cases en with
      | true=>
       go_wp2_with (go_at_call 22;refine(zO o.kind _).mono ?_;rintro e w3 ⟨rfl,rfl⟩;rw[HEN.out])
       go_round
       case rel=>exact⟨j+1,by go_num,HLT.out,HGOOD.out HG0.out,CW.mk (show NW w _ wr.heap.size w1.heap.size pc count bytes (some ⟨b,off,none⟩) n cap o fr so { data:=#[97,98] } from zq6).b1 ((NB.out _ zq0))⟩
       case measure=>have:=HLT.out;simp[intOf];omega
      | false=>
       go_wp2_with (go_at_call 22;refine(zO o.kind _).mono ?_;rintro e w3 ⟨rfl,rfl⟩;rw[HEN.out])
       go_round
       case rel=>exact⟨j+1,by go_num,HLT.out,HGOOD.out HG0.out,CW.mk (show NW w _ wr.heap.size w1.heap.size pc count bytes (some ⟨b,off,none⟩) n cap o fr so { data:=#[97,98] } from zq6).b1 ((NB.out _ zq0))⟩
       case measure=>have:=HLT.out;simp[intOf];omega
     ·have dl:decide ((j:Int)+1 < (n:Int))=true:=decide_eq_true zq47
      have hlast':=decide_eq_true hlast
      cases en with
      | true=>
       have HN:Hid (E=(7,(j:Int))):=by show _=_;have h:q=7:=zq20;subst h;exact HBAD.out aD
       clear hlast hlast'
       go_wp2_with (go_at_call 22;refine(zO o.kind _).mono ?_;rintro e w3 ⟨rfl,rfl⟩;rw[HEN.out])
       go_ret2
       exact⟨by rw[HN.out];rfl,(NB.out _ zq0)⟩
      | false=>
       have HG0:Hid (q=0):=by show _=_;rw[HOE.out,HEF.out,HFB.out,HTB.out,HREN.out];rfl
       clear hlast hlast'
       go_wp2_with (go_at_call 22;refine(zO o.kind _).mono ?_;rintro e w3 ⟨rfl,rfl⟩;rw[HEN.out])
       go_round
       case rel=>exact⟨j+1,by go_num,HLT.out,HGOOD.out HG0.out,CW.mk (show NW w _ wr.heap.size w1.heap.size pc count bytes (some ⟨b,off,none⟩) n cap o fr so { data:=#[97,98] } from zq6).b1 ((NB.out _ zq0))⟩
       case measure=>have:=HLT.out;simp[intOf];omega
   ·as_aux_lemma=>
     obtain rfl:=HSS.out.symm.trans hs
     obtain rfl:=HFX.out.symm.trans hx
     clear hs hx
     by_cases h0:o.k≠0
     ·have f0:((o.k:Int) !=0)=true:=by simp;omega
      have HN:Hid (E=(3,(j:Int))):=HN3.out zq5
      clear h0
      go_wp2_with (first|(go_at_call 20;refine(zAv _ fr so _ aS).mono ?_;rintro e w9 ⟨rfl,rfl⟩;simp only[zBd,Int.reduceBEq,Bool.true_or,Bool.false_or,Bool.or_self]))
      go_ret2
      exact⟨by rw[HN.out];rfl,(NB.out _ zq0)⟩
     have f0:((o.k:Int) !=0)=false:=by simp;omega
     by_cases h1:o.n≠0
     ·have f1:(o.n !=0)=true:=by simp;omega
      have HN:Hid (E=(3,(j:Int))):=HN3.out zq5
      clear h0 h1
      go_wp2_with (first|(go_at_call 20;refine(zAv _ fr so _ aS).mono ?_;rintro e w9 ⟨rfl,rfl⟩;simp only[zBd,Int.reduceBEq,Bool.true_or,Bool.false_or,Bool.or_self]))
      go_ret2
      exact⟨by rw[HN.out];rfl,(NB.out _ zq0)⟩
     have f1:(o.n !=0)=false:=by simp;omega
     by_cases h2:o.n < 0
     ·have f2:decide (o.n < 0)=true:=decide_eq_true h2
      have HN:Hid (E=(3,(j:Int))):=HN3.out zq5
      clear h0 h1 h2
      go_wp2_with (first|(go_at_call 20;refine(zAv _ fr so _ aS).mono ?_;rintro e w9 ⟨rfl,rfl⟩;simp only[zBd,Int.reduceBEq,Bool.true_or,Bool.false_or,Bool.or_self]))
      go_ret2
      exact⟨by rw[HN.out];rfl,(NB.out _ zq0)⟩
     have f2:decide (o.n < 0)=false:=decide_eq_false h2
     by_cases h3:count < o.n
     ·have f3:decide (count < o.n)=true:=decide_eq_true h3
      have HN:Hid (E=(3,(j:Int))):=HN3.out zq5
      clear h0 h1 h2 h3
      go_wp2_with (first|(go_at_call 20;refine(zAv _ fr so _ aS).mono ?_;rintro e w9 ⟨rfl,rfl⟩;simp only[zBd,Int.reduceBEq,Bool.true_or,Bool.false_or,Bool.or_self]))
      go_ret2
      exact⟨by rw[HN.out];rfl,(NB.out _ zq0)⟩
     have f3:decide (count < o.n)=false:=decide_eq_false h3
     have HFB:Hid (zG ⟨true,true,true,false,false,false⟩ o count=false):=by show _=_;have:=HCNT.out;first|(simp[zG,bd,bg];done)|(simp[zG,bd,bg];omega)
     clear h0 h1 h2 h3
     go_upto_region 13 with (first|(go_at_call 20;refine(zAv _ fr so _ aS).mono ?_;rintro e w9 ⟨rfl,rfl⟩;simp only[zBd,Int.reduceBEq,Bool.true_or,Bool.false_or,Bool.or_self]))
     clear f0 f1 f2 f3
     obtain⟨ga,HGa⟩:∃ g,Hid (gvn f j o.a=g):=⟨_,rfl⟩
     obtain⟨gb,HGb⟩:∃ g,Hid (gvn f j o.b=g):=⟨_,rfl⟩
     obtain⟨gc,HGc⟩:∃ g,Hid (gvn f j o.c=g):=⟨_,rfl⟩
     cases ga with
     | false=>
      have HTB:Hid (zK ⟨true,true,true,false,false,false⟩ o f j=true):=by show _=_;simp[zK,tk,HGa.out]
      have HN:Hid (E=(6,(j:Int))):=by show _=_;have h:q=6:=zq24;subst h;exact HBAD.out aD
      go_wp2_with (first|(go_at_call 20;refine(zAv _ fr so _ aS).mono ?_;rintro e w9 ⟨rfl,rfl⟩;simp only[zBd,Int.reduceBEq,Bool.true_or,Bool.false_or,Bool.or_self])|(go_at_call 21;refine(yN pc count bytes (some ⟨b,off,none⟩) n cap j _ f _ ?_ (Nat.le_of_lt HLT.out)).mono ?_;(focus(exact HOB.out.below (NB.out _ zq0) aL));rintro e w8 ⟨rfl,rfl⟩;first|rw[HGa.out]|rw[HGb.out]|rw[HGc.out]))
      go_ret2
      exact⟨by rw[HN.out];rfl,(NB.out _ zq0)⟩
     | true=>
     cases gb with
     | false=>
      have HTB:Hid (zK ⟨true,true,true,false,false,false⟩ o f j=true):=by show _=_;simp[zK,tk,HGa.out,HGb.out]
      have HN:Hid (E=(6,(j:Int))):=by show _=_;have h:q=6:=zq24;subst h;exact HBAD.out aD
      go_wp2_with (first|(go_at_call 20;refine(zAv _ fr so _ aS).mono ?_;rintro e w9 ⟨rfl,rfl⟩;simp only[zBd,Int.reduceBEq,Bool.true_or,Bool.false_or,Bool.or_self])|(go_at_call 21;refine(yN pc count bytes (some ⟨b,off,none⟩) n cap j _ f _ ?_ (Nat.le_of_lt HLT.out)).mono ?_;(focus(exact HOB.out.below (NB.out _ zq0) aL));rintro e w8 ⟨rfl,rfl⟩;first|rw[HGa.out]|rw[HGb.out]|rw[HGc.out]))
      go_ret2
      exact⟨by rw[HN.out];rfl,(NB.out _ zq0)⟩
     | true=>
     cases gc with
     | false=>
      have HTB:Hid (zK ⟨true,true,true,false,false,false⟩ o f j=true):=by show _=_;simp[zK,tk,HGa.out,HGb.out,HGc.out]
      have HN:Hid (E=(6,(j:Int))):=by show _=_;have h:q=6:=zq24;subst h;exact HBAD.out aD
      go_wp2_with (first|(go_at_call 20;refine(zAv _ fr so _ aS).mono ?_;rintro e w9 ⟨rfl,rfl⟩;simp only[zBd,Int.reduceBEq,Bool.true_or,Bool.false_or,Bool.or_self])|(go_at_call 21;refine(yN pc count bytes (some ⟨b,off,none⟩) n cap j _ f _ ?_ (Nat.le_of_lt HLT.out)).mono ?_;(focus(exact HOB.out.below (NB.out _ zq0) aL));rintro e w8 ⟨rfl,rfl⟩;first|rw[HGa.out]|rw[HGb.out]|rw[HGc.out]))
      go_ret2
      exact⟨by rw[HN.out];rfl,(NB.out _ zq0)⟩
     | true=>
     have HTB:Hid (zK ⟨true,true,true,false,false,false⟩ o f j=false):=by show _=_;simp[zK,tk,HGa.out,HGb.out,HGc.out]
     go_upto_region 15 with (first|(go_at_call 20;refine(zAv _ fr so _ aS).mono ?_;rintro e w9 ⟨rfl,rfl⟩;simp only[zBd,Int.reduceBEq,Bool.true_or,Bool.false_or,Bool.or_self])|(go_at_call 21;refine(yN pc count bytes (some ⟨b,off,none⟩) n cap j _ f _ ?_ (Nat.le_of_lt HLT.out)).mono ?_;(focus(exact HOB.out.below (NB.out _ zq0) aL));rintro e w8 ⟨rfl,rfl⟩;first|rw[HGa.out]|rw[HGb.out]|rw[HGc.out]))
     obtain⟨en,HEN⟩:∃ en,Hid (zB5 o.kind=en):=⟨_,rfl⟩
     have HREN:Hid (R.ends=en):=by show _=_;rw[← HEN.out,zBH,HR.out]
     by_cases hlast:j+1=n
     ·have dl:decide ((j:Int)+1 < (n:Int))=false:=aF
      have HG0:Hid (q=0):=by show _=_;rw[HOE.out,HEF.out,HFB.out,HTB.out,decide_eq_false (fun h=>h hlast)];simp
      clear hlast
      cases en with
      | true=>
       go_wp2_with (go_at_call 22;refine(zO o.kind _).mono ?_;rintro e w3 ⟨rfl,rfl⟩;rw[HEN.out])
       go_round
       case rel=>exact⟨j+1,by go_num,HLT.out,HGOOD.out HG0.out,CW.mk (show NW w _ wr.heap.size w1.heap.size pc count bytes (some ⟨b,off,none⟩) n cap o fr so { data:=#[97,98,99] } from zq6).b1 ((NB.out _ zq0))⟩
       case measure=>have:=HLT.out;simp[intOf];omega
      | false=>
       go_wp2_with (go_at_call 22;refine(zO o.kind _).mono ?_;rintro e w3 ⟨rfl,rfl⟩;rw[HEN.out])
       go_round
       case rel=>exact⟨j+1,by go_num,HLT.out,HGOOD.out HG0.out,CW.mk (show NW w _ wr.heap.size w1.heap.size pc count bytes (some ⟨b,off,none⟩) n cap o fr so { data:=#[97,98,99] } from zq6).b1 ((NB.out _ zq0))⟩
       case measure=>have:=HLT.out;simp[intOf];omega
     ·have dl:decide ((j:Int)+1 < (n:Int))=true:=decide_eq_true zq47
      have hlast':=decide_eq_true hlast
      cases en with
      | true=>
       have HN:Hid (E=(7,(j:Int))):=by show _=_;have h:q=7:=zq20;subst h;exact HBAD.out aD
       clear hlast hlast'
       go_wp2_with (go_at_call 22;refine(zO o.kind _).mono ?_;rintro e w3 ⟨rfl,rfl⟩;rw[HEN.out])
       go_ret2
       exact⟨by rw[HN.out];rfl,(NB.out _ zq0)⟩
      | false=>
       have HG0:Hid (q=0):=by show _=_;rw[HOE.out,HEF.out,HFB.out,HTB.out,HREN.out];rfl
       clear hlast hlast'
       go_wp2_with (go_at_call 22;refine(zO o.kind _).mono ?_;rintro e w3 ⟨rfl,rfl⟩;rw[HEN.out])
       go_round
       case rel=>exact⟨j+1,by go_num,HLT.out,HGOOD.out HG0.out,CW.mk (show NW w _ wr.heap.size w1.heap.size pc count bytes (some ⟨b,off,none⟩) n cap o fr so { data:=#[97,98,99] } from zq6).b1 ((NB.out _ zq0))⟩
       case measure=>have:=HLT.out;simp[intOf];omega
   ·as_aux_lemma=>
     obtain rfl:=HSS.out.symm.trans hs
     obtain rfl:=HFX.out.symm.trans hx
     clear hs hx
     by_cases h0:o.n < 0
     ·have f0:decide (o.n < 0)=true:=decide_eq_true h0
      have HN:Hid (E=(3,(j:Int))):=HN3.out zq5
      clear h0
      go_wp2_with (first|(go_at_call 20;refine(zBa _ fr so _ aS).mono ?_;rintro e w9 ⟨rfl,rfl⟩;simp only[zBQ,Int.reduceBEq,Bool.true_or,Bool.false_or,Bool.or_self]))
      go_ret2
      exact⟨by rw[HN.out];rfl,(NB.out _ zq0)⟩
     have f0:decide (o.n < 0)=false:=decide_eq_false h0
     by_cases h1:count < o.n
     ·have f1:decide (count < o.n)=true:=decide_eq_true h1
      have HN:Hid (E=(3,(j:Int))):=HN3.out zq5
      clear h0 h1
      go_wp2_with (first|(go_at_call 20;refine(zBa _ fr so _ aS).mono ?_;rintro e w9 ⟨rfl,rfl⟩;simp only[zBQ,Int.reduceBEq,Bool.true_or,Bool.false_or,Bool.or_self]))
      go_ret2
      exact⟨by rw[HN.out];rfl,(NB.out _ zq0)⟩
     have f1:decide (count < o.n)=false:=decide_eq_false h1
     by_cases h2:o.b≠0
     ·have f2:(o.b !=0)=true:=by simp;omega
      have HN:Hid (E=(3,(j:Int))):=HN3.out zq5
      clear h0 h1 h2
      go_wp2_with (first|(go_at_call 20;refine(zBa _ fr so _ aS).mono ?_;rintro e w9 ⟨rfl,rfl⟩;simp only[zBQ,Int.reduceBEq,Bool.true_or,Bool.false_or,Bool.or_self]))
      go_ret2
      exact⟨by rw[HN.out];rfl,(NB.out _ zq0)⟩
     have f2:(o.b !=0)=false:=by simp;omega
     by_cases h3:o.c≠0
     ·have f3:(o.c !=0)=true:=by simp;omega
      have HN:Hid (E=(3,(j:Int))):=HN3.out zq5
      clear h0 h1 h2 h3
      go_wp2_with (first|(go_at_call 20;refine(zBa _ fr so _ aS).mono ?_;rintro e w9 ⟨rfl,rfl⟩;simp only[zBQ,Int.reduceBEq,Bool.true_or,Bool.false_or,Bool.or_self]))
      go_ret2
      exact⟨by rw[HN.out];rfl,(NB.out _ zq0)⟩
     have f3:(o.c !=0)=false:=by simp;omega
     have HFB:Hid (zG ⟨true,false,false,true,true,false⟩ o count=false):=by show _=_;have:=HCNT.out;first|(simp[zG,bd,bg];done)|(simp[zG,bd,bg];omega)
     clear h0 h1 h2 h3
     go_upto_region 13 with (first|(go_at_call 20;refine(zBa _ fr so _ aS).mono ?_;rintro e w9 ⟨rfl,rfl⟩;simp only[zBQ,Int.reduceBEq,Bool.true_or,Bool.false_or,Bool.or_self]))
     clear f0 f1 f2 f3
     obtain⟨ga,HGa⟩:∃ g,Hid (gvn f j o.a=g):=⟨_,rfl⟩
     cases ga with
     | false=>
      have HTB:Hid (zK ⟨true,false,false,true,true,false⟩ o f j=true):=by show _=_;simp[zK,tk,HGa.out]
      have HN:Hid (E=(6,(j:Int))):=by show _=_;have h:q=6:=zq24;subst h;exact HBAD.out aD
      go_wp2_with (first|(go_at_call 20;refine(zBa _ fr so _ aS).mono ?_;rintro e w9 ⟨rfl,rfl⟩;simp only[zBQ,Int.reduceBEq,Bool.true_or,Bool.false_or,Bool.or_self])|(go_at_call 21;refine(yN pc count bytes (some ⟨b,off,none⟩) n cap j _ f _ ?_ (Nat.le_of_lt HLT.out)).mono ?_;(focus(exact HOB.out.below (NB.out _ zq0) aL));rintro e w8 ⟨rfl,rfl⟩;first|rw[HGa.out]))
      go_ret2
      exact⟨by rw[HN.out];rfl,(NB.out _ zq0)⟩
     | true=>
     have HTB:Hid (zK ⟨true,false,false,true,true,false⟩ o f j=false):=by show _=_;simp[zK,tk,HGa.out]
     go_upto_region 15 with (first|(go_at_call 20;refine(zBa _ fr so _ aS).mono ?_;rintro e w9 ⟨rfl,rfl⟩;simp only[zBQ,Int.reduceBEq,Bool.true_or,Bool.false_or,Bool.or_self])|(go_at_call 21;refine(yN pc count bytes (some ⟨b,off,none⟩) n cap j _ f _ ?_ (Nat.le_of_lt HLT.out)).mono ?_;(focus(exact HOB.out.below (NB.out _ zq0) aL));rintro e w8 ⟨rfl,rfl⟩;first|rw[HGa.out]))
     obtain⟨en,HEN⟩:∃ en,Hid (zB5 o.kind=en):=⟨_,rfl⟩
     have HREN:Hid (R.ends=en):=by show _=_;rw[← HEN.out,zBH,HR.out]
     by_cases hlast:j+1=n
     ·have dl:decide ((j:Int)+1 < (n:Int))=false:=aF
      have HG0:Hid (q=0):=by show _=_;rw[HOE.out,HEF.out,HFB.out,HTB.out,decide_eq_false (fun h=>h hlast)];simp
      clear hlast
      cases en with
      | true=>
       go_wp2_with (go_at_call 22;refine(zO o.kind _).mono ?_;rintro e w3 ⟨rfl,rfl⟩;rw[HEN.out])
       go_round
       case rel=>exact⟨j+1,by go_num,HLT.out,HGOOD.out HG0.out,CW.mk (show NW w _ wr.heap.size w1.heap.size pc count bytes (some ⟨b,off,none⟩) n cap o fr so { data:=#[97,107,110] } from zq6).b1 ((NB.out _ zq0))⟩
       case measure=>have:=HLT.out;simp[intOf];omega
      | false=>
       go_wp2_with (go_at_call 22;refine(zO o.kind _).mono ?_;rintro e w3 ⟨rfl,rfl⟩;rw[HEN.out])
       go_round
       case rel=>exact⟨j+1,by go_num,HLT.out,HGOOD.out HG0.out,CW.mk (show NW w _ wr.heap.size w1.heap.size pc count bytes (some ⟨b,off,none⟩) n cap o fr so { data:=#[97,107,110] } from zq6).b1 ((NB.out _ zq0))⟩
       case measure=>have:=HLT.out;simp[intOf];omega
     ·have dl:decide ((j:Int)+1 < (n:Int))=true:=decide_eq_true zq47
      have hlast':=decide_eq_true hlast
      cases en with
      | true=>
       have HN:Hid (E=(7,(j:Int))):=by show _=_;have h:q=7:=zq20;subst h;exact HBAD.out aD
       clear hlast hlast'
       go_wp2_with (go_at_call 22;refine(zO o.kind _).mono ?_;rintro e w3 ⟨rfl,rfl⟩;rw[HEN.out])
       go_ret2
       exact⟨by rw[HN.out];rfl,(NB.out _ zq0)⟩
      | false=>
       have HG0:Hid (q=0):=by show _=_;rw[HOE.out,HEF.out,HFB.out,HTB.out,HREN.out];rfl
       clear hlast hlast'
       go_wp2_with (go_at_call 22;refine(zO o.kind _).mono ?_;rintro e w3 ⟨rfl,rfl⟩;rw[HEN.out])
       go_round
       case rel=>exact⟨j+1,by go_num,HLT.out,HGOOD.out HG0.out,CW.mk (show NW w _ wr.heap.size w1.heap.size pc count bytes (some ⟨b,off,none⟩) n cap o fr so { data:=#[97,107,110] } from zq6).b1 ((NB.out _ zq0))⟩
       case measure=>have:=HLT.out;simp[intOf];omega
   ·as_aux_lemma=>
     obtain rfl:=HSS.out.symm.trans hs
     obtain rfl:=HFX.out.symm.trans hx
     clear hs hx
     by_cases h0:o.n < 0
     ·have f0:decide (o.n < 0)=true:=decide_eq_true h0
      have HN:Hid (E=(3,(j:Int))):=HN3.out zq5
      clear h0
      go_wp2_with (first|(go_at_call 20;refine(zAL _ fr so _ aS).mono ?_;rintro e w9 ⟨rfl,rfl⟩;simp only[zBi,Int.reduceBEq,Bool.true_or,Bool.false_or,Bool.or_self]))
      go_ret2
      exact⟨by rw[HN.out];rfl,(NB.out _ zq0)⟩
     have f0:decide (o.n < 0)=false:=decide_eq_false h0
     by_cases h1:count < o.n
     ·have f1:decide (count < o.n)=true:=decide_eq_true h1
      have HN:Hid (E=(3,(j:Int))):=HN3.out zq5
      clear h0 h1
      go_wp2_with (first|(go_at_call 20;refine(zAL _ fr so _ aS).mono ?_;rintro e w9 ⟨rfl,rfl⟩;simp only[zBi,Int.reduceBEq,Bool.true_or,Bool.false_or,Bool.or_self]))
      go_ret2
      exact⟨by rw[HN.out];rfl,(NB.out _ zq0)⟩
     have f1:decide (count < o.n)=false:=decide_eq_false h1
     by_cases h2:o.c≠0
     ·have f2:(o.c !=0)=true:=by simp;omega
      have HN:Hid (E=(3,(j:Int))):=HN3.out zq5
      clear h0 h1 h2
      go_wp2_with (first|(go_at_call 20;refine(zAL _ fr so _ aS).mono ?_;rintro e w9 ⟨rfl,rfl⟩;simp only[zBi,Int.reduceBEq,Bool.true_or,Bool.false_or,Bool.or_self]))
      go_ret2
      exact⟨by rw[HN.out];rfl,(NB.out _ zq0)⟩
     have f2:(o.c !=0)=false:=by simp;omega
     have HFB:Hid (zG ⟨true,true,false,true,true,false⟩ o count=false):=by show _=_;have:=HCNT.out;first|(simp[zG,bd,bg];done)|(simp[zG,bd,bg];omega)
     clear h0 h1 h2
     go_upto_region 13 with (first|(go_at_call 20;refine(zAL _ fr so _ aS).mono ?_;rintro e w9 ⟨rfl,rfl⟩;simp only[zBi,Int.reduceBEq,Bool.true_or,Bool.false_or,Bool.or_self]))
     clear f0 f1 f2
     obtain⟨ga,HGa⟩:∃ g,Hid (gvn f j o.a=g):=⟨_,rfl⟩
     obtain⟨gb,HGb⟩:∃ g,Hid (gvn f j o.b=g):=⟨_,rfl⟩
     cases ga with
     | false=>
      have HTB:Hid (zK ⟨true,true,false,true,true,false⟩ o f j=true):=by show _=_;simp[zK,tk,HGa.out]
      have HN:Hid (E=(6,(j:Int))):=by show _=_;have h:q=6:=zq24;subst h;exact HBAD.out aD
      go_wp2_with (first|(go_at_call 20;refine(zAL _ fr so _ aS).mono ?_;rintro e w9 ⟨rfl,rfl⟩;simp only[zBi,Int.reduceBEq,Bool.true_or,Bool.false_or,Bool.or_self])|(go_at_call 21;refine(yN pc count bytes (some ⟨b,off,none⟩) n cap j _ f _ ?_ (Nat.le_of_lt HLT.out)).mono ?_;(focus(exact HOB.out.below (NB.out _ zq0) aL));rintro e w8 ⟨rfl,rfl⟩;first|rw[HGa.out]|rw[HGb.out]))
      go_ret2
      exact⟨by rw[HN.out];rfl,(NB.out _ zq0)⟩
     | true=>
     cases gb with
     | false=>
      have HTB:Hid (zK ⟨true,true,false,true,true,false⟩ o f j=true):=by show _=_;simp[zK,tk,HGa.out,HGb.out]
      have HN:Hid (E=(6,(j:Int))):=by show _=_;have h:q=6:=zq24;subst h;exact HBAD.out aD
      go_wp2_with (first|(go_at_call 20;refine(zAL _ fr so _ aS).mono ?_;rintro e w9 ⟨rfl,rfl⟩;simp only[zBi,Int.reduceBEq,Bool.true_or,Bool.false_or,Bool.or_self])|(go_at_call 21;refine(yN pc count bytes (some ⟨b,off,none⟩) n cap j _ f _ ?_ (Nat.le_of_lt HLT.out)).mono ?_;(focus(exact HOB.out.below (NB.out _ zq0) aL));rintro e w8 ⟨rfl,rfl⟩;first|rw[HGa.out]|rw[HGb.out]))
      go_ret2
      exact⟨by rw[HN.out];rfl,(NB.out _ zq0)⟩
     | true=>
     have HTB:Hid (zK ⟨true,true,false,true,true,false⟩ o f j=false):=by show _=_;simp[zK,tk,HGa.out,HGb.out]
     go_upto_region 15 with (first|(go_at_call 20;refine(zAL _ fr so _ aS).mono ?_;rintro e w9 ⟨rfl,rfl⟩;simp only[zBi,Int.reduceBEq,Bool.true_or,Bool.false_or,Bool.or_self])|(go_at_call 21;refine(yN pc count bytes (some ⟨b,off,none⟩) n cap j _ f _ ?_ (Nat.le_of_lt HLT.out)).mono ?_;(focus(exact HOB.out.below (NB.out _ zq0) aL));rintro e w8 ⟨rfl,rfl⟩;first|rw[HGa.out]|rw[HGb.out]))
     obtain⟨en,HEN⟩:∃ en,Hid (zB5 o.kind=en):=⟨_,rfl⟩
     have HREN:Hid (R.ends=en):=by show _=_;rw[← HEN.out,zBH,HR.out]
     by_cases hlast:j+1=n
     ·have dl:decide ((j:Int)+1 < (n:Int))=false:=aF
      have HG0:Hid (q=0):=by show _=_;rw[HOE.out,HEF.out,HFB.out,HTB.out,decide_eq_false (fun h=>h hlast)];simp
      clear hlast
      cases en with
      | true=>
       go_wp2_with (go_at_call 22;refine(zO o.kind _).mono ?_;rintro e w3 ⟨rfl,rfl⟩;rw[HEN.out])
       go_round
       case rel=>exact⟨j+1,by go_num,HLT.out,HGOOD.out HG0.out,CW.mk (show NW w _ wr.heap.size w1.heap.size pc count bytes (some ⟨b,off,none⟩) n cap o fr so { data:=#[97,98,107,110] } from zq6).b1 ((NB.out _ zq0))⟩
       case measure=>have:=HLT.out;simp[intOf];omega
      | false=>
       go_wp2_with (go_at_call 22;refine(zO o.kind _).mono ?_;rintro e w3 ⟨rfl,rfl⟩;rw[HEN.out])
       go_round
       case rel=>exact⟨j+1,by go_num,HLT.out,HGOOD.out HG0.out,CW.mk (show NW w _ wr.heap.size w1.heap.size pc count bytes (some ⟨b,off,none⟩) n cap o fr so { data:=#[97,98,107,110] } from zq6).b1 ((NB.out _ zq0))⟩
       case measure=>have:=HLT.out;simp[intOf];omega
     ·have dl:decide ((j:Int)+1 < (n:Int))=true:=decide_eq_true zq47
      have hlast':=decide_eq_true hlast
      cases en with
      | true=>
       have HN:Hid (E=(7,(j:Int))):=by show _=_;have h:q=7:=zq20;subst h;exact HBAD.out aD
       clear hlast hlast'
       go_wp2_with (go_at_call 22;refine(zO o.kind _).mono ?_;rintro e w3 ⟨rfl,rfl⟩;rw[HEN.out])
       go_ret2
       exact⟨by rw[HN.out];rfl,(NB.out _ zq0)⟩
      | false=>
       have HG0:Hid (q=0):=by show _=_;rw[HOE.out,HEF.out,HFB.out,HTB.out,HREN.out];rfl
       clear hlast hlast'
       go_wp2_with (go_at_call 22;refine(zO o.kind _).mono ?_;rintro e w3 ⟨rfl,rfl⟩;rw[HEN.out])
       go_round
       case rel=>exact⟨j+1,by go_num,HLT.out,HGOOD.out HG0.out,CW.mk (show NW w _ wr.heap.size w1.heap.size pc count bytes (some ⟨b,off,none⟩) n cap o fr so { data:=#[97,98,107,110] } from zq6).b1 ((NB.out _ zq0))⟩
       case measure=>have:=HLT.out;simp[intOf];omega
   ·as_aux_lemma=>
     obtain rfl:=HSS.out.symm.trans hs
     obtain rfl:=HFX.out.symm.trans hx
     clear hs hx
     by_cases h0:o.n < 0
     ·have f0:decide (o.n < 0)=true:=decide_eq_true h0
      have HN:Hid (E=(3,(j:Int))):=HN3.out zq5
      clear h0
      go_wp2_with (first|(go_at_call 20;refine(zBJ _ fr so _ aS).mono ?_;rintro e w9 ⟨rfl,rfl⟩;simp only[zCv,Int.reduceBEq,Bool.true_or,Bool.false_or,Bool.or_self]))
      go_ret2
      exact⟨by rw[HN.out];rfl,(NB.out _ zq0)⟩
     have f0:decide (o.n < 0)=false:=decide_eq_false h0
     by_cases h1:count < o.n
     ·have f1:decide (count < o.n)=true:=decide_eq_true h1
      have HN:Hid (E=(3,(j:Int))):=HN3.out zq5
      clear h0 h1
      go_wp2_with (first|(go_at_call 20;refine(zBJ _ fr so _ aS).mono ?_;rintro e w9 ⟨rfl,rfl⟩;simp only[zCv,Int.reduceBEq,Bool.true_or,Bool.false_or,Bool.or_self]))
      go_ret2
      exact⟨by rw[HN.out];rfl,(NB.out _ zq0)⟩
     have f1:decide (count < o.n)=false:=decide_eq_false h1
     by_cases h2:o.a≠0
     ·have f2:(o.a !=0)=true:=by simp;omega
      have HN:Hid (E=(3,(j:Int))):=HN3.out zq5
      clear h0 h1 h2
      go_wp2_with (first|(go_at_call 20;refine(zBJ _ fr so _ aS).mono ?_;rintro e w9 ⟨rfl,rfl⟩;simp only[zCv,Int.reduceBEq,Bool.true_or,Bool.false_or,Bool.or_self]))
      go_ret2
      exact⟨by rw[HN.out];rfl,(NB.out _ zq0)⟩
     have f2:(o.a !=0)=false:=by simp;omega
     by_cases h3:o.b≠0
     ·have f3:(o.b !=0)=true:=by simp;omega
      have HN:Hid (E=(3,(j:Int))):=HN3.out zq5
      clear h0 h1 h2 h3
      go_wp2_with (first|(go_at_call 20;refine(zBJ _ fr so _ aS).mono ?_;rintro e w9 ⟨rfl,rfl⟩;simp only[zCv,Int.reduceBEq,Bool.true_or,Bool.false_or,Bool.or_self]))
      go_ret2
      exact⟨by rw[HN.out];rfl,(NB.out _ zq0)⟩
     have f3:(o.b !=0)=false:=by simp;omega
     by_cases h4:o.c≠0
     ·have f4:(o.c !=0)=true:=by simp;omega
      have HN:Hid (E=(3,(j:Int))):=HN3.out zq5
      clear h0 h1 h2 h3 h4
      go_wp2_with (first|(go_at_call 20;refine(zBJ _ fr so _ aS).mono ?_;rintro e w9 ⟨rfl,rfl⟩;simp only[zCv,Int.reduceBEq,Bool.true_or,Bool.false_or,Bool.or_self]))
      go_ret2
      exact⟨by rw[HN.out];rfl,(NB.out _ zq0)⟩
     have f4:(o.c !=0)=false:=by simp;omega
     have HFB:Hid (zG ⟨false,false,false,true,true,false⟩ o count=false):=by show _=_;have:=HCNT.out;first|(simp[zG,bd,bg];done)|(simp[zG,bd,bg];omega)
     clear h0 h1 h2 h3 h4
     go_upto_region 13 with (first|(go_at_call 20;refine(zBJ _ fr so _ aS).mono ?_;rintro e w9 ⟨rfl,rfl⟩;simp only[zCv,Int.reduceBEq,Bool.true_or,Bool.false_or,Bool.or_self]))
     clear f0 f1 f2 f3 f4
     have HTB:Hid (zK ⟨false,false,false,true,true,false⟩ o f j=false):=by show _=_;simp[zK,tk]
     go_upto_region 15 with (first|(go_at_call 20;refine(zBJ _ fr so _ aS).mono ?_;rintro e w9 ⟨rfl,rfl⟩;simp only[zCv,Int.reduceBEq,Bool.true_or,Bool.false_or,Bool.or_self])|(go_at_call 21;refine(yN pc count bytes (some ⟨b,off,none⟩) n cap j _ f _ ?_ (Nat.le_of_lt HLT.out)).mono ?_;(focus(exact HOB.out.below (NB.out _ zq0) aL));rintro e w8 ⟨rfl,rfl⟩;first|skip))
     obtain⟨en,HEN⟩:∃ en,Hid (zB5 o.kind=en):=⟨_,rfl⟩
     have HREN:Hid (R.ends=en):=by show _=_;rw[← HEN.out,zBH,HR.out]
     by_cases hlast:j+1=n
     ·have dl:decide ((j:Int)+1 < (n:Int))=false:=aF
      have HG0:Hid (q=0):=by show _=_;rw[HOE.out,HEF.out,HFB.out,HTB.out,decide_eq_false (fun h=>h hlast)];simp
      clear hlast
      cases en with
      | true=>
       go_wp2_with (go_at_call 22;refine(zO o.kind _).mono ?_;rintro e w3 ⟨rfl,rfl⟩;rw[HEN.out])
       go_round
       case rel=>exact⟨j+1,by go_num,HLT.out,HGOOD.out HG0.out,CW.mk (show NW w _ wr.heap.size w1.heap.size pc count bytes (some ⟨b,off,none⟩) n cap o fr so { data:=#[107,110] } from zq6).b1 ((NB.out _ zq0))⟩
       case measure=>have:=HLT.out;simp[intOf];omega
      | false=>
       go_wp2_with (go_at_call 22;refine(zO o.kind _).mono ?_;rintro e w3 ⟨rfl,rfl⟩;rw[HEN.out])
       go_round
       case rel=>exact⟨j+1,by go_num,HLT.out,HGOOD.out HG0.out,CW.mk (show NW w _ wr.heap.size w1.heap.size pc count bytes (some ⟨b,off,none⟩) n cap o fr so { data:=#[107,110] } from zq6).b1 ((NB.out _ zq0))⟩
       case measure=>have:=HLT.out;simp[intOf];omega
     ·have dl:decide ((j:Int)+1 < (n:Int))=true:=decide_eq_true zq47
      have hlast':=decide_eq_true hlast
      cases en with
      | true=>
       have HN:Hid (E=(7,(j:Int))):=by show _=_;have h:q=7:=zq20;subst h;exact HBAD.out aD
       clear hlast hlast'
       go_wp2_with (go_at_call 22;refine(zO o.kind _).mono ?_;rintro e w3 ⟨rfl,rfl⟩;rw[HEN.out])
       go_ret2
       exact⟨by rw[HN.out];rfl,(NB.out _ zq0)⟩
      | false=>
       have HG0:Hid (q=0):=by show _=_;rw[HOE.out,HEF.out,HFB.out,HTB.out,HREN.out];rfl
       clear hlast hlast'
       go_wp2_with (go_at_call 22;refine(zO o.kind _).mono ?_;rintro e w3 ⟨rfl,rfl⟩;rw[HEN.out])
       go_round
       case rel=>exact⟨j+1,by go_num,HLT.out,HGOOD.out HG0.out,CW.mk (show NW w _ wr.heap.size w1.heap.size pc count bytes (some ⟨b,off,none⟩) n cap o fr so { data:=#[107,110] } from zq6).b1 ((NB.out _ zq0))⟩
       case measure=>have:=HLT.out;simp[intOf];omega
   ·as_aux_lemma=>
     obtain rfl:=HSS.out.symm.trans hs
     obtain rfl:=HFX.out.symm.trans hx
     clear hs hx
     by_cases h0:o.n < 0
     ·have f0:decide (o.n < 0)=true:=decide_eq_true h0
      have HN:Hid (E=(3,(j:Int))):=HN3.out zq5
      clear h0
      go_wp2_with (first|(go_at_call 20;refine(zAR _ fr so _ aS).mono ?_;rintro e w9 ⟨rfl,rfl⟩;simp only[zBz,Int.reduceBEq,Bool.true_or,Bool.false_or,Bool.or_self]))
      go_ret2
      exact⟨by rw[HN.out];rfl,(NB.out _ zq0)⟩
     have f0:decide (o.n < 0)=false:=decide_eq_false h0
     by_cases h1:count < o.n
     ·have f1:decide (count < o.n)=true:=decide_eq_true h1
      have HN:Hid (E=(3,(j:Int))):=HN3.out zq5
      clear h0 h1
      go_wp2_with (first|(go_at_call 20;refine(zAR _ fr so _ aS).mono ?_;rintro e w9 ⟨rfl,rfl⟩;simp only[zBz,Int.reduceBEq,Bool.true_or,Bool.false_or,Bool.or_self]))
      go_ret2
      exact⟨by rw[HN.out];rfl,(NB.out _ zq0)⟩
     have f1:decide (count < o.n)=false:=decide_eq_false h1
     by_cases h2:o.a≠0
     ·have f2:(o.a !=0)=true:=by simp;omega
      have HN:Hid (E=(3,(j:Int))):=HN3.out zq5
      clear h0 h1 h2
      go_wp2_with (first|(go_at_call 20;refine(zAR _ fr so _ aS).mono ?_;rintro e w9 ⟨rfl,rfl⟩;simp only[zBz,Int.reduceBEq,Bool.true_or,Bool.false_or,Bool.or_self]))
      go_ret2
      exact⟨by rw[HN.out];rfl,(NB.out _ zq0)⟩
     have f2:(o.a !=0)=false:=by simp;omega
     by_cases h3:o.c≠0
     ·have f3:(o.c !=0)=true:=by simp;omega
      have HN:Hid (E=(3,(j:Int))):=HN3.out zq5
      clear h0 h1 h2 h3
      go_wp2_with (first|(go_at_call 20;refine(zAR _ fr so _ aS).mono ?_;rintro e w9 ⟨rfl,rfl⟩;simp only[zBz,Int.reduceBEq,Bool.true_or,Bool.false_or,Bool.or_self]))
      go_ret2
      exact⟨by rw[HN.out];rfl,(NB.out _ zq0)⟩
     have f3:(o.c !=0)=false:=by simp;omega
     by_cases h4:o.b < 0
     ·have f4:decide (o.b < 0)=true:=decide_eq_true h4
      have HN:Hid (E=(3,(j:Int))):=HN3.out zq5
      clear h0 h1 h2 h3 h4
      go_wp2_with (first|(go_at_call 20;refine(zAR _ fr so _ aS).mono ?_;rintro e w9 ⟨rfl,rfl⟩;simp only[zBz,Int.reduceBEq,Bool.true_or,Bool.false_or,Bool.or_self]))
      go_ret2
      exact⟨by rw[HN.out];rfl,(NB.out _ zq0)⟩
     have f4:decide (o.b < 0)=false:=decide_eq_false h4
     by_cases h5:4294967295 < o.b
     ·have f5:decide (4294967295 < o.b)=true:=decide_eq_true h5
      have HN:Hid (E=(3,(j:Int))):=HN3.out zq5
      clear h0 h1 h2 h3 h4 h5
      go_wp2_with (first|(go_at_call 20;refine(zAR _ fr so _ aS).mono ?_;rintro e w9 ⟨rfl,rfl⟩;simp only[zBz,Int.reduceBEq,Bool.true_or,Bool.false_or,Bool.or_self]))
      go_ret2
      exact⟨by rw[HN.out];rfl,(NB.out _ zq0)⟩
     have f5:decide (4294967295 < o.b)=false:=decide_eq_false h5
     have HFB:Hid (zG ⟨false,false,false,true,true,true⟩ o count=false):=by show _=_;have:=HCNT.out;first|(simp[zG,bd,bg];done)|(simp[zG,bd,bg];omega)
     clear h0 h1 h2 h3 h4 h5
     go_upto_region 13 with (first|(go_at_call 20;refine(zAR _ fr so _ aS).mono ?_;rintro e w9 ⟨rfl,rfl⟩;simp only[zBz,Int.reduceBEq,Bool.true_or,Bool.false_or,Bool.or_self]))
     clear f0 f1 f2 f3 f4 f5
     have HTB:Hid (zK ⟨false,false,false,true,true,true⟩ o f j=false):=by show _=_;simp[zK,tk]
     go_upto_region 15 with (first|(go_at_call 20;refine(zAR _ fr so _ aS).mono ?_;rintro e w9 ⟨rfl,rfl⟩;simp only[zBz,Int.reduceBEq,Bool.true_or,Bool.false_or,Bool.or_self])|(go_at_call 21;refine(yN pc count bytes (some ⟨b,off,none⟩) n cap j _ f _ ?_ (Nat.le_of_lt HLT.out)).mono ?_;(focus(exact HOB.out.below (NB.out _ zq0) aL));rintro e w8 ⟨rfl,rfl⟩;first|skip))
     obtain⟨en,HEN⟩:∃ en,Hid (zB5 o.kind=en):=⟨_,rfl⟩
     have HREN:Hid (R.ends=en):=by show _=_;rw[← HEN.out,zBH,HR.out]
     by_cases hlast:j+1=n
     ·have dl:decide ((j:Int)+1 < (n:Int))=false:=aF
      have HG0:Hid (q=0):=by show _=_;rw[HOE.out,HEF.out,HFB.out,HTB.out,decide_eq_false (fun h=>h hlast)];simp
      clear hlast
      cases en with
      | true=>
       go_wp2_with (go_at_call 22;refine(zO o.kind _).mono ?_;rintro e w3 ⟨rfl,rfl⟩;rw[HEN.out])
       go_round
       case rel=>exact⟨j+1,by go_num,HLT.out,HGOOD.out HG0.out,CW.mk (show NW w _ wr.heap.size w1.heap.size pc count bytes (some ⟨b,off,none⟩) n cap o fr so { data:=#[103,107,110] } from zq6).b1 ((NB.out _ zq0))⟩
       case measure=>have:=HLT.out;simp[intOf];omega
      | false=>
       go_wp2_with (go_at_call 22;refine(zO o.kind _).mono ?_;rintro e w3 ⟨rfl,rfl⟩;rw[HEN.out])
       go_round
       case rel=>exact⟨j+1,by go_num,HLT.out,HGOOD.out HG0.out,CW.mk (show NW w _ wr.heap.size w1.heap.size pc count bytes (some ⟨b,off,none⟩) n cap o fr so { data:=#[103,107,110] } from zq6).b1 ((NB.out _ zq0))⟩
       case measure=>have:=HLT.out;simp[intOf];omega
     ·have dl:decide ((j:Int)+1 < (n:Int))=true:=decide_eq_true zq47
      have hlast':=decide_eq_true hlast
      cases en with
      | true=>
       have HN:Hid (E=(7,(j:Int))):=by show _=_;have h:q=7:=zq20;subst h;exact HBAD.out aD
       clear hlast hlast'
       go_wp2_with (go_at_call 22;refine(zO o.kind _).mono ?_;rintro e w3 ⟨rfl,rfl⟩;rw[HEN.out])
       go_ret2
       exact⟨by rw[HN.out];rfl,(NB.out _ zq0)⟩
      | false=>
       have HG0:Hid (q=0):=by show _=_;rw[HOE.out,HEF.out,HFB.out,HTB.out,HREN.out];rfl
       clear hlast hlast'
       go_wp2_with (go_at_call 22;refine(zO o.kind _).mono ?_;rintro e w3 ⟨rfl,rfl⟩;rw[HEN.out])
       go_round
       case rel=>exact⟨j+1,by go_num,HLT.out,HGOOD.out HG0.out,CW.mk (show NW w _ wr.heap.size w1.heap.size pc count bytes (some ⟨b,off,none⟩) n cap o fr so { data:=#[103,107,110] } from zq6).b1 ((NB.out _ zq0))⟩
       case measure=>have:=HLT.out;simp[intOf];omega
   ·as_aux_lemma=>
     obtain rfl:=HSS.out.symm.trans hs
     obtain rfl:=HFX.out.symm.trans hx
     clear hs hx
     by_cases h0:o.k≠0
     ·have f0:((o.k:Int) !=0)=true:=by simp;omega
      have HN:Hid (E=(3,(j:Int))):=HN3.out zq5
      clear h0
      go_wp2_with (first|(go_at_call 20;refine(zBj _ fr so _ aS).mono ?_;rintro e w9 ⟨rfl,rfl⟩;simp only[zB8,Int.reduceBEq,Bool.true_or,Bool.false_or,Bool.or_self]))
      go_ret2
      exact⟨by rw[HN.out];rfl,(NB.out _ zq0)⟩
     have f0:((o.k:Int) !=0)=false:=by simp;omega
     by_cases h1:o.n < 0
     ·have f1:decide (o.n < 0)=true:=decide_eq_true h1
      have HN:Hid (E=(3,(j:Int))):=HN3.out zq5
      clear h0 h1
      go_wp2_with (first|(go_at_call 20;refine(zBj _ fr so _ aS).mono ?_;rintro e w9 ⟨rfl,rfl⟩;simp only[zB8,Int.reduceBEq,Bool.true_or,Bool.false_or,Bool.or_self]))
      go_ret2
      exact⟨by rw[HN.out];rfl,(NB.out _ zq0)⟩
     have f1:decide (o.n < 0)=false:=decide_eq_false h1
     by_cases h2:count < o.n
     ·have f2:decide (count < o.n)=true:=decide_eq_true h2
      have HN:Hid (E=(3,(j:Int))):=HN3.out zq5
      clear h0 h1 h2
      go_wp2_with (first|(go_at_call 20;refine(zBj _ fr so _ aS).mono ?_;rintro e w9 ⟨rfl,rfl⟩;simp only[zB8,Int.reduceBEq,Bool.true_or,Bool.false_or,Bool.or_self]))
      go_ret2
      exact⟨by rw[HN.out];rfl,(NB.out _ zq0)⟩
     have f2:decide (count < o.n)=false:=decide_eq_false h2
     by_cases h3:o.b≠0
     ·have f3:(o.b !=0)=true:=by simp;omega
      have HN:Hid (E=(3,(j:Int))):=HN3.out zq5
      clear h0 h1 h2 h3
      go_wp2_with (first|(go_at_call 20;refine(zBj _ fr so _ aS).mono ?_;rintro e w9 ⟨rfl,rfl⟩;simp only[zB8,Int.reduceBEq,Bool.true_or,Bool.false_or,Bool.or_self]))
      go_ret2
      exact⟨by rw[HN.out];rfl,(NB.out _ zq0)⟩
     have f3:(o.b !=0)=false:=by simp;omega
     by_cases h4:o.c≠0
     ·have f4:(o.c !=0)=true:=by simp;omega
      have HN:Hid (E=(3,(j:Int))):=HN3.out zq5
      clear h0 h1 h2 h3 h4
      go_wp2_with (first|(go_at_call 20;refine(zBj _ fr so _ aS).mono ?_;rintro e w9 ⟨rfl,rfl⟩;simp only[zB8,Int.reduceBEq,Bool.true_or,Bool.false_or,Bool.or_self]))
      go_ret2
      exact⟨by rw[HN.out];rfl,(NB.out _ zq0)⟩
     have f4:(o.c !=0)=false:=by simp;omega
     have HFB:Hid (zG ⟨true,false,false,false,true,false⟩ o count=false):=by show _=_;have:=HCNT.out;first|(simp[zG,bd,bg];done)|(simp[zG,bd,bg];omega)
     clear h0 h1 h2 h3 h4
     go_upto_region 13 with (first|(go_at_call 20;refine(zBj _ fr so _ aS).mono ?_;rintro e w9 ⟨rfl,rfl⟩;simp only[zB8,Int.reduceBEq,Bool.true_or,Bool.false_or,Bool.or_self]))
     clear f0 f1 f2 f3 f4
     obtain⟨ga,HGa⟩:∃ g,Hid (gvn f j o.a=g):=⟨_,rfl⟩
     cases ga with
     | false=>
      have HTB:Hid (zK ⟨true,false,false,false,true,false⟩ o f j=true):=by show _=_;simp[zK,tk,HGa.out]
      have HN:Hid (E=(6,(j:Int))):=by show _=_;have h:q=6:=zq24;subst h;exact HBAD.out aD
      go_wp2_with (first|(go_at_call 20;refine(zBj _ fr so _ aS).mono ?_;rintro e w9 ⟨rfl,rfl⟩;simp only[zB8,Int.reduceBEq,Bool.true_or,Bool.false_or,Bool.or_self])|(go_at_call 21;refine(yN pc count bytes (some ⟨b,off,none⟩) n cap j _ f _ ?_ (Nat.le_of_lt HLT.out)).mono ?_;(focus(exact HOB.out.below (NB.out _ zq0) aL));rintro e w8 ⟨rfl,rfl⟩;first|rw[HGa.out]))
      go_ret2
      exact⟨by rw[HN.out];rfl,(NB.out _ zq0)⟩
     | true=>
     have HTB:Hid (zK ⟨true,false,false,false,true,false⟩ o f j=false):=by show _=_;simp[zK,tk,HGa.out]
     go_upto_region 15 with (first|(go_at_call 20;refine(zBj _ fr so _ aS).mono ?_;rintro e w9 ⟨rfl,rfl⟩;simp only[zB8,Int.reduceBEq,Bool.true_or,Bool.false_or,Bool.or_self])|(go_at_call 21;refine(yN pc count bytes (some ⟨b,off,none⟩) n cap j _ f _ ?_ (Nat.le_of_lt HLT.out)).mono ?_;(focus(exact HOB.out.below (NB.out _ zq0) aL));rintro e w8 ⟨rfl,rfl⟩;first|rw[HGa.out]))
     obtain⟨en,HEN⟩:∃ en,Hid (zB5 o.kind=en):=⟨_,rfl⟩
     have HREN:Hid (R.ends=en):=by show _=_;rw[← HEN.out,zBH,HR.out]
     by_cases hlast:j+1=n
     ·have dl:decide ((j:Int)+1 < (n:Int))=false:=aF
      have HG0:Hid (q=0):=by show _=_;rw[HOE.out,HEF.out,HFB.out,HTB.out,decide_eq_false (fun h=>h hlast)];simp
      clear hlast
      cases en with
      | true=>
       go_wp2_with (go_at_call 22;refine(zO o.kind _).mono ?_;rintro e w3 ⟨rfl,rfl⟩;rw[HEN.out])
       go_round
       case rel=>exact⟨j+1,by go_num,HLT.out,HGOOD.out HG0.out,CW.mk (show NW w _ wr.heap.size w1.heap.size pc count bytes (some ⟨b,off,none⟩) n cap o fr so { data:=#[97,110] } from zq6).b1 ((NB.out _ zq0))⟩
       case measure=>have:=HLT.out;simp[intOf];omega
      | false=>
       go_wp2_with (go_at_call 22;refine(zO o.kind _).mono ?_;rintro e w3 ⟨rfl,rfl⟩;rw[HEN.out])
       go_round
       case rel=>exact⟨j+1,by go_num,HLT.out,HGOOD.out HG0.out,CW.mk (show NW w _ wr.heap.size w1.heap.size pc count bytes (some ⟨b,off,none⟩) n cap o fr so { data:=#[97,110] } from zq6).b1 ((NB.out _ zq0))⟩
       case measure=>have:=HLT.out;simp[intOf];omega
     ·have dl:decide ((j:Int)+1 < (n:Int))=true:=decide_eq_true zq47
      have hlast':=decide_eq_true hlast
      cases en with
      | true=>
       have HN:Hid (E=(7,(j:Int))):=by show _=_;have h:q=7:=zq20;subst h;exact HBAD.out aD
       clear hlast hlast'
       go_wp2_with (go_at_call 22;refine(zO o.kind _).mono ?_;rintro e w3 ⟨rfl,rfl⟩;rw[HEN.out])
       go_ret2
       exact⟨by rw[HN.out];rfl,(NB.out _ zq0)⟩
      | false=>
       have HG0:Hid (q=0):=by show _=_;rw[HOE.out,HEF.out,HFB.out,HTB.out,HREN.out];rfl
       clear hlast hlast'
       go_wp2_with (go_at_call 22;refine(zO o.kind _).mono ?_;rintro e w3 ⟨rfl,rfl⟩;rw[HEN.out])
       go_round
       case rel=>exact⟨j+1,by go_num,HLT.out,HGOOD.out HG0.out,CW.mk (show NW w _ wr.heap.size w1.heap.size pc count bytes (some ⟨b,off,none⟩) n cap o fr so { data:=#[97,110] } from zq6).b1 ((NB.out _ zq0))⟩
       case measure=>have:=HLT.out;simp[intOf];omega
  ·obtain rfl:j=n:=aO
   have dj:decide ((j:Int) < (j:Int))=false:=aF
   have HST:Hid (zFx j f=E):=by
    show _=_
    have:=HSC.out
    rw[Nat.sub_self] at this
    exact this
   clear hlt hj HSC
   by_cases hz:j=0
   ·subst hz
    have HN:Hid (E=(7,0)):=by show _=_;rw[← HST.out];rfl
    go_wp2
    go_region
    all_goals go_wp2
    all_goals go_ret2
    all_goals exact⟨by rw[HN.out];rfl,HWr.out.bel.drew⟩
   ·obtain⟨p,HP⟩:∃ p,Hid (j=p+1):=⟨j - 1,show j=j - 1+1 by omega⟩
    have hp:=HP.out
    obtain⟨b,off,rfl,hb,hc⟩:=HO.out aO
    have hk:wr.cell? ⟨b,off+p*7,none⟩=some (.int .i64 (f p).kind):=((hc p aO).below HWr.out.bel hb).c0
    have dz:((j:Int)==0)=false:=by simp;omega
    have hsub:(j:Int) - 1=(p:Int):=aO
    have p0:(0:Int)≤(p:Int):=aO
    have p1:(p:Int) < (j:Int):=aO
    obtain⟨en,HEN⟩:∃ en,Hid (zB5 (f p).kind=en):=⟨_,rfl⟩
    have HN:Hid (E=if en then(0,0) else(7,(j:Int))):=by
     show _=_
     rw[← HST.out]
     unfold zFx
     rw[show j - 1=p by omega,← zBH,HEN.out]
     cases en<;>simp[hz]
    have lb:b < wr.heap.size:=by have:=HWr.out.bel.size;omega
    clear hc HO hp hz
    cases en with
    | true=>
     go_wp2_with (go_at_call 22;refine(zO (f p).kind _).mono ?_;rintro e w3 ⟨rfl,rfl⟩;rw[HEN.out])
     go_ret2
     exact⟨by rw[HN.out];rfl,HWr.out.bel⟩
    | false=>
     go_wp2_with (go_at_call 22;refine(zO (f p).kind _).mono ?_;rintro e w3 ⟨rfl,rfl⟩;rw[HEN.out])
     go_region
     all_goals go_wp2
     all_goals go_ret2
     all_goals exact⟨by rw[HN.out];rfl,HWr.out.bel.drew⟩
end Go.Proofs.Ytkmjenjahbicpaa
