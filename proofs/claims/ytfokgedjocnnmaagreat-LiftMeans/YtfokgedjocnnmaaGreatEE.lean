import Derived.Test.YtfokgedjocnnmaaGreatED
import Derived.Test.YtfokgedjocnnmaaGreatJ29
import Derived.Test.YtfokgedjocnnmaaGreatLP
import Derived.Test.YtfokgedjocnnmaaGreatJ47
set_option linter.unusedVariables false
set_option linter.unusedSimpArgs false
set_option maxHeartbeats 1000000
namespace Go.Proofs.YtfokgedjocnnmaaGreat
open Go.RowKit
set_option maxRecDepth 100000
theorem rst0(k:RB)(a v:Nat)(s:MS)(w:World)(o:Option Nat)(ha:a < 4294967296)(hv:v < 4294967296)(hs:s.Ok)(h:RM w k s)(ho:sto s a 1=o) :
  Calls Tryz.prog 87 #[.pointer (some ⟨k.y,0,none⟩),.int .i64 0,.int .u32 a,.int .u32 v] w fun e w'=>e=.returned (.agg #[.int .i64 (stK 6 o),.int .u32 (stA o)])∧RM w' k (storeT s a 1 v)∧Chg k.all w w':=by
 have HC:Hid (∀ W,Below w.heap.size w W→Calls Tryz.prog 98 #[.pointer (some ⟨k.y,0,none⟩),.int .u32 a,.int .i64 1,.int .u32 v] W fun e w'=>e=.returned (.agg #[.int .i64 (stK 6 o),.int .u32 (stA o)])∧RM w' k (storeT s a 1 v)∧Chg k.all W w'):=show ∀ W,_ from fun W hW=>by
  have:=rstore_tot k a v 1 s W ha hv hs (h.below hW (Nat.le_refl _))
  rw[ho] at this
  exact this
 have HX:Hid (∀ x∈k.y :: k.all,x < w.heap.size):=h.lt
 clear ho h hs
 generalize stK 6 o=kk at *
 generalize stA o=aa at *
 go_enter Tryz.func87,Tryz.ntmps87
 go_wp2_with (first
  | (go_at_call 98;refine(HC.out _ ?_).mono ?_;(focus((repeat first|with_reducible exact Below.refl _ _|with_reducible exact hB|with_reducible refine Below.drew ?_|with_reducible refine Below.alloc ?_ zq6 _|with_reducible refine Below.setCell ?_ zq6 _)));rintro e w1 ⟨rfl,hp,hc⟩;have HPM:Hid _:=hp;have hXl:=HX.out;have HB8:Hid (w1.heap[w.heap.size]?=some (.cells #[.int .i64 0,.int .u32 0] 36)):=(hc.block _ zq17 (fun hm=>Nat.lt_irrefl _ (hXl _ (List.mem_cons_of_mem _ hm)))).trans ((bal_old _ _ _ (by simp)).trans (heap_alloc_last w _));have HCH:Hid _:=hc;have q0:w1.cell? ⟨w.heap.size,0,none⟩=some (.int .i64 0):=rcell HB8.out 0;have q1:w1.cell? ⟨w.heap.size,1,none⟩=some (.int .u32 0):=rcell HB8.out 1;have fr:=rfr HB8.out;have l8:=rlt HB8.out;clear hp hc))
 exact bodyPost_ret (v:=.agg #[.int .i64 kk,.int .u32 aa]) (by simp[results,Tryz.results87,go_sem,q0,q1,fr,l8]) rfl ⟨rfl,HPM.out.of_blocks fun x hx=>(Below.heap_setCell _ _ _ x (Nat.ne_of_lt (HX.out x hx))).trans (Below.heap_setCell _ _ _ x (Nat.ne_of_lt (HX.out x hx))),Chg.new (Chg.trans (Chg.of_below k.all (((Below.refl w.heap.size w).alloc (Nat.le_refl _) _).alloc (by simp) _)) HCH.out) (Nat.le_refl _) (((Only.refl _ w1).setCell 0 _).setCell 1 _)⟩
theorem rst1(k:RB)(a v:Nat)(s:MS)(w:World)(o:Option Nat)(ha:a < 4294967296)(hv:v < 4294967296)(hs:s.Ok)(h:RM w k s)(ho:sto s a 2=o) :
  Calls Tryz.prog 87 #[.pointer (some ⟨k.y,0,none⟩),.int .i64 1,.int .u32 a,.int .u32 v] w fun e w'=>e=.returned (.agg #[.int .i64 (stK 6 o),.int .u32 (stA o)])∧RM w' k (storeT s a 2 v)∧Chg k.all w w':=by
 have HC:Hid (∀ W,Below w.heap.size w W→Calls Tryz.prog 98 #[.pointer (some ⟨k.y,0,none⟩),.int .u32 a,.int .i64 2,.int .u32 v] W fun e w'=>e=.returned (.agg #[.int .i64 (stK 6 o),.int .u32 (stA o)])∧RM w' k (storeT s a 2 v)∧Chg k.all W w'):=show ∀ W,_ from fun W hW=>by
  have:=rstore_tot k a v 2 s W ha hv hs (h.below hW (Nat.le_refl _))
  rw[ho] at this
  exact this
 have HX:Hid (∀ x∈k.y :: k.all,x < w.heap.size):=h.lt
 clear ho h hs
 generalize stK 6 o=kk at *
 generalize stA o=aa at *
 go_enter Tryz.func87,Tryz.ntmps87
 go_wp2_with (first
  | (go_at_call 98;refine(HC.out _ ?_).mono ?_;(focus((repeat first|with_reducible exact Below.refl _ _|with_reducible exact hB|with_reducible refine Below.drew ?_|with_reducible refine Below.alloc ?_ zq6 _|with_reducible refine Below.setCell ?_ zq6 _)));rintro e w1 ⟨rfl,hp,hc⟩;have HPM:Hid _:=hp;have hXl:=HX.out;have HB8:Hid (w1.heap[w.heap.size]?=some (.cells #[.int .i64 0,.int .u32 0] 36)):=(hc.block _ zq17 (fun hm=>Nat.lt_irrefl _ (hXl _ (List.mem_cons_of_mem _ hm)))).trans ((bal_old _ _ _ (by simp)).trans (heap_alloc_last w _));have HCH:Hid _:=hc;have q0:w1.cell? ⟨w.heap.size,0,none⟩=some (.int .i64 0):=rcell HB8.out 0;have q1:w1.cell? ⟨w.heap.size,1,none⟩=some (.int .u32 0):=rcell HB8.out 1;have fr:=rfr HB8.out;have l8:=rlt HB8.out;clear hp hc))
 exact bodyPost_ret (v:=.agg #[.int .i64 kk,.int .u32 aa]) (by simp[results,Tryz.results87,go_sem,q0,q1,fr,l8]) rfl ⟨rfl,HPM.out.of_blocks fun x hx=>(Below.heap_setCell _ _ _ x (Nat.ne_of_lt (HX.out x hx))).trans (Below.heap_setCell _ _ _ x (Nat.ne_of_lt (HX.out x hx))),Chg.new (Chg.trans (Chg.of_below k.all (((Below.refl w.heap.size w).alloc (Nat.le_refl _) _).alloc (by simp) _)) HCH.out) (Nat.le_refl _) (((Only.refl _ w1).setCell 0 _).setCell 1 _)⟩
theorem rst2(k:RB)(a v:Nat)(s:MS)(w:World)(o:Option Nat)(ha:a < 4294967296)(hv:v < 4294967296)(hs:s.Ok)(h:RM w k s)(ho:sto s a 4=o) :
  Calls Tryz.prog 87 #[.pointer (some ⟨k.y,0,none⟩),.int .i64 2,.int .u32 a,.int .u32 v] w fun e w'=>e=.returned (.agg #[.int .i64 (stK 6 o),.int .u32 (stA o)])∧RM w' k (storeT s a 4 v)∧Chg k.all w w':=by
 have HC:Hid (∀ W,Below w.heap.size w W→Calls Tryz.prog 98 #[.pointer (some ⟨k.y,0,none⟩),.int .u32 a,.int .i64 4,.int .u32 v] W fun e w'=>e=.returned (.agg #[.int .i64 (stK 6 o),.int .u32 (stA o)])∧RM w' k (storeT s a 4 v)∧Chg k.all W w'):=show ∀ W,_ from fun W hW=>by
  have:=rstore_tot k a v 4 s W ha hv hs (h.below hW (Nat.le_refl _))
  rw[ho] at this
  exact this
 have HX:Hid (∀ x∈k.y :: k.all,x < w.heap.size):=h.lt
 clear ho h hs
 generalize stK 6 o=kk at *
 generalize stA o=aa at *
 go_enter Tryz.func87,Tryz.ntmps87
 go_wp2_with (first
  | (go_at_call 98;refine(HC.out _ ?_).mono ?_;(focus((repeat first|with_reducible exact Below.refl _ _|with_reducible exact hB|with_reducible refine Below.drew ?_|with_reducible refine Below.alloc ?_ zq6 _|with_reducible refine Below.setCell ?_ zq6 _)));rintro e w1 ⟨rfl,hp,hc⟩;have HPM:Hid _:=hp;have hXl:=HX.out;have HB8:Hid (w1.heap[w.heap.size]?=some (.cells #[.int .i64 0,.int .u32 0] 36)):=(hc.block _ zq17 (fun hm=>Nat.lt_irrefl _ (hXl _ (List.mem_cons_of_mem _ hm)))).trans ((bal_old _ _ _ (by simp)).trans (heap_alloc_last w _));have HCH:Hid _:=hc;have q0:w1.cell? ⟨w.heap.size,0,none⟩=some (.int .i64 0):=rcell HB8.out 0;have q1:w1.cell? ⟨w.heap.size,1,none⟩=some (.int .u32 0):=rcell HB8.out 1;have fr:=rfr HB8.out;have l8:=rlt HB8.out;clear hp hc))
 exact bodyPost_ret (v:=.agg #[.int .i64 kk,.int .u32 aa]) (by simp[results,Tryz.results87,go_sem,q0,q1,fr,l8]) rfl ⟨rfl,HPM.out.of_blocks fun x hx=>(Below.heap_setCell _ _ _ x (Nat.ne_of_lt (HX.out x hx))).trans (Below.heap_setCell _ _ _ x (Nat.ne_of_lt (HX.out x hx))),Chg.new (Chg.trans (Chg.of_below k.all (((Below.refl w.heap.size w).alloc (Nat.le_refl _) _).alloc (by simp) _)) HCH.out) (Nat.le_refl _) (((Only.refl _ w1).setCell 0 _).setCell 1 _)⟩
theorem addF_bdE(a b:Nat)(c:Int):0≤Fl.addF a b c∧Fl.addF a b c≤15:=by
 have h1:=Fl.valF_bd (((a:Int)+b+c)%4294967296)
 have h2:=Fl.isF_bd (decide (4294967296≤(a:Int)+b+c)) 4 zo
 have h3:=Fl.isF_bd (Fl.pastB (Fl.sgn a+Fl.sgn b+c)) 8 zo
 unfold Fl.addF;omega
theorem subF_bdE(a b:Nat)(c:Int):0≤Fl.subF a b c∧Fl.subF a b c≤15:=by
 have h1:=Fl.valF_bd (((a:Int) - b - c)%4294967296)
 have h2:=Fl.isF_bd (decide ((a:Int) - b - c < 0)) 4 zo
 have h3:=Fl.isF_bd (Fl.pastB (Fl.sgn a - Fl.sgn b - c)) 8 zo
 unfold Fl.subF;omega
theorem mulF_bdE(a b:Nat):0≤Fl.mulF a b∧Fl.mulF a b≤15:=by
 have h1:=Fl.valF_bd ((a*b%4294967296:Nat):Int)
 have h2:=Fl.isF_bd (decide (4294967296≤a*b)) 12 zo
 unfold Fl.mulF;omega
theorem incF_bdE(a old:Nat):0≤Fl.incF a old∧Fl.incF a old≤15:=by
 have h1:=Fl.valF_bd (((a:Int)+1)%4294967296)
 have h2:=Fl.carF_bd old
 have h3:=Fl.isF_bd (Fl.pastB (Fl.sgn a+1)) 8 zo
 unfold Fl.incF;omega
theorem decF_bdE(a old:Nat):0≤Fl.decF a old∧Fl.decF a old≤15:=by
 have h1:=Fl.valF_bd (((a:Int) - 1)%4294967296)
 have h2:=Fl.carF_bd old
 have h3:=Fl.isF_bd (Fl.pastB (Fl.sgn a - 1)) 8 zo
 unfold Fl.decF;omega
theorem shlF_bdE(a n:Nat):0≤Fl.shlF a n∧Fl.shlF a n≤15:=by
 have h1:=Fl.valF_bd ((a*2 ^ n%4294967296:Nat):Int)
 have h2:=Fl.isF_bd (a*2 ^ n / 4294967296%2==1) 4 zo
 unfold Fl.shlF;omega
theorem shrF_bdE(a n:Nat):0≤Fl.shrF a n∧Fl.shrF a n≤15:=by
 have h1:=Fl.valF_bd ((a:Int) / 2 ^ n)
 have h2:=Fl.isF_bd ((a:Int) / 2 ^ (n - 1)%2==1) 4 zo
 unfold Fl.shrF;omega
theorem sarF_bdE(a n:Nat):0≤Fl.sarF a n∧Fl.sarF a n≤15:=by
 have h1:=Fl.valF_bd (Fl.sgn a / 2 ^ (n - 1) / 2%4294967296)
 have h2:=Fl.isF_bd (Fl.sgn a / 2 ^ (n - 1)%4294967296%2==1) 4 zo
 unfold Fl.sarF;omega
theorem rolF_bdE(a n old:Nat):0≤Fl.rolF a n old∧Fl.rolF a n old≤15:=by
 have h2:=Fl.isF_bd (Fl.turN n a%2==1) 4 zo
 unfold Fl.rolF Fl.carF;omega
theorem flagsF_bdE(k:Int)(a b old:Nat):0≤Fl.flagsF k a b old∧Fl.flagsF k a b old≤15:=by
 unfold Fl.flagsF
 by_cases h1:k=1
 ·rw[if_pos h1];exact addF_bdE ..
 rw[if_neg h1]
 by_cases h2:k=2
 ·rw[if_pos h2];exact addF_bdE ..
 rw[if_neg h2]
 by_cases h3:k=3
 ·rw[if_pos h3];exact subF_bdE ..
 rw[if_neg h3]
 by_cases h4:k=4
 ·rw[if_pos h4];exact subF_bdE ..
 rw[if_neg h4]
 by_cases h5:k=5
 ·rw[if_pos h5];have:=Fl.valF_bd a;omega
 rw[if_neg h5]
 by_cases h6:k=10
 ·rw[if_pos h6];exact mulF_bdE ..
 rw[if_neg h6]
 by_cases h7:k=11
 ·rw[if_pos h7];exact incF_bdE ..
 rw[if_neg h7]
 by_cases h8:k=12
 ·rw[if_pos h8];exact decF_bdE ..
 rw[if_neg h8]
 by_cases h9:(k=6∨k=7∨k=8∨k=9)∧0 < b%32
 ·rw[if_pos h9]
  by_cases g1:k=6
  ·rw[if_pos g1];exact shlF_bdE ..
  rw[if_neg g1]
  by_cases g2:k=7
  ·rw[if_pos g2];exact shrF_bdE ..
  rw[if_neg g2]
  by_cases g3:k=8
  ·rw[if_pos g3];exact sarF_bdE ..
  rw[if_neg g3]
  exact rolF_bdE ..
 ·rw[if_neg h9];omega
theorem turN_bdE:∀ (n:Nat) (x:Int),0≤x→x < 4294967296→0≤Fl.turN n x∧Fl.turN n x < 4294967296
 | 0,x,h0,h1=>⟨h0,h1⟩
 | n+1,x,h0,h1=>turN_bdE n _ (Fl.tur1_bd x h0 h1).1 (Fl.tur1_bd x h0 h1).2
theorem recX_bdE(o:Int)(a b f:Nat)(ha:a < 4294967296)(hb:b < 4294967296):0≤Fl.recX o a b f∧Fl.recX o a b f < 4294967296:=by
 have hbit:=Fl.bitN_lt o a b ha hb
 unfold Fl.recX
 by_cases h1:o=0
 ·rw[if_pos h1];omega
 rw[if_neg h1]
 by_cases h2:o=1
 ·rw[if_pos h2];omega
 rw[if_neg h2]
 by_cases h3:o=2
 ·rw[if_pos h3];omega
 rw[if_neg h3]
 by_cases h4:o=3
 ·rw[if_pos h4];omega
 rw[if_neg h4]
 by_cases h5:o=4∨o=5∨o=6
 ·rw[if_pos h5];omega
 rw[if_neg h5]
 by_cases h6:o=7∨o=8
 ·rw[if_pos h6];omega
 rw[if_neg h6]
 by_cases h7:o=9
 ·rw[if_pos h7]
  have:=Nat.mod_lt (a*2 ^ (b%32)) (show 0 < 4294967296 by omega)
  omega
 rw[if_neg h7]
 by_cases h8:o=10
 ·rw[if_pos h8]
  have e:(a:Int) / 2 ^ (b%32)=((a / 2 ^ (b%32):Nat):Int):=by push_cast;rfl
  have:=Nat.div_le_self a (2 ^ (b%32))
  rw[e];exact⟨Int.natCast_nonneg _,by have h2:=Int.ofNat_le.2 this;omega⟩
 rw[if_neg h8]
 by_cases h9:o=11
 ·rw[if_pos h9];omega
 rw[if_neg h9]
 by_cases h10:o=12
 ·rw[if_pos h10];exact turN_bdE _ _ zo zo
 rw[if_neg h10]
 by_cases h11:o=13
 ·rw[if_pos h11]
  have:=Nat.mod_lt (a*b) (show 0 < 4294967296 by omega)
  omega
 rw[if_neg h11]
 by_cases h12:o=14∧0 < b
 ·rw[if_pos h12]
  have h2:=Int.ofNat_le.2 (Nat.div_le_self a b)
  exact⟨Int.natCast_nonneg _,by omega⟩
 rw[if_neg h12]
 by_cases h13:o=15∧0 < b
 ·rw[if_pos h13]
  have:=Nat.mod_le a b
  omega
 rw[if_neg h13];omega
structure Sq where
 c:Nat→Nat
 s:MS
 v:Nat→Nat
structure SqOk(q:Sq):Prop where
 c:cxOk q.c
 s:q.s.Ok
 v:cxOk q.v
def stN(w:Int):Int:=if w=0 then 1 else if w=1 then 2 else 4
def valV(o:OpR)(q:Sq):Int:=pvalF o q.c (q.v o.a.toNat) (q.v o.b.toNat) (q.v o.c.toNat)
def isV(k:Int):Prop:=k=1∨k=2∨k=4∨k=5∨k=6∨k=7∨k=8∨k=17
instance (k:Int):Decidable (isV k):=by unfold isV;infer_instance
def ldO(o:OpR)(q:Sq):Option Nat:=badN q.s 1 (q.v o.a.toNat) (ldNo o.w).toNat
def stO(o:OpR)(q:Sq):Option Nat:=sto q.s (q.v o.a.toNat) (stN o.w)
def nextO(o:OpR)(i:Nat)(q:Sq):Sq:=
 if o.kind=3 then⟨updC q.c o.w.toNat (q.v o.a.toNat),q.s,q.v⟩
 else if o.kind=9 then⟨q.c,q.s,updC q.v i (ldWo q.s o.w (q.v o.a.toNat))⟩
 else if o.kind=10 then⟨q.c,storeT q.s (q.v o.a.toNat) (stN o.w) (q.v o.b.toNat),q.v⟩
 else if isV o.kind then⟨q.c,q.s,updC q.v i (valV o q).toNat⟩ else q
structure ExR where
 k:Int
 a:Int
 pc:Int
 n:Int
abbrev exR(x:ExR):Value:=.agg #[.int .i64 x.k,.int .u32 x.a,.int .u32 x.pc,.int .i64 x.n]
def exO(o:OpR)(q:Sq):ExR:=
 if o.kind=9 then⟨stK 5 (ldO o q),stA (ldO o q),o.k,o.n⟩
 else if o.kind=10 then⟨stK 6 (stO o q),stA (stO o q),o.k,o.n⟩
 else if o.kind=13 then⟨o.w,0,o.k,o.n⟩
 else if o.kind=14 then⟨o.w,o.b,o.k,o.n⟩
 else if o.kind=16 then⟨0,0,q.v o.a.toNat,o.n⟩ else⟨0,0,o.k,o.n⟩
def leftO(o:OpR)(q:Sq):Bool:=
 if o.kind=9 then stK 5 (ldO o q) !=0 else if o.kind=10 then stK 6 (stO o q) !=0 else if o.kind=11 then touchB q.s
 else if o.kind=12∨o.kind=13 then(q.v o.a.toNat:Int) !=0 else decide (o.kind=14∨o.kind=15∨o.kind=16)
def runO(f:Nat→OpR):Nat→Nat→Sq→Sq × ExR × Int
 | 0,_,q=>(q,⟨0,0,0,0⟩,-1)
 | m+1,i,q=>if leftO (f i) q then(nextO (f i) i q,exO (f i) q,i) else runO f m (i+1) (nextO (f i) i q)
theorem isF1(b:Bool):0≤Fl.isF b 1∧Fl.isF b 1 < 4294967296:=by have:=Fl.isF_bd b 1 zo;omega
theorem binF_bd(w:Int)(a b:Nat)(ha:a < 4294967296)(hb:b < 4294967296):0≤binF w a b∧binF w a b < 4294967296:=by
 have hm:=mul_bd a b ha hb
 unfold binF
 by_cases h1:w < 10
 ·rw[if_pos h1];exact recX_bdE _ a b 0 ha hb
 rw[if_neg h1]
 by_cases h2:w=10
 ·rw[if_pos h2]
  have:a*b / 4294967296 < 4294967296:=Nat.div_lt_of_lt_mul zo
  omega
 rw[if_neg h2]
 by_cases h3:w=11
 ·rw[if_pos h3];split
  ·omega
  ·have h9:=Nat.div_le_self a b
   generalize a / b=d at h9 ⊢
   omega
 rw[if_neg h3]
 by_cases h4:w=12
 ·rw[if_pos h4];split
  ·omega
  ·have h9:=Nat.mod_le a b
   generalize a%b=d at h9 ⊢
   omega
 rw[if_neg h4]
 by_cases h5:w=13
 ·rw[if_pos h5];exact isF1 _
 rw[if_neg h5]
 by_cases h6:w=14
 ·rw[if_pos h6];exact isF1 _
 rw[if_neg h6];exact isF1 _
theorem unF_bd(w:Int)(a:Nat)(ha:a < 4294967296):unF w a < 4294967296:=by
 unfold unF
 repeat' split
 all_goals omega
theorem pvalF_bd(o:OpR)(c:Nat→Nat)(a b d:Nat)(hc:cxOk c)(ha:a < 4294967296)(hb:b < 4294967296)(hd:d < 4294967296)(hk:o.k < 4294967296):0≤pvalF o c a b d∧pvalF o c a b d < 4294967296:=by
 unfold pvalF valF
 by_cases h1:o.kind=2
 ·rw[if_pos h1];have:=hc o.w.toNat;omega
 rw[if_neg h1]
 by_cases h2:o.kind=17
 ·rw[if_pos h2];have:=flagsF_bdE (c 8) (c 9) (c 10) (c 11);exact⟨this.1,by unfold cxF;omega⟩
 rw[if_neg h2]
 by_cases h3:o.kind=1
 ·rw[if_pos h3];omega
 rw[if_neg h3]
 by_cases h4:o.kind=4
 ·rw[if_pos h4];exact binF_bd _ _ _ ha hb
 rw[if_neg h4]
 by_cases h5:o.kind=5
 ·rw[if_pos h5];have:=unF_bd o.w a ha;omega
 rw[if_neg h5]
 by_cases h6:o.kind=6
 ·rw[if_pos h6];split<;>omega
 rw[if_neg h6]
 by_cases h7:o.kind=7
 ·rw[if_pos h7];have:=flagsF_bdE o.w a b d;omega
 rw[if_neg h7];exact isF1 _
theorem ldW_bd(s:MS)(k:Int)(a:Nat)(hs:s.Ok):ldWo s k a < 4294967296:=by
 have hn:ldNo k=1∨ldNo k=2∨ldNo k=4:=by unfold ldNo;(repeat' split)<;>omega
 obtain⟨x,e,hx⟩:=ldX_nat s a (ldNo k) hs hn
 unfold ldWo
 rw[e]
 split
 ·exact unF_bd _ _ zo
 ·split
  ·exact unF_bd _ _ zo
  ·omega
theorem updC_ok{v:Nat→Nat}(h:cxOk v)(i x:Nat)(hx:x < 4294967296):cxOk (updC v i x):=fun j=>by
 unfold updC
 split
 ·exact hx
 ·exact h j
theorem nextO_ok(o:OpR)(i:Nat)(q:Sq)(h:SqOk q)(hk:o.k < 4294967296):SqOk (nextO o i q):=by
 unfold nextO
 by_cases h1:o.kind=3
 ·rw[if_pos h1];exact⟨updC_ok h.c _ _ (h.v _),h.s,h.v⟩
 rw[if_neg h1]
 by_cases h2:o.kind=9
 ·rw[if_pos h2];exact⟨h.c,h.s,updC_ok h.v _ _ (ldW_bd _ _ _ h.s)⟩
 rw[if_neg h2]
 by_cases h3:o.kind=10
 ·rw[if_pos h3];exact⟨h.c,ok_storeT h.s _ _ _,h.v⟩
 rw[if_neg h3]
 by_cases h4:isV o.kind
 ·rw[if_pos h4]
  have:=pvalF_bd o q.c (q.v o.a.toNat) (q.v o.b.toNat) (q.v o.c.toNat) h.c (h.v _) (h.v _) (h.v _) hk
  exact⟨h.c,h.s,updC_ok h.v _ _ (by unfold valV;omega)⟩
 rw[if_neg h4];exact h
structure OpGood(n:Nat)(o:OpR):Prop where
 k1:1≤o.kind
 k2:o.kind≤17
 lo:(rr o.kind).lo≤o.w
 hi:o.w≤(rr o.kind).hi
 a:0≤o.a∧o.a < n
 b:o.kind≠14→0≤o.b∧o.b < n
 b14:o.kind=14→0≤o.b∧o.b≤4294967295
 c:0≤o.c∧o.c < n
theorem opGood_of(count:Int)(n:Nat)(f:Nat→OpR)(i:Nat)(hi:i < n)(h:opErr count n f i=0):OpGood n (f i):=by
 unfold opErr at h
 by_cases e1:eOp (f i)=true
 ·rw[if_pos e1] at h;omega
 rw[if_neg e1] at h
 by_cases e2:fieldBad (flT (f i).kind.toNat) (f i) count=true
 ·rw[if_pos e2] at h;omega
 rw[if_neg e2] at h
 by_cases e3:takenBad (flT (f i).kind.toNat) (f i) f i=true
 ·rw[if_pos e3] at h;omega
 clear h
 simp only[eOp,Bool.or_eq_true,Bool.not_eq_true',decide_eq_true_eq,not_or,Bool.not_eq_false,isK_iff] at e1
 obtain⟨⟨⟨k1,k2⟩,e1⟩,e1'⟩:=e1
 generalize hx:flT (f i).kind.toNat=x at e2 e3
 have hg:x.hg=true→(f i).kind=14:=fun h=>by
  rw[← hx] at h
  obtain⟨k,hk⟩:∃ k:Nat,(f i).kind=k:=⟨(f i).kind.toNat,by omega⟩
  rw[hk] at h k1 k2 ⊢
  have:k≤17:=zo
  simp only[Int.toNat_natCast] at h
  have hk17:k=1∨k=2∨k=3∨k=4∨k=5∨k=6∨k=7∨k=8∨k=9∨k=10∨k=11∨k=12∨k=13∨k=14∨k=15∨k=16∨k=17:=zo
  clear hk hx k1 k2 this
  rcases hk17 with rfl|rfl|rfl|rfl|rfl|rfl|rfl|rfl|rfl|rfl|rfl|rfl|rfl|rfl|rfl|rfl|rfl<;>first|rfl|(exact absurd h (by decide))
 have hg2:(f i).kind=14→x.hg=true∧x.hb=false:=fun h=>by rw[← hx,h];exact⟨rfl,rfl⟩
 simp only[fieldBad,takenBad,bd,bg,tk,gvn,Bool.or_eq_true,Bool.and_eq_true,bne_iff_ne,ne_eq,Bool.not_eq_true',decide_eq_true_eq,decide_eq_false_iff_not,Bool.or_eq_false_iff,Bool.and_eq_false_iff,not_or,not_and,Bool.not_eq_false,Classical.not_not] at e2 e3
 obtain⟨⟨⟨⟨⟨⟨a1,a2⟩,a3⟩,-⟩,-⟩,a6⟩,-⟩:=e2
 obtain⟨⟨t1,t2⟩,t3⟩:=e3
 refine⟨k1,k2,by omega,by omega,?_,fun h14=>?_,fun h14=>?_,?_⟩
 ·by_cases ha:x.ha=true
  ·have:=(t1 ha).1;omega
  ·have:(f i).a=0:=by apply Classical.byContradiction;intro hne;exact ha (a1 hne)
   omega
 ·have hgf:¬x.hg=true:=fun hh=>h14 (hg hh)
  by_cases hb:x.hb=true
  ·have:=(t2 hb).1;omega
  ·have:(f i).b=0:=by
    apply Classical.byContradiction;intro hne
    have h9:=a2 hne
    simp[hb,hgf] at h9
   omega
 ·have:=a6 (hg2 h14).1
  omega
 ·by_cases hc:x.hc=true
  ·have:=(t3 hc).1;omega
  ·have:(f i).c=0:=by apply Classical.byContradiction;intro hne;exact hc (a3 hne)
   omega
theorem scan_ok(count:Int)(n:Nat)(f:Nat→OpR):∀ (m i:Nat),i+m=n→(scan count n f m i).1=0→(∀ j,i≤j→j < n→opErr count n f j=0)∧0 < n
 | 0,i,hi,h=>by
  refine⟨fun j h1 h2=>by omega,?_⟩
  simp only[scan,endR] at h
  by_cases e:n=0
  ·rw[if_pos (Or.inl e)] at h;simp at h
  ·omega
 | m+1,i,hi,h=>by
  simp only[scan] at h
  by_cases e:opErr count n f i=0
  ·rw[if_pos e] at h
   have:=scan_ok count n f m (i+1) zo h
   refine⟨fun j h1 h2=>?_,this.2⟩
   by_cases ej:j=i
   ·rw[ej];exact e
   ·exact this.1 j zo h2
  ·rw[if_neg e] at h;exact absurd h e
theorem check_good(count bytes:Int)(n:Nat)(f:Nat→OpR)(h:(checkF count bytes n f).1=0):n≤2048∧0 < n∧∀ j,j < n→OpGood n (f j):=by
 unfold checkF at h
 by_cases e:2048 < n
 ·rw[if_pos e] at h;simp at h
 rw[if_neg e] at h
 by_cases e2:(0≤count∧count≤64)∧(0≤bytes∧bytes≤384)
 ·rw[if_pos e2] at h
  have:=scan_ok count n f n 0 zo h
  exact⟨by omega,this.2,fun j hj=>opGood_of count n f j hj (this.1 j zo hj)⟩
 ·rw[if_neg e2] at h;simp at h
theorem pends_any(n:Int)(w:World):Calls Tryz.prog 22 #[.int .i64 n] w fun e w'=>e=.returned (.bool (endsF n))∧w=w':=by
 by_cases h1:n=1
 ·subst h1
  rw[show endsF 1=true by decide]
  go_enter Tryz.func22,Tryz.ntmps22;go_wp2;go_ret;exact⟨rfl,rfl⟩
 have d1:(n==1)=false:=by simpa using h1
 by_cases h2:n=2
 ·subst h2
  rw[show endsF 2=true by decide]
  clear h1 d1
  go_enter Tryz.func22,Tryz.ntmps22;go_wp2;go_ret;exact⟨rfl,rfl⟩
 have d2:(n==2)=false:=by simpa using h2
 by_cases h5:5≤n
 ·have d5:decide (5≤n)=true:=decide_eq_true h5
  by_cases h13:n≤13
  ·have d13:decide (n≤13)=true:=decide_eq_true h13
   rw[show endsF n=true by simp[endsF];omega]
   go_enter Tryz.func22,Tryz.ntmps22;go_wp2;go_ret;exact⟨rfl,rfl⟩
  ·have d13:decide (n≤13)=false:=decide_eq_false h13
   rw[show endsF n=false by simp[endsF];omega]
   go_enter Tryz.func22,Tryz.ntmps22;go_wp2;go_ret;exact⟨rfl,rfl⟩
 ·have d5:decide (5≤n)=false:=decide_eq_false h5
  rw[show endsF n=false by simp[endsF];omega]
  go_enter Tryz.func22,Tryz.ntmps22;go_wp2;go_ret;exact⟨rfl,rfl⟩
theorem rends_any(n:Int)(w:World):Calls Tryz.prog 24 #[.int .i64 n] w fun e w'=>e=.returned (.bool (endsF n))∧w=w':=by
 by_cases h1:n=1
 ·subst h1
  rw[show endsF 1=true by decide]
  go_enter Tryz.func24,Tryz.ntmps24;go_wp2;go_ret;exact⟨rfl,rfl⟩
 have d1:(n==1)=false:=by simpa using h1
 by_cases h2:n=2
 ·subst h2
  rw[show endsF 2=true by decide]
  clear h1 d1
  go_enter Tryz.func24,Tryz.ntmps24;go_wp2;go_ret;exact⟨rfl,rfl⟩
 have d2:(n==2)=false:=by simpa using h2
 by_cases h5:5≤n
 ·have d5:decide (5≤n)=true:=decide_eq_true h5
  by_cases h13:n≤13
  ·have d13:decide (n≤13)=true:=decide_eq_true h13
   rw[show endsF n=true by simp[endsF];omega]
   go_enter Tryz.func24,Tryz.ntmps24;go_wp2;go_ret;exact⟨rfl,rfl⟩
  ·have d13:decide (n≤13)=false:=decide_eq_false h13
   rw[show endsF n=false by simp[endsF];omega]
   go_enter Tryz.func24,Tryz.ntmps24;go_wp2;go_ret;exact⟨rfl,rfl⟩
 ·have d5:decide (5≤n)=false:=decide_eq_false h5
  rw[show endsF n=false by simp[endsF];omega]
  go_enter Tryz.func24,Tryz.ntmps24;go_wp2;go_ret;exact⟨rfl,rfl⟩
structure BR where
 l:List OpR
 count:Nat
 bytes:Nat
def gotoO(next count:Nat):OpR:=⟨15,0,0,0,0,next,count⟩
def xiOf(i:IR)(pc done:Nat):XI:=⟨i.op,i.D,i.S,i.O,i.imm,pc,(pc+i.n)%4294967296,done⟩
def blkF(s:MS)(pc:Nat):Nat→Nat→Nat→Nat→List OpR→BR
 | 0,next,count,bytes,l=>⟨l++[gotoO next count],count,bytes⟩
 | f+1,next,count,bytes,l=>
  if(insOf s next).k≠0 then
   if count=0 then⟨l++[⟨14,(insOf s next).k,0,(insOf s next).a,0,pc,0⟩],count,bytes⟩
   else⟨l++[gotoO next count],count,bytes⟩
  else if endsF (insOf s next).op=true then⟨l++liftF (xiOf (insOf s next) next count) l.length,count+1,bytes+(insOf s next).n⟩
  else blkF s pc f ((next+(insOf s next).n)%4294967296) (count+1) (bytes+(insOf s next).n) (l++liftF (xiOf (insOf s next) next count) l.length)
def moF(most:Int):Nat:=(if 64 < (if most < 1 then 1 else most) then 64 else(if most < 1 then 1 else most)).toNat
theorem moF_eq(most:Int):(if 64 < (if most < 1 then 1 else most) then 64 else(if most < 1 then 1 else most))=(moF most:Int):=by unfold moF;split<;>split<;>omega
theorem moF_bd(most:Int):1≤moF most∧moF most≤64:=by unfold moF;split<;>split<;>omega
def opD:OpR:=⟨0,0,0,0,0,0,0⟩
theorem opsV_at:∀ (l:List OpR) (i r:Nat),i < l.length→r < 7→(opsV l)[i*7+r]?=some (opCell (l.getD i opD) r)
 | [],i,r,h,_=>absurd h (by simp)
 | o :: l,0,r,_,hr=>by
  have hl:(opCells o).length=7:=rfl
  rw[opsV,List.getElem?_append_left zo]
  match r,hr with
  | 0,_|1,_|2,_|3,_|4,_|5,_|6,_=>rfl
  | n+7,h=>exact absurd h zo
 | o :: l,i+1,r,h,hr=>by
  have hl:(opCells o).length=7:=rfl
  rw[opsV,List.getElem?_append_right zo,show(i+1)*7+r - (opCells o).length=i*7+r by omega,opsV_at l i r (by simpa using h) hr]
  simp
theorem opsV_opsL(l:List OpR):opsV l=opsL (fun i=>l.getD i opD) l.length:=by
 apply List.ext_getElem?
 intro j
 by_cases hj:j < l.length*7
 ·have h1:=opsV_at l (j / 7) (j%7) zo zo
  rw[show j / 7*7+j%7=j by omega] at h1
  rw[h1]
  unfold opsL
  rw[List.getElem?_map,List.getElem?_range hj]
  rfl
 ·rw[List.getElem?_eq_none (by rw[opsV_len];omega),List.getElem?_eq_none (by rw[opsL_len];omega)]
theorem owns_opsR{w:World}{base:Nat}{sv:Value}{l:List OpR}(h:w.ownsRow base 54 7 sv l.length (opsV l))(hn:0 < l.length):∃ g cap,sv=.slice (some ⟨g,0,none⟩) l.length cap∧base≤g∧OpsR w (some ⟨g,0,none⟩) l.length (fun i=>l.getD i opD):=by
 rcases h.2 with ⟨-,h0⟩|⟨g,c',cur,hv,hb,hh,h1,h2,h3,h4⟩
 ·omega
 ·refine⟨g,c',hv,hb,?_⟩
  have h':=h
  rw[hv,opsV_opsL] at h'
  exact(owns_ops h' hn).1
theorem LB.setCount{w:World}{base B pc:Nat}{count bytes:Int}{sv:Value}{l:List OpR}(h:LB w base B pc count bytes sv l)(c:Int):LB (w.setCell ⟨B,1,none⟩ (.int .i64 c)) base B pc c bytes sv l:=
 ⟨heap_setCell_same w B 1 _ _ _ h.b,owns_keep h.o fun g hg=>Below.heap_setCell w ⟨B,1,none⟩ _ g (h.ne hg)⟩
theorem LB.setBytes{w:World}{base B pc:Nat}{count bytes:Int}{sv:Value}{l:List OpR}(h:LB w base B pc count bytes sv l)(c:Int):LB (w.setCell ⟨B,2,none⟩ (.int .i64 c)) base B pc count c sv l:=
 ⟨heap_setCell_same w B 2 _ _ _ h.b,owns_keep h.o fun g hg=>Below.heap_setCell w ⟨B,2,none⟩ _ g (h.ne hg)⟩
def OkL(c:Int)(l:List OpR):Prop:=∀ i o,l[i]?=some o→StO c (l.take i) o∧(rr o.kind).ends=false
theorem lt_some{l:List OpR}{i:Nat}{o:OpR}(h:l[i]?=some o):i < l.length:=by
 rcases Nat.lt_or_ge i l.length with g|g
 ·exact g
 ·rw[List.getElem?_eq_none g] at h;cases h
theorem okL_snoc{c:Int}{l:List OpR}{o:OpR}(h:OkL c l)(h1:StO c l o)(h2:(rr o.kind).ends=false):OkL c (l++[o]):=fun i o' hi=>by
 have hl:=lt_some hi
 rw[List.length_append,List.length_cons,List.length_nil] at hl
 by_cases e:i < l.length
 ·rw[List.getElem?_append_left e] at hi
  rw[List.take_append_of_le_length zo]
  exact h i o' hi
 ·have e1:i=l.length:=zo
  subst e1
  rw[List.getElem?_append_right (Nat.le_refl _),Nat.sub_self] at hi
  cases hi
  rw[List.take_append_of_le_length (Nat.le_refl _),List.take_length]
  exact⟨h1,h2⟩
theorem okL_app{c:Int}{l:List OpR}:∀ (q r:List OpR),OkL c (l++r)→OkR c l r q→OkL c (l++r++q)
 | [],r,h,_=>by rw[List.append_nil];exact h
 | o :: q,r,h,⟨h1,h2,h3⟩=>by
  have:=okL_app q (r++[o]) (by rw[← List.append_assoc];exact okL_snoc h h1 h2) h3
  rw[← List.append_assoc,List.append_assoc (l++r)] at this
  exact this
theorem StO.mono{c c':Int}{l:List OpR}{o:OpR}(h:StO c l o)(hc:c≤c'):StO c' l o:=by
 refine⟨h.e,?_,h.t⟩
 have h1:=h.f
 unfold fieldBad at h1 ⊢
 simp only[Bool.or_eq_false_iff,Bool.not_eq_false',decide_eq_true_eq] at h1 ⊢
 exact⟨h1.1,h1.2.1,by omega⟩
theorem OkL.mono{c c':Int}{l:List OpR}(h:OkL c l)(hc:c≤c'):OkL c' l:=fun i o hi=>⟨(h i o hi).1.mono hc,(h i o hi).2⟩
theorem form6:∀ k:_root_.Fin 32,1+Gu.szL (Gu.formB k.val)≤6:=by decide +kernel
theorem hit_lt{y:Int}{k:Nat}(h:Gu.hitF y=some k):k < 32:=Gu.hitF_lt h
theorem dec_n6(zs:List Int)(len:Nat):(Gu.refDec zs len).n≤6:=by
 unfold Gu.refDec
 split
 ·exact(by decide:(0:Int)≤6)
 ·split
  ·exact(by decide:(0:Int)≤6)
  ·rename_i k hk
   split
   ·exact(by decide:(0:Int)≤6)
   ·split
    ·exact(by decide:(0:Int)≤6)
    ·exact form6 ⟨k,hit_lt hk⟩
theorem insOf_n6(s:MS)(pc:Nat):(insOf s pc).n≤6:=by
 unfold insOf
 split
 ·exact Nat.zero_le _
 ·split
  ·exact Nat.zero_le _
  ·simp only
   split
   ·show Int.toNat _≤6
    have:=dec_n6 (byL s pc (fetM s pc (Gu.sizeF (s.B pc)))) (fetM s pc (Gu.sizeF (s.B pc)))
    omega
   ·exact Nat.zero_le _
structure BGood(R:BR):Prop where
 c64:R.count≤64
 by':R.bytes≤6*R.count
 ln:R.l.length≤20*R.count+1
 ex:∃ r o,R.l=r++[o]∧OkL R.count r∧StO R.count r o∧(rr o.kind).ends=true
theorem xgood{i:IR}(hio:InsOk i)(next count:Nat)(c:Int)(hc:(count:Int)+1≤c):XGood (xiOf i next count) c:=
 ⟨⟨hio.op0,by have:=hio.op1;show i.op < 32;omega⟩,by have:=hio.D1;show 0≤(i.D:Int)∧(i.D:Int)≤7;omega,by have:=hio.S1;show 0≤(i.S:Int)∧(i.S:Int)≤7;omega,⟨hio.O0,by have:=hio.O1;show i.O < 16;omega⟩,hio.im,hio.ld,hio.st,by show 0≤(count:Int);omega,hc⟩
theorem insOf_k(s:MS)(pc:Nat):(insOf s pc).k=0∨(insOf s pc).k=3∨(insOf s pc).k=4:=by
 unfold insOf
 split
 ·exact Or.inr (Or.inr rfl)
 ·split
  ·exact Or.inr (Or.inr rfl)
  ·simp only
   split
   ·exact Or.inl rfl
   ·exact Or.inr (Or.inl rfl)
theorem blk_good(s:MS)(hs:s.Ok)(pc:Nat)(hA:∀ p,p < 4294967296→0≤(insOf s p).a∧(insOf s p).a≤4294967295):∀ (f next count bytes:Nat) (l:List OpR),next < 4294967296→count+f≤64→bytes≤6*count→l.length≤20*count→OkL count l→BGood (blkF s pc f next count bytes l)
 | 0,next,count,bytes,l,hn,hf,hb,hl,ho=>by
  rw[blkF]
  exact⟨by show count≤64;omega,hb,by show(l++[_]).length≤_;simp;omega,l,gotoO next count,rfl,ho,so15 (show 0≤(count:Int)∧(count:Int)≤(count:Int) by omega),rfl⟩
 | f+1,next,count,bytes,l,hn,hf,hb,hl,ho=>by
  rw[blkF]
  by_cases hk:(insOf s next).k≠0
  ·rw[if_pos hk]
   by_cases hc:count=0
   ·rw[if_pos hc]
    have h3:=insOf_k s next
    have ha:=hA next hn
    exact⟨by show count≤64;omega,hb,by show(l++[_]).length≤_;simp;omega,l,_,rfl,ho,so14 zo ha zo,rfl⟩
   ·rw[if_neg hc]
    exact⟨by show count≤64;omega,hb,by show(l++[_]).length≤_;simp;omega,l,gotoO next count,rfl,ho,so15 (show 0≤(count:Int)∧(count:Int)≤(count:Int) by omega),rfl⟩
  ·rw[if_neg hk]
   have hio:=insOf_ok s next hs zo
   have h6:=insOf_n6 s next
   have h20:=liftF_len (xiOf (insOf s next) next count) l.length
   have ho':OkL ((count+1:Nat):Int) l:=ho.mono zo
   by_cases he:endsF (insOf s next).op=true
   ·rw[if_pos he]
    obtain⟨r,o,e1,e2,e3,e4⟩:=lift_end ((count+1:Nat):Int) l l.length rfl _ (xgood hio next count _ zo) he
    refine⟨by show count+1≤64;omega,by show bytes+_≤6*(count+1);omega,by show(l++_).length≤20*(count+1)+1;rw[List.length_append];omega,l++r,o,by show l++liftF _ _=_;rw[e1,List.append_assoc],?_,e3,e4⟩
    have:=okL_app r [] (by rw[List.append_nil];exact ho') e2
    rw[List.append_nil] at this
    exact this
   ·rw[if_neg he]
    have h1:=okL_app (liftF (xiOf (insOf s next) next count) l.length) [] (by rw[List.append_nil];exact ho') (lift_mid ((count+1:Nat):Int) l l.length rfl _ (xgood hio next count _ zo) (show endsF (insOf s next).op=false by simpa using he))
    rw[List.append_nil] at h1
    exact blk_good s hs pc hA f _ (count+1) _ _ (Nat.mod_lt _ (by decide)) zo zo (by rw[List.length_append];omega) h1
theorem gvn_eq(l:List OpR)(i:Nat)(hi:i≤l.length)(t:Int):gvn (fun j=>l.getD j opD) i t=gvL (l.take i) t:=by
 unfold gvn gvL
 rw[List.length_take,Nat.min_eq_left hi]
 by_cases h:0≤t∧t < i
 ·have h1:t.toNat < i:=zo
  rw[decide_eq_true h]
  simp only[Bool.true_and]
  rw[List.getD_eq_getElem?_getD,List.getD_eq_getElem?_getD,List.getElem?_take_of_lt h1]
  rfl
 ·rw[decide_eq_false h];rfl
theorem tk_eq(l:List OpR)(i:Nat)(hi:i≤l.length)(x:FL)(o:OpR):takenBad x o (fun j=>l.getD j opD) i=tkL x o (l.take i):=by
 unfold takenBad tk tkL
 rw[gvn_eq l i hi,gvn_eq l i hi,gvn_eq l i hi]
 rfl
theorem scanL_ok(count:Int)(n:Nat)(f:Nat→OpR)(h:∀ i,i < n→opErr count n f i=0):∀ (m j:Nat),m+j=n→scan count n f m j=endR n f
 | 0,j,_=>rfl
 | m+1,j,hj=>by
  unfold scan
  rw[if_pos (h j zo)]
  exact scanL_ok count n f h m (j+1) zo
theorem opErr_ok{count:Int}{n:Nat}{l:List OpR}{i:Nat}{o:OpR}(ho:l[i]?=some o)(h:StO count (l.take i) o)(he:(rr o.kind).ends=false∨i+1=n):opErr count n (fun j=>l.getD j opD) i=0:=by
 have hl:=lt_some ho
 have e1:l.getD i opD=o:=by rw[List.getD_eq_getElem?_getD,ho];rfl
 unfold opErr
 simp only[e1]
 rw[tk_eq l i zo,h.e,h.f,h.t]
 simp only[Bool.false_eq_true,if_false]
 rcases he with he|he
 ·rw[he];simp
 ·simp[he]
theorem check_blk{R:BR}(h:BGood R):checkF R.count R.bytes R.l.length (fun i=>R.l.getD i opD)=(0,0):=by
 obtain⟨r,o,e1,e2,e3,e4⟩:=h.ex
 have h1:=h.c64
 have h2:=h.by'
 have h3:=h.ln
 have hlen:R.l.length=r.length+1:=by rw[e1];simp
 unfold checkF
 rw[if_neg zo,if_pos zo]
 have hlast:R.l[r.length]?=some o:=by rw[e1,List.getElem?_append_right (Nat.le_refl _),Nat.sub_self];rfl
 rw[scanL_ok _ R.l.length _ (fun i hi=>?_) R.l.length 0 rfl]
 ·unfold endR
  have e5:R.l.getD (R.l.length - 1) opD=o:=by rw[List.getD_eq_getElem?_getD,hlen,Nat.add_sub_cancel,hlast];rfl
  rw[if_neg (show ¬(R.l.length=0∨(rr (R.l.getD (R.l.length - 1) opD).kind).ends=false) by rw[e5,e4,hlen];simp)]
 ·by_cases hi2:i < r.length
  ·obtain⟨o',ho'⟩:∃ o',r[i]?=some o':=⟨r[i],List.getElem?_eq_getElem hi2⟩
   have h4:=e2 i o' ho'
   have ho2:R.l[i]?=some o':=by rw[e1,List.getElem?_append_left hi2];exact ho'
   refine opErr_ok ho2 ?_ (Or.inl h4.2)
   rw[e1,List.take_append_of_le_length zo]
   exact h4.1
  ·have e6:i=r.length:=zo
   subst e6
   refine opErr_ok hlast ?_ (Or.inr zo)
   rw[e1,List.take_append_of_le_length (Nat.le_refl _),List.take_length]
   exact e3
structure LnR where
 n:Nat
 size:Nat
 k:Int
 a:Int
def lenF(s:MS)(pc:Nat):Nat→Nat→Nat→LnR
 | 0,n,size=>⟨n,size,0,0⟩
 | f+1,n,size=>
  if(insOf s ((pc+size)%4294967296)).k≠0 then
   if n=0 then⟨0,0,(insOf s ((pc+size)%4294967296)).k,(insOf s ((pc+size)%4294967296)).a⟩ else⟨n,size,0,0⟩
  else if endsF (insOf s ((pc+size)%4294967296)).op=true then⟨n+1,size+(insOf s ((pc+size)%4294967296)).n,0,0⟩
  else lenF s pc f (n+1) (size+(insOf s ((pc+size)%4294967296)).n)
theorem blk_len(s:MS)(pc:Nat):∀ (f next count bytes:Nat) (l:List OpR),next=(pc+bytes)%4294967296→bytes≤6*count→(blkF s pc f next count bytes l).count=(lenF s pc f count bytes).n∧(blkF s pc f next count bytes l).bytes=(lenF s pc f count bytes).size
 | 0,next,count,bytes,l,hn,hb=>⟨rfl,rfl⟩
 | f+1,next,count,bytes,l,hn,hb=>by
  rw[blkF,lenF,← hn]
  by_cases hk:(insOf s next).k≠0
  ·rw[if_pos hk,if_pos hk]
   by_cases hc:count=0
   ·rw[if_pos hc,if_pos hc]
    exact⟨hc,by show bytes=0;omega⟩
   ·rw[if_neg hc,if_neg hc]
    exact⟨rfl,rfl⟩
  ·rw[if_neg hk,if_neg hk]
   by_cases he:endsF (insOf s next).op=true
   ·rw[if_pos he,if_pos he]
    exact⟨rfl,rfl⟩
   ·rw[if_neg he,if_neg he]
    have:=insOf_n6 s next
    exact blk_len s pc f _ (count+1) (bytes+(insOf s next).n) _ (by rw[hn,Nat.mod_add_mod,Nat.add_assoc]) zo
theorem len_ge(s:MS)(pc:Nat):∀ (f n size:Nat),n≤(lenF s pc f n size).n∨n=0
 | 0,n,size=>Or.inl (Nat.le_refl _)
 | f+1,n,size=>by
  by_cases h0:n=0
  ·exact Or.inr h0
  rw[lenF]
  refine Or.inl ?_
  split
  ·exact Nat.le_refl _
  ·split
   ·exact Nat.le_succ _
   ·rcases len_ge s pc f (n+1) (size+(insOf s ((pc+size)%4294967296)).n) with h|h
    ·omega
    ·omega
def runL:List OpR→Nat→Sq→Sq × Option ExR
 | [],_,q=>(q,none)
 | o :: l,i,q=>if leftO o q then(nextO o i q,some (exO o q)) else runL l (i+1) (nextO o i q)
theorem runL_app:∀ (l1 l2:List OpR) (i:Nat) (q:Sq),runL (l1++l2) i q=match runL l1 i q with|(q',some x)=>(q',some x)|(q',none)=>runL l2 (i+l1.length) q'
 | [],l2,i,q=>by simp[runL]
 | o :: l1,l2,i,q=>by
  simp only[List.cons_append,runL]
  split
  ·rfl
  ·rw[runL_app l1 l2 (i+1)]
   simp only[List.length_cons,Nat.add_assoc,Nat.add_comm 1]
def csG(c:Nat→Nat)(pc:Nat):GS:=⟨fun i=>if i < 8 then c i else 0,pc,(cxF c).toNat⟩
def stOp(op:Int):Bool:=decide (op=3∨op=14∨op=24∨op=25∨op=26∨op=31)
def leftX(o:SO)(op:Int)(pc:Nat)(done:Int):Option ExR:=
 if o.k=0 then(if endsF op=true∨(stOp op=true∧touchB o.m=true) then some ⟨0,0,o.t.pc,done+1⟩ else none)
 else if o.k=1 then some ⟨1,o.a,o.t.pc,done+1⟩ else some ⟨o.k,o.a,pc,done⟩
structure SimIn(m:MS)(c:Nat→Nat)(pc:Nat)(i:IR)(done:Nat):Prop where
 hc:cxOk c
 hm:m.Ok
 hi:insOf m pc=i
 hk:i.k=0
 ok:InsOk i
 pl:pc < 4294967296
def Sim(m:MS)(c:Nat→Nat)(pc:Nat)(i:IR)(done:Nat)(M:Nat)(v:Nat→Nat):Prop:=
 (runL (liftF (xiOf i pc done) M) M ⟨c,m,v⟩).1.s=(stepF m (csG c pc)).m∧
 csG (runL (liftF (xiOf i pc done) M) M ⟨c,m,v⟩).1.c (stepF m (csG c pc)).t.pc=(stepF m (csG c pc)).t∧
 (runL (liftF (xiOf i pc done) M) M ⟨c,m,v⟩).2=leftX (stepF m (csG c pc)) i.op pc done
theorem cxF_bd{c:Nat→Nat}(hc:cxOk c):0≤cxF c∧cxF c < 16:=by
 have h:=flagsF_bdE (c 8) (c 9) (c 10) (c 11)
 have e:cxF c=Fl.flagsF (c 8) (c 9) (c 10) (c 11):=rfl
 omega
theorem csG_f{c:Nat→Nat}(hc:cxOk c)(pc:Nat):(csG c pc).setF ((csG c pc).f%16)=csG c pc:=by
 have h:=cxF_bd hc
 unfold GS.setF csG
 simp only[GS.mk.injEq,true_and]
 omega
theorem w32_nat(a b:Nat):w32 ((a:Int)+b)=(a+b)%4294967296:=by unfold w32;omega
theorem w32_not(x:Nat)(h:x < 4294967296):w32 (4294967295 - (x:Int))=4294967295 - x:=by unfold w32;omega
theorem w32_inc(x:Nat):w32 ((x:Int)+1)=(x+1)%4294967296:=by unfold w32;omega
theorem w32_neg(x:Nat)(h:x < 4294967296):w32 (-(x:Int))=(4294967296 - x)%4294967296:=by unfold w32;omega
theorem gs_ext{a b:GS}(h1:∀ j,a.R j=b.R j)(h2:a.pc=b.pc)(h3:a.f=b.f):a=b:=by
 obtain⟨R,p,f⟩:=a
 obtain⟨R',p',f'⟩:=b
 simp only at h1 h2 h3
 rw[show R=R' from funext h1,h2,h3]
theorem tN1(M:Nat):((M:Int)+1).toNat=M+1:=zo
theorem tN2(M:Nat):((M:Int)+1+1).toNat=M+1+1:=zo
theorem tN3(M:Nat):((M:Int)+1+1+1).toNat=M+1+1+1:=zo
theorem tN4(M:Nat):((M:Int)+1+1+1+1).toNat=M+1+1+1+1:=zo
theorem tN5(M:Nat):((M:Int)+1+1+1+1+1).toNat=M+1+1+1+1+1:=zo
theorem tN6(M:Nat):((M:Int)+1+1+1+1+1+1).toNat=M+1+1+1+1+1+1:=zo
theorem tN7(M:Nat):((M:Int)+1+1+1+1+1+1+1).toNat=M+1+1+1+1+1+1+1:=zo
theorem tN8(M:Nat):((M:Int)+1+1+1+1+1+1+1+1).toNat=M+1+1+1+1+1+1+1+1:=zo
theorem tN9(M:Nat):((M:Int)+1+1+1+1+1+1+1+1+1).toNat=M+1+1+1+1+1+1+1+1+1:=zo
theorem tN10(M:Nat):((M:Int)+1+1+1+1+1+1+1+1+1+1).toNat=M+1+1+1+1+1+1+1+1+1+1:=zo
theorem tN11(M:Nat):((M:Int)+1+1+1+1+1+1+1+1+1+1+1).toNat=M+1+1+1+1+1+1+1+1+1+1+1:=zo
theorem tN12(M:Nat):((M:Int)+1+1+1+1+1+1+1+1+1+1+1+1).toNat=M+1+1+1+1+1+1+1+1+1+1+1+1:=zo
theorem tN13(M:Nat):((M:Int)+1+1+1+1+1+1+1+1+1+1+1+1+1).toNat=M+1+1+1+1+1+1+1+1+1+1+1+1+1:=zo
theorem tN14(M:Nat):((M:Int)+1+1+1+1+1+1+1+1+1+1+1+1+1+1).toNat=M+1+1+1+1+1+1+1+1+1+1+1+1+1+1:=zo
theorem tN15(M:Nat):((M:Int)+1+1+1+1+1+1+1+1+1+1+1+1+1+1+1).toNat=M+1+1+1+1+1+1+1+1+1+1+1+1+1+1+1:=zo
theorem nM1(M:Nat):(M=M+1)=False:=by simp only[eq_iff_iff,iff_false];omega
theorem nW1(M:Nat):(M+1=M)=False:=by simp only[eq_iff_iff,iff_false];omega
theorem nM2(M:Nat):(M=M+1+1)=False:=by simp only[eq_iff_iff,iff_false];omega
theorem nW2(M:Nat):(M+1+1=M)=False:=by simp only[eq_iff_iff,iff_false];omega
theorem nM3(M:Nat):(M=M+1+1+1)=False:=by simp only[eq_iff_iff,iff_false];omega
theorem nW3(M:Nat):(M+1+1+1=M)=False:=by simp only[eq_iff_iff,iff_false];omega
theorem nM4(M:Nat):(M=M+1+1+1+1)=False:=by simp only[eq_iff_iff,iff_false];omega
theorem nW4(M:Nat):(M+1+1+1+1=M)=False:=by simp only[eq_iff_iff,iff_false];omega
theorem nM5(M:Nat):(M=M+1+1+1+1+1)=False:=by simp only[eq_iff_iff,iff_false];omega
theorem nW5(M:Nat):(M+1+1+1+1+1=M)=False:=by simp only[eq_iff_iff,iff_false];omega
theorem nM6(M:Nat):(M=M+1+1+1+1+1+1)=False:=by simp only[eq_iff_iff,iff_false];omega
theorem nW6(M:Nat):(M+1+1+1+1+1+1=M)=False:=by simp only[eq_iff_iff,iff_false];omega
theorem nM7(M:Nat):(M=M+1+1+1+1+1+1+1)=False:=by simp only[eq_iff_iff,iff_false];omega
theorem nW7(M:Nat):(M+1+1+1+1+1+1+1=M)=False:=by simp only[eq_iff_iff,iff_false];omega
theorem nM8(M:Nat):(M=M+1+1+1+1+1+1+1+1)=False:=by simp only[eq_iff_iff,iff_false];omega
theorem nW8(M:Nat):(M+1+1+1+1+1+1+1+1=M)=False:=by simp only[eq_iff_iff,iff_false];omega
theorem nM9(M:Nat):(M=M+1+1+1+1+1+1+1+1+1)=False:=by simp only[eq_iff_iff,iff_false];omega
theorem nW9(M:Nat):(M+1+1+1+1+1+1+1+1+1=M)=False:=by simp only[eq_iff_iff,iff_false];omega
theorem nM10(M:Nat):(M=M+1+1+1+1+1+1+1+1+1+1)=False:=by simp only[eq_iff_iff,iff_false];omega
theorem nW10(M:Nat):(M+1+1+1+1+1+1+1+1+1+1=M)=False:=by simp only[eq_iff_iff,iff_false];omega
theorem nM11(M:Nat):(M=M+1+1+1+1+1+1+1+1+1+1+1)=False:=by simp only[eq_iff_iff,iff_false];omega
theorem nW11(M:Nat):(M+1+1+1+1+1+1+1+1+1+1+1=M)=False:=by simp only[eq_iff_iff,iff_false];omega
theorem nM12(M:Nat):(M=M+1+1+1+1+1+1+1+1+1+1+1+1)=False:=by simp only[eq_iff_iff,iff_false];omega
theorem nW12(M:Nat):(M+1+1+1+1+1+1+1+1+1+1+1+1=M)=False:=by simp only[eq_iff_iff,iff_false];omega
theorem nM13(M:Nat):(M=M+1+1+1+1+1+1+1+1+1+1+1+1+1)=False:=by simp only[eq_iff_iff,iff_false];omega
theorem nW13(M:Nat):(M+1+1+1+1+1+1+1+1+1+1+1+1+1=M)=False:=by simp only[eq_iff_iff,iff_false];omega
theorem nM14(M:Nat):(M=M+1+1+1+1+1+1+1+1+1+1+1+1+1+1)=False:=by simp only[eq_iff_iff,iff_false];omega
theorem nW14(M:Nat):(M+1+1+1+1+1+1+1+1+1+1+1+1+1+1=M)=False:=by simp only[eq_iff_iff,iff_false];omega
theorem nM15(M:Nat):(M=M+1+1+1+1+1+1+1+1+1+1+1+1+1+1+1)=False:=by simp only[eq_iff_iff,iff_false];omega
theorem nW15(M:Nat):(M+1+1+1+1+1+1+1+1+1+1+1+1+1+1+1=M)=False:=by simp only[eq_iff_iff,iff_false];omega
theorem tnm(M:Nat):(((M:Int)+1).toNat=M+1)∧((M=M+1)=False)∧((M+1=M)=False)∧(((M:Int)+1+1).toNat=M+1+1)∧((M=M+1+1)=False)∧((M+1+1=M)=False)∧(((M:Int)+1+1+1).toNat=M+1+1+1)∧((M=M+1+1+1)=False)∧((M+1+1+1=M)=False)∧(((M:Int)+1+1+1+1).toNat=M+1+1+1+1)∧((M=M+1+1+1+1)=False)∧((M+1+1+1+1=M)=False)∧(((M:Int)+1+1+1+1+1).toNat=M+1+1+1+1+1)∧((M=M+1+1+1+1+1)=False)∧((M+1+1+1+1+1=M)=False)∧(((M:Int)+1+1+1+1+1+1).toNat=M+1+1+1+1+1+1)∧((M=M+1+1+1+1+1+1)=False)∧((M+1+1+1+1+1+1=M)=False)∧(((M:Int)+1+1+1+1+1+1+1).toNat=M+1+1+1+1+1+1+1)∧((M=M+1+1+1+1+1+1+1)=False)∧((M+1+1+1+1+1+1+1=M)=False)∧(((M:Int)+1+1+1+1+1+1+1+1).toNat=M+1+1+1+1+1+1+1+1)∧((M=M+1+1+1+1+1+1+1+1)=False)∧((M+1+1+1+1+1+1+1+1=M)=False)∧(((M:Int)+1+1+1+1+1+1+1+1+1).toNat=M+1+1+1+1+1+1+1+1+1)∧((M=M+1+1+1+1+1+1+1+1+1)=False)∧((M+1+1+1+1+1+1+1+1+1=M)=False)∧(((M:Int)+1+1+1+1+1+1+1+1+1+1).toNat=M+1+1+1+1+1+1+1+1+1+1)∧((M=M+1+1+1+1+1+1+1+1+1+1)=False)∧((M+1+1+1+1+1+1+1+1+1+1=M)=False)∧(((M:Int)+1+1+1+1+1+1+1+1+1+1+1).toNat=M+1+1+1+1+1+1+1+1+1+1+1)∧((M=M+1+1+1+1+1+1+1+1+1+1+1)=False)∧((M+1+1+1+1+1+1+1+1+1+1+1=M)=False)∧(((M:Int)+1+1+1+1+1+1+1+1+1+1+1+1).toNat=M+1+1+1+1+1+1+1+1+1+1+1+1)∧((M=M+1+1+1+1+1+1+1+1+1+1+1+1)=False)∧((M+1+1+1+1+1+1+1+1+1+1+1+1=M)=False)∧(((M:Int)+1+1+1+1+1+1+1+1+1+1+1+1+1).toNat=M+1+1+1+1+1+1+1+1+1+1+1+1+1)∧((M=M+1+1+1+1+1+1+1+1+1+1+1+1+1)=False)∧((M+1+1+1+1+1+1+1+1+1+1+1+1+1=M)=False)∧(((M:Int)+1+1+1+1+1+1+1+1+1+1+1+1+1+1).toNat=M+1+1+1+1+1+1+1+1+1+1+1+1+1+1)∧((M=M+1+1+1+1+1+1+1+1+1+1+1+1+1+1)=False)∧((M+1+1+1+1+1+1+1+1+1+1+1+1+1+1=M)=False)∧(((M:Int)+1+1+1+1+1+1+1+1+1+1+1+1+1+1+1).toNat=M+1+1+1+1+1+1+1+1+1+1+1+1+1+1+1)∧((M=M+1+1+1+1+1+1+1+1+1+1+1+1+1+1+1)=False)∧((M+1+1+1+1+1+1+1+1+1+1+1+1+1+1+1=M)=False):=⟨tN1 M,nM1 M,nW1 M,tN2 M,nM2 M,nW2 M,tN3 M,nM3 M,nW3 M,tN4 M,nM4 M,nW4 M,tN5 M,nM5 M,nW5 M,tN6 M,nM6 M,nW6 M,tN7 M,nM7 M,nW7 M,tN8 M,nM8 M,nW8 M,tN9 M,nM9 M,nW9 M,tN10 M,nM10 M,nW10 M,tN11 M,nM11 M,nW11 M,tN12 M,nM12 M,nW12 M,tN13 M,nM13 M,nW13 M,tN14 M,nM14 M,nW14 M,tN15 M,nM15 M,nW15 M⟩
theorem cs_R{c:Nat→Nat}{pc j:Nat}(hj:j≤7):(csG c pc).R j=c j:=by show(if j < 8 then c j else 0)=c j;rw[if_pos zo]
theorem sim0{m:MS}{c:Nat→Nat}{pc:Nat}{i:IR}{done M:Nat}{v:Nat→Nat}(h:SimIn m c pc i done)(hop:i.op=0):Sim m c pc i done M v:=by
 have hD:=h.ok.D1
 have hS:=h.ok.S1
 have hcf:=cxF_bd h.hc
 have hcD:=h.hc i.D
 have hcS:=h.hc i.S
 have him:=h.ok.im
 have n8:¬8=i.D:=zo
 have n9:¬9=i.D:=zo
 have n10:¬10=i.D:=zo
 have n11:¬11=i.D:=zo
 have e:stepF m (csG c pc)=⟨{ csG c pc with pc:=((pc+i.n)%4294967296) },0,0,m⟩:=by
  unfold stepF
  simp only[csG_f h.hc,show(csG c pc).pc=pc from rfl,h.hi,h.hk,hop,w32_nat]
  simp[GS.setPC,cs_R hD,cs_R hS,show(csG c pc).f=(cxF c).toNat from rfl]
 unfold Sim leftX
 rw[e]
 have e1:(xiOf i pc done).op.toNat=0:=by show i.op.toNat=0;omega
 simp only[liftF,e1]
 simp[runL,leftO,nextO,exO,isV,valV,pvalF,valF,unF,binF,aluOf,xiOf,updC,endsF,stOp,hop,GS.setPC,GS.setR,GS.setF,n8,n9,n10,n11,tnm]
 first|done|(refine gs_ext ?_ rfl ?_<;>first|rfl|(intro j;simp only[csG,updC,upd];(repeat' split)<;>first|rfl|omega)|(simp[csG,cxF,updC,Fl.flagsF,n8,n9,n10,n11,tnm];done))|(refine gs_ext ?_ rfl ?_<;>first|rfl|(intro j;simp only[csG,updC,upd];(repeat' split)<;>first|rfl|omega)|(simp[csG,cxF,updC,n8,n9,n10,n11,tnm];done)|(simp[csG,cxF,updC,n8,n9,n10,n11,tnm];omega))
theorem sim1{m:MS}{c:Nat→Nat}{pc:Nat}{i:IR}{done M:Nat}{v:Nat→Nat}(h:SimIn m c pc i done)(hop:i.op=1):Sim m c pc i done M v:=by
 have hD:=h.ok.D1
 have hS:=h.ok.S1
 have hcf:=cxF_bd h.hc
 have hcD:=h.hc i.D
 have hcS:=h.hc i.S
 have him:=h.ok.im
 have n8:¬8=i.D:=zo
 have n9:¬9=i.D:=zo
 have n10:¬10=i.D:=zo
 have n11:¬11=i.D:=zo
 have e:stepF m (csG c pc)=⟨csG c pc,2,0,m⟩:=by
  unfold stepF
  simp only[csG_f h.hc,show(csG c pc).pc=pc from rfl,h.hi,h.hk,hop,w32_nat]
  simp[GS.setPC,cs_R hD,cs_R hS,show(csG c pc).f=(cxF c).toNat from rfl]
 unfold Sim leftX
 rw[e]
 have e1:(xiOf i pc done).op.toNat=1:=by show i.op.toNat=1;omega
 simp only[liftF,e1]
 simp[runL,leftO,nextO,exO,isV,valV,pvalF,valF,unF,binF,aluOf,xiOf,updC,endsF,stOp,hop,GS.setPC,GS.setR,GS.setF,n8,n9,n10,n11,tnm]
 first|done|(refine gs_ext ?_ rfl ?_<;>first|rfl|(intro j;simp only[csG,updC,upd];(repeat' split)<;>first|rfl|omega)|(simp[csG,cxF,updC,Fl.flagsF,n8,n9,n10,n11,tnm];done))|(refine gs_ext ?_ rfl ?_<;>first|rfl|(intro j;simp only[csG,updC,upd];(repeat' split)<;>first|rfl|omega)|(simp[csG,cxF,updC,n8,n9,n10,n11,tnm];done)|(simp[csG,cxF,updC,n8,n9,n10,n11,tnm];omega))
theorem sim5{m:MS}{c:Nat→Nat}{pc:Nat}{i:IR}{done M:Nat}{v:Nat→Nat}(h:SimIn m c pc i done)(hop:i.op=5):Sim m c pc i done M v:=by
 have hD:=h.ok.D1
 have hS:=h.ok.S1
 have hcf:=cxF_bd h.hc
 have hcD:=h.hc i.D
 have hcS:=h.hc i.S
 have him:=h.ok.im
 have n8:¬8=i.D:=zo
 have n9:¬9=i.D:=zo
 have n10:¬10=i.D:=zo
 have n11:¬11=i.D:=zo
 have e:stepF m (csG c pc)=⟨{ csG c pc with pc:=((pc+i.n)%4294967296) },1,i.imm,m⟩:=by
  unfold stepF
  simp only[csG_f h.hc,show(csG c pc).pc=pc from rfl,h.hi,h.hk,hop,w32_nat]
  simp[GS.setPC,cs_R hD,cs_R hS,show(csG c pc).f=(cxF c).toNat from rfl]
 unfold Sim leftX
 rw[e]
 have e1:(xiOf i pc done).op.toNat=5:=by show i.op.toNat=5;omega
 simp only[liftF,e1]
 simp[runL,leftO,nextO,exO,isV,valV,pvalF,valF,unF,binF,aluOf,xiOf,updC,endsF,stOp,hop,GS.setPC,GS.setR,GS.setF,n8,n9,n10,n11,tnm]
 first|done|(refine gs_ext ?_ rfl ?_<;>first|rfl|(intro j;simp only[csG,updC,upd];(repeat' split)<;>first|rfl|omega)|(simp[csG,cxF,updC,Fl.flagsF,n8,n9,n10,n11,tnm];done))|(refine gs_ext ?_ rfl ?_<;>first|rfl|(intro j;simp only[csG,updC,upd];(repeat' split)<;>first|rfl|omega)|(simp[csG,cxF,updC,n8,n9,n10,n11,tnm];done)|(simp[csG,cxF,updC,n8,n9,n10,n11,tnm];omega))
theorem sim6{m:MS}{c:Nat→Nat}{pc:Nat}{i:IR}{done M:Nat}{v:Nat→Nat}(h:SimIn m c pc i done)(hop:i.op=6):Sim m c pc i done M v:=by
 have hD:=h.ok.D1
 have hS:=h.ok.S1
 have hcf:=cxF_bd h.hc
 have hcD:=h.hc i.D
 have hcS:=h.hc i.S
 have him:=h.ok.im
 have n8:¬8=i.D:=zo
 have n9:¬9=i.D:=zo
 have n10:¬10=i.D:=zo
 have n11:¬11=i.D:=zo
 have e:stepF m (csG c pc)=⟨{ csG c pc with pc:=(((pc+i.n)%4294967296)+i.imm)%4294967296 },0,0,m⟩:=by
  unfold stepF
  simp only[csG_f h.hc,show(csG c pc).pc=pc from rfl,h.hi,h.hk,hop,w32_nat]
  simp[GS.setPC,cs_R hD,cs_R hS,show(csG c pc).f=(cxF c).toNat from rfl]
 unfold Sim leftX
 rw[e]
 have e1:(xiOf i pc done).op.toNat=6:=by show i.op.toNat=6;omega
 simp only[liftF,e1]
 simp[runL,leftO,nextO,exO,isV,valV,pvalF,valF,unF,binF,aluOf,xiOf,updC,endsF,stOp,hop,GS.setPC,GS.setR,GS.setF,n8,n9,n10,n11,tnm]
 first|done|(refine gs_ext ?_ rfl ?_<;>first|rfl|(intro j;simp only[csG,updC,upd];(repeat' split)<;>first|rfl|omega)|(simp[csG,cxF,updC,Fl.flagsF,n8,n9,n10,n11,tnm];done))|(refine gs_ext ?_ rfl ?_<;>first|rfl|(intro j;simp only[csG,updC,upd];(repeat' split)<;>first|rfl|omega)|(simp[csG,cxF,updC,n8,n9,n10,n11,tnm];done)|(simp[csG,cxF,updC,n8,n9,n10,n11,tnm];omega))
theorem sim7{m:MS}{c:Nat→Nat}{pc:Nat}{i:IR}{done M:Nat}{v:Nat→Nat}(h:SimIn m c pc i done)(hop:i.op=7):Sim m c pc i done M v:=by
 have hD:=h.ok.D1
 have hS:=h.ok.S1
 have hcf:=cxF_bd h.hc
 have hcD:=h.hc i.D
 have hcS:=h.hc i.S
 have him:=h.ok.im
 have n8:¬8=i.D:=zo
 have n9:¬9=i.D:=zo
 have n10:¬10=i.D:=zo
 have n11:¬11=i.D:=zo
 have e:stepF m (csG c pc)=⟨{ csG c pc with pc:=(((pc+i.n)%4294967296)+i.imm)%4294967296 },0,0,m⟩:=by
  unfold stepF
  simp only[csG_f h.hc,show(csG c pc).pc=pc from rfl,h.hi,h.hk,hop,w32_nat]
  simp[GS.setPC,cs_R hD,cs_R hS,show(csG c pc).f=(cxF c).toNat from rfl]
 unfold Sim leftX
 rw[e]
 have e1:(xiOf i pc done).op.toNat=7:=by show i.op.toNat=7;omega
 simp only[liftF,e1]
 simp[runL,leftO,nextO,exO,isV,valV,pvalF,valF,unF,binF,aluOf,xiOf,updC,endsF,stOp,hop,GS.setPC,GS.setR,GS.setF,n8,n9,n10,n11,tnm]
 first|done|(refine gs_ext ?_ rfl ?_<;>first|rfl|(intro j;simp only[csG,updC,upd];(repeat' split)<;>first|rfl|omega)|(simp[csG,cxF,updC,Fl.flagsF,n8,n9,n10,n11,tnm];done))|(refine gs_ext ?_ rfl ?_<;>first|rfl|(intro j;simp only[csG,updC,upd];(repeat' split)<;>first|rfl|omega)|(simp[csG,cxF,updC,n8,n9,n10,n11,tnm];done)|(simp[csG,cxF,updC,n8,n9,n10,n11,tnm];omega))
theorem sim9{m:MS}{c:Nat→Nat}{pc:Nat}{i:IR}{done M:Nat}{v:Nat→Nat}(h:SimIn m c pc i done)(hop:i.op=9):Sim m c pc i done M v:=by
 have hD:=h.ok.D1
 have hS:=h.ok.S1
 have hcf:=cxF_bd h.hc
 have hcD:=h.hc i.D
 have hcS:=h.hc i.S
 have him:=h.ok.im
 have n8:¬8=i.D:=zo
 have n9:¬9=i.D:=zo
 have n10:¬10=i.D:=zo
 have n11:¬11=i.D:=zo
 have e:stepF m (csG c pc)=⟨{ csG c pc with pc:=c i.S },0,0,m⟩:=by
  unfold stepF
  simp only[csG_f h.hc,show(csG c pc).pc=pc from rfl,h.hi,h.hk,hop,w32_nat]
  simp[GS.setPC,cs_R hD,cs_R hS,show(csG c pc).f=(cxF c).toNat from rfl]
 unfold Sim leftX
 rw[e]
 have e1:(xiOf i pc done).op.toNat=9:=by show i.op.toNat=9;omega
 simp only[liftF,e1]
 simp[runL,leftO,nextO,exO,isV,valV,pvalF,valF,unF,binF,aluOf,xiOf,updC,endsF,stOp,hop,GS.setPC,GS.setR,GS.setF,n8,n9,n10,n11,tnm]
 first|done|(refine gs_ext ?_ rfl ?_<;>first|rfl|(intro j;simp only[csG,updC,upd];(repeat' split)<;>first|rfl|omega)|(simp[csG,cxF,updC,Fl.flagsF,n8,n9,n10,n11,tnm];done))|(refine gs_ext ?_ rfl ?_<;>first|rfl|(intro j;simp only[csG,updC,upd];(repeat' split)<;>first|rfl|omega)|(simp[csG,cxF,updC,n8,n9,n10,n11,tnm];done)|(simp[csG,cxF,updC,n8,n9,n10,n11,tnm];omega))
theorem sim16{m:MS}{c:Nat→Nat}{pc:Nat}{i:IR}{done M:Nat}{v:Nat→Nat}(h:SimIn m c pc i done)(hop:i.op=16):Sim m c pc i done M v:=by
 have hD:=h.ok.D1
 have hS:=h.ok.S1
 have hcf:=cxF_bd h.hc
 have hcD:=h.hc i.D
 have hcS:=h.hc i.S
 have him:=h.ok.im
 have n8:¬8=i.D:=zo
 have n9:¬9=i.D:=zo
 have n10:¬10=i.D:=zo
 have n11:¬11=i.D:=zo
 have e:stepF m (csG c pc)=⟨(({ csG c pc with pc:=((pc+i.n)%4294967296) }:GS).setR i.D (i.imm)),0,0,m⟩:=by
  unfold stepF
  simp only[csG_f h.hc,show(csG c pc).pc=pc from rfl,h.hi,h.hk,hop,w32_nat]
  simp[GS.setPC,cs_R hD,cs_R hS,show(csG c pc).f=(cxF c).toNat from rfl]
 unfold Sim leftX
 rw[e]
 have e1:(xiOf i pc done).op.toNat=16:=by show i.op.toNat=16;omega
 simp only[liftF,e1]
 simp[runL,leftO,nextO,exO,isV,valV,pvalF,valF,unF,binF,aluOf,xiOf,updC,endsF,stOp,hop,GS.setPC,GS.setR,GS.setF,n8,n9,n10,n11,tnm]
 first|done|(refine gs_ext ?_ rfl ?_<;>first|rfl|(intro j;simp only[csG,updC,upd];(repeat' split)<;>first|rfl|omega)|(simp[csG,cxF,updC,Fl.flagsF,n8,n9,n10,n11,tnm];done))|(refine gs_ext ?_ rfl ?_<;>first|rfl|(intro j;simp only[csG,updC,upd];(repeat' split)<;>first|rfl|omega)|(simp[csG,cxF,updC,n8,n9,n10,n11,tnm];done)|(simp[csG,cxF,updC,n8,n9,n10,n11,tnm];omega))
theorem sim22{m:MS}{c:Nat→Nat}{pc:Nat}{i:IR}{done M:Nat}{v:Nat→Nat}(h:SimIn m c pc i done)(hop:i.op=22):Sim m c pc i done M v:=by
 have hD:=h.ok.D1
 have hS:=h.ok.S1
 have hcf:=cxF_bd h.hc
 have hcD:=h.hc i.D
 have hcS:=h.hc i.S
 have him:=h.ok.im
 have n8:¬8=i.D:=zo
 have n9:¬9=i.D:=zo
 have n10:¬10=i.D:=zo
 have n11:¬11=i.D:=zo
 have e:stepF m (csG c pc)=⟨(({ csG c pc with pc:=((pc+i.n)%4294967296) }:GS).setR i.D (c i.S)),0,0,m⟩:=by
  unfold stepF
  simp only[csG_f h.hc,show(csG c pc).pc=pc from rfl,h.hi,h.hk,hop,w32_nat]
  simp[GS.setPC,cs_R hD,cs_R hS,show(csG c pc).f=(cxF c).toNat from rfl]
 unfold Sim leftX
 rw[e]
 have e1:(xiOf i pc done).op.toNat=22:=by show i.op.toNat=22;omega
 simp only[liftF,e1]
 simp[runL,leftO,nextO,exO,isV,valV,pvalF,valF,unF,binF,aluOf,xiOf,updC,endsF,stOp,hop,GS.setPC,GS.setR,GS.setF,n8,n9,n10,n11,tnm]
 first|done|(refine gs_ext ?_ rfl ?_<;>first|rfl|(intro j;simp only[csG,updC,upd];(repeat' split)<;>first|rfl|omega)|(simp[csG,cxF,updC,Fl.flagsF,n8,n9,n10,n11,tnm];done))|(refine gs_ext ?_ rfl ?_<;>first|rfl|(intro j;simp only[csG,updC,upd];(repeat' split)<;>first|rfl|omega)|(simp[csG,cxF,updC,n8,n9,n10,n11,tnm];done)|(simp[csG,cxF,updC,n8,n9,n10,n11,tnm];omega))
theorem sim23{m:MS}{c:Nat→Nat}{pc:Nat}{i:IR}{done M:Nat}{v:Nat→Nat}(h:SimIn m c pc i done)(hop:i.op=23):Sim m c pc i done M v:=by
 have hD:=h.ok.D1
 have hS:=h.ok.S1
 have hcf:=cxF_bd h.hc
 have hcD:=h.hc i.D
 have hcS:=h.hc i.S
 have him:=h.ok.im
 have n8:¬8=i.D:=zo
 have n9:¬9=i.D:=zo
 have n10:¬10=i.D:=zo
 have n11:¬11=i.D:=zo
 have e:stepF m (csG c pc)=⟨(({ csG c pc with pc:=((pc+i.n)%4294967296) }:GS).setR i.D ((c i.S+i.imm)%4294967296)),0,0,m⟩:=by
  unfold stepF
  simp only[csG_f h.hc,show(csG c pc).pc=pc from rfl,h.hi,h.hk,hop,w32_nat]
  simp[GS.setPC,cs_R hD,cs_R hS,show(csG c pc).f=(cxF c).toNat from rfl]
 unfold Sim leftX
 rw[e]
 have e1:(xiOf i pc done).op.toNat=23:=by show i.op.toNat=23;omega
 simp only[liftF,e1]
 simp[runL,leftO,nextO,exO,isV,valV,pvalF,valF,unF,binF,aluOf,xiOf,updC,endsF,stOp,hop,GS.setPC,GS.setR,GS.setF,n8,n9,n10,n11,tnm]
 first|done|(refine gs_ext ?_ rfl ?_<;>first|rfl|(intro j;simp only[csG,updC,upd];(repeat' split)<;>first|rfl|omega)|(simp[csG,cxF,updC,Fl.flagsF,n8,n9,n10,n11,tnm];done))|(refine gs_ext ?_ rfl ?_<;>first|rfl|(intro j;simp only[csG,updC,upd];(repeat' split)<;>first|rfl|omega)|(simp[csG,cxF,updC,n8,n9,n10,n11,tnm];done)|(simp[csG,cxF,updC,n8,n9,n10,n11,tnm];omega))
theorem sim20{m:MS}{c:Nat→Nat}{pc:Nat}{i:IR}{done M:Nat}{v:Nat→Nat}(h:SimIn m c pc i done)(hop:i.op=20):Sim m c pc i done M v:=by
 have hD:=h.ok.D1
 have hS:=h.ok.S1
 have hcf:=cxF_bd h.hc
 have hcD:=h.hc i.D
 have hcS:=h.hc i.S
 have him:=h.ok.im
 have n8:¬8=i.D:=zo
 have n9:¬9=i.D:=zo
 have n10:¬10=i.D:=zo
 have n11:¬11=i.D:=zo
 have e:stepF m (csG c pc)=⟨(({ csG c pc with pc:=((pc+i.n)%4294967296) }:GS).setR i.D (4294967295 - c i.D)),0,0,m⟩:=by
  unfold stepF
  simp only[csG_f h.hc,show(csG c pc).pc=pc from rfl,h.hi,h.hk,hop,w32_nat]
  simp[GS.setPC,cs_R hD,cs_R hS,show(csG c pc).f=(cxF c).toNat from rfl,w32_not _ hcD]
 unfold Sim leftX
 rw[e]
 have e1:(xiOf i pc done).op.toNat=20:=by show i.op.toNat=20;omega
 simp only[liftF,e1]
 simp[runL,leftO,nextO,exO,isV,valV,pvalF,valF,unF,binF,aluOf,xiOf,updC,endsF,stOp,hop,GS.setPC,GS.setR,GS.setF,n8,n9,n10,n11,tnm]
 first|done|(refine gs_ext ?_ rfl ?_<;>first|rfl|(intro j;simp only[csG,updC,upd];(repeat' split)<;>first|rfl|omega)|(simp[csG,cxF,updC,Fl.flagsF,n8,n9,n10,n11,tnm];done))|(refine gs_ext ?_ rfl ?_<;>first|rfl|(intro j;simp only[csG,updC,upd];(repeat' split)<;>first|rfl|omega)|(simp[csG,cxF,updC,n8,n9,n10,n11,tnm];done)|(simp[csG,cxF,updC,n8,n9,n10,n11,tnm];omega))
theorem sim17{m:MS}{c:Nat→Nat}{pc:Nat}{i:IR}{done M:Nat}{v:Nat→Nat}(h:SimIn m c pc i done)(hop:i.op=17):Sim m c pc i done M v:=by
 have hD:=h.ok.D1
 have hS:=h.ok.S1
 have hcf:=cxF_bd h.hc
 have hcD:=h.hc i.D
 have hcS:=h.hc i.S
 have him:=h.ok.im
 have n8:¬8=i.D:=zo
 have n9:¬9=i.D:=zo
 have n10:¬10=i.D:=zo
 have n11:¬11=i.D:=zo
 have e:stepF m (csG c pc)=⟨(({ csG c pc with pc:=((pc+i.n)%4294967296) }:GS).setR i.D ((c i.D+1)%4294967296)).setF (Fl.flagsF 11 (c i.D) (0) (cxF c).toNat).toNat,0,0,m⟩:=by
  unfold stepF
  simp only[csG_f h.hc,show(csG c pc).pc=pc from rfl,h.hi,h.hk,hop,w32_nat]
  simp[GS.setPC,cs_R hD,cs_R hS,show(csG c pc).f=(cxF c).toNat from rfl,w32_inc]
 unfold Sim leftX
 rw[e]
 have e1:(xiOf i pc done).op.toNat=17:=by show i.op.toNat=17;omega
 simp only[liftF,e1]
 simp[runL,leftO,nextO,exO,isV,valV,pvalF,valF,unF,binF,aluOf,xiOf,updC,endsF,stOp,hop,GS.setPC,GS.setR,GS.setF,n8,n9,n10,n11,tnm,Fl.recX]
 first|done|(refine gs_ext ?_ rfl ?_<;>first|rfl|(intro j;simp only[csG,updC,upd];(repeat' split)<;>first|rfl|omega)|(simp[csG,cxF,updC,Fl.flagsF,n8,n9,n10,n11,tnm];done))|(refine gs_ext ?_ rfl ?_<;>first|rfl|(intro j;simp only[csG,updC,upd];(repeat' split)<;>first|rfl|omega)|(simp[csG,cxF,updC,n8,n9,n10,n11,tnm];done)|(simp[csG,cxF,updC,n8,n9,n10,n11,tnm];omega))
theorem sim18{m:MS}{c:Nat→Nat}{pc:Nat}{i:IR}{done M:Nat}{v:Nat→Nat}(h:SimIn m c pc i done)(hop:i.op=18):Sim m c pc i done M v:=by
 have hD:=h.ok.D1
 have hS:=h.ok.S1
 have hcf:=cxF_bd h.hc
 have hcD:=h.hc i.D
 have hcS:=h.hc i.S
 have him:=h.ok.im
 have n8:¬8=i.D:=zo
 have n9:¬9=i.D:=zo
 have n10:¬10=i.D:=zo
 have n11:¬11=i.D:=zo
 have e:stepF m (csG c pc)=⟨(({ csG c pc with pc:=((pc+i.n)%4294967296) }:GS).setR i.D (w32 ((c i.D:Int) - 1))).setF (Fl.flagsF 12 (c i.D) (0) (cxF c).toNat).toNat,0,0,m⟩:=by
  unfold stepF
  simp only[csG_f h.hc,show(csG c pc).pc=pc from rfl,h.hi,h.hk,hop,w32_nat]
  simp[GS.setPC,cs_R hD,cs_R hS,show(csG c pc).f=(cxF c).toNat from rfl]
 unfold Sim leftX
 rw[e]
 have e1:(xiOf i pc done).op.toNat=18:=by show i.op.toNat=18;omega
 simp only[liftF,e1]
 simp[runL,leftO,nextO,exO,isV,valV,pvalF,valF,unF,binF,aluOf,xiOf,updC,endsF,stOp,hop,GS.setPC,GS.setR,GS.setF,n8,n9,n10,n11,tnm,Fl.recX,w32]
 first|done|(refine gs_ext ?_ rfl ?_<;>first|rfl|(intro j;simp only[csG,updC,upd];(repeat' split)<;>first|rfl|omega)|(simp[csG,cxF,updC,Fl.flagsF,n8,n9,n10,n11,tnm];done))|(refine gs_ext ?_ rfl ?_<;>first|rfl|(intro j;simp only[csG,updC,upd];(repeat' split)<;>first|rfl|omega)|(simp[csG,cxF,updC,n8,n9,n10,n11,tnm];done)|(simp[csG,cxF,updC,n8,n9,n10,n11,tnm];omega))
theorem sim19{m:MS}{c:Nat→Nat}{pc:Nat}{i:IR}{done M:Nat}{v:Nat→Nat}(h:SimIn m c pc i done)(hop:i.op=19):Sim m c pc i done M v:=by
 have hD:=h.ok.D1
 have hS:=h.ok.S1
 have hcf:=cxF_bd h.hc
 have hcD:=h.hc i.D
 have hcS:=h.hc i.S
 have him:=h.ok.im
 have n8:¬8=i.D:=zo
 have n9:¬9=i.D:=zo
 have n10:¬10=i.D:=zo
 have n11:¬11=i.D:=zo
 have e:stepF m (csG c pc)=⟨(({ csG c pc with pc:=((pc+i.n)%4294967296) }:GS).setR i.D ((4294967296 - c i.D)%4294967296)).setF (Fl.flagsF 3 (0) (c i.D) (cxF c).toNat).toNat,0,0,m⟩:=by
  unfold stepF
  simp only[csG_f h.hc,show(csG c pc).pc=pc from rfl,h.hi,h.hk,hop,w32_nat]
  simp[GS.setPC,cs_R hD,cs_R hS,show(csG c pc).f=(cxF c).toNat from rfl]
  rw[w32_neg _ hcD]
 unfold Sim leftX
 rw[e]
 have e1:(xiOf i pc done).op.toNat=19:=by show i.op.toNat=19;omega
 simp only[liftF,e1]
 simp[runL,leftO,nextO,exO,isV,valV,pvalF,valF,unF,binF,aluOf,xiOf,updC,endsF,stOp,hop,GS.setPC,GS.setR,GS.setF,n8,n9,n10,n11,tnm,Fl.recX]
 first|done|(refine gs_ext ?_ rfl ?_<;>first|rfl|(intro j;simp only[csG,updC,upd];(repeat' split)<;>first|rfl|omega)|(simp[csG,cxF,updC,Fl.flagsF,n8,n9,n10,n11,tnm];done))|(refine gs_ext ?_ rfl ?_<;>first|rfl|(intro j;simp only[csG,updC,upd];(repeat' split)<;>first|rfl|omega)|(simp[csG,cxF,updC,n8,n9,n10,n11,tnm];done)|(simp[csG,cxF,updC,n8,n9,n10,n11,tnm];omega))
theorem sim21{m:MS}{c:Nat→Nat}{pc:Nat}{i:IR}{done M:Nat}{v:Nat→Nat}(h:SimIn m c pc i done)(hop:i.op=21):Sim m c pc i done M v:=by
 have hD:=h.ok.D1
 have hS:=h.ok.S1
 have hcf:=cxF_bd h.hc
 have hcD:=h.hc i.D
 have hcS:=h.hc i.S
 have him:=h.ok.im
 have n8:¬8=i.D:=zo
 have n9:¬9=i.D:=zo
 have n10:¬10=i.D:=zo
 have n11:¬11=i.D:=zo
 have e:stepF m (csG c pc)=⟨(({ csG c pc with pc:=((pc+i.n)%4294967296) }:GS).setR i.D (if Fl.holdsF i.O (cxF c).toNat=true then 1 else 0)),0,0,m⟩:=by
  unfold stepF
  simp only[csG_f h.hc,show(csG c pc).pc=pc from rfl,h.hi,h.hk,hop,w32_nat]
  simp[GS.setPC,cs_R hD,cs_R hS,show(csG c pc).f=(cxF c).toNat from rfl]
 unfold Sim leftX
 rw[e]
 have e1:(xiOf i pc done).op.toNat=21:=by show i.op.toNat=21;omega
 simp only[liftF,e1]
 simp[runL,leftO,nextO,exO,isV,valV,pvalF,valF,unF,binF,aluOf,xiOf,updC,endsF,stOp,hop,GS.setPC,GS.setR,GS.setF,n8,n9,n10,n11,tnm,Fl.isF]
 first|done|(refine gs_ext ?_ rfl ?_<;>first|rfl|(intro j;simp only[csG,updC,upd];(repeat' split)<;>first|rfl|omega)|(simp[csG,cxF,updC,Fl.flagsF,n8,n9,n10,n11,tnm];done))|(refine gs_ext ?_ rfl ?_<;>first|rfl|(intro j;simp only[csG,updC,upd];(repeat' split)<;>first|rfl|omega)|(simp[csG,cxF,updC,n8,n9,n10,n11,tnm];done)|(simp[csG,cxF,updC,n8,n9,n10,n11,tnm];omega))
theorem sim12{m:MS}{c:Nat→Nat}{pc:Nat}{i:IR}{done M:Nat}{v:Nat→Nat}(h:SimIn m c pc i done)(hop:i.op=12):Sim m c pc i done M v:=by
 have hD:=h.ok.D1
 have hS:=h.ok.S1
 have hcf:=cxF_bd h.hc
 have hcD:=h.hc i.D
 have hcS:=h.hc i.S
 have him:=h.ok.im
 have n8:¬8=i.D:=zo
 have n9:¬9=i.D:=zo
 have n10:¬10=i.D:=zo
 have n11:¬11=i.D:=zo
 have e:stepF m (csG c pc)=⟨if Fl.holdsF i.O (cxF c).toNat=true then { csG c pc with pc:=(((pc+i.n)%4294967296)+i.imm)%4294967296 } else { csG c pc with pc:=((pc+i.n)%4294967296) },0,0,m⟩:=by
  unfold stepF
  simp only[csG_f h.hc,show(csG c pc).pc=pc from rfl,h.hi,h.hk,hop,w32_nat]
  simp[GS.setPC,cs_R hD,cs_R hS,show(csG c pc).f=(cxF c).toNat from rfl]
 unfold Sim leftX
 rw[e]
 have e1:(xiOf i pc done).op.toNat=12:=by show i.op.toNat=12;omega
 simp only[liftF,e1]
 cases hh:Fl.holdsF i.O (cxF c).toNat <;>
 simp[runL,leftO,nextO,exO,isV,valV,pvalF,valF,unF,binF,aluOf,xiOf,updC,endsF,stOp,hop,GS.setPC,GS.setR,GS.setF,n8,n9,n10,n11,tnm,Fl.isF,hh]
 all_goals rfl
theorem sim13{m:MS}{c:Nat→Nat}{pc:Nat}{i:IR}{done M:Nat}{v:Nat→Nat}(h:SimIn m c pc i done)(hop:i.op=13):Sim m c pc i done M v:=by
 have hD:=h.ok.D1
 have hS:=h.ok.S1
 have hcf:=cxF_bd h.hc
 have hcD:=h.hc i.D
 have hcS:=h.hc i.S
 have him:=h.ok.im
 have n8:¬8=i.D:=zo
 have n9:¬9=i.D:=zo
 have n10:¬10=i.D:=zo
 have n11:¬11=i.D:=zo
 have e:stepF m (csG c pc)=⟨if Fl.holdsF i.O (cxF c).toNat=true then { csG c pc with pc:=(((pc+i.n)%4294967296)+i.imm)%4294967296 } else { csG c pc with pc:=((pc+i.n)%4294967296) },0,0,m⟩:=by
  unfold stepF
  simp only[csG_f h.hc,show(csG c pc).pc=pc from rfl,h.hi,h.hk,hop,w32_nat]
  simp[GS.setPC,cs_R hD,cs_R hS,show(csG c pc).f=(cxF c).toNat from rfl]
 unfold Sim leftX
 rw[e]
 have e1:(xiOf i pc done).op.toNat=13:=by show i.op.toNat=13;omega
 simp only[liftF,e1]
 cases hh:Fl.holdsF i.O (cxF c).toNat <;>
 simp[runL,leftO,nextO,exO,isV,valV,pvalF,valF,unF,binF,aluOf,xiOf,updC,endsF,stOp,hop,GS.setPC,GS.setR,GS.setF,n8,n9,n10,n11,tnm,Fl.isF,hh]
 all_goals rfl
end Go.Proofs.YtfokgedjocnnmaaGreat
