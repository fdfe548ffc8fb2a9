import Derived.Test.YtkmjenjahbicpaaHA
import Derived.Laws.EntriesVeiled
import Derived.Test.YtkmjenjahbicpaaZQ
set_option linter.unusedVariables false
set_option linter.unusedSimpArgs false
set_option maxHeartbeats 1000000
namespace Go.Proofs.Ytkmjenjahbicpaa.Ho
open Go.RowKit
set_option maxRecDepth 100000
def hasB(s:Array UInt8)(c:Nat):Bool:=s.toList.any (fun x=>x.toNat==c)
abbrev Hn(b:ByteArray)(c:Int)(r:Bool):Prop:=∀ (w:World),Calls Try.prog 62 #[.string b,.int .u8 c] w fun e w'=>e=.returned (.bool r)∧w=w'
theorem zBY{p:Prop}(h:p:=by intro w;go_enter Try.func62,Try.ntmps62;go_wp2;refine wp_loop_rounds 1 ?_;(iterate 1 (rw[rounds_succ];go_wp2));go_ret;exact⟨rfl,rfl⟩):p:=h
theorem zBN{p:Prop}(h:p:=by intro w;go_enter Try.func62,Try.ntmps62;go_wp2;refine wp_loop_rounds 2 ?_;(iterate 2 (rw[rounds_succ];go_wp2));go_ret;exact⟨rfl,rfl⟩):p:=h
theorem zCl{p:Prop}(h:p:=by intro w;go_enter Try.func62,Try.ntmps62;go_wp2;refine wp_loop_rounds 3 ?_;(iterate 3 (rw[rounds_succ];go_wp2));go_ret;exact⟨rfl,rfl⟩):p:=h
theorem zGc{p:Prop}(h:p:=by intro w;go_enter Try.func62,Try.ntmps62;go_wp2;refine wp_loop_rounds 4 ?_;(iterate 4 (rw[rounds_succ];go_wp2));go_ret;exact⟨rfl,rfl⟩):p:=h
theorem zR8{p:Prop}(h:p:=by intro w;go_enter Try.func62,Try.ntmps62;go_wp2;refine wp_loop_rounds 5 ?_;(iterate 5 (rw[rounds_succ];go_wp2));go_ret;exact⟨rfl,rfl⟩):p:=h
theorem zPN:Hn ⟨#[]⟩ 100 false:=zBY
theorem zG2:Hn ⟨#[]⟩ 97 false:=zBY
theorem zG3:Hn ⟨#[]⟩ 98 false:=zBY
theorem zG4:Hn ⟨#[]⟩ 99 false:=zBY
theorem zG5:Hn ⟨#[]⟩ 110 false:=zBY
theorem zNw:Hn ⟨#[110]⟩ 100 false:=zBN
theorem zNt:Hn ⟨#[110]⟩ 97 false:=zBN
theorem zNu:Hn ⟨#[110]⟩ 98 false:=zBN
theorem zNv:Hn ⟨#[110]⟩ 99 false:=zBN
theorem zNx:Hn ⟨#[110]⟩ 110 true:=zBY
theorem zNl:Hn ⟨#[100]⟩ 100 true:=zBY
theorem zNi:Hn ⟨#[100]⟩ 97 false:=zBN
theorem zNj:Hn ⟨#[100]⟩ 98 false:=zBN
theorem zNk:Hn ⟨#[100]⟩ 99 false:=zBN
theorem zNm:Hn ⟨#[100]⟩ 110 false:=zBN
theorem zLt:Hn ⟨#[100,97]⟩ 100 true:=zBY
theorem zLs:Hn ⟨#[100,97]⟩ 97 true:=zBN
theorem zEp:Hn ⟨#[100,97]⟩ 98 false:=zCl
theorem zEq:Hn ⟨#[100,97]⟩ 99 false:=zCl
theorem zLu:Hn ⟨#[100,97]⟩ 110 false:=zCl
theorem zLp:Hn ⟨#[97,110]⟩ 100 false:=zCl
theorem zEl:Hn ⟨#[97,110]⟩ 97 true:=zBY
theorem zEm:Hn ⟨#[97,110]⟩ 98 false:=zCl
theorem zEn:Hn ⟨#[97,110]⟩ 99 false:=zCl
theorem zEo:Hn ⟨#[97,110]⟩ 110 true:=zBN
theorem zHx:Hn ⟨#[100,97,98,99]⟩ 100 true:=zBY
theorem zHw:Hn ⟨#[100,97,98,99]⟩ 97 true:=zBN
theorem zCY:Hn ⟨#[100,97,98,99]⟩ 98 true:=zCl
theorem zCZ:Hn ⟨#[100,97,98,99]⟩ 99 true:=zGc
theorem zHy:Hn ⟨#[100,97,98,99]⟩ 110 false:=zR8
theorem zLy:Hn ⟨#[100,110]⟩ 100 true:=zBY
theorem zLv:Hn ⟨#[100,110]⟩ 97 false:=zCl
theorem zLw:Hn ⟨#[100,110]⟩ 98 false:=zCl
theorem zLx:Hn ⟨#[100,110]⟩ 99 false:=zCl
theorem zLz:Hn ⟨#[100,110]⟩ 110 true:=zBN
theorem zJj:Hn ⟨#[100,97,110]⟩ 100 true:=zBY
theorem zJg:Hn ⟨#[100,97,110]⟩ 97 true:=zBN
theorem zJh:Hn ⟨#[100,97,110]⟩ 98 false:=zGc
theorem zJi:Hn ⟨#[100,97,110]⟩ 99 false:=zGc
theorem zJk:Hn ⟨#[100,97,110]⟩ 110 true:=zCl
theorem zJe:Hn ⟨#[100,97,98]⟩ 100 true:=zBY
theorem zJd:Hn ⟨#[100,97,98]⟩ 97 true:=zBN
theorem zFg:Hn ⟨#[100,97,98]⟩ 98 true:=zCl
theorem zFh:Hn ⟨#[100,97,98]⟩ 99 false:=zGc
theorem zJf:Hn ⟨#[100,97,98]⟩ 110 false:=zGc
def zE0(s:Array UInt8):Prop:=s=#[]∨s=#[110]∨s=#[100]∨s=#[100,97]∨s=#[97,110]∨s=#[100,97,98,99]∨s=#[100,110]∨s=#[100,97,110]∨s=#[100,97,98]
theorem zPL(s:Array UInt8)(hs:zE0 s)(w:World):Calls Try.prog 62 #[.string ⟨s⟩,.int .u8 100] w fun e w'=>e=.returned (.bool (hasB s 100))∧w=w':=by
  rcases hs with rfl|rfl|rfl|rfl|rfl|rfl|rfl|rfl|rfl
  · exact zPN w
  · exact zNw w
  · exact zNl w
  · exact zLt w
  · exact zLp w
  · exact zHx w
  · exact zLy w
  · exact zJj w
  · exact zJe w
theorem zPI(s:Array UInt8)(hs:zE0 s)(w:World):Calls Try.prog 62 #[.string ⟨s⟩,.int .u8 97] w fun e w'=>e=.returned (.bool (hasB s 97))∧w=w':=by
  rcases hs with rfl|rfl|rfl|rfl|rfl|rfl|rfl|rfl|rfl
  · exact zG2 w
  · exact zNt w
  · exact zNi w
  · exact zLs w
  · exact zEl w
  · exact zHw w
  · exact zLv w
  · exact zJg w
  · exact zJd w
theorem zPJ(s:Array UInt8)(hs:zE0 s)(w:World):Calls Try.prog 62 #[.string ⟨s⟩,.int .u8 98] w fun e w'=>e=.returned (.bool (hasB s 98))∧w=w':=by
  rcases hs with rfl|rfl|rfl|rfl|rfl|rfl|rfl|rfl|rfl
  · exact zG3 w
  · exact zNu w
  · exact zNj w
  · exact zEp w
  · exact zEm w
  · exact zCY w
  · exact zLw w
  · exact zJh w
  · exact zFg w
theorem zPK(s:Array UInt8)(hs:zE0 s)(w:World):Calls Try.prog 62 #[.string ⟨s⟩,.int .u8 99] w fun e w'=>e=.returned (.bool (hasB s 99))∧w=w':=by
  rcases hs with rfl|rfl|rfl|rfl|rfl|rfl|rfl|rfl|rfl
  · exact zG4 w
  · exact zNv w
  · exact zNk w
  · exact zEq w
  · exact zEn w
  · exact zCZ w
  · exact zLx w
  · exact zJi w
  · exact zFh w
theorem zPM(s:Array UInt8)(hs:zE0 s)(w:World):Calls Try.prog 62 #[.string ⟨s⟩,.int .u8 110] w fun e w'=>e=.returned (.bool (hasB s 110))∧w=w':=by
  rcases hs with rfl|rfl|rfl|rfl|rfl|rfl|rfl|rfl|rfl
  · exact zG5 w
  · exact zNx w
  · exact zNm w
  · exact zLu w
  · exact zEo w
  · exact zHy w
  · exact zLz w
  · exact zJk w
  · exact zJf w
theorem zC4{a b:Int}(h:a=b):Ending.returned (.int .u32 a)=.returned (.int .u32 b):=by rw[h]
structure Cd where
  op:Int
  d:Int
  a:Int
  b:Int
  c:Int
  n:Int
  k:Nat
  x:Nat
  deriving DecidableEq
abbrev cdA(x:Cd):Array Value:=#[.int .i64 x.op,.int .i64 x.d,.int .i64 x.a,.int .i64 x.b,.int .i64 x.c,.int .i64 x.n,.int .u32 x.k,.int .u32 x.x]
abbrev cdV(x:Cd):Value:=.agg (cdA x)
def fst(x:Cd):Int:=(x.op+256*x.d+4096*x.a+65536*x.b+1048576*x.c+65536*x.n)%4294967296
theorem zS(x:Cd)(w:World):Calls Try.prog 63 #[cdV x] w fun e w'=>e=.returned (.int .u32 (fst x))∧w.alloc (.cells (cdA x) 80)=w':=by
  obtain⟨op,d,a,b,c,n,k,y⟩:=x
  go_enter Try.func63,Try.ntmps63
  go_wp2
  go_ret
  exact⟨zC4 (by unfold fst;simp only[];omega),rfl⟩
def hb(h m:Int):Bool:=!(bits .and .u16 h m==0)
theorem hb_iff(h m:Int):bits .and .u16 h m=0↔hb h m=false:=by unfold hb;simp
structure Fo where
  first:Int
  last:Int
  kind:Int
  has:Int
  most:Int
abbrev foA(f:Fo):Array Value:=#[.int .u8 f.first,.int .u8 f.last,.int .u8 f.kind,.int .u16 f.has,.int .u16 f.most]
abbrev fdA(x:Cd)(f:Fo)(n:Int):Array Value:=#[.int .i64 x.op,.int .i64 x.d,.int .i64 x.a,.int .i64 x.b,.int .i64 x.c,.int .i64 x.n,.int .u32 x.k,.int .u32 x.x,.int .u8 f.first,.int .u8 f.last,.int .u8 f.kind,.int .u16 f.has,.int .u16 f.most,.int .i64 n]
theorem zI{P:Program}{c:Code}{Q:Exit→Act→World→Prop}{a:Act}{W:World}(p:World→Prop)(h:p W)(k:∀ w',p w'→Code.wp P c Q a w'):Code.wp P c Q a W:=k W h
structure RD(w wx:World)(I R BI BC:Nat)(x:Cd)(f:Fo)(n:Int)(v:Nat):Prop where
  b:wx.heap[I]?=some (.cells (fdA x f n) 174)
  bi:wx.heap[BI]?=some (.cells #[.pointer (some ⟨I,0,none⟩)] 176)
  bc:wx.heap[BC]?=some (.cells #[.func (Fn.func 96) #[] #[.pointer (some ⟨R,0,none⟩)]] 181)
  br:wx.heap[R]?=some (.cells #[.int .u32 v] 22)
  nBI:BI≠I
  nBC:BC≠I
  nR:R≠I
  nRB:R≠BI
  nRC:R≠BC
  gBI:w.heap.size≤BI
  gBC:w.heap.size≤BC
  gR:w.heap.size≤R
  ch:zJ [I] w wx
theorem RD.fw{w wx:World}{I R BI BC:Nat}{x:Cd}{f:Fo}{n:Int}{v:Nat}(h:RD w wx I R BI BC x f n v):FW wx BI BC R I v f.has:=
  ⟨h.bi,h.bc,h.br,zA h.b 11,zE h.b⟩
theorem RD.drw{w wx:World}{I R BI BC:Nat}{x:Cd}{f:Fo}{n:Int}{v:Nat}(h:RD w wx I R BI BC x f n v):RD w wx.drew I R BI BC x f n v:=
  ⟨h.b,h.bi,h.bc,h.br,h.nBI,h.nBC,h.nR,h.nRB,h.nRC,h.gBI,h.gBC,h.gR,h.ch.drew⟩
theorem RD.put{w wx:World}{I R BI BC:Nat}{x:Cd}{f:Fo}{n:Int}{v:Nat}(h:RD w wx I R BI BC x f n v)(x':Cd)(o:Nat)(u:Value)(e:(fdA x f n).setIfInBounds o u=fdA x' f n):RD w (wx.setCell ⟨I,o,none⟩ u) I R BI BC x' f n v:=
  ⟨by rw[yE h.b,e],(zQ h.nBI _).trans h.bi,(zQ h.nBC _).trans h.bc,(zQ h.nR _).trans h.br,h.nBI,h.nBC,h.nR,h.nRB,h.nRC,h.gBI,h.gBC,h.gR,h.ch.set aS _ _⟩
theorem RD.rest{w wx w1:World}{I R BI BC:Nat}{x:Cd}{f:Fo}{n:Int}{v v':Nat}(h:RD w wx I R BI BC x f n v)(c:zJ [R] wx w1)(b:w1.heap[R]?=some (.cells #[.int .u32 v'] 22)):RD w w1 I R BI BC x f n v':=
  ⟨c.keep h.b (by simpa using h.nR.symm),c.keep h.bi (by simpa using h.nRB.symm),c.keep h.bc (by simpa using h.nRC.symm),b,h.nBI,h.nBC,h.nR,h.nRB,h.nRC,h.gBI,h.gBC,h.gR,
   ⟨c.os.trans h.ch.os,c.tape.trans h.ch.tape,c.output.trans h.ch.output,Nat.le_trans h.ch.size c.size,fun k hk hs=>(c.block k (Nat.lt_of_lt_of_le hk h.ch.size) (by have:=h.gR;simp;omega)).trans (h.ch.block k hk hs)⟩⟩
theorem RD.put8{w wx:World}{I R BI BC:Nat}{x:Cd}{f:Fo}{n:Int}{v:Nat}(h:RD w wx I R BI BC x f n v)(x':Cd):RD w ((((((((wx.setCell ⟨I,0,none⟩ (.int .i64 x'.op)).setCell ⟨I,1,none⟩ (.int .i64 x'.d)).setCell ⟨I,2,none⟩ (.int .i64 x'.a)).setCell ⟨I,3,none⟩ (.int .i64 x'.b)).setCell ⟨I,4,none⟩ (.int .i64 x'.c)).setCell ⟨I,5,none⟩ (.int .i64 x'.n)).setCell ⟨I,6,none⟩ (.int .u32 x'.k)).setCell ⟨I,7,none⟩ (.int .u32 x'.x)) I R BI BC x' f n v:=((((((((h.put ⟨x'.op,x.d,x.a,x.b,x.c,x.n,x.k,x.x⟩ 0 _ rfl).put ⟨x'.op,x'.d,x.a,x.b,x.c,x.n,x.k,x.x⟩ 1 _ rfl).put ⟨x'.op,x'.d,x'.a,x.b,x.c,x.n,x.k,x.x⟩ 2 _ rfl).put ⟨x'.op,x'.d,x'.a,x'.b,x.c,x.n,x.k,x.x⟩ 3 _ rfl).put ⟨x'.op,x'.d,x'.a,x'.b,x'.c,x.n,x.k,x.x⟩ 4 _ rfl).put ⟨x'.op,x'.d,x'.a,x'.b,x'.c,x'.n,x.k,x.x⟩ 5 _ rfl).put ⟨x'.op,x'.d,x'.a,x'.b,x'.c,x'.n,x'.k,x.x⟩ 6 _ rfl).put ⟨x'.op,x'.d,x'.a,x'.b,x'.c,x'.n,x'.k,x'.x⟩ 7 _ rfl)
def rd1(v:Nat):Nat:=rst true 1 256 v
def rd2(h:Int)(v:Nat):Nat:=rst (hb h 448) 256 16 (rd1 v)
def rd3(h:Int)(v:Nat):Nat:=rst (hb h 1) 4096 16 (rd2 h v)
def rd4(h:Int)(v:Nat):Nat:=rst (hb h 2) 65536 16 (rd3 h v)
def rd5(h:Int)(v:Nat):Nat:=rst (hb h 4) 1048576 16 (rd4 h v)
def rd6(h:Int)(v:Nat):Nat:=rst (hb h 8) 65536 65536 (rd5 h v)
def rdX(h:Int)(v:Nat)(k x:Nat):Cd:=⟨zN true 1 256 v,zN (hb h 448) 256 16 (rd1 v),zN (hb h 1) 4096 16 (rd2 h v),zN (hb h 2) 65536 16 (rd3 h v),zN (hb h 4) 1048576 16 (rd4 h v),zN (hb h 8) 65536 65536 (rd5 h v),k,x⟩
theorem zFI{v:Nat}(hv:v < 4294967296):rd1 v < 4294967296:=zEf _ _ _ _ hv
theorem zFJ(h:Int){v:Nat}(hv:v < 4294967296):rd2 h v < 4294967296:=zEf _ _ _ _ (zFI hv)
theorem zFK(h:Int){v:Nat}(hv:v < 4294967296):rd3 h v < 4294967296:=zEf _ _ _ _ (zFJ h hv)
theorem zFL(h:Int){v:Nat}(hv:v < 4294967296):rd4 h v < 4294967296:=zEf _ _ _ _ (zFK h hv)
theorem zG9(h:Int){v:Nat}(hv:v < 4294967296):rd5 h v < 4294967296:=zEf _ _ _ _ (zFL h hv)
structure WR(w:World)(b off n:Nat)(ws:Nat→Nat):Prop where
  cell:∀ i,i < n→w.cell? ⟨b,off+i,none⟩=some (.int .u32 (ws i))
  lt:∀ i,ws i < 4294967296
  lb:b < w.heap.size
theorem zEx(w:World)(I u0:Nat)(x0:Cd)(f:Fo)(nn:Int)(hI:w.heap[I]?=some (.cells (fdA x0 f nn) 174)) :
    RD w (((w.alloc (.cells #[.pointer (some ⟨I,0,none⟩)] 176)).alloc (.cells #[.int .u32 u0] 22)).alloc (.cells #[.func (Fn.func 96) #[] #[.pointer (some ⟨w.heap.size+1,0,none⟩)]] 181)) I (w.heap.size+1) w.heap.size (w.heap.size+1+1) x0 f nn u0:=by
  have lI:=zE hI
  have e1:=heap_alloc_last w (.cells #[.pointer (some ⟨I,0,none⟩)] 176)
  have e2:=heap_alloc_last (w.alloc (.cells #[.pointer (some ⟨I,0,none⟩)] 176)) (.cells #[.int .u32 u0] 22)
  have e3:=heap_alloc_last ((w.alloc (.cells #[.pointer (some ⟨I,0,none⟩)] 176)).alloc (.cells #[.int .u32 u0] 22)) (.cells #[.func (Fn.func 96) #[] #[.pointer (some ⟨w.heap.size+1,0,none⟩)]] 181)
  simp only[World.size_alloc] at e2 e3
  refine⟨?_,?_,e3,?_,by omega,by omega,by omega,by omega,by omega,by omega,by omega,by omega,(((zJ.refl [I] w).alloc _).alloc _).alloc _⟩
  · rw[Below.heap_alloc _ _ _ zq19,Below.heap_alloc _ _ _ zq19,Below.heap_alloc _ _ _ lI];exact hI
  · rw[Below.heap_alloc _ _ _ zq19,Below.heap_alloc _ _ _ aS];exact e1
  · rw[Below.heap_alloc _ _ _ aS];exact e2
inductive zIE(h:Int):Nat→Prop
  | three (a:(bits .and .u16 h 32==0)=false):zIE h 3
  | two (a:bits .and .u16 h 32=0) (b:(bits .and .u16 h 16==0)=false):zIE h 2
  | one (a:bits .and .u16 h 32=0) (b:bits .and .u16 h 16=0):zIE h 1
theorem zDE(P n:Nat)(h:Int)(w:World)(hn:zIE h n)(ch:w.cell? ⟨P,3,none⟩=some (.int .u16 h))(lP:P < w.heap.size) :
    Calls Try.prog 88 #[.pointer (some ⟨P,0,none⟩)] w fun e w'=>e=.returned (.int .i64 n)∧w=w':=by
  rcases hn with a|⟨a,b⟩|⟨a,b⟩
  · have a2:(bits .and .u16 h 32 !=0)=true:=by simp[bne,a]
    go_enter Try.func88,Try.ntmps88;go_wp2;go_ret;exact⟨rfl,rfl⟩
  · have b2:(bits .and .u16 h 16 !=0)=true:=by simp[bne,b]
    go_enter Try.func88,Try.ntmps88;go_wp2;go_ret;exact⟨rfl,rfl⟩
  · go_enter Try.func88,Try.ntmps88;go_wp2;go_ret;exact⟨rfl,rfl⟩
theorem vJ(P n:Nat)(h:Int)(w:World)(hn:zIE h n)(ch:w.cell? ⟨P,11,none⟩=some (.int .u16 h))(lP:P < w.heap.size) :
    Calls Try.prog 88 #[.pointer (some ⟨P,8,none⟩)] w fun e w'=>e=.returned (.int .i64 n)∧w=w':=by
  rcases hn with a|⟨a,b⟩|⟨a,b⟩
  · have a2:(bits .and .u16 h 32 !=0)=true:=by simp[bne,a]
    go_enter Try.func88,Try.ntmps88;go_wp2;go_ret;exact⟨rfl,rfl⟩
  · have b2:(bits .and .u16 h 16 !=0)=true:=by simp[bne,b]
    go_enter Try.func88,Try.ntmps88;go_wp2;go_ret;exact⟨rfl,rfl⟩
  · go_enter Try.func88,Try.ntmps88;go_wp2;go_ret;exact⟨rfl,rfl⟩
def alB(st:Bool)(d nn m:Int):Bool:=decide (nn≤m) && (!st || (decide (1≤d) && decide (d≤7)))
theorem zMH(I:Nat)(h d nn m:Int)(w:World)(c1:w.cell? ⟨I,1,none⟩=some (.int .i64 d))(c5:w.cell? ⟨I,5,none⟩=some (.int .i64 nn))(c11:w.cell? ⟨I,11,none⟩=some (.int .u16 h))(c12:w.cell? ⟨I,12,none⟩=some (.int .u16 m))(lI:I < w.heap.size)(m0:0≤m)(m1:m≤65535)(g1:1≤d)(g2:d≤7)(q1:decide (nn≤m)=false) :
    Calls Try.prog 95 #[.pointer (some ⟨I,8,none⟩),.pointer (some ⟨I,0,none⟩)] w fun e w'=>e=.returned (.bool false)∧∃ n,w'=w.drewN n:=by
  go_enter Try.func95,Try.ntmps95
  go_upto_region 2 with fail
  go_quiet (fail)
  go_wp2
  go_ret
  exact⟨rfl,_,rfl⟩
theorem zIJ(I:Nat)(h d nn m:Int)(w:World)(c1:w.cell? ⟨I,1,none⟩=some (.int .i64 d))(c5:w.cell? ⟨I,5,none⟩=some (.int .i64 nn))(c11:w.cell? ⟨I,11,none⟩=some (.int .u16 h))(c12:w.cell? ⟨I,12,none⟩=some (.int .u16 m))(lI:I < w.heap.size)(m0:0≤m)(m1:m≤65535)(g1:1≤d)(g2:d≤7)(q1:decide (nn≤m)=true)(yD:(bits .and .u16 h 256==0)=true) :
    Calls Try.prog 95 #[.pointer (some ⟨I,8,none⟩),.pointer (some ⟨I,0,none⟩)] w fun e w'=>e=.returned (.bool true)∧∃ n,w'=w.drewN n:=by
  go_enter Try.func95,Try.ntmps95
  go_upto_region 2 with fail
  go_quiet (fail)
  go_wp2
  go_ret
  exact⟨rfl,_,rfl⟩
theorem zMI(I:Nat)(h d nn m:Int)(w:World)(c1:w.cell? ⟨I,1,none⟩=some (.int .i64 d))(c5:w.cell? ⟨I,5,none⟩=some (.int .i64 nn))(c11:w.cell? ⟨I,11,none⟩=some (.int .u16 h))(c12:w.cell? ⟨I,12,none⟩=some (.int .u16 m))(lI:I < w.heap.size)(m0:0≤m)(m1:m≤65535)(g1:1≤d)(g2:d≤7)(q1:decide (nn≤m)=true)(yD:(bits .and .u16 h 256==0)=false) :
    Calls Try.prog 95 #[.pointer (some ⟨I,8,none⟩),.pointer (some ⟨I,0,none⟩)] w fun e w'=>e=.returned (.bool true)∧∃ n,w'=w.drewN n:=by
  go_enter Try.func95,Try.ntmps95
  go_upto_region 2 with fail
  go_quiet (fail)
  go_wp2
  go_ret
  exact⟨rfl,_,rfl⟩
theorem zKO(I:Nat)(h d nn m:Int)(w:World)(c1:w.cell? ⟨I,1,none⟩=some (.int .i64 d))(c5:w.cell? ⟨I,5,none⟩=some (.int .i64 nn))(c11:w.cell? ⟨I,11,none⟩=some (.int .u16 h))(c12:w.cell? ⟨I,12,none⟩=some (.int .u16 m))(lI:I < w.heap.size)(m0:0≤m)(m1:m≤65535)(g1:¬1≤d)(q1:decide (nn≤m)=false) :
    Calls Try.prog 95 #[.pointer (some ⟨I,8,none⟩),.pointer (some ⟨I,0,none⟩)] w fun e w'=>e=.returned (.bool false)∧∃ n,w'=w.drewN n:=by
  go_enter Try.func95,Try.ntmps95
  go_upto_region 2 with fail
  go_quiet (fail)
  go_wp2
  go_ret
  exact⟨rfl,_,rfl⟩
theorem zHg(I:Nat)(h d nn m:Int)(w:World)(c1:w.cell? ⟨I,1,none⟩=some (.int .i64 d))(c5:w.cell? ⟨I,5,none⟩=some (.int .i64 nn))(c11:w.cell? ⟨I,11,none⟩=some (.int .u16 h))(c12:w.cell? ⟨I,12,none⟩=some (.int .u16 m))(lI:I < w.heap.size)(m0:0≤m)(m1:m≤65535)(g1:¬1≤d)(q1:decide (nn≤m)=true)(yD:(bits .and .u16 h 256==0)=true) :
    Calls Try.prog 95 #[.pointer (some ⟨I,8,none⟩),.pointer (some ⟨I,0,none⟩)] w fun e w'=>e=.returned (.bool true)∧∃ n,w'=w.drewN n:=by
  go_enter Try.func95,Try.ntmps95
  go_upto_region 2 with fail
  go_quiet (fail)
  go_wp2
  go_ret
  exact⟨rfl,_,rfl⟩
theorem zKP(I:Nat)(h d nn m:Int)(w:World)(c1:w.cell? ⟨I,1,none⟩=some (.int .i64 d))(c5:w.cell? ⟨I,5,none⟩=some (.int .i64 nn))(c11:w.cell? ⟨I,11,none⟩=some (.int .u16 h))(c12:w.cell? ⟨I,12,none⟩=some (.int .u16 m))(lI:I < w.heap.size)(m0:0≤m)(m1:m≤65535)(g1:¬1≤d)(q1:decide (nn≤m)=true)(yD:(bits .and .u16 h 256==0)=false) :
    Calls Try.prog 95 #[.pointer (some ⟨I,8,none⟩),.pointer (some ⟨I,0,none⟩)] w fun e w'=>e=.returned (.bool false)∧∃ n,w'=w.drewN n:=by
  go_enter Try.func95,Try.ntmps95
  go_upto_region 2 with fail
  go_quiet (fail)
  go_wp2
  go_ret
  exact⟨rfl,_,rfl⟩
theorem zKM(I:Nat)(h d nn m:Int)(w:World)(c1:w.cell? ⟨I,1,none⟩=some (.int .i64 d))(c5:w.cell? ⟨I,5,none⟩=some (.int .i64 nn))(c11:w.cell? ⟨I,11,none⟩=some (.int .u16 h))(c12:w.cell? ⟨I,12,none⟩=some (.int .u16 m))(lI:I < w.heap.size)(m0:0≤m)(m1:m≤65535)(g1:1≤d)(g2:¬d≤7)(q1:decide (nn≤m)=false) :
    Calls Try.prog 95 #[.pointer (some ⟨I,8,none⟩),.pointer (some ⟨I,0,none⟩)] w fun e w'=>e=.returned (.bool false)∧∃ n,w'=w.drewN n:=by
  go_enter Try.func95,Try.ntmps95
  go_upto_region 2 with fail
  go_quiet (fail)
  go_wp2
  go_ret
  exact⟨rfl,_,rfl⟩
theorem zHf(I:Nat)(h d nn m:Int)(w:World)(c1:w.cell? ⟨I,1,none⟩=some (.int .i64 d))(c5:w.cell? ⟨I,5,none⟩=some (.int .i64 nn))(c11:w.cell? ⟨I,11,none⟩=some (.int .u16 h))(c12:w.cell? ⟨I,12,none⟩=some (.int .u16 m))(lI:I < w.heap.size)(m0:0≤m)(m1:m≤65535)(g1:1≤d)(g2:¬d≤7)(q1:decide (nn≤m)=true)(yD:(bits .and .u16 h 256==0)=true) :
    Calls Try.prog 95 #[.pointer (some ⟨I,8,none⟩),.pointer (some ⟨I,0,none⟩)] w fun e w'=>e=.returned (.bool true)∧∃ n,w'=w.drewN n:=by
  go_enter Try.func95,Try.ntmps95
  go_upto_region 2 with fail
  go_quiet (fail)
  go_wp2
  go_ret
  exact⟨rfl,_,rfl⟩
theorem zKN(I:Nat)(h d nn m:Int)(w:World)(c1:w.cell? ⟨I,1,none⟩=some (.int .i64 d))(c5:w.cell? ⟨I,5,none⟩=some (.int .i64 nn))(c11:w.cell? ⟨I,11,none⟩=some (.int .u16 h))(c12:w.cell? ⟨I,12,none⟩=some (.int .u16 m))(lI:I < w.heap.size)(m0:0≤m)(m1:m≤65535)(g1:1≤d)(g2:¬d≤7)(q1:decide (nn≤m)=true)(yD:(bits .and .u16 h 256==0)=false) :
    Calls Try.prog 95 #[.pointer (some ⟨I,8,none⟩),.pointer (some ⟨I,0,none⟩)] w fun e w'=>e=.returned (.bool false)∧∃ n,w'=w.drewN n:=by
  go_enter Try.func95,Try.ntmps95
  go_upto_region 2 with fail
  go_quiet (fail)
  go_wp2
  go_ret
  exact⟨rfl,_,rfl⟩
theorem yL(I:Nat)(h d nn m:Int)(st:Bool)(w:World)(hs:bits .and .u16 h 256=0↔st=false)(c1:w.cell? ⟨I,1,none⟩=some (.int .i64 d))(c5:w.cell? ⟨I,5,none⟩=some (.int .i64 nn))(c11:w.cell? ⟨I,11,none⟩=some (.int .u16 h))(c12:w.cell? ⟨I,12,none⟩=some (.int .u16 m))(lI:I < w.heap.size)(m0:0≤m)(m1:m≤65535) :
    Calls Try.prog 95 #[.pointer (some ⟨I,8,none⟩),.pointer (some ⟨I,0,none⟩)] w fun e w'=>e=.returned (.bool (alB st d nn m))∧∃ n,w'=w.drewN n:=by
  have yD:(bits .and .u16 h 256==0) = !st:=by
    cases st with
    | false=>rw[hs.2 rfl];rfl
    | true=>
      cases hh:(bits .and .u16 h 256==0) with
      | false=>rfl
      | true=>exact absurd (hs.1 (by simpa using hh)) aS
  by_cases g3:nn≤m
  · have q1:decide (nn≤m)=true:=decide_eq_true g3
    cases st
    · rw[show alB false d nn m=true from by simp[alB,g3]]
      by_cases g1:1≤d
      · by_cases g2:d≤7
        · exact zIJ I h d nn m w c1 c5 c11 c12 lI m0 m1 g1 g2 q1 yD
        · exact zHf I h d nn m w c1 c5 c11 c12 lI m0 m1 g1 g2 q1 yD
      · exact zHg I h d nn m w c1 c5 c11 c12 lI m0 m1 g1 q1 yD
    · by_cases g1:1≤d
      · by_cases g2:d≤7
        · rw[show alB true d nn m=true from by simp[alB,g1,g2,g3]]
          exact zMI I h d nn m w c1 c5 c11 c12 lI m0 m1 g1 g2 q1 yD
        · rw[show alB true d nn m=false from by simp[alB,g2]]
          exact zKN I h d nn m w c1 c5 c11 c12 lI m0 m1 g1 g2 q1 yD
      · rw[show alB true d nn m=false from by simp[alB,g1]]
        exact zKP I h d nn m w c1 c5 c11 c12 lI m0 m1 g1 q1 yD
  · have q1:decide (nn≤m)=false:=decide_eq_false g3
    rw[show alB st d nn m=false from by simp[alB,g3]]
    by_cases g1:1≤d
    · by_cases g2:d≤7
      · exact zMH I h d nn m w c1 c5 c11 c12 lI m0 m1 g1 g2 q1
      · exact zKM I h d nn m w c1 c5 c11 c12 lI m0 m1 g1 g2 q1
    · exact zKO I h d nn m w c1 c5 c11 c12 lI m0 m1 g1 q1
def vR(h:Int):Nat:=if hb h 32 then 3 else if hb h 16 then 2 else 1
theorem zCm(h:Int):zIE h (vR h):=by
  unfold vR
  by_cases a:hb h 32=true
  · rw[if_pos a];exact .three (by simpa[hb] using a)
  · rw[if_neg a]
    have a':=(hb_iff h 32).2 (by simpa using a)
    by_cases c:hb h 16=true
    · rw[if_pos c];exact .two a' (by simpa[hb] using c)
    · rw[if_neg c];exact .one a' ((hb_iff h 16).2 (by simpa using c))
def zH(k:Nat):Fo:=⟨tg k 0,tg k 1,tg k 2,tg k 3,tg k 4⟩
theorem vI(k:Nat)(h:k < 23):0≤(zH k).most∧(zH k).most≤65535:=by
  rcases(by omega:k=0∨k=1∨k=2∨k=3∨k=4∨k=5∨k=6∨k=7∨k=8∨k=9∨k=10∨k=11∨k=12∨k=13∨k=14∨k=15∨k=16∨k=17∨k=18∨k=19∨k=20∨k=21∨k=22) with rfl|rfl|rfl|rfl|rfl|rfl|rfl|rfl|rfl|rfl|rfl|rfl|rfl|rfl|rfl|rfl|rfl|rfl|rfl|rfl|rfl|rfl|rfl<;>decide
theorem zAK{op:Int}{k:Nat}(h:hit op=some k):k < 23:=by
  unfold hit at h
  have:=List.mem_of_find?_eq_some h
  simpa using this
theorem zIc(P:Value)(a:Option Addr)(len cap:Nat)(at':Int)(w:World)(hl:len≤9223372036854775807)(h:at' < 0∨(len:Int) < at') :
    Calls Try.prog 91 #[P,.slice a len cap,.int .i64 at'] w fun e w'=>e=.returned (.int .i64 4)∧w=w':=by
  rcases h with h|h
  · go_enter Try.func91,Try.ntmps91;go_wp2;go_ret;exact⟨rfl,rfl⟩
  · by_cases h0:at' < 0
    · go_enter Try.func91,Try.ntmps91;go_wp2;go_ret;exact⟨rfl,rfl⟩
    · go_enter Try.func91,Try.ntmps91;go_wp2;go_ret;exact⟨rfl,rfl⟩
theorem zId(P:Value)(a:Option Addr)(len cap:Nat)(w:World)(hl:len≤9223372036854775807) :
    Calls Try.prog 91 #[P,.slice a len cap,.int .i64 len] w fun e w'=>e=.returned (.int .i64 1)∧w=w':=by
  have q1:decide ((len:Int) < 0)=false:=aF
  have q2:decide ((len:Int) < len)=false:=aF
  go_enter Try.func91,Try.ntmps91;go_wp2;go_ret;exact⟨rfl,rfl⟩
theorem vE{w w1:World}(h:Below w.drew.heap.size w.drew w1):Below w.heap.size w w1:=((Below.refl w.heap.size w).drew).trans h
structure DE(w wx:World)(I BF:Nat)(A:Array Value)(f:Fo):Prop where
  b:wx.heap[I]?=some (.cells A 174)
  bf:wx.heap[BF]?=some (.cells (foA f) 146)
  ne:BF≠I
  ge:w.heap.size≤BF
  ch:zJ [I] w wx
theorem uH{w w1:World}{I:Nat}{A:Array Value}(f:Fo)(hI:w.heap[I]?=some (.cells A 174))(hb:Below (w.alloc (.cells #[.int .u8 0,.int .u8 0,.int .u8 0,.int .u16 0,.int .u16 0] 146)).heap.size (w.alloc (.cells #[.int .u8 0,.int .u8 0,.int .u8 0,.int .u16 0,.int .u16 0] 146)) w1) :
    DE w (((((w1.setCell ⟨w.heap.size,0,none⟩ (.int .u8 f.first)).setCell ⟨w.heap.size,1,none⟩ (.int .u8 f.last)).setCell ⟨w.heap.size,2,none⟩ (.int .u8 f.kind)).setCell ⟨w.heap.size,3,none⟩ (.int .u16 f.has)).setCell ⟨w.heap.size,4,none⟩ (.int .u16 f.most)) I w.heap.size A f:=by
  have lI:=zE hI
  have hs:(w.alloc (.cells #[.int .u8 0,.int .u8 0,.int .u8 0,.int .u16 0,.int .u16 0] 146)).heap.size=w.heap.size+1:=by simp
  have hn:∀ o v (W:World),(W.setCell ⟨w.heap.size,o,none⟩ v).heap[I]?=W.heap[I]?:=fun o v W=>zQ aO v
  have b1:w1.heap[w.heap.size]?=some (.cells #[.int .u8 0,.int .u8 0,.int .u8 0,.int .u16 0,.int .u16 0] 146):=(hb.block _ aO).trans (heap_alloc_last w _)
  refine⟨?_,?_,by omega,Nat.le_refl _,?_⟩
  · rw[hn,hn,hn,hn,hn,hb.block _ aO,Below.heap_alloc _ _ _ lI];exact hI
  · exact yE (yE (yE (yE (yE b1 _) _) _) _) _
  · refine zJ.of_below _ ?_
    have h0:Below w.heap.size w w1:=((Below.refl w.heap.size w).alloc aL _).trans (hb.mono aO)
    exact((((h0.setCell aL _).setCell aL _).setCell aL _).setCell aL _).setCell aL _
theorem zA3{w w1:World}{I:Nat}{A:Array Value}(f:Fo)(hI:w.heap[I]?=some (.cells A 174))(hb:Below w.heap.size w w1):DE w (w1.alloc (.cells (foA f) 146)) I w1.heap.size A f:=by
  have lI:=zE hI
  have hs:=hb.size
  refine⟨?_,heap_alloc_last w1 _,by omega,hs,((zJ.of_below _ hb).alloc _)⟩
  rw[Below.heap_alloc _ _ _ aO,hb.block _ lI];exact hI
def dcE(f:Fo)(v:Nat)(x:Cd):Int:=if rd6 f.has v=0∧alB (hb f.has 256) x.d x.n f.most=true then 0 else 3
structure D2(w wx:World)(I:Nat)(x:Cd)(f:Fo)(n:Int):Prop where
  b:wx.heap[I]?=some (.cells (fdA x f n) 174)
  ch:zJ [I] w wx
theorem D2.form{w wx:World}{I BF:Nat}{x:Cd}{f0 f:Fo}{n:Int}(h:DE w wx I BF (fdA x f0 n) f) :
    D2 w (((((wx.setCell ⟨I,8,none⟩ (.int .u8 f.first)).setCell ⟨I,9,none⟩ (.int .u8 f.last)).setCell ⟨I,10,none⟩ (.int .u8 f.kind)).setCell ⟨I,11,none⟩ (.int .u16 f.has)).setCell ⟨I,12,none⟩ (.int .u16 f.most)) I x f n:=
  ⟨yE (yE (yE (yE (yE h.b _) _) _) _) _,((((h.ch.set aS _ _).set aS _ _).set aS _ _).set aS _ _).set aS _ _⟩
theorem D2.words{w wx:World}{I:Nat}{x:Cd}{f:Fo}{n:Int}(h:D2 w wx I x f n)(m:Int):D2 w (wx.setCell ⟨I,13,none⟩ (.int .i64 m)) I x f m:=
  ⟨yE h.b _,h.ch.set aS _ _⟩
theorem D2.wr{w wx:World}{I:Nat}{x:Cd}{f:Fo}{n:Int}(h:D2 w wx I x f n){b off len:Nat}{ws:Nat→Nat}(hr:WR w b off len ws)(hb:b≠I)(a m:Nat)(ha:a+m≤len):WR wx b (off+a) m (fun i=>ws (a+i)):=
  ⟨fun i hi=>by
    have:=hr.cell (a+i) aO
    rw[← Nat.add_assoc] at this
    exact(World.cell?_of_block (w:=w) (h.ch.block b hr.lb (by simpa using hb))).trans this,fun i=>hr.lt _,Nat.lt_of_lt_of_le hr.lb h.ch.size⟩
end Go.Proofs.Ytkmjenjahbicpaa.Ho
