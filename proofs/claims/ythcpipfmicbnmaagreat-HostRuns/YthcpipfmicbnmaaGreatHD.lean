import Derived.Test.YthcpipfmicbnmaaGreatHC
import Derived.Laws.EntriesVeiled
import Derived.Test.YthcpipfmicbnmaaGreatZQ
set_option linter.unusedVariables false
set_option linter.unusedSimpArgs false
set_option maxHeartbeats 1000000
namespace Go.Proofs.YthcpipfmicbnmaaGreat.Ho
open Go.RowKit
set_option maxRecDepth 100000
def hasB(s:Array UInt8)(c:Nat):Bool:=s.toList.any (fun x=>x.toNat==c)
theorem hbT:hasB #[100] 97=false∧hasB #[100] 98=false∧hasB #[100] 99=false∧hasB #[100] 100=true∧hasB #[100] 110=false∧hasB #[110] 97=false∧hasB #[110] 98=false∧hasB #[110] 99=false∧hasB #[110] 100=false∧hasB #[110] 110=true∧hasB #[100,97] 97=true∧hasB #[100,97] 98=false∧hasB #[100,97] 99=false∧hasB #[100,97] 100=true∧hasB #[100,97] 110=false∧hasB #[97,110] 97=true∧hasB #[97,110] 98=false∧hasB #[97,110] 99=false∧hasB #[97,110] 100=false∧hasB #[97,110] 110=true∧hasB #[100,110] 97=false∧hasB #[100,110] 98=false∧hasB #[100,110] 99=false∧hasB #[100,110] 100=true∧hasB #[100,110] 110=true∧hasB #[100,97,98] 97=true∧hasB #[100,97,98] 98=true∧hasB #[100,97,98] 99=false∧hasB #[100,97,98] 100=true∧hasB #[100,97,98] 110=false∧hasB #[100,97,110] 97=true∧hasB #[100,97,110] 98=false∧hasB #[100,97,110] 99=false∧hasB #[100,97,110] 100=true∧hasB #[100,97,110] 110=true∧hasB #[100,97,98,99] 97=true∧hasB #[100,97,98,99] 98=true∧hasB #[100,97,98,99] 99=true∧hasB #[100,97,98,99] 100=true∧hasB #[100,97,98,99] 110=false:=by decide
abbrev Hn(b:ByteArray)(c:Int)(r:Bool):Prop:=∀ (w:World),Calls Tryz.prog 36 #[.string b,.int .u8 c] w fun e w'=>e=.returned (.bool r)∧w=w'
theorem zA4{p:Prop}(h:p:=by intro w;go_enter Tryz.func36,Tryz.ntmps36;go_wp2;refine wp_loop_rounds 1 ?_;(iterate 1 (rw[rounds_succ];go_wp2));go_ret;exact⟨rfl,rfl⟩):p:=h
theorem zAT{p:Prop}(h:p:=by intro w;go_enter Tryz.func36,Tryz.ntmps36;go_wp2;refine wp_loop_rounds 2 ?_;(iterate 2 (rw[rounds_succ];go_wp2));go_ret;exact⟨rfl,rfl⟩):p:=h
theorem zBf{p:Prop}(h:p:=by intro w;go_enter Tryz.func36,Tryz.ntmps36;go_wp2;refine wp_loop_rounds 3 ?_;(iterate 3 (rw[rounds_succ];go_wp2));go_ret;exact⟨rfl,rfl⟩):p:=h
theorem zER{p:Prop}(h:p:=by intro w;go_enter Tryz.func36,Tryz.ntmps36;go_wp2;refine wp_loop_rounds 4 ?_;(iterate 4 (rw[rounds_succ];go_wp2));go_ret;exact⟨rfl,rfl⟩):p:=h
theorem zOB{p:Prop}(h:p:=by intro w;go_enter Tryz.func36,Tryz.ntmps36;go_wp2;refine wp_loop_rounds 5 ?_;(iterate 5 (rw[rounds_succ];go_wp2));go_ret;exact⟨rfl,rfl⟩):p:=h
theorem zMs:Hn ⟨#[]⟩ 100 false:=zA4
theorem zMp:Hn ⟨#[]⟩ 97 false:=zA4
theorem zMq:Hn ⟨#[]⟩ 98 false:=zA4
theorem zMr:Hn ⟨#[]⟩ 99 false:=zA4
theorem zMt:Hn ⟨#[]⟩ 110 false:=zA4
theorem zKP:Hn ⟨#[110]⟩ 100 false:=zAT
theorem zKM:Hn ⟨#[110]⟩ 97 false:=zAT
theorem zKN:Hn ⟨#[110]⟩ 98 false:=zAT
theorem zKO:Hn ⟨#[110]⟩ 99 false:=zAT
theorem zKQ:Hn ⟨#[110]⟩ 110 true:=zA4
theorem zKK:Hn ⟨#[100]⟩ 100 true:=zA4
theorem zKH:Hn ⟨#[100]⟩ 97 false:=zAT
theorem zKI:Hn ⟨#[100]⟩ 98 false:=zAT
theorem zKJ:Hn ⟨#[100]⟩ 99 false:=zAT
theorem zKL:Hn ⟨#[100]⟩ 110 false:=zAT
theorem zI9:Hn ⟨#[100,97]⟩ 100 true:=zA4
theorem zI8:Hn ⟨#[100,97]⟩ 97 true:=zAT
theorem zDd:Hn ⟨#[100,97]⟩ 98 false:=zBf
theorem zDe:Hn ⟨#[100,97]⟩ 99 false:=zBf
theorem zJa:Hn ⟨#[100,97]⟩ 110 false:=zBf
theorem zI6:Hn ⟨#[97,110]⟩ 100 false:=zBf
theorem zI3:Hn ⟨#[97,110]⟩ 97 true:=zA4
theorem zI4:Hn ⟨#[97,110]⟩ 98 false:=zBf
theorem zI5:Hn ⟨#[97,110]⟩ 99 false:=zBf
theorem zI7:Hn ⟨#[97,110]⟩ 110 true:=zAT
theorem zGf:Hn ⟨#[100,97,98,99]⟩ 100 true:=zA4
theorem zGe:Hn ⟨#[100,97,98,99]⟩ 97 true:=zAT
theorem zBM:Hn ⟨#[100,97,98,99]⟩ 98 true:=zBf
theorem zBN:Hn ⟨#[100,97,98,99]⟩ 99 true:=zER
theorem zGg:Hn ⟨#[100,97,98,99]⟩ 110 false:=zOB
theorem zJe:Hn ⟨#[100,110]⟩ 100 true:=zA4
theorem zJb:Hn ⟨#[100,110]⟩ 97 false:=zBf
theorem zJc:Hn ⟨#[100,110]⟩ 98 false:=zBf
theorem zJd:Hn ⟨#[100,110]⟩ 99 false:=zBf
theorem zJf:Hn ⟨#[100,110]⟩ 110 true:=zAT
theorem zHy:Hn ⟨#[100,97,110]⟩ 100 true:=zA4
theorem zHv:Hn ⟨#[100,97,110]⟩ 97 true:=zAT
theorem zHw:Hn ⟨#[100,97,110]⟩ 98 false:=zER
theorem zHx:Hn ⟨#[100,97,110]⟩ 99 false:=zER
theorem zHz:Hn ⟨#[100,97,110]⟩ 110 true:=zBf
theorem zHt:Hn ⟨#[100,97,98]⟩ 100 true:=zA4
theorem zHs:Hn ⟨#[100,97,98]⟩ 97 true:=zAT
theorem zDX:Hn ⟨#[100,97,98]⟩ 98 true:=zBf
theorem zDY:Hn ⟨#[100,97,98]⟩ 99 false:=zER
theorem zHu:Hn ⟨#[100,97,98]⟩ 110 false:=zER
def zDO(s:Array UInt8):Prop:=s=#[]∨s=#[110]∨s=#[100]∨s=#[100,97]∨s=#[97,110]∨s=#[100,97,98,99]∨s=#[100,110]∨s=#[100,97,110]∨s=#[100,97,98]
theorem zMn(s:Array UInt8)(hs:zDO s)(w:World):Calls Tryz.prog 36 #[.string ⟨s⟩,.int .u8 100] w fun e w'=>e=.returned (.bool (hasB s 100))∧w=w':=by
  rcases hs with rfl|rfl|rfl|rfl|rfl|rfl|rfl|rfl|rfl
  · exact zMs w
  · exact zKP w
  · exact zKK w
  · exact zI9 w
  · exact zI6 w
  · exact zGf w
  · exact zJe w
  · exact zHy w
  · exact zHt w
theorem zMk(s:Array UInt8)(hs:zDO s)(w:World):Calls Tryz.prog 36 #[.string ⟨s⟩,.int .u8 97] w fun e w'=>e=.returned (.bool (hasB s 97))∧w=w':=by
  rcases hs with rfl|rfl|rfl|rfl|rfl|rfl|rfl|rfl|rfl
  · exact zMp w
  · exact zKM w
  · exact zKH w
  · exact zI8 w
  · exact zI3 w
  · exact zGe w
  · exact zJb w
  · exact zHv w
  · exact zHs w
theorem zMl(s:Array UInt8)(hs:zDO s)(w:World):Calls Tryz.prog 36 #[.string ⟨s⟩,.int .u8 98] w fun e w'=>e=.returned (.bool (hasB s 98))∧w=w':=by
  rcases hs with rfl|rfl|rfl|rfl|rfl|rfl|rfl|rfl|rfl
  · exact zMq w
  · exact zKN w
  · exact zKI w
  · exact zDd w
  · exact zI4 w
  · exact zBM w
  · exact zJc w
  · exact zHw w
  · exact zDX w
theorem zMm(s:Array UInt8)(hs:zDO s)(w:World):Calls Tryz.prog 36 #[.string ⟨s⟩,.int .u8 99] w fun e w'=>e=.returned (.bool (hasB s 99))∧w=w':=by
  rcases hs with rfl|rfl|rfl|rfl|rfl|rfl|rfl|rfl|rfl
  · exact zMr w
  · exact zKO w
  · exact zKJ w
  · exact zDe w
  · exact zI5 w
  · exact zBN w
  · exact zJd w
  · exact zHx w
  · exact zDY w
theorem zMo(s:Array UInt8)(hs:zDO s)(w:World):Calls Tryz.prog 36 #[.string ⟨s⟩,.int .u8 110] w fun e w'=>e=.returned (.bool (hasB s 110))∧w=w':=by
  rcases hs with rfl|rfl|rfl|rfl|rfl|rfl|rfl|rfl|rfl
  · exact zMt w
  · exact zKQ w
  · exact zKL w
  · exact zJa w
  · exact zI7 w
  · exact zGg w
  · exact zJf w
  · exact zHz w
  · exact zHu w
theorem uQ{a b:Int}(h:a=b):Ending.returned (.int .u32 a)=.returned (.int .u32 b):=by rw[h]
structure Cd where
  op:Int
  d:Int
  a:Int
  b:Int
  c:Int
  n:Int
  k:Nat
  x:Nat
  deriving DecidableEq
abbrev cdA(x:Cd):Array Value:=#[.int .i64 x.op,.int .i64 x.d,.int .i64 x.a,.int .i64 x.b,.int .i64 x.c,.int .i64 x.n,.int .u32 x.k,.int .u32 x.x]
abbrev cdV(x:Cd):Value:=.agg (cdA x)
def fst(x:Cd):Int:=(x.op+256*x.d+4096*x.a+65536*x.b+1048576*x.c+65536*x.n)%4294967296
theorem zV(x:Cd)(w:World):Calls Tryz.prog 37 #[cdV x] w fun e w'=>e=.returned (.int .u32 (fst x))∧w.alloc (.cells (cdA x) 69)=w':=by
  obtain⟨op,d,a,b,c,n,k,y⟩:=x
  go_enter Tryz.func37,Tryz.ntmps37
  go_wp2
  go_ret
  exact⟨uQ (by unfold fst;simp only[];omega),rfl⟩
def hb(h m:Int):Bool:=!(bits .and .u16 h m==0)
theorem hb_iff(h m:Int):bits .and .u16 h m=0↔hb h m=false:=by unfold hb;simp
structure Fo where
  first:Int
  last:Int
  kind:Int
  has:Int
  most:Int
abbrev foA(f:Fo):Array Value:=#[.int .u8 f.first,.int .u8 f.last,.int .u8 f.kind,.int .u16 f.has,.int .u16 f.most]
abbrev yT(x:Cd)(f:Fo)(n:Int):Array Value:=#[.int .i64 x.op,.int .i64 x.d,.int .i64 x.a,.int .i64 x.b,.int .i64 x.c,.int .i64 x.n,.int .u32 x.k,.int .u32 x.x,.int .u8 f.first,.int .u8 f.last,.int .u8 f.kind,.int .u16 f.has,.int .u16 f.most,.int .i64 n]
theorem zJ{P:Program}{c:Code}{Q:Exit→Act→World→Prop}{a:Act}{W:World}(p:World→Prop)(h:p W)(k:∀ w',p w'→Code.wp P c Q a w'):Code.wp P c Q a W:=k W h
structure RD(w wx:World)(I R BI BC:Nat)(x:Cd)(f:Fo)(n:Int)(v:Nat):Prop where
  b:wx.heap[I]?=some (.cells (yT x f n) 90)
  bi:wx.heap[BI]?=some (.cells #[.pointer (some ⟨I,0,none⟩)] 103)
  bc:wx.heap[BC]?=some (.cells #[.func (Fn.func 59) #[] #[.pointer (some ⟨R,0,none⟩)]] 129)
  br:wx.heap[R]?=some (.cells #[.int .u32 v] 23)
  nBI:BI≠I
  nBC:BC≠I
  nR:R≠I
  nRB:R≠BI
  nRC:R≠BC
  gBI:w.heap.size≤BI
  gBC:w.heap.size≤BC
  gR:w.heap.size≤R
  ch:zI [I] w wx
theorem RD.fw{w wx:World}{I R BI BC:Nat}{x:Cd}{f:Fo}{n:Int}{v:Nat}(h:RD w wx I R BI BC x f n v):FW wx BI BC R I v f.has:=
  ⟨h.bi,h.bc,h.br,zA h.b 11,zE h.b⟩
theorem RD.drw{w wx:World}{I R BI BC:Nat}{x:Cd}{f:Fo}{n:Int}{v:Nat}(h:RD w wx I R BI BC x f n v):RD w wx.drew I R BI BC x f n v:=
  ⟨h.b,h.bi,h.bc,h.br,h.nBI,h.nBC,h.nR,h.nRB,h.nRC,h.gBI,h.gBC,h.gR,h.ch.drew⟩
theorem RD.put{w wx:World}{I R BI BC:Nat}{x:Cd}{f:Fo}{n:Int}{v:Nat}(h:RD w wx I R BI BC x f n v)(x':Cd)(o:Nat)(u:Value)(e:(yT x f n).setIfInBounds o u=yT x' f n):RD w (wx.setCell ⟨I,o,none⟩ u) I R BI BC x' f n v:=
  ⟨by rw[zZ h.b,e],(yP h.nBI _).trans h.bi,(yP h.nBC _).trans h.bc,(yP h.nR _).trans h.br,h.nBI,h.nBC,h.nR,h.nRB,h.nRC,h.gBI,h.gBC,h.gR,h.ch.set aS _ _⟩
theorem RD.rest{w wx w1:World}{I R BI BC:Nat}{x:Cd}{f:Fo}{n:Int}{v v':Nat}(h:RD w wx I R BI BC x f n v)(c:zI [R] wx w1)(b:w1.heap[R]?=some (.cells #[.int .u32 v'] 23)):RD w w1 I R BI BC x f n v':=
  ⟨c.keep h.b (by simpa using h.nR.symm),c.keep h.bi (by simpa using h.nRB.symm),c.keep h.bc (by simpa using h.nRC.symm),b,h.nBI,h.nBC,h.nR,h.nRB,h.nRC,h.gBI,h.gBC,h.gR,
   ⟨c.os.trans h.ch.os,c.tape.trans h.ch.tape,c.output.trans h.ch.output,Nat.le_trans h.ch.size c.size,fun k hk hs=>(c.block k (Nat.lt_of_lt_of_le hk h.ch.size) (by have:=h.gR;simp;omega)).trans (h.ch.block k hk hs)⟩⟩
theorem RD.put8{w wx:World}{I R BI BC:Nat}{x:Cd}{f:Fo}{n:Int}{v:Nat}(h:RD w wx I R BI BC x f n v)(x':Cd):RD w ((((((((wx.setCell ⟨I,0,none⟩ (.int .i64 x'.op)).setCell ⟨I,1,none⟩ (.int .i64 x'.d)).setCell ⟨I,2,none⟩ (.int .i64 x'.a)).setCell ⟨I,3,none⟩ (.int .i64 x'.b)).setCell ⟨I,4,none⟩ (.int .i64 x'.c)).setCell ⟨I,5,none⟩ (.int .i64 x'.n)).setCell ⟨I,6,none⟩ (.int .u32 x'.k)).setCell ⟨I,7,none⟩ (.int .u32 x'.x)) I R BI BC x' f n v:=((((((((h.put ⟨x'.op,x.d,x.a,x.b,x.c,x.n,x.k,x.x⟩ 0 _ rfl).put ⟨x'.op,x'.d,x.a,x.b,x.c,x.n,x.k,x.x⟩ 1 _ rfl).put ⟨x'.op,x'.d,x'.a,x.b,x.c,x.n,x.k,x.x⟩ 2 _ rfl).put ⟨x'.op,x'.d,x'.a,x'.b,x.c,x.n,x.k,x.x⟩ 3 _ rfl).put ⟨x'.op,x'.d,x'.a,x'.b,x'.c,x.n,x.k,x.x⟩ 4 _ rfl).put ⟨x'.op,x'.d,x'.a,x'.b,x'.c,x'.n,x.k,x.x⟩ 5 _ rfl).put ⟨x'.op,x'.d,x'.a,x'.b,x'.c,x'.n,x'.k,x.x⟩ 6 _ rfl).put ⟨x'.op,x'.d,x'.a,x'.b,x'.c,x'.n,x'.k,x'.x⟩ 7 _ rfl)
def uT(v:Nat):Nat:=rst true 1 256 v
def rd2(h:Int)(v:Nat):Nat:=rst (hb h 448) 256 16 (uT v)
def rd3(h:Int)(v:Nat):Nat:=rst (hb h 1) 4096 16 (rd2 h v)
def rd4(h:Int)(v:Nat):Nat:=rst (hb h 2) 65536 16 (rd3 h v)
def rd5(h:Int)(v:Nat):Nat:=rst (hb h 4) 1048576 16 (rd4 h v)
def rd6(h:Int)(v:Nat):Nat:=rst (hb h 8) 65536 65536 (rd5 h v)
def rdX(h:Int)(v:Nat)(k x:Nat):Cd:=⟨zP true 1 256 v,zP (hb h 448) 256 16 (uT v),zP (hb h 1) 4096 16 (rd2 h v),zP (hb h 2) 65536 16 (rd3 h v),zP (hb h 4) 1048576 16 (rd4 h v),zP (hb h 8) 65536 65536 (rd5 h v),k,x⟩
theorem zEc{v:Nat}(hv:v < 4294967296):uT v < 4294967296:=zC9 _ _ _ _ hv
theorem zEd(h:Int){v:Nat}(hv:v < 4294967296):rd2 h v < 4294967296:=zC9 _ _ _ _ (zEc hv)
theorem zEe(h:Int){v:Nat}(hv:v < 4294967296):rd3 h v < 4294967296:=zC9 _ _ _ _ (zEd h hv)
theorem zEf(h:Int){v:Nat}(hv:v < 4294967296):rd4 h v < 4294967296:=zC9 _ _ _ _ (zEe h hv)
theorem zFY(h:Int){v:Nat}(hv:v < 4294967296):rd5 h v < 4294967296:=zC9 _ _ _ _ (zEf h hv)
structure WR(w:World)(b off n:Nat)(ws:Nat→Nat):Prop where
  cell:∀ i,i < n→w.cell? ⟨b,off+i,none⟩=some (.int .u32 (ws i))
  lt:∀ i,ws i < 4294967296
  lb:b < w.heap.size
theorem zDj(w:World)(I u0:Nat)(x0:Cd)(f:Fo)(nn:Int)(hI:w.heap[I]?=some (.cells (yT x0 f nn) 90)) :
    RD w (((w.alloc (.cells #[.pointer (some ⟨I,0,none⟩)] 103)).alloc (.cells #[.int .u32 u0] 23)).alloc (.cells #[.func (Fn.func 59) #[] #[.pointer (some ⟨w.heap.size+1,0,none⟩)]] 129)) I (w.heap.size+1) w.heap.size (w.heap.size+1+1) x0 f nn u0:=by
  have lI:=zE hI
  have e1:=heap_alloc_last w (.cells #[.pointer (some ⟨I,0,none⟩)] 103)
  have e2:=heap_alloc_last (w.alloc (.cells #[.pointer (some ⟨I,0,none⟩)] 103)) (.cells #[.int .u32 u0] 23)
  have e3:=heap_alloc_last ((w.alloc (.cells #[.pointer (some ⟨I,0,none⟩)] 103)).alloc (.cells #[.int .u32 u0] 23)) (.cells #[.func (Fn.func 59) #[] #[.pointer (some ⟨w.heap.size+1,0,none⟩)]] 129)
  simp only[World.size_alloc] at e2 e3
  refine⟨?_,?_,e3,?_,by omega,by omega,by omega,by omega,by omega,by omega,by omega,by omega,(((zI.refl [I] w).alloc _).alloc _).alloc _⟩
  · rw[Below.heap_alloc _ _ _ zq7,Below.heap_alloc _ _ _ zq7,Below.heap_alloc _ _ _ lI];exact hI
  · rw[Below.heap_alloc _ _ _ zq7,Below.heap_alloc _ _ _ aS];exact e1
  · rw[Below.heap_alloc _ _ _ aS];exact e2
inductive zIb(h:Int):Nat→Prop
  | three (a:(bits .and .u16 h 32==0)=false):zIb h 3
  | two (a:bits .and .u16 h 32=0) (b:(bits .and .u16 h 16==0)=false):zIb h 2
  | one (a:bits .and .u16 h 32=0) (b:bits .and .u16 h 16=0):zIb h 1
theorem vC(P n:Nat)(h:Int)(w:World)(hn:zIb h n)(ch:w.cell? ⟨P,11,none⟩=some (.int .u16 h))(lP:P < w.heap.size) :
    Calls Tryz.prog 44 #[.pointer (some ⟨P,8,none⟩)] w fun e w'=>e=.returned (.int .i64 n)∧w=w':=by
  rcases hn with a|⟨a,b⟩|⟨a,b⟩
  · have a2:(bits .and .u16 h 32 !=0)=true:=by simp[bne,a]
    go_enter Tryz.func44,Tryz.ntmps44;go_wp2;go_ret;exact⟨rfl,rfl⟩
  · have b2:(bits .and .u16 h 16 !=0)=true:=by simp[bne,b]
    go_enter Tryz.func44,Tryz.ntmps44;go_wp2;go_ret;exact⟨rfl,rfl⟩
  · go_enter Tryz.func44,Tryz.ntmps44;go_wp2;go_ret;exact⟨rfl,rfl⟩
def alB(st:Bool)(d nn m:Int):Bool:=decide (nn≤m) && (!st || (decide (1≤d) && decide (d≤7)))
theorem zKm(I:Nat)(h d nn m:Int)(w:World)(c1:w.cell? ⟨I,1,none⟩=some (.int .i64 d))(c5:w.cell? ⟨I,5,none⟩=some (.int .i64 nn))(c11:w.cell? ⟨I,11,none⟩=some (.int .u16 h))(c12:w.cell? ⟨I,12,none⟩=some (.int .u16 m))(lI:I < w.heap.size)(m0:0≤m)(m1:m≤65535)(g1:1≤d)(g2:d≤7)(q1:decide (nn≤m)=false) :
    Calls Tryz.prog 46 #[.pointer (some ⟨I,8,none⟩),.pointer (some ⟨I,0,none⟩)] w fun e w'=>e=.returned (.bool false)∧∃ n,w'=w.drewN n:=by
  go_enter Tryz.func46,Tryz.ntmps46
  go_upto_region 2 with fail
  go_quiet (fail)
  go_wp2
  go_ret
  exact⟨rfl,_,rfl⟩
theorem zHj(I:Nat)(h d nn m:Int)(w:World)(c1:w.cell? ⟨I,1,none⟩=some (.int .i64 d))(c5:w.cell? ⟨I,5,none⟩=some (.int .i64 nn))(c11:w.cell? ⟨I,11,none⟩=some (.int .u16 h))(c12:w.cell? ⟨I,12,none⟩=some (.int .u16 m))(lI:I < w.heap.size)(m0:0≤m)(m1:m≤65535)(g1:1≤d)(g2:d≤7)(q1:decide (nn≤m)=true)(yZ:(bits .and .u16 h 256==0)=true) :
    Calls Tryz.prog 46 #[.pointer (some ⟨I,8,none⟩),.pointer (some ⟨I,0,none⟩)] w fun e w'=>e=.returned (.bool true)∧∃ n,w'=w.drewN n:=by
  go_enter Tryz.func46,Tryz.ntmps46
  go_upto_region 2 with fail
  go_quiet (fail)
  go_wp2
  go_ret
  exact⟨rfl,_,rfl⟩
theorem zKn(I:Nat)(h d nn m:Int)(w:World)(c1:w.cell? ⟨I,1,none⟩=some (.int .i64 d))(c5:w.cell? ⟨I,5,none⟩=some (.int .i64 nn))(c11:w.cell? ⟨I,11,none⟩=some (.int .u16 h))(c12:w.cell? ⟨I,12,none⟩=some (.int .u16 m))(lI:I < w.heap.size)(m0:0≤m)(m1:m≤65535)(g1:1≤d)(g2:d≤7)(q1:decide (nn≤m)=true)(yZ:(bits .and .u16 h 256==0)=false) :
    Calls Tryz.prog 46 #[.pointer (some ⟨I,8,none⟩),.pointer (some ⟨I,0,none⟩)] w fun e w'=>e=.returned (.bool true)∧∃ n,w'=w.drewN n:=by
  go_enter Tryz.func46,Tryz.ntmps46
  go_upto_region 2 with fail
  go_quiet (fail)
  go_wp2
  go_ret
  exact⟨rfl,_,rfl⟩
theorem zIF(I:Nat)(h d nn m:Int)(w:World)(c1:w.cell? ⟨I,1,none⟩=some (.int .i64 d))(c5:w.cell? ⟨I,5,none⟩=some (.int .i64 nn))(c11:w.cell? ⟨I,11,none⟩=some (.int .u16 h))(c12:w.cell? ⟨I,12,none⟩=some (.int .u16 m))(lI:I < w.heap.size)(m0:0≤m)(m1:m≤65535)(g1:¬1≤d)(q1:decide (nn≤m)=false) :
    Calls Tryz.prog 46 #[.pointer (some ⟨I,8,none⟩),.pointer (some ⟨I,0,none⟩)] w fun e w'=>e=.returned (.bool false)∧∃ n,w'=w.drewN n:=by
  go_enter Tryz.func46,Tryz.ntmps46
  go_upto_region 2 with fail
  go_quiet (fail)
  go_wp2
  go_ret
  exact⟨rfl,_,rfl⟩
theorem zF2(I:Nat)(h d nn m:Int)(w:World)(c1:w.cell? ⟨I,1,none⟩=some (.int .i64 d))(c5:w.cell? ⟨I,5,none⟩=some (.int .i64 nn))(c11:w.cell? ⟨I,11,none⟩=some (.int .u16 h))(c12:w.cell? ⟨I,12,none⟩=some (.int .u16 m))(lI:I < w.heap.size)(m0:0≤m)(m1:m≤65535)(g1:¬1≤d)(q1:decide (nn≤m)=true)(yZ:(bits .and .u16 h 256==0)=true) :
    Calls Tryz.prog 46 #[.pointer (some ⟨I,8,none⟩),.pointer (some ⟨I,0,none⟩)] w fun e w'=>e=.returned (.bool true)∧∃ n,w'=w.drewN n:=by
  go_enter Tryz.func46,Tryz.ntmps46
  go_upto_region 2 with fail
  go_quiet (fail)
  go_wp2
  go_ret
  exact⟨rfl,_,rfl⟩
theorem zIG(I:Nat)(h d nn m:Int)(w:World)(c1:w.cell? ⟨I,1,none⟩=some (.int .i64 d))(c5:w.cell? ⟨I,5,none⟩=some (.int .i64 nn))(c11:w.cell? ⟨I,11,none⟩=some (.int .u16 h))(c12:w.cell? ⟨I,12,none⟩=some (.int .u16 m))(lI:I < w.heap.size)(m0:0≤m)(m1:m≤65535)(g1:¬1≤d)(q1:decide (nn≤m)=true)(yZ:(bits .and .u16 h 256==0)=false) :
    Calls Tryz.prog 46 #[.pointer (some ⟨I,8,none⟩),.pointer (some ⟨I,0,none⟩)] w fun e w'=>e=.returned (.bool false)∧∃ n,w'=w.drewN n:=by
  go_enter Tryz.func46,Tryz.ntmps46
  go_upto_region 2 with fail
  go_quiet (fail)
  go_wp2
  go_ret
  exact⟨rfl,_,rfl⟩
theorem zID(I:Nat)(h d nn m:Int)(w:World)(c1:w.cell? ⟨I,1,none⟩=some (.int .i64 d))(c5:w.cell? ⟨I,5,none⟩=some (.int .i64 nn))(c11:w.cell? ⟨I,11,none⟩=some (.int .u16 h))(c12:w.cell? ⟨I,12,none⟩=some (.int .u16 m))(lI:I < w.heap.size)(m0:0≤m)(m1:m≤65535)(g1:1≤d)(g2:¬d≤7)(q1:decide (nn≤m)=false) :
    Calls Tryz.prog 46 #[.pointer (some ⟨I,8,none⟩),.pointer (some ⟨I,0,none⟩)] w fun e w'=>e=.returned (.bool false)∧∃ n,w'=w.drewN n:=by
  go_enter Tryz.func46,Tryz.ntmps46
  go_upto_region 2 with fail
  go_quiet (fail)
  go_wp2
  go_ret
  exact⟨rfl,_,rfl⟩
theorem zF1(I:Nat)(h d nn m:Int)(w:World)(c1:w.cell? ⟨I,1,none⟩=some (.int .i64 d))(c5:w.cell? ⟨I,5,none⟩=some (.int .i64 nn))(c11:w.cell? ⟨I,11,none⟩=some (.int .u16 h))(c12:w.cell? ⟨I,12,none⟩=some (.int .u16 m))(lI:I < w.heap.size)(m0:0≤m)(m1:m≤65535)(g1:1≤d)(g2:¬d≤7)(q1:decide (nn≤m)=true)(yZ:(bits .and .u16 h 256==0)=true) :
    Calls Tryz.prog 46 #[.pointer (some ⟨I,8,none⟩),.pointer (some ⟨I,0,none⟩)] w fun e w'=>e=.returned (.bool true)∧∃ n,w'=w.drewN n:=by
  go_enter Tryz.func46,Tryz.ntmps46
  go_upto_region 2 with fail
  go_quiet (fail)
  go_wp2
  go_ret
  exact⟨rfl,_,rfl⟩
theorem zIE(I:Nat)(h d nn m:Int)(w:World)(c1:w.cell? ⟨I,1,none⟩=some (.int .i64 d))(c5:w.cell? ⟨I,5,none⟩=some (.int .i64 nn))(c11:w.cell? ⟨I,11,none⟩=some (.int .u16 h))(c12:w.cell? ⟨I,12,none⟩=some (.int .u16 m))(lI:I < w.heap.size)(m0:0≤m)(m1:m≤65535)(g1:1≤d)(g2:¬d≤7)(q1:decide (nn≤m)=true)(yZ:(bits .and .u16 h 256==0)=false) :
    Calls Tryz.prog 46 #[.pointer (some ⟨I,8,none⟩),.pointer (some ⟨I,0,none⟩)] w fun e w'=>e=.returned (.bool false)∧∃ n,w'=w.drewN n:=by
  go_enter Tryz.func46,Tryz.ntmps46
  go_upto_region 2 with fail
  go_quiet (fail)
  go_wp2
  go_ret
  exact⟨rfl,_,rfl⟩
theorem yM(I:Nat)(h d nn m:Int)(st:Bool)(w:World)(hs:bits .and .u16 h 256=0↔st=false)(c1:w.cell? ⟨I,1,none⟩=some (.int .i64 d))(c5:w.cell? ⟨I,5,none⟩=some (.int .i64 nn))(c11:w.cell? ⟨I,11,none⟩=some (.int .u16 h))(c12:w.cell? ⟨I,12,none⟩=some (.int .u16 m))(lI:I < w.heap.size)(m0:0≤m)(m1:m≤65535) :
    Calls Tryz.prog 46 #[.pointer (some ⟨I,8,none⟩),.pointer (some ⟨I,0,none⟩)] w fun e w'=>e=.returned (.bool (alB st d nn m))∧∃ n,w'=w.drewN n:=by
  have yZ:(bits .and .u16 h 256==0) = !st:=by
    cases st with
    | false=>rw[hs.2 rfl];rfl
    | true=>
      cases hh:(bits .and .u16 h 256==0) with
      | false=>rfl
      | true=>exact absurd (hs.1 (by simpa using hh)) aS
  by_cases g3:nn≤m
  · have q1:decide (nn≤m)=true:=decide_eq_true g3
    cases st
    · rw[show alB false d nn m=true from by simp[alB,g3]]
      by_cases g1:1≤d
      · by_cases g2:d≤7
        · exact zHj I h d nn m w c1 c5 c11 c12 lI m0 m1 g1 g2 q1 yZ
        · exact zF1 I h d nn m w c1 c5 c11 c12 lI m0 m1 g1 g2 q1 yZ
      · exact zF2 I h d nn m w c1 c5 c11 c12 lI m0 m1 g1 q1 yZ
    · by_cases g1:1≤d
      · by_cases g2:d≤7
        · rw[show alB true d nn m=true from by simp[alB,g1,g2,g3]]
          exact zKn I h d nn m w c1 c5 c11 c12 lI m0 m1 g1 g2 q1 yZ
        · rw[show alB true d nn m=false from by simp[alB,g2]]
          exact zIE I h d nn m w c1 c5 c11 c12 lI m0 m1 g1 g2 q1 yZ
      · rw[show alB true d nn m=false from by simp[alB,g1]]
        exact zIG I h d nn m w c1 c5 c11 c12 lI m0 m1 g1 q1 yZ
  · have q1:decide (nn≤m)=false:=decide_eq_false g3
    rw[show alB st d nn m=false from by simp[alB,g3]]
    by_cases g1:1≤d
    · by_cases g2:d≤7
      · exact zKm I h d nn m w c1 c5 c11 c12 lI m0 m1 g1 g2 q1
      · exact zID I h d nn m w c1 c5 c11 c12 lI m0 m1 g1 g2 q1
    · exact zIF I h d nn m w c1 c5 c11 c12 lI m0 m1 g1 q1
def szN(h:Int):Nat:=if hb h 32 then 3 else if hb h 16 then 2 else 1
theorem zBI(h:Int):zIb h (szN h):=by
  unfold szN
  by_cases a:hb h 32=true
  · rw[if_pos a];exact .three (by simpa[hb] using a)
  · rw[if_neg a]
    have a':=(hb_iff h 32).2 (by simpa using a)
    by_cases c:hb h 16=true
    · rw[if_pos c];exact .two a' (by simpa[hb] using c)
    · rw[if_neg c];exact .one a' ((hb_iff h 16).2 (by simpa using c))
def zG(k:Nat):Fo:=⟨tg k 0,tg k 1,tg k 2,tg k 3,tg k 4⟩
theorem vB(k:Nat)(h:k < 23):0≤(zG k).most∧(zG k).most≤65535:=by
  rcases(by omega:k=0∨k=1∨k=2∨k=3∨k=4∨k=5∨k=6∨k=7∨k=8∨k=9∨k=10∨k=11∨k=12∨k=13∨k=14∨k=15∨k=16∨k=17∨k=18∨k=19∨k=20∨k=21∨k=22) with rfl|rfl|rfl|rfl|rfl|rfl|rfl|rfl|rfl|rfl|rfl|rfl|rfl|rfl|rfl|rfl|rfl|rfl|rfl|rfl|rfl|rfl|rfl<;>decide
theorem zAb{op:Int}{k:Nat}(h:hit op=some k):k < 23:=by
  unfold hit at h
  have:=List.mem_of_find?_eq_some h
  simpa using this
theorem zGY(P:Value)(a:Option Addr)(len cap:Nat)(at':Int)(w:World)(hl:len≤9223372036854775807)(h:at' < 0∨(len:Int) < at') :
    Calls Tryz.prog 33 #[P,.slice a len cap,.int .i64 at'] w fun e w'=>e=.returned (.int .i64 4)∧w=w':=by
  rcases h with h|h
  · go_enter Tryz.func33,Tryz.ntmps33;go_wp2;go_ret;exact⟨rfl,rfl⟩
  · by_cases h0:at' < 0
    · go_enter Tryz.func33,Tryz.ntmps33;go_wp2;go_ret;exact⟨rfl,rfl⟩
    · go_enter Tryz.func33,Tryz.ntmps33;go_wp2;go_ret;exact⟨rfl,rfl⟩
theorem zGZ(P:Value)(a:Option Addr)(len cap:Nat)(w:World)(hl:len≤9223372036854775807) :
    Calls Tryz.prog 33 #[P,.slice a len cap,.int .i64 len] w fun e w'=>e=.returned (.int .i64 1)∧w=w':=by
  have q1:decide ((len:Int) < 0)=false:=aF
  have q2:decide ((len:Int) < len)=false:=aF
  go_enter Tryz.func33,Tryz.ntmps33;go_wp2;go_ret;exact⟨rfl,rfl⟩
theorem zAg{w w1:World}(h:Below w.drew.heap.size w.drew w1):Below w.heap.size w w1:=((Below.refl w.heap.size w).drew).trans h
structure DE(w wx:World)(I BF:Nat)(A:Array Value)(f:Fo):Prop where
  b:wx.heap[I]?=some (.cells A 90)
  bf:wx.heap[BF]?=some (.cells (foA f) 88)
  ne:BF≠I
  ge:w.heap.size≤BF
  ch:zI [I] w wx
theorem uA{w w1:World}{I:Nat}{A:Array Value}(f:Fo)(hI:w.heap[I]?=some (.cells A 90))(hb:Below (w.alloc (.cells #[.int .u8 0,.int .u8 0,.int .u8 0,.int .u16 0,.int .u16 0] 88)).heap.size (w.alloc (.cells #[.int .u8 0,.int .u8 0,.int .u8 0,.int .u16 0,.int .u16 0] 88)) w1) :
    DE w (((((w1.setCell ⟨w.heap.size,0,none⟩ (.int .u8 f.first)).setCell ⟨w.heap.size,1,none⟩ (.int .u8 f.last)).setCell ⟨w.heap.size,2,none⟩ (.int .u8 f.kind)).setCell ⟨w.heap.size,3,none⟩ (.int .u16 f.has)).setCell ⟨w.heap.size,4,none⟩ (.int .u16 f.most)) I w.heap.size A f:=by
  have lI:=zE hI
  have hs:(w.alloc (.cells #[.int .u8 0,.int .u8 0,.int .u8 0,.int .u16 0,.int .u16 0] 88)).heap.size=w.heap.size+1:=by simp
  have hn:∀ o v (W:World),(W.setCell ⟨w.heap.size,o,none⟩ v).heap[I]?=W.heap[I]?:=fun o v W=>yP aO v
  have b1:w1.heap[w.heap.size]?=some (.cells #[.int .u8 0,.int .u8 0,.int .u8 0,.int .u16 0,.int .u16 0] 88):=(hb.block _ aO).trans (heap_alloc_last w _)
  refine⟨?_,?_,by omega,Nat.le_refl _,?_⟩
  · rw[hn,hn,hn,hn,hn,hb.block _ aO,Below.heap_alloc _ _ _ lI];exact hI
  · exact zZ (zZ (zZ (zZ (zZ b1 _) _) _) _) _
  · refine zI.of_below _ ?_
    have h0:Below w.heap.size w w1:=((Below.refl w.heap.size w).alloc aL _).trans (hb.mono aO)
    exact((((h0.setCell aL _).setCell aL _).setCell aL _).setCell aL _).setCell aL _
theorem zAn{w w1:World}{I:Nat}{A:Array Value}(f:Fo)(hI:w.heap[I]?=some (.cells A 90))(hb:Below w.heap.size w w1):DE w (w1.alloc (.cells (foA f) 88)) I w1.heap.size A f:=by
  have lI:=zE hI
  have hs:=hb.size
  refine⟨?_,heap_alloc_last w1 _,by omega,hs,((zI.of_below _ hb).alloc _)⟩
  rw[Below.heap_alloc _ _ _ aO,hb.block _ lI];exact hI
def dcE(f:Fo)(v:Nat)(x:Cd):Int:=if rd6 f.has v=0∧alB (hb f.has 256) x.d x.n f.most=true then 0 else 3
structure D2(w wx:World)(I:Nat)(x:Cd)(f:Fo)(n:Int):Prop where
  b:wx.heap[I]?=some (.cells (yT x f n) 90)
  ch:zI [I] w wx
theorem D2.form{w wx:World}{I BF:Nat}{x:Cd}{f0 f:Fo}{n:Int}(h:DE w wx I BF (yT x f0 n) f) :
    D2 w (((((wx.setCell ⟨I,8,none⟩ (.int .u8 f.first)).setCell ⟨I,9,none⟩ (.int .u8 f.last)).setCell ⟨I,10,none⟩ (.int .u8 f.kind)).setCell ⟨I,11,none⟩ (.int .u16 f.has)).setCell ⟨I,12,none⟩ (.int .u16 f.most)) I x f n:=
  ⟨zZ (zZ (zZ (zZ (zZ h.b _) _) _) _) _,((((h.ch.set aS _ _).set aS _ _).set aS _ _).set aS _ _).set aS _ _⟩
theorem D2.words{w wx:World}{I:Nat}{x:Cd}{f:Fo}{n:Int}(h:D2 w wx I x f n)(m:Int):D2 w (wx.setCell ⟨I,13,none⟩ (.int .i64 m)) I x f m:=
  ⟨zZ h.b _,h.ch.set aS _ _⟩
theorem D2.wr{w wx:World}{I:Nat}{x:Cd}{f:Fo}{n:Int}(h:D2 w wx I x f n){b off len:Nat}{ws:Nat→Nat}(hr:WR w b off len ws)(hb:b≠I)(a m:Nat)(ha:a+m≤len):WR wx b (off+a) m (fun i=>ws (a+i)):=
  ⟨fun i hi=>by
    have:=hr.cell (a+i) aO
    rw[← Nat.add_assoc] at this
    exact(World.cell?_of_block (w:=w) (h.ch.block b hr.lb (by simpa using hb))).trans this,fun i=>hr.lt _,Nat.lt_of_lt_of_le hr.lb h.ch.size⟩
end Go.Proofs.YthcpipfmicbnmaaGreat.Ho
