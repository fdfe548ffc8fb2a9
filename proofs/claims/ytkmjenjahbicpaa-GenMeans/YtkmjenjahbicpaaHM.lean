import Derived.Test.YtkmjenjahbicpaaHD
import Derived.Deep.OwnRows
import Derived.Laws.CopyRow
import Derived.Laws.IdiomCopy
set_option linter.unusedVariables false
set_option linter.unusedSimpArgs false
set_option maxHeartbeats 1000000
namespace Go.Proofs.Ytkmjenjahbicpaa.Ho
open Go.RowKit
set_option maxRecDepth 100000
def uO(v:Int):Nat:=(v%4294967296).toNat
theorem zBS(v:Int):v%4294967296=(uO v:Int):=by unfold uO;omega
theorem zCK(v:Int):uO v < 4294967296:=by unfold uO;omega
def orW(c:Bool)(l b u:Nat)(v:Int):Nat:=if c then u ||| (uO v%b*l) else u
theorem zEd(c:Bool)(l b u:Nat)(v:Int)(hu:u < 4294967296)(hl:uO v%b*l < 4294967296):orW c l b u v < 4294967296:=by
 unfold orW;split
 ·exact Nat.or_lt_two_pow (n:=32) hu hl
 ·exact hu
theorem set_self{A:Array Value}{v:Value}(h:A[0]?=some v):A.setIfInBounds 0 v=A:=by
 apply Array.ext_getElem?
 intro i
 rw[Array.getElem?_setIfInBounds]
 split
 ·rename_i e;subst e;split
  ·exact h.symm
  ·rename_i hs;rw[Array.getElem?_eq_none aO] at h;cases h
 ·rfl
structure PW(w:World)(BF BW S n:Nat)(A:Array Value)(u:Nat)(h:Int):Prop where
 bf:w.cell? ⟨BF,3,none⟩=some (.int .u16 h)
 bw:w.heap[BW]?=some (.cells #[.slice (some ⟨S,0,none⟩) n n] 37)
 s:w.heap[S]?=some (.cells A 22)
 a:A[0]?=some (.int .u32 u)
 lf:BF < w.heap.size
 n0:0 < n
 n3:n≤3
theorem zKf(BF BW S n u:Nat)(A:Array Value)(h v:Int)(w:World)(hW:PW w BF BW S n A u h)(hu:u < 4294967296)(hbw:BW≠S) :
  Calls Try.prog 89 #[.int .u16 448,.int .i64 v,.int .i64 8,.int .i64 4,.pointer (some ⟨BF,0,none⟩),.pointer (some ⟨BW,0,none⟩)] w fun e w'=>e=.returned (.tuple #[])∧w'.heap[S]?=some (.cells (A.setIfInBounds 0 (.int .u32 (orW (hb h 448) 256 16 u v))) 22)∧zJ [S] w w':=by
 have cf:=hW.bf
 have lf:=hW.lf
 have cw:w.cell? ⟨BW,0,none⟩=some (.slice (some ⟨S,0,none⟩) n n):=zA hW.bw 0
 have lw:=zE hW.bw
 have cs:w.cell? ⟨S,0,none⟩=some (.int .u32 u):=(zA hW.s 0).trans hW.a
 have fs:=zD hW.s 0
 have ls:=zE hW.s
 have n0:(0:Int) < n:=by have:=hW.n0;omega
 have n1:0 < n:=hW.n0
 have HS:Hid _:=hW.s
 have HA:Hid (A.setIfInBounds 0 (.int .u32 u)=A):=set_self hW.a
 cases hc:hb h 448
 ·have hz:bits .and .u16 h 448=0:=(hb_iff _ _).2 hc
  clear hW hc
  go_enter Try.func89,Try.ntmps89
  go_wp2_with (fail)
  go_end0
  exact⟨rfl,by rw[orW,if_neg aS,HA.out];exact HS.out,zJ.refl _ _⟩
 ·have hz:(bits .and .u16 h 448==0)=false:=by simpa[hb] using hc
  have hz2:(bits .and .u16 h 448 !=0)=true:=by simp[bne,hz]
  have hm:bits .and .u32 (uO v:Int) 15=((uO v%16:Nat):Int):=zDI _ (zCK v)
  have HX:Hid ((uO v%16) < 16):=Nat.mod_lt _ aD
  have ev:IntKind.u32.wrap v=(uO v:Int):=by rw[IntKind.wrap_u32];exact zBS v
  generalize eL:uO v=vl at *
  generalize hx:vl%16=x at *
  have ho:bits .or .u32 (u:Int) (IntKind.u32.wrap ((x:Int)*256))=((u ||| (x*256):Nat):Int):=by
   have h9:=HX.out
   rw[IntWalk.u32_in _ aO,show(x:Int)*256=((x*256:Nat):Int) by omega,Go.u32_or_nat _ _ hu aO]
  clear hW hc
  go_enter Try.func89,Try.ntmps89
  go_upto_region 1 with fail
  go_region_with (go_at_call 90;refine(zDK _).mono ?_;rintro e w1 ⟨rfl,rfl⟩)
  all_goals
   try rw[ev]
   try rw[hm]
   try rw[ho]
   go_end0
   exact⟨rfl,by rw[orW,if_pos rfl,eL,hx];exact yE (o:=0) HS.out _,((zJ.refl [S] w).set aS _ _).drew⟩
theorem zKc(BF BW S n u:Nat)(A:Array Value)(h v:Int)(w:World)(hW:PW w BF BW S n A u h)(hu:u < 4294967296)(hbw:BW≠S) :
  Calls Try.prog 89 #[.int .u16 1,.int .i64 v,.int .i64 12,.int .i64 4,.pointer (some ⟨BF,0,none⟩),.pointer (some ⟨BW,0,none⟩)] w fun e w'=>e=.returned (.tuple #[])∧w'.heap[S]?=some (.cells (A.setIfInBounds 0 (.int .u32 (orW (hb h 1) 4096 16 u v))) 22)∧zJ [S] w w':=by
 have cf:=hW.bf
 have lf:=hW.lf
 have cw:w.cell? ⟨BW,0,none⟩=some (.slice (some ⟨S,0,none⟩) n n):=zA hW.bw 0
 have lw:=zE hW.bw
 have cs:w.cell? ⟨S,0,none⟩=some (.int .u32 u):=(zA hW.s 0).trans hW.a
 have fs:=zD hW.s 0
 have ls:=zE hW.s
 have n0:(0:Int) < n:=by have:=hW.n0;omega
 have n1:0 < n:=hW.n0
 have HS:Hid _:=hW.s
 have HA:Hid (A.setIfInBounds 0 (.int .u32 u)=A):=set_self hW.a
 cases hc:hb h 1
 ·have hz:bits .and .u16 h 1=0:=(hb_iff _ _).2 hc
  clear hW hc
  go_enter Try.func89,Try.ntmps89
  go_wp2_with (fail)
  go_end0
  exact⟨rfl,by rw[orW,if_neg aS,HA.out];exact HS.out,zJ.refl _ _⟩
 ·have hz:(bits .and .u16 h 1==0)=false:=by simpa[hb] using hc
  have hz2:(bits .and .u16 h 1 !=0)=true:=by simp[bne,hz]
  have hm:bits .and .u32 (uO v:Int) 15=((uO v%16:Nat):Int):=zDI _ (zCK v)
  have HX:Hid ((uO v%16) < 16):=Nat.mod_lt _ aD
  have ev:IntKind.u32.wrap v=(uO v:Int):=by rw[IntKind.wrap_u32];exact zBS v
  generalize eL:uO v=vl at *
  generalize hx:vl%16=x at *
  have ho:bits .or .u32 (u:Int) (IntKind.u32.wrap ((x:Int)*4096))=((u ||| (x*4096):Nat):Int):=by
   have h9:=HX.out
   rw[IntWalk.u32_in _ aO,show(x:Int)*4096=((x*4096:Nat):Int) by omega,Go.u32_or_nat _ _ hu aO]
  clear hW hc
  go_enter Try.func89,Try.ntmps89
  go_upto_region 1 with fail
  go_region_with (go_at_call 90;refine(zDK _).mono ?_;rintro e w1 ⟨rfl,rfl⟩)
  all_goals
   try rw[ev]
   try rw[hm]
   try rw[ho]
   go_end0
   exact⟨rfl,by rw[orW,if_pos rfl,eL,hx];exact yE (o:=0) HS.out _,((zJ.refl [S] w).set aS _ _).drew⟩
theorem zKd(BF BW S n u:Nat)(A:Array Value)(h v:Int)(w:World)(hW:PW w BF BW S n A u h)(hu:u < 4294967296)(hbw:BW≠S) :
  Calls Try.prog 89 #[.int .u16 2,.int .i64 v,.int .i64 16,.int .i64 4,.pointer (some ⟨BF,0,none⟩),.pointer (some ⟨BW,0,none⟩)] w fun e w'=>e=.returned (.tuple #[])∧w'.heap[S]?=some (.cells (A.setIfInBounds 0 (.int .u32 (orW (hb h 2) 65536 16 u v))) 22)∧zJ [S] w w':=by
 have cf:=hW.bf
 have lf:=hW.lf
 have cw:w.cell? ⟨BW,0,none⟩=some (.slice (some ⟨S,0,none⟩) n n):=zA hW.bw 0
 have lw:=zE hW.bw
 have cs:w.cell? ⟨S,0,none⟩=some (.int .u32 u):=(zA hW.s 0).trans hW.a
 have fs:=zD hW.s 0
 have ls:=zE hW.s
 have n0:(0:Int) < n:=by have:=hW.n0;omega
 have n1:0 < n:=hW.n0
 have HS:Hid _:=hW.s
 have HA:Hid (A.setIfInBounds 0 (.int .u32 u)=A):=set_self hW.a
 cases hc:hb h 2
 ·have hz:bits .and .u16 h 2=0:=(hb_iff _ _).2 hc
  clear hW hc
  go_enter Try.func89,Try.ntmps89
  go_wp2_with (fail)
  go_end0
  exact⟨rfl,by rw[orW,if_neg aS,HA.out];exact HS.out,zJ.refl _ _⟩
 ·have hz:(bits .and .u16 h 2==0)=false:=by simpa[hb] using hc
  have hz2:(bits .and .u16 h 2 !=0)=true:=by simp[bne,hz]
  have hm:bits .and .u32 (uO v:Int) 15=((uO v%16:Nat):Int):=zDI _ (zCK v)
  have HX:Hid ((uO v%16) < 16):=Nat.mod_lt _ aD
  have ev:IntKind.u32.wrap v=(uO v:Int):=by rw[IntKind.wrap_u32];exact zBS v
  generalize eL:uO v=vl at *
  generalize hx:vl%16=x at *
  have ho:bits .or .u32 (u:Int) (IntKind.u32.wrap ((x:Int)*65536))=((u ||| (x*65536):Nat):Int):=by
   have h9:=HX.out
   rw[IntWalk.u32_in _ aO,show(x:Int)*65536=((x*65536:Nat):Int) by omega,Go.u32_or_nat _ _ hu aO]
  clear hW hc
  go_enter Try.func89,Try.ntmps89
  go_upto_region 1 with fail
  go_region_with (go_at_call 90;refine(zDK _).mono ?_;rintro e w1 ⟨rfl,rfl⟩)
  all_goals
   try rw[ev]
   try rw[hm]
   try rw[ho]
   go_end0
   exact⟨rfl,by rw[orW,if_pos rfl,eL,hx];exact yE (o:=0) HS.out _,((zJ.refl [S] w).set aS _ _).drew⟩
theorem zKe(BF BW S n u:Nat)(A:Array Value)(h v:Int)(w:World)(hW:PW w BF BW S n A u h)(hu:u < 4294967296)(hbw:BW≠S) :
  Calls Try.prog 89 #[.int .u16 4,.int .i64 v,.int .i64 20,.int .i64 4,.pointer (some ⟨BF,0,none⟩),.pointer (some ⟨BW,0,none⟩)] w fun e w'=>e=.returned (.tuple #[])∧w'.heap[S]?=some (.cells (A.setIfInBounds 0 (.int .u32 (orW (hb h 4) 1048576 16 u v))) 22)∧zJ [S] w w':=by
 have cf:=hW.bf
 have lf:=hW.lf
 have cw:w.cell? ⟨BW,0,none⟩=some (.slice (some ⟨S,0,none⟩) n n):=zA hW.bw 0
 have lw:=zE hW.bw
 have cs:w.cell? ⟨S,0,none⟩=some (.int .u32 u):=(zA hW.s 0).trans hW.a
 have fs:=zD hW.s 0
 have ls:=zE hW.s
 have n0:(0:Int) < n:=by have:=hW.n0;omega
 have n1:0 < n:=hW.n0
 have HS:Hid _:=hW.s
 have HA:Hid (A.setIfInBounds 0 (.int .u32 u)=A):=set_self hW.a
 cases hc:hb h 4
 ·have hz:bits .and .u16 h 4=0:=(hb_iff _ _).2 hc
  clear hW hc
  go_enter Try.func89,Try.ntmps89
  go_wp2_with (fail)
  go_end0
  exact⟨rfl,by rw[orW,if_neg aS,HA.out];exact HS.out,zJ.refl _ _⟩
 ·have hz:(bits .and .u16 h 4==0)=false:=by simpa[hb] using hc
  have hz2:(bits .and .u16 h 4 !=0)=true:=by simp[bne,hz]
  have hm:bits .and .u32 (uO v:Int) 15=((uO v%16:Nat):Int):=zDI _ (zCK v)
  have HX:Hid ((uO v%16) < 16):=Nat.mod_lt _ aD
  have ev:IntKind.u32.wrap v=(uO v:Int):=by rw[IntKind.wrap_u32];exact zBS v
  generalize eL:uO v=vl at *
  generalize hx:vl%16=x at *
  have ho:bits .or .u32 (u:Int) (IntKind.u32.wrap ((x:Int)*1048576))=((u ||| (x*1048576):Nat):Int):=by
   have h9:=HX.out
   rw[IntWalk.u32_in _ aO,show(x:Int)*1048576=((x*1048576:Nat):Int) by omega,Go.u32_or_nat _ _ hu aO]
  clear hW hc
  go_enter Try.func89,Try.ntmps89
  go_upto_region 1 with fail
  go_region_with (go_at_call 90;refine(zDK _).mono ?_;rintro e w1 ⟨rfl,rfl⟩)
  all_goals
   try rw[ev]
   try rw[hm]
   try rw[ho]
   go_end0
   exact⟨rfl,by rw[orW,if_pos rfl,eL,hx];exact yE (o:=0) HS.out _,((zJ.refl [S] w).set aS _ _).drew⟩
theorem zKg(BF BW S n u:Nat)(A:Array Value)(h v:Int)(w:World)(hW:PW w BF BW S n A u h)(hu:u < 4294967296)(hbw:BW≠S) :
  Calls Try.prog 89 #[.int .u16 8,.int .i64 v,.int .i64 16,.int .i64 16,.pointer (some ⟨BF,0,none⟩),.pointer (some ⟨BW,0,none⟩)] w fun e w'=>e=.returned (.tuple #[])∧w'.heap[S]?=some (.cells (A.setIfInBounds 0 (.int .u32 (orW (hb h 8) 65536 65536 u v))) 22)∧zJ [S] w w':=by
 have cf:=hW.bf
 have lf:=hW.lf
 have cw:w.cell? ⟨BW,0,none⟩=some (.slice (some ⟨S,0,none⟩) n n):=zA hW.bw 0
 have lw:=zE hW.bw
 have cs:w.cell? ⟨S,0,none⟩=some (.int .u32 u):=(zA hW.s 0).trans hW.a
 have fs:=zD hW.s 0
 have ls:=zE hW.s
 have n0:(0:Int) < n:=by have:=hW.n0;omega
 have n1:0 < n:=hW.n0
 have HS:Hid _:=hW.s
 have HA:Hid (A.setIfInBounds 0 (.int .u32 u)=A):=set_self hW.a
 cases hc:hb h 8
 ·have hz:bits .and .u16 h 8=0:=(hb_iff _ _).2 hc
  clear hW hc
  go_enter Try.func89,Try.ntmps89
  go_wp2_with (fail)
  go_end0
  exact⟨rfl,by rw[orW,if_neg aS,HA.out];exact HS.out,zJ.refl _ _⟩
 ·have hz:(bits .and .u16 h 8==0)=false:=by simpa[hb] using hc
  have hz2:(bits .and .u16 h 8 !=0)=true:=by simp[bne,hz]
  have hm:bits .and .u32 (uO v:Int) 65535=((uO v%65536:Nat):Int):=zKu _ (zCK v)
  have HX:Hid ((uO v%65536) < 65536):=Nat.mod_lt _ aD
  have ev:IntKind.u32.wrap v=(uO v:Int):=by rw[IntKind.wrap_u32];exact zBS v
  generalize eL:uO v=vl at *
  generalize hx:vl%65536=x at *
  have ho:bits .or .u32 (u:Int) (IntKind.u32.wrap ((x:Int)*65536))=((u ||| (x*65536):Nat):Int):=by
   have h9:=HX.out
   rw[IntWalk.u32_in _ aO,show(x:Int)*65536=((x*65536:Nat):Int) by omega,Go.u32_or_nat _ _ hu aO]
  clear hW hc
  go_enter Try.func89,Try.ntmps89
  go_upto_region 1 with fail
  go_region_with (go_at_call 90;refine(zKG _).mono ?_;rintro e w1 ⟨rfl,rfl⟩)
  all_goals
   try rw[ev]
   try rw[hm]
   try rw[ho]
   go_end0
   exact⟨rfl,by rw[orW,if_pos rfl,eL,hx];exact yE (o:=0) HS.out _,((zJ.refl [S] w).set aS _ _).drew⟩
theorem zEb:(Try.prog.info? 22).map (fun i=>(i.zero,i.size,i.bytes))=some (some (.int .u32 0),1,4):=by kernel_rfl
theorem zNX(w:World):(Instr.makeSlice 37 (.int .i64 1) (.int .i64 1)).run Try.prog w=.ok (.slice (some ⟨w.heap.size,0,none⟩) 1 1) (w.alloc (.cells #[.int .u32 0] 22)):=by
 have h:=run_make_row' (P:=Try.prog) 37 22 (.int .u32 0) 4 Try.underlying37 zEb rfl .i64 .i64 1 aD aD w
 rw[show madeCells #[.int .u32 0] 1=#[.int .u32 0] from by kernel_rfl] at h
 exact h
theorem zNY(w:World):(Instr.makeSlice 37 (.int .i64 2) (.int .i64 2)).run Try.prog w=.ok (.slice (some ⟨w.heap.size,0,none⟩) 2 2) (w.alloc (.cells #[.int .u32 0,.int .u32 0] 22)):=by
 have h:=run_make_row' (P:=Try.prog) 37 22 (.int .u32 0) 4 Try.underlying37 zEb rfl .i64 .i64 2 aD aD w
 rw[show madeCells #[.int .u32 0] 2=#[.int .u32 0,.int .u32 0] from by kernel_rfl] at h
 exact h
theorem zNZ(w:World):(Instr.makeSlice 37 (.int .i64 3) (.int .i64 3)).run Try.prog w=.ok (.slice (some ⟨w.heap.size,0,none⟩) 3 3) (w.alloc (.cells #[.int .u32 0,.int .u32 0,.int .u32 0] 22)):=by
 have h:=run_make_row' (P:=Try.prog) 37 22 (.int .u32 0) 4 Try.underlying37 zEb rfl .i64 .i64 3 aD aD w
 rw[show madeCells #[.int .u32 0] 3=#[.int .u32 0,.int .u32 0,.int .u32 0] from by kernel_rfl] at h
 exact h
theorem zFN:(Try.prog.info? 22).map (·.size)=some 1:=by kernel_rfl
theorem zMW(W:World)(S k y:Nat):(Builtin.copy_ #[37,37] 3 #[.slice (some ⟨S,0,none⟩) 0 0,.slice (some ⟨W.heap.size,0,none⟩) 2 2]).run Try.prog (W.alloc (.cells #[.int .u32 k,.int .u32 y] 22)).drew=.ok (.int .i64 0) (W.alloc (.cells #[.int .u32 k,.int .u32 y] 22)).drew:=
 run_copy_none (P:=Try.prog) _ 37 37 3 22 _ _ 0 0 2 2 Try.underlying37 zFN rfl
theorem zMX(W:World)(S k y u:Nat)(hs:W.heap[S]?=some (.cells #[.int .u32 u,.int .u32 0] 22)):(Builtin.copy_ #[37,37] 3 #[.slice (some ⟨S,1,none⟩) 1 1,.slice (some ⟨W.heap.size,0,none⟩) 2 2]).run Try.prog (W.alloc (.cells #[.int .u32 k,.int .u32 y] 22)).drew=.ok (.int .i64 1) ((W.alloc (.cells #[.int .u32 k,.int .u32 y] 22)).drew.setRow S #[.int .u32 u,.int .u32 k]):=by
 have e:=run_copy_row (P:=Try.prog) (W.alloc (.cells #[.int .u32 k,.int .u32 y] 22)).drew 37 37 3 22 S 1 1 1 ⟨W.heap.size,0,none⟩ 2 2 #[.int .u32 u,.int .u32 0] 22 [.int .u32 k] Try.underlying37 zFN
  ((Below.heap_alloc _ _ _ (zE hs)).trans hs) rfl (fun j v hv=>by
   rw[Addr.add_mid,Nat.zero_add]
   refine(zA (heap_alloc_last W _) j).trans ?_
   rcases j with _|j
   ·simpa using hv
   ·rcases j with _|j
    ·simp at hv
    ·simp at hv) aS (by simp;rfl)
 exact e
theorem zMY(W:World)(S k y u:Nat)(hs:W.heap[S]?=some (.cells #[.int .u32 u,.int .u32 0,.int .u32 0] 22)):(Builtin.copy_ #[37,37] 3 #[.slice (some ⟨S,1,none⟩) 2 2,.slice (some ⟨W.heap.size,0,none⟩) 2 2]).run Try.prog (W.alloc (.cells #[.int .u32 k,.int .u32 y] 22)).drew=.ok (.int .i64 2) ((W.alloc (.cells #[.int .u32 k,.int .u32 y] 22)).drew.setRow S #[.int .u32 u,.int .u32 k,.int .u32 y]):=by
 have e:=run_copy_row (P:=Try.prog) (W.alloc (.cells #[.int .u32 k,.int .u32 y] 22)).drew 37 37 3 22 S 1 2 2 ⟨W.heap.size,0,none⟩ 2 2 #[.int .u32 u,.int .u32 0,.int .u32 0] 22 [.int .u32 k,.int .u32 y] Try.underlying37 zFN
  ((Below.heap_alloc _ _ _ (zE hs)).trans hs) rfl (fun j v hv=>by
   rw[Addr.add_mid,Nat.zero_add]
   refine(zA (heap_alloc_last W _) j).trans ?_
   rcases j with _|j
   ·simpa using hv
   ·rcases j with _|j
    ·simpa using hv
    ·simp at hv) aS (by simp;exact⟨rfl,rfl⟩)
 exact e
def ly0(x:Cd):Nat:=uO x.op
def ly1(h:Int)(x:Cd):Nat:=orW (hb h 448) 256 16 (ly0 x) x.d
def ly2(h:Int)(x:Cd):Nat:=orW (hb h 1) 4096 16 (ly1 h x) x.a
def ly3(h:Int)(x:Cd):Nat:=orW (hb h 2) 65536 16 (ly2 h x) x.b
def ly4(h:Int)(x:Cd):Nat:=orW (hb h 4) 1048576 16 (ly3 h x) x.c
def ly5(h:Int)(x:Cd):Nat:=orW (hb h 8) 65536 65536 (ly4 h x) x.n
theorem zFB(x:Cd):ly0 x < 4294967296:=zCK _
theorem zFC(h:Int)(x:Cd):ly1 h x < 4294967296:=zEd _ _ _ _ _ (zFB x) (by have:=Nat.mod_lt (uO x.d) (show 16 > 0 by decide);omega)
theorem zFD(h:Int)(x:Cd):ly2 h x < 4294967296:=zEd _ _ _ _ _ (zFC h x) (by have:=Nat.mod_lt (uO x.a) (show 16 > 0 by decide);omega)
theorem zFE(h:Int)(x:Cd):ly3 h x < 4294967296:=zEd _ _ _ _ _ (zFD h x) (by have:=Nat.mod_lt (uO x.b) (show 16 > 0 by decide);omega)
theorem zFF(h:Int)(x:Cd):ly4 h x < 4294967296:=zEd _ _ _ _ _ (zFE h x) (by have:=Nat.mod_lt (uO x.c) (show 16 > 0 by decide);omega)
theorem zFG(h:Int)(x:Cd):ly5 h x < 4294967296:=zEd _ _ _ _ _ (zFF h x) (by have:=Nat.mod_lt (uO x.n) (show 65536 > 0 by decide);omega)
structure LY(w W:World)(f:Fo)(x:Cd)(n:Nat)(A:Array Value)(u:Nat):Prop where
 bf:W.heap[w.heap.size]?=some (.cells (foA f) 146)
 bx:W.heap[w.heap.size+1]?=some (.cells (cdA x) 80)
 s:W.heap[w.heap.size+1+1]?=some (.cells A 22)
 bw:W.heap[w.heap.size+1+1+1]?=some (.cells #[.slice (some ⟨w.heap.size+1+1,0,none⟩) n n] 37)
 a:A[0]?=some (.int .u32 u)
 bel:Below w.heap.size w W
structure LE(w W:World)(n:Nat)(A:Array Value):Prop where
 s:W.heap[w.heap.size+1+1]?=some (.cells A 22)
 bw:W.heap[w.heap.size+1+1+1]?=some (.cells #[.slice (some ⟨w.heap.size+1+1,0,none⟩) n n] 37)
 bel:Below w.heap.size w W
theorem LY.fin1{w W:World}{f:Fo}{x:Cd}{n:Nat}{A:Array Value}{u:Nat}(h:LY w W f x n A u)(O:Obj):LE w (W.alloc O).drew n A:=
 ⟨(Below.heap_alloc _ _ _ (zE h.s)).trans h.s,(Below.heap_alloc _ _ _ (zE h.bw)).trans h.bw,(h.bel.alloc h.bel.size _).drew⟩
theorem LY.fin{w W:World}{f:Fo}{x:Cd}{n:Nat}{A:Array Value}{u:Nat}(h:LY w W f x n A u)(O:Obj)(A':Array Value):LE w ((W.alloc O).drew.setRow (w.heap.size+1+1) A') n A':=
 ⟨setRow_heap _ _ _ _ _ _ (h.fin1 O).s,(setRow_other _ _ _ _ aO).trans (h.fin1 O).bw,(h.fin1 O).bel.trans ⟨rfl,rfl,rfl,by simp,fun k hk=>setRow_other _ _ _ _ aO⟩⟩
theorem LY.pw{w W:World}{f:Fo}{x:Cd}{n:Nat}{A:Array Value}{u:Nat}(h:LY w W f x n A u)(n0:0 < n)(n3:n≤3):PW W w.heap.size (w.heap.size+1+1+1) (w.heap.size+1+1) n A u f.has:=
 ⟨zA h.bf 3,h.bw,h.s,h.a,zE h.bf,n0,n3⟩
theorem LY.put{w W w1:World}{f:Fo}{x:Cd}{n:Nat}{A:Array Value}{u u':Nat}(h:LY w W f x n A u)(c:zJ [w.heap.size+1+1] W w1)(b:w1.heap[w.heap.size+1+1]?=some (.cells (A.setIfInBounds 0 (.int .u32 u')) 22)):LY w w1 f x n (A.setIfInBounds 0 (.int .u32 u')) u':=by
 have hs:w.heap.size≤W.heap.size:=h.bel.size
 refine⟨c.keep h.bf zq19,c.keep h.bx aS,b,c.keep h.bw aS,?_,h.bel.trans (c.below hs zq19)⟩
 have:=h.a
 rw[Array.getElem?_setIfInBounds]
 rcases hsz:A.size with _|k
 ·rw[Array.getElem?_eq_none aO] at this;cases this
 ·simp
theorem zEs(w:World)(f:Fo)(x:Cd)(n u:Nat)(A:Array Value)(ha:A[0]?=some (.int .u32 u)) :
  LY w ((((w.alloc (.cells (foA f) 146)).alloc (.cells (cdA x) 80)).alloc (.cells A 22)).alloc (.cells #[.slice (some ⟨w.heap.size+1+1,0,none⟩) n n] 37)) f x n A u:=by
 have e1:=heap_alloc_last w (.cells (foA f) 146)
 have e2:=heap_alloc_last (w.alloc (.cells (foA f) 146)) (.cells (cdA x) 80)
 have e3:=heap_alloc_last ((w.alloc (.cells (foA f) 146)).alloc (.cells (cdA x) 80)) (.cells A 22)
 have e4:=heap_alloc_last (((w.alloc (.cells (foA f) 146)).alloc (.cells (cdA x) 80)).alloc (.cells A 22)) (.cells #[.slice (some ⟨w.heap.size+1+1,0,none⟩) n n] 37)
 simp only[World.size_alloc] at e2 e3 e4
 refine⟨?_,?_,?_,e4,ha,(((aB.alloc aL _).alloc aS _).alloc zq19 _).alloc zq19 _⟩
 ·rw[Below.heap_alloc _ _ _ zq19,Below.heap_alloc _ _ _ zq19,Below.heap_alloc _ _ _ aS];exact e1
 ·rw[Below.heap_alloc _ _ _ aS,Below.heap_alloc _ _ _ aS];exact e2
 ·rw[Below.heap_alloc _ _ _ aS];exact e3
end Go.Proofs.Ytkmjenjahbicpaa.Ho
