import Derived.Test.YtkmjenjahbicpaaHM
set_option linter.unusedVariables false
set_option linter.unusedSimpArgs false
set_option maxHeartbeats 4000000
namespace Go.Proofs.Ytkmjenjahbicpaa.Ho
open Go.RowKit
set_option maxRecDepth 100000
theorem zLO(f:Fo)(x:Cd)(w:World)(hn:vR f.has=1) :
  Calls Try.prog 71 #[.agg (foA f),cdV x] w fun e w'=>e=.returned (.slice (some ⟨w.heap.size+1+1,0,none⟩) 1 1)∧w'.heap[w.heap.size+1+1]?=some (.cells #[.int .u32 (ly5 f.has x)] 22)∧Below w.heap.size w w':=by
 have HN:Hid _:=hn
 have hmk:∀ w:World,(Instr.makeSlice 37 (.int .i64 1) (.int .i64 1)).run Try.prog w=.ok (.slice (some ⟨w.heap.size,0,none⟩) 1 1) (w.alloc (.cells #[.int .u32 0] 22)):=fun w=>zNX w
 clear hn
 go_enter Try.func71,Try.ntmps71
 go_upto_region 2 with (go_at_call 88;refine(zDE w.heap.size 1 f.has _ zq12 (by simp[go_sem]) zq19).mono ?_;rintro e w9 ⟨rfl,rfl⟩)
 have ev:IntKind.u32.wrap x.op=(ly0 x:Int):=by rw[IntKind.wrap_u32];exact zBS x.op
 go_upto_region 4 with fail
 refine zI (fun W'=>LY w W' f x 1 #[.int .u32 (ly0 x)] (ly0 x)) (zEs w f x 1 (ly0 x) #[.int .u32 (ly0 x)] rfl) ?_
 intro W hL
 have kx:W.cell? ⟨w.heap.size+1,1,none⟩=some (.int .i64 x.d):=zA hL.bx 1
 have lx:=zE hL.bx
 have H:Hid _:=hL
 clear hL
 go_upto_region 5 with (go_at_call 89;refine(zKf w.heap.size (w.heap.size+1+1+1) (w.heap.size+1+1) 1 (ly0 x) #[.int .u32 (ly0 x)] f.has x.d _ (H.out.pw aD aD) (zFB x) aO).mono ?_;rintro e w1 ⟨rfl,hb1,hc1⟩;have HP:Hid _:=H.out.put hc1 hb1;clear hb1 hc1)
 refine zI (fun W'=>LY w W' f x 1 #[.int .u32 (ly1 f.has x)] (ly1 f.has x)) zq50 ?_
 clear HP kx lx H
 clear w1
 clear W
 intro W hL
 have kx:W.cell? ⟨w.heap.size+1,2,none⟩=some (.int .i64 x.a):=zA hL.bx 2
 have lx:=zE hL.bx
 have H:Hid _:=hL
 clear hL
 go_upto_region 6 with (go_at_call 89;refine(zKc w.heap.size (w.heap.size+1+1+1) (w.heap.size+1+1) 1 (ly1 f.has x) #[.int .u32 (ly1 f.has x)] f.has x.a _ (H.out.pw aD aD) (zFC f.has x) aO).mono ?_;rintro e w1 ⟨rfl,hb1,hc1⟩;have HP:Hid _:=H.out.put hc1 hb1;clear hb1 hc1)
 refine zI (fun W'=>LY w W' f x 1 #[.int .u32 (ly2 f.has x)] (ly2 f.has x)) zq50 ?_
 clear HP kx lx H
 clear w1
 clear W
 intro W hL
 have kx:W.cell? ⟨w.heap.size+1,3,none⟩=some (.int .i64 x.b):=zA hL.bx 3
 have lx:=zE hL.bx
 have H:Hid _:=hL
 clear hL
 go_upto_region 7 with (go_at_call 89;refine(zKd w.heap.size (w.heap.size+1+1+1) (w.heap.size+1+1) 1 (ly2 f.has x) #[.int .u32 (ly2 f.has x)] f.has x.b _ (H.out.pw aD aD) (zFD f.has x) aO).mono ?_;rintro e w1 ⟨rfl,hb1,hc1⟩;have HP:Hid _:=H.out.put hc1 hb1;clear hb1 hc1)
 refine zI (fun W'=>LY w W' f x 1 #[.int .u32 (ly3 f.has x)] (ly3 f.has x)) zq50 ?_
 clear HP kx lx H
 clear w1
 clear W
 intro W hL
 have kx:W.cell? ⟨w.heap.size+1,4,none⟩=some (.int .i64 x.c):=zA hL.bx 4
 have lx:=zE hL.bx
 have H:Hid _:=hL
 clear hL
 go_upto_region 8 with (go_at_call 89;refine(zKe w.heap.size (w.heap.size+1+1+1) (w.heap.size+1+1) 1 (ly3 f.has x) #[.int .u32 (ly3 f.has x)] f.has x.c _ (H.out.pw aD aD) (zFE f.has x) aO).mono ?_;rintro e w1 ⟨rfl,hb1,hc1⟩;have HP:Hid _:=H.out.put hc1 hb1;clear hb1 hc1)
 refine zI (fun W'=>LY w W' f x 1 #[.int .u32 (ly4 f.has x)] (ly4 f.has x)) zq50 ?_
 clear HP kx lx H
 clear w1
 clear W
 intro W hL
 have kx:W.cell? ⟨w.heap.size+1,5,none⟩=some (.int .i64 x.n):=zA hL.bx 5
 have lx:=zE hL.bx
 have H:Hid _:=hL
 clear hL
 go_upto_region 9 with (go_at_call 89;refine(zKg w.heap.size (w.heap.size+1+1+1) (w.heap.size+1+1) 1 (ly4 f.has x) #[.int .u32 (ly4 f.has x)] f.has x.n _ (H.out.pw aD aD) (zFF f.has x) aO).mono ?_;rintro e w1 ⟨rfl,hb1,hc1⟩;have HP:Hid _:=H.out.put hc1 hb1;clear hb1 hc1)
 refine zI (fun W'=>LY w W' f x 1 #[.int .u32 (ly5 f.has x)] (ly5 f.has x)) zq50 ?_
 clear HP kx lx H
 clear w1
 clear W
 intro W hL
 have k6:W.cell? ⟨w.heap.size+1,6,none⟩=some (.int .u32 x.k):=zA hL.bx 6
 have k7:W.cell? ⟨w.heap.size+1,7,none⟩=some (.int .u32 x.x):=zA hL.bx 7
 have kw:W.cell? ⟨w.heap.size+1+1+1,0,none⟩=some (.slice (some ⟨w.heap.size+1+1,0,none⟩) 1 1):=zA hL.bw 0
 have lx:=zE hL.bx
 have lw:=zE hL.bw
 have ls:=zE hL.s
 have hcp:=zMW W (w.heap.size+1+1) x.k x.x
 have H:Hid _:=hL
 clear hL
 go_region_with (fail)
 all_goals
  go_upto_region 10 with fail
  refine zI (fun W'=>LE w W' 1 #[.int .u32 (ly5 f.has x)]) (by first|exact H.out.fin1 _|exact(H.out.fin1 _).drw) ?_
  intro V hV
  have kv:V.cell? ⟨w.heap.size+1+1+1,0,none⟩=some (.slice (some ⟨w.heap.size+1+1,0,none⟩) 1 1):=zA hV.bw 0
  have lv:=zE hV.bw
  have HV:Hid _:=hV
  clear hV
  go_wp2
  go_ret
  exact⟨rfl,HV.out.s,HV.out.bel⟩
theorem zLP(f:Fo)(x:Cd)(w:World)(hn:vR f.has=2) :
  Calls Try.prog 71 #[.agg (foA f),cdV x] w fun e w'=>e=.returned (.slice (some ⟨w.heap.size+1+1,0,none⟩) 2 2)∧w'.heap[w.heap.size+1+1]?=some (.cells #[.int .u32 (ly5 f.has x),.int .u32 x.k] 22)∧Below w.heap.size w w':=by
 have HN:Hid _:=hn
 have hmk:∀ w:World,(Instr.makeSlice 37 (.int .i64 2) (.int .i64 2)).run Try.prog w=.ok (.slice (some ⟨w.heap.size,0,none⟩) 2 2) (w.alloc (.cells #[.int .u32 0,.int .u32 0] 22)):=fun w=>zNY w
 clear hn
 go_enter Try.func71,Try.ntmps71
 go_upto_region 2 with (go_at_call 88;refine(zDE w.heap.size 2 f.has _ zq12 (by simp[go_sem]) zq19).mono ?_;rintro e w9 ⟨rfl,rfl⟩)
 have ev:IntKind.u32.wrap x.op=(ly0 x:Int):=by rw[IntKind.wrap_u32];exact zBS x.op
 go_upto_region 4 with fail
 refine zI (fun W'=>LY w W' f x 2 #[.int .u32 (ly0 x),.int .u32 0] (ly0 x)) (zEs w f x 2 (ly0 x) #[.int .u32 (ly0 x),.int .u32 0] rfl) ?_
 intro W hL
 have kx:W.cell? ⟨w.heap.size+1,1,none⟩=some (.int .i64 x.d):=zA hL.bx 1
 have lx:=zE hL.bx
 have H:Hid _:=hL
 clear hL
 go_upto_region 5 with (go_at_call 89;refine(zKf w.heap.size (w.heap.size+1+1+1) (w.heap.size+1+1) 2 (ly0 x) #[.int .u32 (ly0 x),.int .u32 0] f.has x.d _ (H.out.pw aD aD) (zFB x) aO).mono ?_;rintro e w1 ⟨rfl,hb1,hc1⟩;have HP:Hid _:=H.out.put hc1 hb1;clear hb1 hc1)
 refine zI (fun W'=>LY w W' f x 2 #[.int .u32 (ly1 f.has x),.int .u32 0] (ly1 f.has x)) zq50 ?_
 clear HP kx lx H
 clear w1
 clear W
 intro W hL
 have kx:W.cell? ⟨w.heap.size+1,2,none⟩=some (.int .i64 x.a):=zA hL.bx 2
 have lx:=zE hL.bx
 have H:Hid _:=hL
 clear hL
 go_upto_region 6 with (go_at_call 89;refine(zKc w.heap.size (w.heap.size+1+1+1) (w.heap.size+1+1) 2 (ly1 f.has x) #[.int .u32 (ly1 f.has x),.int .u32 0] f.has x.a _ (H.out.pw aD aD) (zFC f.has x) aO).mono ?_;rintro e w1 ⟨rfl,hb1,hc1⟩;have HP:Hid _:=H.out.put hc1 hb1;clear hb1 hc1)
 refine zI (fun W'=>LY w W' f x 2 #[.int .u32 (ly2 f.has x),.int .u32 0] (ly2 f.has x)) zq50 ?_
 clear HP kx lx H
 clear w1
 clear W
 intro W hL
 have kx:W.cell? ⟨w.heap.size+1,3,none⟩=some (.int .i64 x.b):=zA hL.bx 3
 have lx:=zE hL.bx
 have H:Hid _:=hL
 clear hL
 go_upto_region 7 with (go_at_call 89;refine(zKd w.heap.size (w.heap.size+1+1+1) (w.heap.size+1+1) 2 (ly2 f.has x) #[.int .u32 (ly2 f.has x),.int .u32 0] f.has x.b _ (H.out.pw aD aD) (zFD f.has x) aO).mono ?_;rintro e w1 ⟨rfl,hb1,hc1⟩;have HP:Hid _:=H.out.put hc1 hb1;clear hb1 hc1)
 refine zI (fun W'=>LY w W' f x 2 #[.int .u32 (ly3 f.has x),.int .u32 0] (ly3 f.has x)) zq50 ?_
 clear HP kx lx H
 clear w1
 clear W
 intro W hL
 have kx:W.cell? ⟨w.heap.size+1,4,none⟩=some (.int .i64 x.c):=zA hL.bx 4
 have lx:=zE hL.bx
 have H:Hid _:=hL
 clear hL
 go_upto_region 8 with (go_at_call 89;refine(zKe w.heap.size (w.heap.size+1+1+1) (w.heap.size+1+1) 2 (ly3 f.has x) #[.int .u32 (ly3 f.has x),.int .u32 0] f.has x.c _ (H.out.pw aD aD) (zFE f.has x) aO).mono ?_;rintro e w1 ⟨rfl,hb1,hc1⟩;have HP:Hid _:=H.out.put hc1 hb1;clear hb1 hc1)
 refine zI (fun W'=>LY w W' f x 2 #[.int .u32 (ly4 f.has x),.int .u32 0] (ly4 f.has x)) zq50 ?_
 clear HP kx lx H
 clear w1
 clear W
 intro W hL
 have kx:W.cell? ⟨w.heap.size+1,5,none⟩=some (.int .i64 x.n):=zA hL.bx 5
 have lx:=zE hL.bx
 have H:Hid _:=hL
 clear hL
 go_upto_region 9 with (go_at_call 89;refine(zKg w.heap.size (w.heap.size+1+1+1) (w.heap.size+1+1) 2 (ly4 f.has x) #[.int .u32 (ly4 f.has x),.int .u32 0] f.has x.n _ (H.out.pw aD aD) (zFF f.has x) aO).mono ?_;rintro e w1 ⟨rfl,hb1,hc1⟩;have HP:Hid _:=H.out.put hc1 hb1;clear hb1 hc1)
 refine zI (fun W'=>LY w W' f x 2 #[.int .u32 (ly5 f.has x),.int .u32 0] (ly5 f.has x)) zq50 ?_
 clear HP kx lx H
 clear w1
 clear W
 intro W hL
 have k6:W.cell? ⟨w.heap.size+1,6,none⟩=some (.int .u32 x.k):=zA hL.bx 6
 have k7:W.cell? ⟨w.heap.size+1,7,none⟩=some (.int .u32 x.x):=zA hL.bx 7
 have kw:W.cell? ⟨w.heap.size+1+1+1,0,none⟩=some (.slice (some ⟨w.heap.size+1+1,0,none⟩) 2 2):=zA hL.bw 0
 have lx:=zE hL.bx
 have lw:=zE hL.bw
 have ls:=zE hL.s
 have s1:W.cell? ⟨w.heap.size+1+1,1,none⟩=some (.int .u32 0):=zA hL.s 1
 have g1:=zD hL.s 1
 have hcp:=zMX W (w.heap.size+1+1) x.k x.x (ly5 f.has x) hL.s
 have H:Hid _:=hL
 clear hL
 go_region_with (fail)
 all_goals
  go_upto_region 10 with fail
  refine zI (fun W'=>LE w W' 2 #[.int .u32 (ly5 f.has x),.int .u32 x.k]) (by first|exact H.out.fin _ _|exact(H.out.fin _ _).drw) ?_
  intro V hV
  have kv:V.cell? ⟨w.heap.size+1+1+1,0,none⟩=some (.slice (some ⟨w.heap.size+1+1,0,none⟩) 2 2):=zA hV.bw 0
  have lv:=zE hV.bw
  have HV:Hid _:=hV
  clear hV
  go_wp2
  go_ret
  exact⟨rfl,HV.out.s,HV.out.bel⟩
theorem zLQ(f:Fo)(x:Cd)(w:World)(hn:vR f.has=3) :
  Calls Try.prog 71 #[.agg (foA f),cdV x] w fun e w'=>e=.returned (.slice (some ⟨w.heap.size+1+1,0,none⟩) 3 3)∧w'.heap[w.heap.size+1+1]?=some (.cells #[.int .u32 (ly5 f.has x),.int .u32 x.k,.int .u32 x.x] 22)∧Below w.heap.size w w':=by
 have HN:Hid _:=hn
 have hmk:∀ w:World,(Instr.makeSlice 37 (.int .i64 3) (.int .i64 3)).run Try.prog w=.ok (.slice (some ⟨w.heap.size,0,none⟩) 3 3) (w.alloc (.cells #[.int .u32 0,.int .u32 0,.int .u32 0] 22)):=fun w=>zNZ w
 clear hn
 go_enter Try.func71,Try.ntmps71
 go_upto_region 2 with (go_at_call 88;refine(zDE w.heap.size 3 f.has _ zq12 (by simp[go_sem]) zq19).mono ?_;rintro e w9 ⟨rfl,rfl⟩)
 have ev:IntKind.u32.wrap x.op=(ly0 x:Int):=by rw[IntKind.wrap_u32];exact zBS x.op
 go_upto_region 4 with fail
 refine zI (fun W'=>LY w W' f x 3 #[.int .u32 (ly0 x),.int .u32 0,.int .u32 0] (ly0 x)) (zEs w f x 3 (ly0 x) #[.int .u32 (ly0 x),.int .u32 0,.int .u32 0] rfl) ?_
 intro W hL
 have kx:W.cell? ⟨w.heap.size+1,1,none⟩=some (.int .i64 x.d):=zA hL.bx 1
 have lx:=zE hL.bx
 have H:Hid _:=hL
 clear hL
 go_upto_region 5 with (go_at_call 89;refine(zKf w.heap.size (w.heap.size+1+1+1) (w.heap.size+1+1) 3 (ly0 x) #[.int .u32 (ly0 x),.int .u32 0,.int .u32 0] f.has x.d _ (H.out.pw aD aD) (zFB x) aO).mono ?_;rintro e w1 ⟨rfl,hb1,hc1⟩;have HP:Hid _:=H.out.put hc1 hb1;clear hb1 hc1)
 refine zI (fun W'=>LY w W' f x 3 #[.int .u32 (ly1 f.has x),.int .u32 0,.int .u32 0] (ly1 f.has x)) zq50 ?_
 clear HP kx lx H
 clear w1
 clear W
 intro W hL
 have kx:W.cell? ⟨w.heap.size+1,2,none⟩=some (.int .i64 x.a):=zA hL.bx 2
 have lx:=zE hL.bx
 have H:Hid _:=hL
 clear hL
 go_upto_region 6 with (go_at_call 89;refine(zKc w.heap.size (w.heap.size+1+1+1) (w.heap.size+1+1) 3 (ly1 f.has x) #[.int .u32 (ly1 f.has x),.int .u32 0,.int .u32 0] f.has x.a _ (H.out.pw aD aD) (zFC f.has x) aO).mono ?_;rintro e w1 ⟨rfl,hb1,hc1⟩;have HP:Hid _:=H.out.put hc1 hb1;clear hb1 hc1)
 refine zI (fun W'=>LY w W' f x 3 #[.int .u32 (ly2 f.has x),.int .u32 0,.int .u32 0] (ly2 f.has x)) zq50 ?_
 clear HP kx lx H
 clear w1
 clear W
 intro W hL
 have kx:W.cell? ⟨w.heap.size+1,3,none⟩=some (.int .i64 x.b):=zA hL.bx 3
 have lx:=zE hL.bx
 have H:Hid _:=hL
 clear hL
 go_upto_region 7 with (go_at_call 89;refine(zKd w.heap.size (w.heap.size+1+1+1) (w.heap.size+1+1) 3 (ly2 f.has x) #[.int .u32 (ly2 f.has x),.int .u32 0,.int .u32 0] f.has x.b _ (H.out.pw aD aD) (zFD f.has x) aO).mono ?_;rintro e w1 ⟨rfl,hb1,hc1⟩;have HP:Hid _:=H.out.put hc1 hb1;clear hb1 hc1)
 refine zI (fun W'=>LY w W' f x 3 #[.int .u32 (ly3 f.has x),.int .u32 0,.int .u32 0] (ly3 f.has x)) zq50 ?_
 clear HP kx lx H
 clear w1
 clear W
 intro W hL
 have kx:W.cell? ⟨w.heap.size+1,4,none⟩=some (.int .i64 x.c):=zA hL.bx 4
 have lx:=zE hL.bx
 have H:Hid _:=hL
 clear hL
 go_upto_region 8 with (go_at_call 89;refine(zKe w.heap.size (w.heap.size+1+1+1) (w.heap.size+1+1) 3 (ly3 f.has x) #[.int .u32 (ly3 f.has x),.int .u32 0,.int .u32 0] f.has x.c _ (H.out.pw aD aD) (zFE f.has x) aO).mono ?_;rintro e w1 ⟨rfl,hb1,hc1⟩;have HP:Hid _:=H.out.put hc1 hb1;clear hb1 hc1)
 refine zI (fun W'=>LY w W' f x 3 #[.int .u32 (ly4 f.has x),.int .u32 0,.int .u32 0] (ly4 f.has x)) zq50 ?_
 clear HP kx lx H
 clear w1
 clear W
 intro W hL
 have kx:W.cell? ⟨w.heap.size+1,5,none⟩=some (.int .i64 x.n):=zA hL.bx 5
 have lx:=zE hL.bx
 have H:Hid _:=hL
 clear hL
 go_upto_region 9 with (go_at_call 89;refine(zKg w.heap.size (w.heap.size+1+1+1) (w.heap.size+1+1) 3 (ly4 f.has x) #[.int .u32 (ly4 f.has x),.int .u32 0,.int .u32 0] f.has x.n _ (H.out.pw aD aD) (zFF f.has x) aO).mono ?_;rintro e w1 ⟨rfl,hb1,hc1⟩;have HP:Hid _:=H.out.put hc1 hb1;clear hb1 hc1)
 refine zI (fun W'=>LY w W' f x 3 #[.int .u32 (ly5 f.has x),.int .u32 0,.int .u32 0] (ly5 f.has x)) zq50 ?_
 clear HP kx lx H
 clear w1
 clear W
 intro W hL
 have k6:W.cell? ⟨w.heap.size+1,6,none⟩=some (.int .u32 x.k):=zA hL.bx 6
 have k7:W.cell? ⟨w.heap.size+1,7,none⟩=some (.int .u32 x.x):=zA hL.bx 7
 have kw:W.cell? ⟨w.heap.size+1+1+1,0,none⟩=some (.slice (some ⟨w.heap.size+1+1,0,none⟩) 3 3):=zA hL.bw 0
 have lx:=zE hL.bx
 have lw:=zE hL.bw
 have ls:=zE hL.s
 have s1:W.cell? ⟨w.heap.size+1+1,1,none⟩=some (.int .u32 0):=zA hL.s 1
 have g1:=zD hL.s 1
 have s2:W.cell? ⟨w.heap.size+1+1,2,none⟩=some (.int .u32 0):=zA hL.s 2
 have g2:=zD hL.s 2
 have hcp:=zMY W (w.heap.size+1+1) x.k x.x (ly5 f.has x) hL.s
 have H:Hid _:=hL
 clear hL
 go_region_with (fail)
 all_goals
  go_upto_region 10 with fail
  refine zI (fun W'=>LE w W' 3 #[.int .u32 (ly5 f.has x),.int .u32 x.k,.int .u32 x.x]) (by first|exact H.out.fin _ _|exact(H.out.fin _ _).drw) ?_
  intro V hV
  have kv:V.cell? ⟨w.heap.size+1+1+1,0,none⟩=some (.slice (some ⟨w.heap.size+1+1,0,none⟩) 3 3):=zA hV.bw 0
  have lv:=zE hV.bw
  have HV:Hid _:=hV
  clear hV
  go_wp2
  go_ret
  exact⟨rfl,HV.out.s,HV.out.bel⟩
end Go.Proofs.Ytkmjenjahbicpaa.Ho
