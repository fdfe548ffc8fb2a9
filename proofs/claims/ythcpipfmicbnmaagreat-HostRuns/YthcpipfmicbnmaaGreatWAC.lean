import Derived.Test.YthcpipfmicbnmaaGreatWJ03
set_option linter.unusedVariables false
set_option linter.unusedSimpArgs false
set_option maxHeartbeats 1000000
namespace Go.Proofs.YthcpipfmicbnmaaGreat.Va
open Go.RowKit
set_option maxRecDepth 100000
theorem yO{w:World}{X:Nat}{A:Array Value}{T:TypeId}(h:w.heap[X]?=some (.cells A T))(o:Nat):w.cell? ⟨X,o,none⟩=A[o]?:=cell_of_row _ _ o _ _ (0,0) h
theorem zCz{w:World}{X:Nat}{A:Array Value}{T:TypeId}(h:w.heap[X]?=some (.cells A T))(o:Nat):w.frozen? ⟨X,o,none⟩=false:=frozen_of_row _ _ o _ _ h
theorem zA3{w:World}{X:Nat}{A:Array Value}{T:TypeId}(h:w.heap[X]?=some (.cells A T)):X < w.heap.size:=by
 rcases Nat.lt_or_ge X w.heap.size with g|g
 ·exact g
 ·rw[Array.getElem?_eq_none g] at h;cases h
theorem zAs(w:World)(o:Obj)(b:Nat)(h:b < w.heap.size):(w.alloc o).heap[b]?=w.heap[b]?:=((Below.refl w.heap.size w).alloc aL o).block b h
theorem zIc(w:World)(o1 o2 o3:Obj):(((w.alloc o1).alloc o2).alloc o3).heap[w.heap.size+1+1]?=some o3:=by
 have:=heap_alloc_last ((w.alloc o1).alloc o2) o3
 rwa [show((w.alloc o1).alloc o2).heap.size=w.heap.size+1+1 by simp] at this
theorem zPJ(X:Nat)(a v:Nat)(s:MS)(w:World)(o:Option Nat)(ha:a < 4294967296)(hs:s.Ok)(h:PM w X s)(hx:ldX s a 1=v)(hv:v < 4294967296)(ho:yA s 1 a 1=o) :
  Calls Tryz.prog 82 #[.pointer (some ⟨X,0,none⟩),.int .i64 0,.int .u32 a] w fun e w'=>e=.returned (.tuple #[.int .u32 v,.agg #[.int .i64 (vS 5 o),.int .u32 (stA o)]])∧Below w.heap.size w w':=by
 have HC:Hid (∀ W,Below w.heap.size w W→Calls Tryz.prog 99 #[.pointer (some ⟨X,0,none⟩),.int .u32 a,.int .i64 1] W fun e w'=>e=.returned (.tuple #[.int .u32 v,.agg #[.int .i64 (vS 5 o),.int .u32 (stA o)]])∧Below W.heap.size W w'):=show ∀ W,_ from fun W hW=>by
  have:=zBq X a 1 s W ha hs (h.below hW h.lt)
  rw[hx,show yA s 1 a (1:Int).toNat=o from ho] at this
  exact this
 clear hx ho h hs
 generalize vS 5 o=kk at *
 generalize stA o=aa at *
 go_enter Tryz.func82,Tryz.ntmps82
 go_wp2_with (go_at_call 99;refine(HC.out _ ?_).mono ?_;(exact zq1);rintro e w1 ⟨rfl,h1⟩;have HB7:Hid (w1.heap[w.heap.size]?=some (.cells #[.int .i64 0,.int .u32 0] 35)):=(h1.block _ zq7).trans ((zAs _ _ _ zq7).trans ((zAs _ _ _ aS).trans (heap_alloc_last w _)));have HBB:Hid (Below w.heap.size w w1):=(Below.trans zq1 (h1.mono zq7));have q0:w1.cell? ⟨w.heap.size,0,none⟩=some (.int .i64 0):=yO HB7.out 0;have q1:w1.cell? ⟨w.heap.size,1,none⟩=some (.int .u32 0):=yO HB7.out 1;have fr:=zCz HB7.out;have l7:=zA3 HB7.out;have l7b:=Nat.lt_succ_of_lt l7;have HB9:Hid (w1.heap[w.heap.size+1+1]?=some (.cells #[.int .i64 1,.bool false] 169)):=(h1.block _ aS).trans (zIc w _ _ _);have z0:w1.cell? ⟨w.heap.size+1+1,0,none⟩=some (.int .i64 1):=yO HB9.out 0;have z1:w1.cell? ⟨w.heap.size+1+1,1,none⟩=some (.bool false):=yO HB9.out 1;have l9:=zA3 HB9.out;have l9b:=Nat.lt_succ_of_lt l9;clear h1)
 all_goals go_region
 all_goals go_wp2
 all_goals exact bodyPost_ret (v:=.tuple #[.int .u32 v,.agg #[.int .i64 kk,.int .u32 aa]]) (by simp[results,Tryz.results82,go_sem,q0,q1,fr,l7]) rfl ⟨rfl,by
  have hB:=HBB.out
  (repeat first|with_reducible exact Below.refl _ _|with_reducible exact hB|with_reducible refine Below.drew ?_|with_reducible refine Below.alloc ?_ zq11 _|with_reducible refine Below.setCell ?_ zq11 _)⟩
theorem zPK(X:Nat)(a v:Nat)(s:MS)(w:World)(o:Option Nat)(ha:a < 4294967296)(hs:s.Ok)(h:PM w X s)(hx:ldX s a 1=v)(hv:v < 4294967296)(ho:yA s 1 a 1=o)(r:Nat)(hr:wrap32 ((v:Int)*16777216%4294967296) / 16777216%4294967296=(r:Int)) :
  Calls Tryz.prog 82 #[.pointer (some ⟨X,0,none⟩),.int .i64 1,.int .u32 a] w fun e w'=>e=.returned (.tuple #[.int .u32 r,.agg #[.int .i64 (vS 5 o),.int .u32 (stA o)]])∧Below w.heap.size w w':=by
 have HC:Hid (∀ W,Below w.heap.size w W→Calls Tryz.prog 99 #[.pointer (some ⟨X,0,none⟩),.int .u32 a,.int .i64 1] W fun e w'=>e=.returned (.tuple #[.int .u32 v,.agg #[.int .i64 (vS 5 o),.int .u32 (stA o)]])∧Below W.heap.size W w'):=show ∀ W,_ from fun W hW=>by
  have:=zBq X a 1 s W ha hs (h.below hW h.lt)
  rw[hx,show yA s 1 a (1:Int).toNat=o from ho] at this
  exact this
 clear hx ho h hs
 generalize vS 5 o=kk at *
 generalize stA o=aa at *
 go_enter Tryz.func82,Tryz.ntmps82
 go_wp2_with (go_at_call 99;refine(HC.out _ ?_).mono ?_;(exact zq1);rintro e w1 ⟨rfl,h1⟩;have HB7:Hid (w1.heap[w.heap.size]?=some (.cells #[.int .i64 0,.int .u32 0] 35)):=(h1.block _ zq7).trans ((zAs _ _ _ zq7).trans ((zAs _ _ _ aS).trans (heap_alloc_last w _)));have HBB:Hid (Below w.heap.size w w1):=(Below.trans zq1 (h1.mono zq7));have q0:w1.cell? ⟨w.heap.size,0,none⟩=some (.int .i64 0):=yO HB7.out 0;have q1:w1.cell? ⟨w.heap.size,1,none⟩=some (.int .u32 0):=yO HB7.out 1;have fr:=zCz HB7.out;have l7:=zA3 HB7.out;have l7b:=Nat.lt_succ_of_lt l7;have HB9:Hid (w1.heap[w.heap.size+1+1]?=some (.cells #[.int .i64 1,.bool true] 169)):=(h1.block _ aS).trans (zIc w _ _ _);have z0:w1.cell? ⟨w.heap.size+1+1,0,none⟩=some (.int .i64 1):=yO HB9.out 0;have z1:w1.cell? ⟨w.heap.size+1+1,1,none⟩=some (.bool true):=yO HB9.out 1;have l9:=zA3 HB9.out;have l9b:=Nat.lt_succ_of_lt l9;clear h1)
 all_goals go_region
 all_goals go_wp2
 all_goals exact bodyPost_ret (v:=.tuple #[.int .u32 r,.agg #[.int .i64 kk,.int .u32 aa]]) (by simp[results,Tryz.results82,go_sem,q0,q1,fr,l7,hr]) rfl ⟨rfl,by
  have hB:=HBB.out
  (repeat first|with_reducible exact Below.refl _ _|with_reducible exact hB|with_reducible refine Below.drew ?_|with_reducible refine Below.alloc ?_ zq11 _|with_reducible refine Below.setCell ?_ zq11 _)⟩
theorem zPL(X:Nat)(a v:Nat)(s:MS)(w:World)(o:Option Nat)(ha:a < 4294967296)(hs:s.Ok)(h:PM w X s)(hx:ldX s a 2=v)(hv:v < 4294967296)(ho:yA s 1 a 2=o) :
  Calls Tryz.prog 82 #[.pointer (some ⟨X,0,none⟩),.int .i64 2,.int .u32 a] w fun e w'=>e=.returned (.tuple #[.int .u32 v,.agg #[.int .i64 (vS 5 o),.int .u32 (stA o)]])∧Below w.heap.size w w':=by
 have HC:Hid (∀ W,Below w.heap.size w W→Calls Tryz.prog 99 #[.pointer (some ⟨X,0,none⟩),.int .u32 a,.int .i64 2] W fun e w'=>e=.returned (.tuple #[.int .u32 v,.agg #[.int .i64 (vS 5 o),.int .u32 (stA o)]])∧Below W.heap.size W w'):=show ∀ W,_ from fun W hW=>by
  have:=zBq X a 2 s W ha hs (h.below hW h.lt)
  rw[hx,show yA s 1 a (2:Int).toNat=o from ho] at this
  exact this
 clear hx ho h hs
 generalize vS 5 o=kk at *
 generalize stA o=aa at *
 go_enter Tryz.func82,Tryz.ntmps82
 go_wp2_with (go_at_call 99;refine(HC.out _ ?_).mono ?_;(exact zq1);rintro e w1 ⟨rfl,h1⟩;have HB7:Hid (w1.heap[w.heap.size]?=some (.cells #[.int .i64 0,.int .u32 0] 35)):=(h1.block _ zq7).trans ((zAs _ _ _ zq7).trans ((zAs _ _ _ aS).trans (heap_alloc_last w _)));have HBB:Hid (Below w.heap.size w w1):=(Below.trans zq1 (h1.mono zq7));have q0:w1.cell? ⟨w.heap.size,0,none⟩=some (.int .i64 0):=yO HB7.out 0;have q1:w1.cell? ⟨w.heap.size,1,none⟩=some (.int .u32 0):=yO HB7.out 1;have fr:=zCz HB7.out;have l7:=zA3 HB7.out;have l7b:=Nat.lt_succ_of_lt l7;have HB9:Hid (w1.heap[w.heap.size+1+1]?=some (.cells #[.int .i64 2,.bool false] 169)):=(h1.block _ aS).trans (zIc w _ _ _);have z0:w1.cell? ⟨w.heap.size+1+1,0,none⟩=some (.int .i64 2):=yO HB9.out 0;have z1:w1.cell? ⟨w.heap.size+1+1,1,none⟩=some (.bool false):=yO HB9.out 1;have l9:=zA3 HB9.out;have l9b:=Nat.lt_succ_of_lt l9;clear h1)
 all_goals go_region
 all_goals go_wp2
 all_goals exact bodyPost_ret (v:=.tuple #[.int .u32 v,.agg #[.int .i64 kk,.int .u32 aa]]) (by simp[results,Tryz.results82,go_sem,q0,q1,fr,l7]) rfl ⟨rfl,by
  have hB:=HBB.out
  (repeat first|with_reducible exact Below.refl _ _|with_reducible exact hB|with_reducible refine Below.drew ?_|with_reducible refine Below.alloc ?_ zq11 _|with_reducible refine Below.setCell ?_ zq11 _)⟩
theorem zPM(X:Nat)(a v:Nat)(s:MS)(w:World)(o:Option Nat)(ha:a < 4294967296)(hs:s.Ok)(h:PM w X s)(hx:ldX s a 2=v)(hv:v < 4294967296)(ho:yA s 1 a 2=o)(r:Nat)(hr:wrap32 ((v:Int)*65536%4294967296) / 65536%4294967296=(r:Int)) :
  Calls Tryz.prog 82 #[.pointer (some ⟨X,0,none⟩),.int .i64 3,.int .u32 a] w fun e w'=>e=.returned (.tuple #[.int .u32 r,.agg #[.int .i64 (vS 5 o),.int .u32 (stA o)]])∧Below w.heap.size w w':=by
 have HC:Hid (∀ W,Below w.heap.size w W→Calls Tryz.prog 99 #[.pointer (some ⟨X,0,none⟩),.int .u32 a,.int .i64 2] W fun e w'=>e=.returned (.tuple #[.int .u32 v,.agg #[.int .i64 (vS 5 o),.int .u32 (stA o)]])∧Below W.heap.size W w'):=show ∀ W,_ from fun W hW=>by
  have:=zBq X a 2 s W ha hs (h.below hW h.lt)
  rw[hx,show yA s 1 a (2:Int).toNat=o from ho] at this
  exact this
 clear hx ho h hs
 generalize vS 5 o=kk at *
 generalize stA o=aa at *
 go_enter Tryz.func82,Tryz.ntmps82
 go_wp2_with (go_at_call 99;refine(HC.out _ ?_).mono ?_;(exact zq1);rintro e w1 ⟨rfl,h1⟩;have HB7:Hid (w1.heap[w.heap.size]?=some (.cells #[.int .i64 0,.int .u32 0] 35)):=(h1.block _ zq7).trans ((zAs _ _ _ zq7).trans ((zAs _ _ _ aS).trans (heap_alloc_last w _)));have HBB:Hid (Below w.heap.size w w1):=(Below.trans zq1 (h1.mono zq7));have q0:w1.cell? ⟨w.heap.size,0,none⟩=some (.int .i64 0):=yO HB7.out 0;have q1:w1.cell? ⟨w.heap.size,1,none⟩=some (.int .u32 0):=yO HB7.out 1;have fr:=zCz HB7.out;have l7:=zA3 HB7.out;have l7b:=Nat.lt_succ_of_lt l7;have HB9:Hid (w1.heap[w.heap.size+1+1]?=some (.cells #[.int .i64 2,.bool true] 169)):=(h1.block _ aS).trans (zIc w _ _ _);have z0:w1.cell? ⟨w.heap.size+1+1,0,none⟩=some (.int .i64 2):=yO HB9.out 0;have z1:w1.cell? ⟨w.heap.size+1+1,1,none⟩=some (.bool true):=yO HB9.out 1;have l9:=zA3 HB9.out;have l9b:=Nat.lt_succ_of_lt l9;clear h1)
 all_goals go_region
 all_goals go_wp2
 all_goals exact bodyPost_ret (v:=.tuple #[.int .u32 r,.agg #[.int .i64 kk,.int .u32 aa]]) (by simp[results,Tryz.results82,go_sem,q0,q1,fr,l7,hr]) rfl ⟨rfl,by
  have hB:=HBB.out
  (repeat first|with_reducible exact Below.refl _ _|with_reducible exact hB|with_reducible refine Below.drew ?_|with_reducible refine Below.alloc ?_ zq11 _|with_reducible refine Below.setCell ?_ zq11 _)⟩
theorem zPN(X:Nat)(a v:Nat)(s:MS)(w:World)(o:Option Nat)(ha:a < 4294967296)(hs:s.Ok)(h:PM w X s)(hx:ldX s a 4=v)(hv:v < 4294967296)(ho:yA s 1 a 4=o) :
  Calls Tryz.prog 82 #[.pointer (some ⟨X,0,none⟩),.int .i64 4,.int .u32 a] w fun e w'=>e=.returned (.tuple #[.int .u32 v,.agg #[.int .i64 (vS 5 o),.int .u32 (stA o)]])∧Below w.heap.size w w':=by
 have HC:Hid (∀ W,Below w.heap.size w W→Calls Tryz.prog 99 #[.pointer (some ⟨X,0,none⟩),.int .u32 a,.int .i64 4] W fun e w'=>e=.returned (.tuple #[.int .u32 v,.agg #[.int .i64 (vS 5 o),.int .u32 (stA o)]])∧Below W.heap.size W w'):=show ∀ W,_ from fun W hW=>by
  have:=zBq X a 4 s W ha hs (h.below hW h.lt)
  rw[hx,show yA s 1 a (4:Int).toNat=o from ho] at this
  exact this
 clear hx ho h hs
 generalize vS 5 o=kk at *
 generalize stA o=aa at *
 go_enter Tryz.func82,Tryz.ntmps82
 go_wp2_with (go_at_call 99;refine(HC.out _ ?_).mono ?_;(exact zq1);rintro e w1 ⟨rfl,h1⟩;have HB7:Hid (w1.heap[w.heap.size]?=some (.cells #[.int .i64 0,.int .u32 0] 35)):=(h1.block _ zq7).trans ((zAs _ _ _ zq7).trans ((zAs _ _ _ aS).trans (heap_alloc_last w _)));have HBB:Hid (Below w.heap.size w w1):=(Below.trans zq1 (h1.mono zq7));have q0:w1.cell? ⟨w.heap.size,0,none⟩=some (.int .i64 0):=yO HB7.out 0;have q1:w1.cell? ⟨w.heap.size,1,none⟩=some (.int .u32 0):=yO HB7.out 1;have fr:=zCz HB7.out;have l7:=zA3 HB7.out;have l7b:=Nat.lt_succ_of_lt l7;have HB9:Hid (w1.heap[w.heap.size+1+1]?=some (.cells #[.int .i64 4,.bool false] 169)):=(h1.block _ aS).trans (zIc w _ _ _);have z0:w1.cell? ⟨w.heap.size+1+1,0,none⟩=some (.int .i64 4):=yO HB9.out 0;have z1:w1.cell? ⟨w.heap.size+1+1,1,none⟩=some (.bool false):=yO HB9.out 1;have l9:=zA3 HB9.out;have l9b:=Nat.lt_succ_of_lt l9;clear h1)
 all_goals go_region
 all_goals go_wp2
 all_goals exact bodyPost_ret (v:=.tuple #[.int .u32 v,.agg #[.int .i64 kk,.int .u32 aa]]) (by simp[results,Tryz.results82,go_sem,q0,q1,fr,l7]) rfl ⟨rfl,by
  have hB:=HBB.out
  (repeat first|with_reducible exact Below.refl _ _|with_reducible exact hB|with_reducible refine Below.drew ?_|with_reducible refine Below.alloc ?_ zq11 _|with_reducible refine Below.setCell ?_ zq11 _)⟩
theorem zPO(X:Nat)(a v:Nat)(s:MS)(w:World)(o:Option Nat)(ha:a < 4294967296)(hv:v < 4294967296)(hs:s.Ok)(h:PM w X s)(ho:sto s a 1=o) :
  Calls Tryz.prog 83 #[.pointer (some ⟨X,0,none⟩),.int .i64 0,.int .u32 a,.int .u32 v] w fun e w'=>e=.returned (.agg #[.int .i64 (vS 6 o),.int .u32 (stA o)])∧PM w' X (storeT s a 1 v)∧zI [X] w w':=by
 have HC:Hid (∀ W,Below w.heap.size w W→Calls Tryz.prog 100 #[.pointer (some ⟨X,0,none⟩),.int .u32 a,.int .i64 1,.int .u32 v] W fun e w'=>e=.returned (.agg #[.int .i64 (vS 6 o),.int .u32 (stA o)])∧PM w' X (storeT s a 1 v)∧zI [X] W w'):=show ∀ W,_ from fun W hW=>by
  have:=zCt X a v 1 s W ha hv hs (h.below hW h.lt)
  rw[ho] at this
  exact this
 have HX:Hid (X < w.heap.size):=h.lt
 clear ho h hs
 generalize vS 6 o=kk at *
 generalize stA o=aa at *
 go_enter Tryz.func83,Tryz.ntmps83
 go_wp2_with (go_at_call 100;refine(HC.out _ ?_).mono ?_;(exact zq1);rintro e w1 ⟨rfl,hp,hc⟩;have HPM:Hid _:=hp;have hXl:=HX.out;have HB8:Hid (w1.heap[w.heap.size]?=some (.cells #[.int .i64 0,.int .u32 0] 35)):=(hc.block _ zq7 zq7).trans ((zAs _ _ _ aS).trans (heap_alloc_last w _));have HCH:Hid _:=hc;have q0:w1.cell? ⟨w.heap.size,0,none⟩=some (.int .i64 0):=yO HB8.out 0;have q1:w1.cell? ⟨w.heap.size,1,none⟩=some (.int .u32 0):=yO HB8.out 1;have fr:=zCz HB8.out;have l8:=zA3 HB8.out;clear hp hc)
 exact bodyPost_ret (v:=.agg #[.int .i64 kk,.int .u32 aa]) (by simp[results,Tryz.results83,go_sem,q0,q1,fr,l8]) rfl ⟨rfl,HPM.out.of_block ((Below.heap_setCell _ _ _ X (Nat.ne_of_lt HX.out)).trans (Below.heap_setCell _ _ _ X (Nat.ne_of_lt HX.out))),zI.new (zI.trans (zI.of_below [X] (((Below.refl w.heap.size w).alloc aL _).alloc aS _)) HCH.out) aL (((zAA.refl _ w1).setCell 0 _).setCell 1 _)⟩
theorem zPP(X:Nat)(a v:Nat)(s:MS)(w:World)(o:Option Nat)(ha:a < 4294967296)(hv:v < 4294967296)(hs:s.Ok)(h:PM w X s)(ho:sto s a 2=o) :
  Calls Tryz.prog 83 #[.pointer (some ⟨X,0,none⟩),.int .i64 1,.int .u32 a,.int .u32 v] w fun e w'=>e=.returned (.agg #[.int .i64 (vS 6 o),.int .u32 (stA o)])∧PM w' X (storeT s a 2 v)∧zI [X] w w':=by
 have HC:Hid (∀ W,Below w.heap.size w W→Calls Tryz.prog 100 #[.pointer (some ⟨X,0,none⟩),.int .u32 a,.int .i64 2,.int .u32 v] W fun e w'=>e=.returned (.agg #[.int .i64 (vS 6 o),.int .u32 (stA o)])∧PM w' X (storeT s a 2 v)∧zI [X] W w'):=show ∀ W,_ from fun W hW=>by
  have:=zCt X a v 2 s W ha hv hs (h.below hW h.lt)
  rw[ho] at this
  exact this
 have HX:Hid (X < w.heap.size):=h.lt
 clear ho h hs
 generalize vS 6 o=kk at *
 generalize stA o=aa at *
 go_enter Tryz.func83,Tryz.ntmps83
 go_wp2_with (go_at_call 100;refine(HC.out _ ?_).mono ?_;(exact zq1);rintro e w1 ⟨rfl,hp,hc⟩;have HPM:Hid _:=hp;have hXl:=HX.out;have HB8:Hid (w1.heap[w.heap.size]?=some (.cells #[.int .i64 0,.int .u32 0] 35)):=(hc.block _ zq7 zq7).trans ((zAs _ _ _ aS).trans (heap_alloc_last w _));have HCH:Hid _:=hc;have q0:w1.cell? ⟨w.heap.size,0,none⟩=some (.int .i64 0):=yO HB8.out 0;have q1:w1.cell? ⟨w.heap.size,1,none⟩=some (.int .u32 0):=yO HB8.out 1;have fr:=zCz HB8.out;have l8:=zA3 HB8.out;clear hp hc)
 exact bodyPost_ret (v:=.agg #[.int .i64 kk,.int .u32 aa]) (by simp[results,Tryz.results83,go_sem,q0,q1,fr,l8]) rfl ⟨rfl,HPM.out.of_block ((Below.heap_setCell _ _ _ X (Nat.ne_of_lt HX.out)).trans (Below.heap_setCell _ _ _ X (Nat.ne_of_lt HX.out))),zI.new (zI.trans (zI.of_below [X] (((Below.refl w.heap.size w).alloc aL _).alloc aS _)) HCH.out) aL (((zAA.refl _ w1).setCell 0 _).setCell 1 _)⟩
theorem zPQ(X:Nat)(a v:Nat)(s:MS)(w:World)(o:Option Nat)(ha:a < 4294967296)(hv:v < 4294967296)(hs:s.Ok)(h:PM w X s)(ho:sto s a 4=o) :
  Calls Tryz.prog 83 #[.pointer (some ⟨X,0,none⟩),.int .i64 2,.int .u32 a,.int .u32 v] w fun e w'=>e=.returned (.agg #[.int .i64 (vS 6 o),.int .u32 (stA o)])∧PM w' X (storeT s a 4 v)∧zI [X] w w':=by
 have HC:Hid (∀ W,Below w.heap.size w W→Calls Tryz.prog 100 #[.pointer (some ⟨X,0,none⟩),.int .u32 a,.int .i64 4,.int .u32 v] W fun e w'=>e=.returned (.agg #[.int .i64 (vS 6 o),.int .u32 (stA o)])∧PM w' X (storeT s a 4 v)∧zI [X] W w'):=show ∀ W,_ from fun W hW=>by
  have:=zCt X a v 4 s W ha hv hs (h.below hW h.lt)
  rw[ho] at this
  exact this
 have HX:Hid (X < w.heap.size):=h.lt
 clear ho h hs
 generalize vS 6 o=kk at *
 generalize stA o=aa at *
 go_enter Tryz.func83,Tryz.ntmps83
 go_wp2_with (go_at_call 100;refine(HC.out _ ?_).mono ?_;(exact zq1);rintro e w1 ⟨rfl,hp,hc⟩;have HPM:Hid _:=hp;have hXl:=HX.out;have HB8:Hid (w1.heap[w.heap.size]?=some (.cells #[.int .i64 0,.int .u32 0] 35)):=(hc.block _ zq7 zq7).trans ((zAs _ _ _ aS).trans (heap_alloc_last w _));have HCH:Hid _:=hc;have q0:w1.cell? ⟨w.heap.size,0,none⟩=some (.int .i64 0):=yO HB8.out 0;have q1:w1.cell? ⟨w.heap.size,1,none⟩=some (.int .u32 0):=yO HB8.out 1;have fr:=zCz HB8.out;have l8:=zA3 HB8.out;clear hp hc)
 exact bodyPost_ret (v:=.agg #[.int .i64 kk,.int .u32 aa]) (by simp[results,Tryz.results83,go_sem,q0,q1,fr,l8]) rfl ⟨rfl,HPM.out.of_block ((Below.heap_setCell _ _ _ X (Nat.ne_of_lt HX.out)).trans (Below.heap_setCell _ _ _ X (Nat.ne_of_lt HX.out))),zI.new (zI.trans (zI.of_below [X] (((Below.refl w.heap.size w).alloc aL _).alloc aS _)) HCH.out) aL (((zAA.refl _ w1).setCell 0 _).setCell 1 _)⟩
end Go.Proofs.YthcpipfmicbnmaaGreat.Va
