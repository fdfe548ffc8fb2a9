import Derived.Test.YtfokgedjocnnmaaGreatJ09
set_option linter.unusedVariables false
set_option linter.unusedSimpArgs false
set_option maxHeartbeats 2000000
namespace Go.Proofs.YtfokgedjocnnmaaGreat.Gu
open Go.RowKit
set_option maxRecDepth 100000 in
theorem read_303(b off len cap:Nat)(y0 y1 y2 y3 y4:Int)(w:World)(hblt:b < w.heap.size)(hl:(5:Int)≤len)(hl2:(len:Int)≤9223372036854775807)(op first count:Int)
  (o0:0≤op) (o1:op≤255) (f0:0≤first) (f1:first≤255)
  (c0:w.cell? ⟨b,off+0,none⟩=some (.int .u8 y0)) (c1:w.cell? ⟨b,off+1,none⟩=some (.int .u8 y1)) (c2:w.cell? ⟨b,off+2,none⟩=some (.int .u8 y2)) (c3:w.cell? ⟨b,off+3,none⟩=some (.int .u8 y3)) (c4:w.cell? ⟨b,off+4,none⟩=some (.int .u8 y4))
  (a0:0≤y0) (b0:y0≤255) (a1:0≤y1) (b1:y1≤255) (a2:0≤y2) (b2:y2≤255) (a3:0≤y3) (b3:y3≤255) (a4:0≤y4) (b4:y4≤255) :
  Calls Tryz.prog 71 #[.agg #[.int .u8 op,.int .u8 first,.int .u8 count,.int .u8 3,.int .u8 0,.int .u8 3],.slice (some ⟨b,off,none⟩) len cap] w
   fun e w'=>e=.returned (.agg #[.int .i64 op,.int .i64 (y0 - first),.int .i64 (0),.int .i64 (0),.int .u32 (y1+y2*256+y3*65536+y4*16777216)])∧Below w.heap.size w w':=by
 go_enter Tryz.func71,Tryz.ntmps71
 go_wp2
 generalize hW:((((w.alloc _).alloc _).alloc _).alloc _).alloc _=W
 obtain⟨k0,k1,k2,k3,k4,hB⟩:=read_world hW
 have hWs:w.heap.size+4 < W.heap.size:=by rw[← hW];simp
 clear hW
 obtain⟨x0,x1,x2,x3,x4⟩:=ins_cells k3
 obtain⟨xz0,xz1,xz2,xz3,xz4⟩:=ins_frozen k3
 obtain⟨t0,t1,t2,t3,t4⟩:=ins_cells k2
 obtain⟨tz0,tz1,tz2,tz3,tz4⟩:=ins_frozen k2
 have g0:=cell_of_row _ _ 0 _ _ _ k0
 have g1:=cell_of_row _ _ 1 _ _ _ k0
 have g2:=cell_of_row _ _ 2 _ _ _ k0
 have g3:=cell_of_row _ _ 3 _ _ _ k0
 have g4:=cell_of_row _ _ 4 _ _ _ k0
 have g5:=cell_of_row _ _ 5 _ _ _ k0
 have s0:=cell_of_row _ _ 0 _ _ _ k1
 have p0:=cell_of_row _ _ 0 _ _ _ k4
 have pz:=frozen_of_row _ _ 0 _ _ k4
 simp at g0 g1 g2 g3 g4 g5 s0 p0
 have d0:=(hB.cell (p:=⟨b,off+0,none⟩) hblt).trans c0
 have d1:=(hB.cell (p:=⟨b,off+1,none⟩) hblt).trans c1
 have d2:=(hB.cell (p:=⟨b,off+2,none⟩) hblt).trans c2
 have d3:=(hB.cell (p:=⟨b,off+3,none⟩) hblt).trans c3
 have d4:=(hB.cell (p:=⟨b,off+4,none⟩) hblt).trans c4
 have n1:¬b=w.heap.size+1+1+1:=zo
 have n2:¬b=w.heap.size+1+1+1+1:=zo
 clear k0 k1 k2 k3 k4 c0 c1 c2 c3 c4
 go_region_held3 (fun w'=>w'.cell? ⟨w.heap.size,1,none⟩=some (.int .u8 first)) (simp[go_sem,g1])
  (first|(go_at_call 102;refine(next_any _ _ b off len cap 0 y0 _ zq30 zq31 zq32 zo hl2 zq23 a0 b0).mono ?_;rintro e w' ⟨rfl,rfl⟩))
 go_wp2_with (fail)
 go_loopw [9] (fun sh wr=>∃ q:Nat,q≤4∧sh=.int .i64 ((8*q:Nat):Int)∧Two (w.heap.size+1+1+1) (w.heap.size+1+1+1+1) W wr∧wr.cell? ⟨w.heap.size+1+1+1,0,none⟩=some (.int .i64 op)∧wr.cell? ⟨w.heap.size+1+1+1,1,none⟩=some (.int .i64 (y0 - first))∧wr.cell? ⟨w.heap.size+1+1+1,2,none⟩=some (.int .i64 (0))∧wr.cell? ⟨w.heap.size+1+1+1,3,none⟩=some (.int .i64 (0))∧wr.cell? ⟨w.heap.size+1+1+1,4,none⟩=some (.int .u32 (four y1 y2 y3 y4 q))∧wr.cell? ⟨w.heap.size+1+1+1+1,0,none⟩=some (.int .i64 ((1+q:Nat):Int))) (fun sh _=>32 - (intOf sh).toNat)
 case atStart=>
  refine⟨0,by omega,rfl,?_,by simp[go_sem,x0],by simp[go_sem,x1],by simp[go_sem,x2],by simp[go_sem,x3],by simp[go_sem,x4,four],by simp[go_sem,p0]⟩
  repeat(first|with_reducible exact Two.refl _ _ _|with_reducible refine Two.drew ?_|with_reducible refine Two.setX ?_ _ _|with_reducible refine Two.setA ?_ _ _)
 case round=>
  obtain⟨q,hq,rfl,htwo,v0,v1,v2,v3,v4,vp⟩:=hrel
  have u0:=(htwo.frozen ⟨w.heap.size+1+1+1,4,none⟩).trans xz4
  have u1:=(htwo.frozen ⟨w.heap.size+1+1+1+1,0,none⟩).trans pz
  have hbr:Below w.heap.size w wr:=hB.trans (htwo.below zo zo)
  have s0':=(htwo.cell (b:=w.heap.size+1) (o:=0) zo zo).trans s0
  have e1:=(htwo.cell (b:=b) (o:=off+1) zo zo).trans d1
  have e2:=(htwo.cell (b:=b) (o:=off+2) zo zo).trans d2
  have e3:=(htwo.cell (b:=b) (o:=off+3) zo zo).trans d3
  have e4:=(htwo.cell (b:=b) (o:=off+4) zo zo).trans d4
  have t0':=(htwo.cell (b:=w.heap.size+1+1) (o:=0) zo zo).trans t0
  have t1':=(htwo.cell (b:=w.heap.size+1+1) (o:=1) zo zo).trans t1
  have t2':=(htwo.cell (b:=w.heap.size+1+1) (o:=2) zo zo).trans t2
  have t3':=(htwo.cell (b:=w.heap.size+1+1) (o:=3) zo zo).trans t3
  have t4':=(htwo.cell (b:=w.heap.size+1+1) (o:=4) zo zo).trans t4
  have tz0':=(htwo.frozen ⟨w.heap.size+1+1,0,none⟩).trans tz0
  have tz1':=(htwo.frozen ⟨w.heap.size+1+1,1,none⟩).trans tz1
  have tz2':=(htwo.frozen ⟨w.heap.size+1+1,2,none⟩).trans tz2
  have tz3':=(htwo.frozen ⟨w.heap.size+1+1,3,none⟩).trans tz3
  have tz4':=(htwo.frozen ⟨w.heap.size+1+1,4,none⟩).trans tz4
  clear x0 x1 x2 x3 x4 xz0 xz1 xz2 xz3 xz4 t0 t1 t2 t3 t4 tz0 tz1 tz2 tz3 tz4 g0 g1 g2 g3 g4 g5 s0 p0 pz d0 d1 d2 d3 d4
  rcases(by omega:q=0∨q=1∨q=2∨q=3∨q=4) with rfl|rfl|rfl|rfl|rfl
  ·simp only[four] at v4
   go_wp2_with fail
   go_region_with (go_at_call 102;refine(next_any _ _ b off len cap 1 y1 _ ?_ ?_ ?_ ?_ hl2 ?_ a1 b1).mono ?_;(focus(simp[go_sem,s0'];done));(focus(simp[go_sem,vp];done));(focus(simp[go_sem,u1];done));(focus omega);(focus(simp[go_sem,e1];done));rintro e w' ⟨rfl,rfl⟩)
   all_goals
    go_wp2_with fail
    go_roundw
    case rel=>exact⟨1,by omega,by rfl,by(repeat(first|with_reducible exact htwo|with_reducible refine Two.drew ?_|with_reducible refine Two.setX ?_ _ _|with_reducible refine Two.setA ?_ _ _)),by simp[go_sem,v0],by simp[go_sem,v1],by simp[go_sem,v2],by simp[go_sem,v3],by simp[go_sem,v4];exact four_0 a1 b1 a2 b2 a3 b3 a4 b4,by simp[go_sem,vp]⟩
    case measure=>simp[intOf]
  ·simp only[four] at v4
   go_wp2_with fail
   go_region_with (go_at_call 102;refine(next_any _ _ b off len cap 2 y2 _ ?_ ?_ ?_ ?_ hl2 ?_ a2 b2).mono ?_;(focus(simp[go_sem,s0'];done));(focus(simp[go_sem,vp];done));(focus(simp[go_sem,u1];done));(focus omega);(focus(simp[go_sem,e2];done));rintro e w' ⟨rfl,rfl⟩)
   all_goals
    go_wp2_with fail
    go_roundw
    case rel=>exact⟨2,by omega,by rfl,by(repeat(first|with_reducible exact htwo|with_reducible refine Two.drew ?_|with_reducible refine Two.setX ?_ _ _|with_reducible refine Two.setA ?_ _ _)),by simp[go_sem,v0],by simp[go_sem,v1],by simp[go_sem,v2],by simp[go_sem,v3],by simp[go_sem,v4];exact four_1 a1 b1 a2 b2 a3 b3 a4 b4,by simp[go_sem,vp]⟩
    case measure=>simp[intOf]
  ·simp only[four] at v4
   go_wp2_with fail
   go_region_with (go_at_call 102;refine(next_any _ _ b off len cap 3 y3 _ ?_ ?_ ?_ ?_ hl2 ?_ a3 b3).mono ?_;(focus(simp[go_sem,s0'];done));(focus(simp[go_sem,vp];done));(focus(simp[go_sem,u1];done));(focus omega);(focus(simp[go_sem,e3];done));rintro e w' ⟨rfl,rfl⟩)
   all_goals
    go_wp2_with fail
    go_roundw
    case rel=>exact⟨3,by omega,by rfl,by(repeat(first|with_reducible exact htwo|with_reducible refine Two.drew ?_|with_reducible refine Two.setX ?_ _ _|with_reducible refine Two.setA ?_ _ _)),by simp[go_sem,v0],by simp[go_sem,v1],by simp[go_sem,v2],by simp[go_sem,v3],by simp[go_sem,v4];exact four_2 a1 b1 a2 b2 a3 b3 a4 b4,by simp[go_sem,vp]⟩
    case measure=>simp[intOf]
  ·simp only[four] at v4
   go_wp2_with fail
   go_region_with (go_at_call 102;refine(next_any _ _ b off len cap 4 y4 _ ?_ ?_ ?_ ?_ hl2 ?_ a4 b4).mono ?_;(focus(simp[go_sem,s0'];done));(focus(simp[go_sem,vp];done));(focus(simp[go_sem,u1];done));(focus omega);(focus(simp[go_sem,e4];done));rintro e w' ⟨rfl,rfl⟩)
   all_goals
    go_wp2_with fail
    go_roundw
    case rel=>exact⟨4,by omega,by rfl,by(repeat(first|with_reducible exact htwo|with_reducible refine Two.drew ?_|with_reducible refine Two.setX ?_ _ _|with_reducible refine Two.setA ?_ _ _)),by simp[go_sem,v0],by simp[go_sem,v1],by simp[go_sem,v2],by simp[go_sem,v3],by simp[go_sem,v4];exact four_3 a1 b1 a2 b2 a3 b3 a4 b4,by simp[go_sem,vp]⟩
    case measure=>simp[intOf]
  ·simp only[four] at v4
   go_wp2_with fail
   refine bodyPost_ret (v:=.agg #[.int .i64 op,.int .i64 (y0 - first),.int .i64 (0),.int .i64 (0),.int .u32 (y1+y2*256+y3*65536+y4*16777216)]) zq40 rfl ⟨rfl,?_⟩
   repeat(first|with_reducible exact hbr|with_reducible refine Below.drew ?_|with_reducible refine Below.setCell ?_ zq28 _)
set_option maxRecDepth 100000 in
theorem read_010(b off len cap:Nat)(y0 y1:Int)(w:World)(hblt:b < w.heap.size)(hl:(2:Int)≤len)(hl2:(len:Int)≤9223372036854775807)(op first count:Int)
  (o0:0≤op) (o1:op≤255) (f0:0≤first) (f1:first≤255)
  (c0:w.cell? ⟨b,off+0,none⟩=some (.int .u8 y0)) (c1:w.cell? ⟨b,off+1,none⟩=some (.int .u8 y1))
  (a0:0≤y0) (b0:y0≤255) (a1:0≤y1) (b1:y1≤255) :
  Calls Tryz.prog 71 #[.agg #[.int .u8 op,.int .u8 first,.int .u8 count,.int .u8 0,.int .u8 1,.int .u8 0],.slice (some ⟨b,off,none⟩) len cap] w
   fun e w'=>e=.returned (.agg #[.int .i64 op,.int .i64 (0),.int .i64 (y1),.int .i64 (0),.int .u32 (0)])∧Below w.heap.size w w':=by
 go_enter Tryz.func71,Tryz.ntmps71
 go_wp2
 generalize hW:((((w.alloc _).alloc _).alloc _).alloc _).alloc _=W
 obtain⟨k0,k1,k2,k3,k4,hB⟩:=read_world hW
 have hWs:w.heap.size+4 < W.heap.size:=by rw[← hW];simp
 clear hW
 obtain⟨x0,x1,x2,x3,x4⟩:=ins_cells k3
 obtain⟨xz0,xz1,xz2,xz3,xz4⟩:=ins_frozen k3
 obtain⟨t0,t1,t2,t3,t4⟩:=ins_cells k2
 obtain⟨tz0,tz1,tz2,tz3,tz4⟩:=ins_frozen k2
 have g0:=cell_of_row _ _ 0 _ _ _ k0
 have g1:=cell_of_row _ _ 1 _ _ _ k0
 have g2:=cell_of_row _ _ 2 _ _ _ k0
 have g3:=cell_of_row _ _ 3 _ _ _ k0
 have g4:=cell_of_row _ _ 4 _ _ _ k0
 have g5:=cell_of_row _ _ 5 _ _ _ k0
 have s0:=cell_of_row _ _ 0 _ _ _ k1
 have p0:=cell_of_row _ _ 0 _ _ _ k4
 have pz:=frozen_of_row _ _ 0 _ _ k4
 simp at g0 g1 g2 g3 g4 g5 s0 p0
 have d0:=(hB.cell (p:=⟨b,off+0,none⟩) hblt).trans c0
 have d1:=(hB.cell (p:=⟨b,off+1,none⟩) hblt).trans c1
 have n1:¬b=w.heap.size+1+1+1:=zo
 have n2:¬b=w.heap.size+1+1+1+1:=zo
 clear k0 k1 k2 k3 k4 c0 c1
 go_region_held3 (fun w'=>w'.cell? ⟨w.heap.size,1,none⟩=some (.int .u8 first)) (simp[go_sem,g1])
  (first|(go_at_call 102;refine(next_any _ _ b off len cap 0 y0 _ zq30 zq31 zq32 zo hl2 zq23 a0 b0).mono ?_;rintro e w' ⟨rfl,rfl⟩))
 go_wp2_with (first|(go_at_call 102;refine(next_any _ _ b off len cap 1 y1 _ ?_ ?_ ?_ ?_ hl2 ?_ a1 b1).mono ?_;(focus(simp[go_sem,s0];done));(focus(simp[go_sem,p0];done));(focus(simp[go_sem,pz];done));(focus omega);(focus(simp[go_sem,d1];done));rintro e w' ⟨rfl,rfl⟩))
 refine bodyPost_ret (v:=.agg #[.int .i64 op,.int .i64 (0),.int .i64 (y1),.int .i64 (0),.int .u32 (0)]) zq14 rfl ⟨rfl,?_⟩
 repeat(first|with_reducible exact hB|with_reducible refine Below.drew ?_|with_reducible refine Below.setCell ?_ zq28 _)
set_option maxRecDepth 100000 in
theorem read_042(b off len cap:Nat)(y0 y1 y2:Int)(w:World)(hblt:b < w.heap.size)(hl:(3:Int)≤len)(hl2:(len:Int)≤9223372036854775807)(op first count:Int)
  (o0:0≤op) (o1:op≤255) (f0:0≤first) (f1:first≤255)
  (c0:w.cell? ⟨b,off+0,none⟩=some (.int .u8 y0)) (c1:w.cell? ⟨b,off+1,none⟩=some (.int .u8 y1)) (c2:w.cell? ⟨b,off+2,none⟩=some (.int .u8 y2))
  (a0:0≤y0) (b0:y0≤255) (a1:0≤y1) (b1:y1≤255) (a2:0≤y2) (b2:y2≤255) :
  Calls Tryz.prog 71 #[.agg #[.int .u8 op,.int .u8 first,.int .u8 count,.int .u8 0,.int .u8 4,.int .u8 2],.slice (some ⟨b,off,none⟩) len cap] w
   fun e w'=>e=.returned (.agg #[.int .i64 op,.int .i64 (y1 / 16),.int .i64 (y1%16),.int .i64 (0),.int .u32 (sx y2)])∧Below w.heap.size w w':=by
 go_enter Tryz.func71,Tryz.ntmps71
 go_wp2
 generalize hW:((((w.alloc _).alloc _).alloc _).alloc _).alloc _=W
 obtain⟨k0,k1,k2,k3,k4,hB⟩:=read_world hW
 have hWs:w.heap.size+4 < W.heap.size:=by rw[← hW];simp
 clear hW
 obtain⟨x0,x1,x2,x3,x4⟩:=ins_cells k3
 obtain⟨xz0,xz1,xz2,xz3,xz4⟩:=ins_frozen k3
 obtain⟨t0,t1,t2,t3,t4⟩:=ins_cells k2
 obtain⟨tz0,tz1,tz2,tz3,tz4⟩:=ins_frozen k2
 have g0:=cell_of_row _ _ 0 _ _ _ k0
 have g1:=cell_of_row _ _ 1 _ _ _ k0
 have g2:=cell_of_row _ _ 2 _ _ _ k0
 have g3:=cell_of_row _ _ 3 _ _ _ k0
 have g4:=cell_of_row _ _ 4 _ _ _ k0
 have g5:=cell_of_row _ _ 5 _ _ _ k0
 have s0:=cell_of_row _ _ 0 _ _ _ k1
 have p0:=cell_of_row _ _ 0 _ _ _ k4
 have pz:=frozen_of_row _ _ 0 _ _ k4
 simp at g0 g1 g2 g3 g4 g5 s0 p0
 have d0:=(hB.cell (p:=⟨b,off+0,none⟩) hblt).trans c0
 have d1:=(hB.cell (p:=⟨b,off+1,none⟩) hblt).trans c1
 have d2:=(hB.cell (p:=⟨b,off+2,none⟩) hblt).trans c2
 have n1:¬b=w.heap.size+1+1+1:=zo
 have n2:¬b=w.heap.size+1+1+1+1:=zo
 clear k0 k1 k2 k3 k4 c0 c1 c2
 go_region_held3 (fun w'=>w'.cell? ⟨w.heap.size,1,none⟩=some (.int .u8 first)) (simp[go_sem,g1])
  (first|(go_at_call 102;refine(next_any _ _ b off len cap 0 y0 _ zq30 zq31 zq32 zo hl2 zq23 a0 b0).mono ?_;rintro e w' ⟨rfl,rfl⟩))
 go_wp2_with (first|(go_at_call 102;refine(next_any _ _ b off len cap 1 y1 _ ?_ ?_ ?_ ?_ hl2 ?_ a1 b1).mono ?_;(focus(simp[go_sem,s0];done));(focus(simp[go_sem,p0];done));(focus(simp[go_sem,pz];done));(focus omega);(focus(simp[go_sem,d1];done));rintro e w' ⟨rfl,rfl⟩)|(go_at_call 102;refine(next_any _ _ b off len cap 2 y2 _ ?_ ?_ ?_ ?_ hl2 ?_ a2 b2).mono ?_;(focus(simp[go_sem,s0];done));(focus(simp[go_sem,p0];done));(focus(simp[go_sem,pz];done));(focus omega);(focus(simp[go_sem,d2];done));rintro e w' ⟨rfl,rfl⟩)|(go_at_call 103;refine(halves_any _ _ a1 b1).mono ?_;rintro e w' ⟨rfl,rfl⟩))
 rw[i8_sx y2 a2 b2]
 refine bodyPost_ret (v:=.agg #[.int .i64 op,.int .i64 (y1 / 16),.int .i64 (y1%16),.int .i64 (0),.int .u32 (sx y2)]) zq14 rfl ⟨rfl,?_⟩
 repeat(first|with_reducible exact hB|with_reducible refine Below.drew ?_|with_reducible refine Below.setCell ?_ zq28 _)
set_option maxRecDepth 100000 in
theorem read_142(b off len cap:Nat)(y0 y1 y2:Int)(w:World)(hblt:b < w.heap.size)(hl:(3:Int)≤len)(hl2:(len:Int)≤9223372036854775807)(op first count:Int)
  (o0:0≤op) (o1:op≤255) (f0:0≤first) (f1:first≤255)
  (c0:w.cell? ⟨b,off+0,none⟩=some (.int .u8 y0)) (c1:w.cell? ⟨b,off+1,none⟩=some (.int .u8 y1)) (c2:w.cell? ⟨b,off+2,none⟩=some (.int .u8 y2))
  (a0:0≤y0) (b0:y0≤255) (a1:0≤y1) (b1:y1≤255) (a2:0≤y2) (b2:y2≤255) :
  Calls Tryz.prog 71 #[.agg #[.int .u8 op,.int .u8 first,.int .u8 count,.int .u8 1,.int .u8 4,.int .u8 2],.slice (some ⟨b,off,none⟩) len cap] w
   fun e w'=>e=.returned (.agg #[.int .i64 op,.int .i64 (y1 / 16),.int .i64 (y1%16),.int .i64 (y0 - first),.int .u32 (sx y2)])∧Below w.heap.size w w':=by
 go_enter Tryz.func71,Tryz.ntmps71
 go_wp2
 generalize hW:((((w.alloc _).alloc _).alloc _).alloc _).alloc _=W
 obtain⟨k0,k1,k2,k3,k4,hB⟩:=read_world hW
 have hWs:w.heap.size+4 < W.heap.size:=by rw[← hW];simp
 clear hW
 obtain⟨x0,x1,x2,x3,x4⟩:=ins_cells k3
 obtain⟨xz0,xz1,xz2,xz3,xz4⟩:=ins_frozen k3
 obtain⟨t0,t1,t2,t3,t4⟩:=ins_cells k2
 obtain⟨tz0,tz1,tz2,tz3,tz4⟩:=ins_frozen k2
 have g0:=cell_of_row _ _ 0 _ _ _ k0
 have g1:=cell_of_row _ _ 1 _ _ _ k0
 have g2:=cell_of_row _ _ 2 _ _ _ k0
 have g3:=cell_of_row _ _ 3 _ _ _ k0
 have g4:=cell_of_row _ _ 4 _ _ _ k0
 have g5:=cell_of_row _ _ 5 _ _ _ k0
 have s0:=cell_of_row _ _ 0 _ _ _ k1
 have p0:=cell_of_row _ _ 0 _ _ _ k4
 have pz:=frozen_of_row _ _ 0 _ _ k4
 simp at g0 g1 g2 g3 g4 g5 s0 p0
 have d0:=(hB.cell (p:=⟨b,off+0,none⟩) hblt).trans c0
 have d1:=(hB.cell (p:=⟨b,off+1,none⟩) hblt).trans c1
 have d2:=(hB.cell (p:=⟨b,off+2,none⟩) hblt).trans c2
 have n1:¬b=w.heap.size+1+1+1:=zo
 have n2:¬b=w.heap.size+1+1+1+1:=zo
 clear k0 k1 k2 k3 k4 c0 c1 c2
 go_region_held3 (fun w'=>w'.cell? ⟨w.heap.size,1,none⟩=some (.int .u8 first)) (simp[go_sem,g1])
  (first|(go_at_call 102;refine(next_any _ _ b off len cap 0 y0 _ zq30 zq31 zq32 zo hl2 zq23 a0 b0).mono ?_;rintro e w' ⟨rfl,rfl⟩))
 go_wp2_with (first|(go_at_call 102;refine(next_any _ _ b off len cap 1 y1 _ ?_ ?_ ?_ ?_ hl2 ?_ a1 b1).mono ?_;(focus(simp[go_sem,s0];done));(focus(simp[go_sem,p0];done));(focus(simp[go_sem,pz];done));(focus omega);(focus(simp[go_sem,d1];done));rintro e w' ⟨rfl,rfl⟩)|(go_at_call 102;refine(next_any _ _ b off len cap 2 y2 _ ?_ ?_ ?_ ?_ hl2 ?_ a2 b2).mono ?_;(focus(simp[go_sem,s0];done));(focus(simp[go_sem,p0];done));(focus(simp[go_sem,pz];done));(focus omega);(focus(simp[go_sem,d2];done));rintro e w' ⟨rfl,rfl⟩)|(go_at_call 103;refine(halves_any _ _ a1 b1).mono ?_;rintro e w' ⟨rfl,rfl⟩))
 rw[i8_sx y2 a2 b2]
 refine bodyPost_ret (v:=.agg #[.int .i64 op,.int .i64 (y1 / 16),.int .i64 (y1%16),.int .i64 (y0 - first),.int .u32 (sx y2)]) zq14 rfl ⟨rfl,?_⟩
 repeat(first|with_reducible exact hB|with_reducible refine Below.drew ?_|with_reducible refine Below.setCell ?_ zq28 _)
end Go.Proofs.YtfokgedjocnnmaaGreat.Gu
