import Derived.Test.YtfokgedjocnnmaaGreatJ09
set_option linter.unusedVariables false
set_option linter.unusedSimpArgs false
set_option maxHeartbeats 2000000
namespace Go.Proofs.YtfokgedjocnnmaaGreat.Gu
open Go.RowKit
set_option maxRecDepth 100000 in
theorem redec_ok(b off len cap:Nat)(zs:List Int)(w:World)(hr:Row w b off len cap zs)(hl:0 < len)(k:Nat)(hk:hitF (zs.getD 0 0)=some k)(hn:1+szL (formB k)≤len) :
  Calls Tryz.prog 59 #[.slice (some ⟨b,off,none⟩) len cap] w fun e w'=>e=.returned (decV (refDec zs len))∧Below w.heap.size w w':=by
 have hc0:w.cell? ⟨b,off,none⟩=some (.int .u8 (zs.getD 0 0)):=by simpa using hr.cell 0 hl
 have hres:refDec zs len=if 7 < (stF zs k).D∨7 < (stF zs k).S then decErr 3 else⟨k,(stF zs k).D,(stF zs k).S,(stF zs k).O,(stF zs k).imm,1+szL (formB k),0⟩:=by
  unfold refDec
  rw[if_neg zo,hk]
  simp only
  rw[if_neg zo]
 have HRES:Hid (refDec zs len=if 7 < (stF zs k).D∨7 < (stF zs k).S then decErr 3 else⟨k,(stF zs k).D,(stF zs k).S,(stF zs k).O,(stF zs k).imm,1+szL (formB k),0⟩):=hres
 clear hres
 obtain⟨y0,y1⟩:=hr.bd 0
 have hmax:=hr.max
 have hle:=hr.le
 have hblt:=hr.lt
 unfold maxLen at hmax
 have hlt:=hitF_lt hk
 have hop:opF (zs.getD 0 0)=(k:Int):=by simp only[opF,hk]
 have hsz:sizeF (zs.getD 0 0)=1+szL (formB k):=by simp only[sizeF,hk]
 have hge:(0:Int)≤(k:Int):=zo
 have hl32:(k:Int) < 32:=zo
 have hneg:decide ((k:Int) < 0)=false:=by simp
 have hne:((len:Int)==0)=false:=by simp;omega
 have hpos:(0:Int) < (len:Int):=zo
 have hlen:=formB_len ⟨k,hlt⟩
 simp only at hlen
 obtain⟨e0,e1,e2,e3⟩:=form_ok k hlt
 obtain⟨f0,f1,-,-⟩:=form_bd ⟨k,hlt⟩
 simp only at f0 f1
 have hshort:decide ((len:Int) < 1+szL (formB k))=false:=by simp;omega
 clear hk
 obtain⟨D0,S0,O0,H0⟩:∃ D0 S0 O0,(formS k 2=⟨#[]⟩∧D0=0∧S0=0∧O0=0∨formS k 2=⟨#[68]⟩∧D0=zs.getD 0 0 - formI k 0∧S0=0∧O0=0∨formS k 2=⟨#[83]⟩∧D0=0∧S0=zs.getD 0 0 - formI k 0∧O0=0∨formS k 2=⟨#[79]⟩∧D0=0∧S0=0∧O0=zs.getD 0 0 - formI k 0)∧stJ zs k 0=⟨1,D0,S0,O0,0⟩:=by
  have hIn:=formS2 ⟨k,hlt⟩
  simp only at hIn
  rcases hIn with h|h|h|h
  ·exact⟨0,0,0,.inl ⟨h,rfl,rfl,rfl⟩,st0_n _ h⟩
  ·exact⟨zs.getD 0 0 - formI k 0,0,0,.inr (.inl ⟨h,rfl,rfl,rfl⟩),st0_D _ h⟩
  ·exact⟨0,zs.getD 0 0 - formI k 0,0,.inr (.inr (.inl ⟨h,rfl,rfl,rfl⟩)),st0_S _ h⟩
  ·exact⟨0,0,zs.getD 0 0 - formI k 0,.inr (.inr (.inr ⟨h,rfl,rfl,rfl⟩)),st0_O _ h⟩
 obtain⟨hIn,hJ0⟩:=H0
 have HJ0:Hid (stJ zs k 0=⟨1,D0,S0,O0,0⟩):=hJ0
 clear hJ0
 generalize zs.getD 0 0=y at hIn hsz hop hc0 y0 y1
 rcases hIn with ⟨hIn,rfl,rfl,rfl⟩|⟨hIn,rfl,rfl,rfl⟩|⟨hIn,rfl,rfl,rfl⟩|⟨hIn,rfl,rfl,rfl⟩
 all_goals
  rw[hIn] at e2
  go_enter Tryz.func59,Tryz.ntmps59
  go_wp2_with (first|(go_at_call 83;refine(refind_any _ _ y0 y1).mono ?_;rintro e w1 ⟨rfl,hb1⟩;rw[hop];obtain⟨hc1,hf1⟩:=bcell hb1;have hz1:=hb1.size;simp only[World.size_alloc] at hc1 hf1 hz1)|(go_at_call 58;refine(resize_any _ _ y0 y1).mono ?_;rintro e w2 ⟨rfl,hb2⟩;rw[hsz];obtain⟨hc2,hf2⟩:=bcell hb2;have hz2:=hb2.size)|(go_at_call 84;refine(forms_any _).mono ?_;rintro e w3 ⟨rfl,rfl⟩;have d0:=(cell_of_row _ _ (k*4+0) _ 126 (0,0) (heap_alloc_last w2 (.cells formCells 126))).trans (form_at k 0 _ e0);have d1:=(cell_of_row _ _ (k*4+1) _ 126 (0,0) (heap_alloc_last w2 (.cells formCells 126))).trans (form_at k 1 _ e1);have d2:=(cell_of_row _ _ (k*4+2) _ 126 (0,0) (heap_alloc_last w2 (.cells formCells 126))).trans (form_at k 2 _ e2);have d3:=(cell_of_row _ _ (k*4+3) _ 126 (0,0) (heap_alloc_last w2 (.cells formCells 126))).trans (form_at k 3 _ e3);simp only[Nat.add_zero] at d0))
  have hb12:Below w.heap.size w w2:=((((Below.refl _ _).alloc (Nat.le_refl _) _).trans (hb1.mono (by simp))).trans (hb2.mono zo))
  have q0:w2.cell? ⟨b,off,none⟩=some (.int .u8 y):=(hb12.cell (p:=⟨b,off,none⟩) hblt).trans hc0
  have hW0:∀ o1 o2 o3,(((w2.alloc o1).alloc o2).alloc o3).cell? ⟨b,off,none⟩=some (.int .u8 y):=fun o1 o2 o3=>by
   rw[World.cell?_alloc_past _ _ _ zq12,World.cell?_alloc_past _ _ _ zq12,World.cell?_alloc_past _ _ _ (by show b < w2.heap.size;omega)];exact q0
  go_region
  go_wp2_with (refine wpList_bytes rfl 9 47 5 _ rfl (formS k 3) (by rfl) Tryz.underlying9 Tryz.underlying47 Tryz.underlying5 (w2.heap.size+3) (by simp) ?_;intro cap4 w4 hb4 hz4 hc4;rw[show strL (formS k 3)=formB k from rfl] at hc4 ⊢)
  obtain⟨hX4,hR4,hB4,hzz⟩:=digest hb1 hb2 hb4
  clear hb1 hc1 hf1 hz1 hb2 hc2 hf2 hz2 d0 d1 d2 d3 hb12 q0 hW0 hb4 e0 e1 e2 e3 hIn hsz hop hc0 hshort hne
  have HC:Hid (∀ j,j < (formB k).length→w4.cell? ⟨w2.heap.size+3,j,none⟩=some (.int .u8 ((formB k).getD j 0))):=hc4
  clear hc4
  go_loopw [10,67] (fun av i wr=>∃ j:Nat,j≤(formB k).length∧i=.int .i64 j∧av=.int .i64 (stJ zs k j).at'∧Only (w2.heap.size+1+1) w4 wr∧wr.heap[w2.heap.size+1+1]?=some (insB k (stJ zs k j).D (stJ zs k j).S (stJ zs k j).O (stJ zs k j).imm)) (fun _ i _=>(formB k).length - (intOf i).toNat)
  case atStart=>exact⟨0,by omega,rfl,by rw[HJ0.out];rfl,Only.refl _ _,by rw[HJ0.out];exact hX4⟩
  case round=>
   obtain⟨j,hj,rfl,rfl,hon,hX⟩:=hrel
   clear hX4 HJ0
   have hRr:wr.heap[w.heap.size]?=some (insB 0 0 0 0 0):=(hon.block _ zo).trans hR4
   have hbw:Below w.heap.size w wr:=hB4.trans (hon.below zo)
   by_cases hjl:j < (formB k).length
   ·have hpos1:=stJ_at zs k j
    have hbd:=szL_take (formB k) (j+1)
    rw[take_next _ _ hjl,szL_snoc] at hbd
    have hch:=formB_ch ⟨k,hlt⟩ ((formB k).getD j 0) (by simp only[List.getD_eq_getElem?_getD,List.getElem?_eq_getElem hjl,Option.getD_some];exact List.getElem_mem hjl)
    have hnx:=stJ_next zs k j hjl
    have cw:wr.cell? ⟨w2.heap.size+3,j,none⟩=some (.int .u8 ((formB k).getD j 0)):=(hon.cell zo).trans (HC.out j hjl)
    generalize (formB k).getD j 0=ch at hbd hch hnx cw
    generalize stJ zs k j=st at hpos1 hX hnx ⊢
    obtain⟨a,D,S,O,im⟩:=st
    simp only at hpos1 hX hnx ⊢
    have hByte:∀ p,p < len→wr.cell? ⟨b,off+p,none⟩=some (.int .u8 (zs.getD p 0)):=fun p hp=>(hbw.cell (p:=⟨b,off+p,none⟩) hblt).trans (hr.cell p hp)
    have ha1:(1:Int)≤a:=by have:=(szL_bd ((formB k).take j)).1;omega
    have ha2:(a:Int)+(if ch=119 then 4 else 1)≤len:=zo
    have ha3:(a:Int) < len:=by split at ha2<;>omega
    have hlz:(len:Int)≤9223372036854775807:=zo
    have hlw:(a:Int)≤9:=by
      have:=(szL_bd ((formB k).take j)).2;have:((formB k).take j).length≤2:=by rw[List.length_take];omega
      omega
    have ya:=hByte a zo
    obtain⟨b0,b1⟩:=hr.bd a
    obtain⟨x0,x1,x2,x3,x4⟩:=ins_cells hX
    obtain⟨z0,z1,z2,z3,z4⟩:=ins_frozen hX
    have HB:Hid (∀ p,p < len→wr.cell? ⟨b,off+p,none⟩=some (.int .u8 (zs.getD p 0))):=hByte
    clear hpos1 hbd hByte HC
    rcases hch with rfl|rfl|rfl|rfl|rfl|rfl|rfl
    ·rw[stp_b] at hnx
     generalize zs.getD a 0=y at ya b0 b1 hnx
     have HNX:Hid (stJ zs k (j+1)=⟨a+1,D,S,O,y⟩):=hnx
     clear hnx
     go_wp2
     go_roundw
     case rel=>exact⟨j+1,by omega,by go_num,by rw[HNX.out];go_num,hon.setCell _ _,by rw[HNX.out];exact ins_set4 hX _⟩
     case measure=>simp[intOf];omega
    ·rw[stp_s] at hnx
     generalize zs.getD a 0=y at ya b0 b1 hnx
     have HNX:Hid (stJ zs k (j+1)=⟨a+1,D,S,O,if 128≤y then y+4294967040 else y⟩):=hnx
     clear hnx
     go_wp2_with (go_at_call 85;refine(byteOf_any y _ b0 b1).mono ?_;rintro e w' ⟨rfl,rfl⟩;generalize (if 128≤y then y+4294967040 else y)=im' at HNX ⊢)
     go_roundw
     case rel=>exact⟨j+1,by omega,by go_num,by rw[HNX.out];go_num,hon.setCell _ _,by rw[HNX.out];exact ins_set4 hX _⟩
     case measure=>simp[intOf];omega
    ·rw[stp_w] at hnx
     have ya1:=HB.out (a+1) zo
     have ya2:=HB.out (a+2) zo
     have ya3:=HB.out (a+3) zo
     obtain⟨b2,b3⟩:=hr.bd (a+1)
     obtain⟨b4,b5⟩:=hr.bd (a+2)
     obtain⟨b6,b7⟩:=hr.bd (a+3)
     generalize zs.getD a 0=y at ya b0 b1 hnx
     generalize zs.getD (a+1) 0=y1' at ya1 b2 b3 hnx
     generalize zs.getD (a+2) 0=y2' at ya2 b4 b5 hnx
     generalize zs.getD (a+3) 0=y3' at ya3 b6 b7 hnx
     have HNX:Hid (stJ zs k (j+1)=⟨a+4,D,S,O,y+y1'*256+y2'*65536+y3'*16777216⟩):=hnx
     have q1:(a:Int)+1 < len:=zo
     have q2:(a:Int)+2 < len:=zo
     have q3:(a:Int)+3 < len:=zo
     clear hnx
     go_wp2
     go_region
     go_wp2
     go_roundw
     case rel=>exact⟨j+1,by omega,by go_num,by rw[HNX.out];go_num,(hon.drew).setCell _ _,by rw[HNX.out];exact ins_set4 (w:=wr.drew) hX _⟩
     case measure=>simp[intOf];omega
    ·rw[stp_d] at hnx
     generalize zs.getD a 0=y at ya b0 b1 hnx
     have HNX:Hid (stJ zs k (j+1)=⟨a+1,y,S,O,im⟩):=hnx
     clear hnx
     go_wp2
     go_roundw
     case rel=>exact⟨j+1,by omega,by go_num,by rw[HNX.out];go_num,hon.setCell _ _,by rw[HNX.out];exact ins_set1 hX _⟩
     case measure=>simp[intOf];omega
    ·rw[stp_e] at hnx
     generalize zs.getD a 0=y at ya b0 b1 hnx
     have HNX:Hid (stJ zs k (j+1)=⟨a+1,D,y,O,im⟩):=hnx
     clear hnx
     go_wp2
     go_roundw
     case rel=>exact⟨j+1,by omega,by go_num,by rw[HNX.out];go_num,hon.setCell _ _,by rw[HNX.out];exact ins_set2 hX _⟩
     case measure=>simp[intOf];omega
    ·rw[stp_p] at hnx
     generalize zs.getD a 0=y at ya b0 b1 hnx
     have HNX:Hid (stJ zs k (j+1)=⟨a+1,y / 16,y%16,O,im⟩):=hnx
     clear hnx
     go_wp2
     go_roundw
     case rel=>exact⟨j+1,by omega,by go_num,by rw[HNX.out];go_num,(hon.setCell _ _).setCell _ _,by rw[HNX.out];exact ins_set2 (ins_set1 hX _) _⟩
     case measure=>simp[intOf];omega
    ·rw[stp_c] at hnx
     generalize zs.getD a 0=y at ya b0 b1 hnx
     have HNX:Hid (stJ zs k (j+1)=⟨a+1,y%16,S,y / 16,im⟩):=hnx
     clear hnx
     go_wp2
     go_roundw
     case rel=>exact⟨j+1,by omega,by go_num,by rw[HNX.out];go_num,(hon.setCell _ _).setCell _ _,by rw[HNX.out];exact ins_set1 (ins_set3 hX _) _⟩
     case measure=>simp[intOf];omega
   ·have hjj:stJ zs k j=stF zs k:=stJ_all zs k j zo
    rw[hjj] at hX
    clear hjj HC
    obtain⟨x0,x1,x2,x3,x4⟩:=ins_cells hX
    obtain⟨r0,r1,r2,r3,r4⟩:=ins_cells hRr
    obtain⟨z0,z1,z2,z3,z4⟩:=ins_frozen hRr
    by_cases hD:7 < (stF zs k).D
    ·go_wp2
     refine bodyPost_ret (v:=decV (decErr 3)) zq37 rfl ⟨by rw[HRES.out,if_pos (Or.inl hD)],?_⟩
     exact((((hbw.setCell (by simp) _).setCell (by simp) _).setCell (by simp) _).setCell (by simp) _).setCell (by simp) _
    ·by_cases hS:7 < (stF zs k).S
     ·go_wp2
      refine bodyPost_ret (v:=decV (decErr 3)) zq37 rfl ⟨by rw[HRES.out,if_pos (Or.inr hS)],?_⟩
      exact((((hbw.setCell (by simp) _).setCell (by simp) _).setCell (by simp) _).setCell (by simp) _).setCell (by simp) _
     ·go_wp2
      refine bodyPost_ret (v:=decV ⟨k,(stF zs k).D,(stF zs k).S,(stF zs k).O,(stF zs k).imm,1+szL (formB k),0⟩) (by simp[results,Tryz.results59,go_sem,r0,r1,r2,r3,r4]) rfl ⟨by rw[HRES.out,if_neg zo],?_⟩
      exact((((hbw.setCell (by simp) _).setCell (by simp) _).setCell (by simp) _).setCell (by simp) _).setCell (by simp) _
set_option maxRecDepth 100000 in
theorem redec_any(b off len cap:Nat)(zs:List Int)(w:World)(hr:Row w b off len cap zs)(hl:0 < len) :
  Calls Tryz.prog 59 #[.slice (some ⟨b,off,none⟩) len cap] w fun e w'=>e=.returned (decV (refDec zs len))∧Below w.heap.size w w':=by
 cases hk:hitF (zs.getD 0 0) with
 | some k=>
  by_cases hn:1+szL (formB k)≤len
  ·exact redec_ok b off len cap zs w hr hl k hk hn
  ·have hres:refDec zs len=decErr 1:=by
    unfold refDec
    rw[if_neg zo,hk]
    simp only
    rw[if_pos zo]
   rw[hres]
   have hc0:w.cell? ⟨b,off,none⟩=some (.int .u8 (zs.getD 0 0)):=by simpa using hr.cell 0 hl
   obtain⟨y0,y1⟩:=hr.bd 0
   have hmax:=hr.max
   have hle:=hr.le
   have hblt:=hr.lt
   unfold maxLen at hmax
   have hlt:=hitF_lt hk
   have hop:opF (zs.getD 0 0)=(k:Int):=by simp only[opF,hk]
   have hsz:sizeF (zs.getD 0 0)=1+szL (formB k):=by simp only[sizeF,hk]
   have hge:(0:Int)≤(k:Int):=zo
   have hneg:decide ((k:Int) < 0)=false:=by simp
   have hne:((len:Int)==0)=false:=by simp;omega
   have hpos:(0:Int) < (len:Int):=zo
   have hshort:decide ((len:Int) < 1+szL (formB k))=true:=by simp;omega
   clear hk hres
   generalize zs.getD 0 0=y at hsz hop hc0 y0 y1
   go_enter Tryz.func59,Tryz.ntmps59
   go_wp2_with (first|(go_at_call 83;refine(refind_any _ _ y0 y1).mono ?_;rintro e w1 ⟨rfl,hb1⟩;rw[hop];obtain⟨hc1,hf1⟩:=bcell hb1;have hz1:=hb1.size;simp only[World.size_alloc] at hc1 hf1 hz1)|(go_at_call 58;refine(resize_any _ _ y0 y1).mono ?_;rintro e w2 ⟨rfl,hb2⟩;rw[hsz];have hR:w2.heap[w.heap.size]?=some (insB 0 0 0 0 0):=(hb2.block _ zo).trans ((hb1.block _ (by simp)).trans (heap_alloc_last w _));obtain⟨r0,r1,r2,r3,r4⟩:=ins_cells hR;obtain⟨z0,z1,z2,z3,z4⟩:=ins_frozen hR))
   refine bodyPost_ret (v:=decV (decErr 1)) zq37 rfl ⟨rfl,?_⟩
   have hb12:Below w.heap.size w w2:=((((Below.refl _ _).alloc (Nat.le_refl _) _).trans (hb1.mono (by simp))).trans (hb2.mono zo))
   exact((((hb12.setCell (by simp) _).setCell (by simp) _).setCell (by simp) _).setCell (by simp) _).setCell (by simp) _
 | none=>
  have hres:refDec zs len=decErr 2:=by
   unfold refDec
   rw[if_neg zo,hk]
  rw[hres]
  have hc0:w.cell? ⟨b,off,none⟩=some (.int .u8 (zs.getD 0 0)):=by simpa using hr.cell 0 hl
  obtain⟨y0,y1⟩:=hr.bd 0
  have hmax:=hr.max
  have hle:=hr.le
  have hblt:=hr.lt
  unfold maxLen at hmax
  have hop:opF (zs.getD 0 0) = -1:=by simp only[opF,hk]
  have hne:((len:Int)==0)=false:=by simp;omega
  have hpos:(0:Int) < (len:Int):=zo
  clear hk hres
  generalize zs.getD 0 0=y at hop hc0 y0 y1
  go_enter Tryz.func59,Tryz.ntmps59
  go_wp2_with (go_at_call 83;refine(refind_any _ _ y0 y1).mono ?_;rintro e w1 ⟨rfl,hb1⟩;rw[hop];have hR:w1.heap[w.heap.size]?=some (insB 0 0 0 0 0):=(hb1.block _ (by simp)).trans (heap_alloc_last w _);obtain⟨r0,r1,r2,r3,r4⟩:=ins_cells hR;obtain⟨z0,z1,z2,z3,z4⟩:=ins_frozen hR)
  refine bodyPost_ret (v:=decV (decErr 2)) zq37 rfl ⟨rfl,?_⟩
  have hb12:Below w.heap.size w w1:=(((Below.refl _ _).alloc (Nat.le_refl _) _).trans (hb1.mono (by simp)))
  exact((((hb12.setCell (by simp) _).setCell (by simp) _).setCell (by simp) _).setCell (by simp) _).setCell (by simp) _
set_option maxRecDepth 100000 in
theorem redec_nil(a:Option Addr)(cap:Nat)(zs:List Int)(w:World) :
  Calls Tryz.prog 59 #[.slice a 0 cap] w fun e w'=>e=.returned (decV (refDec zs 0))∧Below w.heap.size w w':=by
 have hres:refDec zs 0=decErr 1:=by unfold refDec;rw[if_pos rfl]
 rw[hres]
 clear hres
 go_enter Tryz.func59,Tryz.ntmps59
 go_wp2
 refine bodyPost_ret (v:=decV (decErr 1)) (by simp[results,Tryz.results59,go_sem,decErr]) rfl ⟨rfl,?_⟩
 exact(Below.refl _ _).alloc (Nat.le_refl _) _
end Go.Proofs.YtfokgedjocnnmaaGreat.Gu
