import Derived.Test.YtfokgedjocnnmaaGreatJ16
import Derived.Test.YtfokgedjocnnmaaGreatJ15
import Derived.Deep.CutBlock
set_option linter.unusedVariables false
set_option linter.unusedSimpArgs false
set_option maxHeartbeats 1000000
namespace Go.Proofs.YtfokgedjocnnmaaGreat
open Go.RowKit
set_option maxRecDepth 100000
abbrev pinsV(i:IR):Value:=.tuple #[.agg #[.int .i64 i.op,.int .i64 i.D,.int .i64 i.S,.int .i64 i.O,.int .u32 i.imm],.int .i64 i.n,.agg #[.int .i64 i.k,.int .u32 i.a]]
theorem psize_any(x:Int)(w:World)(h0:0≤x)(h1:x≤255):Calls Tryz.prog 43 #[.int .u8 x] w fun e w'=>e=.returned (.int .i64 (Gu.sizeF x))∧Below w.heap.size w w':=by
  rw[← Gu.size_eq x h0 h1];exact Gu.size10 x w
theorem pfetch_b(X:Nat)(a x:Nat)(n:Int)(s:MS)(w:World)(ha:a < 4294967296)(hs:s.Ok)(h:PM w X s)(hf:fet s a n=some x) :
    Calls Tryz.prog 42 #[.pointer (some ⟨X,0,none⟩),.int .u32 a,.int .i64 n] w fun e w'=>∃ p c,e=.returned (.tuple #[.slice p (fetM s a n) c,.agg #[.int .i64 4,.int .u32 x]])∧Below w.heap.size w w':=by
  refine(fetch_tot X a n s w ha hs h).mono fun e w' ⟨p,c,he,hO⟩=>⟨p,c,?_,hO.bel⟩
  rw[he,hf];rfl
theorem pfetch_g(X:Nat)(a:Nat)(n:Int)(s:MS)(w:World)(ha:a < 4294967296)(hs:s.Ok)(h:PM w X s)(hf:fet s a n=none) :
    Calls Tryz.prog 42 #[.pointer (some ⟨X,0,none⟩),.int .u32 a,.int .i64 n] w fun e w'=>∃ p c,e=.returned (.tuple #[.slice p (fetM s a n) c,.agg #[.int .i64 0,.int .u32 0]])∧SR w' p (fetM s a n) (fun i=>s.B (a+i))∧Below w.heap.size w w':=by
  refine(fetch_tot X a n s w ha hs h).mono fun e w' ⟨p,c,he,hO⟩=>⟨p,c,?_,fun h0=>?_,hO.bel⟩
  · rw[he,hf];rfl
  · obtain⟨H,rfl,-,hN⟩:=hO.row h0
    exact hN.sr h0
theorem pfetch_c(X:Nat)(a:Nat)(n:Int)(s:MS)(w:World)(ha:a < 4294967296)(hs:s.Ok)(h:PM w X s)(hf:fet s a n=none) :
    Calls Tryz.prog 42 #[.pointer (some ⟨X,0,none⟩),.int .u32 a,.int .i64 n] w fun e w'=>∃ p c,e=.returned (.tuple #[.slice p (fetM s a n) c,.agg #[.int .i64 0,.int .u32 0]])∧Out w w' p (fetM s a n) (fun i=>s.B (a+i))∧(0 < fetM s a n→fetM s a n≤c∧c≤maxLen):=by
  by_cases hw:0 < n∧n≤8
  · have hb:badN s 4 a n.toNat=none:=by rw[← hf];exact(if_pos hw).symm
    have e:fetM s a n=n.toNat:=if_pos ⟨hw,hb⟩
    rw[e]
    obtain⟨m,rfl⟩:∃ m:Nat,n=m:=⟨n.toNat,by omega⟩
    refine(fetch_ok X a m s w zo zo ha hs h hb).mono fun e w' ⟨he,hN,hB,hS⟩=>⟨_,_,he,⟨hB,fun _=>⟨_,rfl,by omega,hN⟩⟩,fun _=>⟨Nat.le_refl _,?_⟩⟩
    have h8:m≤8:=zo
    exact Nat.le_trans h8 (by decide)
  · have e:fetM s a n=0:=if_neg (fun h=>hw h.1)
    refine(fetch_tot X a n s w ha hs h).mono fun e' w' ⟨p,c,he,hO⟩=>⟨p,c,?_,hO,fun h0=>?_⟩
    · rw[he,hf];rfl
    · rw[e] at h0;omega
theorem pdec_f{s:MS}(hs:s.Ok)(pc m c:Nat)(p:Option Addr)(w:World)(hp:0 < m→∃ H,p=some ⟨H,0,none⟩∧NR w H m (fun i=>s.B (pc+i)))(hc:0 < m→m≤c∧c≤maxLen) :
    Calls Tryz.prog 44 #[.slice p m c] w fun e w'=>e=.returned (Gu.decV (Gu.refDec (byL s pc m) m))∧Below w.heap.size w w':=by
  rw[← Gu.dec_eq (byL s pc m) m (byL_bd hs pc m 0)]
  by_cases h:0 < m
  · obtain⟨H,rfl,hN⟩:=hp h
    have hcap:=hc h
    refine Gu.dec_any H 0 m c (byL s pc m) w ⟨hcap.1,hcap.2,fun i hi=>?_,byL_bd hs pc m,?_⟩ h
    · rw[Nat.zero_add,byL_at _ _ _ _ hi];exact hN.cell i hi
    · exact lt_of_cell (hN.cell 0 h)
  · have:m=0:=zo
    subst this
    exact Gu.dec_nil p c (byL s pc 0) w
theorem pins_bad1(X:Nat)(pc x:Nat)(s:MS)(w:World)(hpc:pc < 4294967296)(hs:s.Ok)(h:PM w X s)(hf:fet s pc 1=some x) :
    Calls Tryz.prog 20 #[.pointer (some ⟨X,0,none⟩),.int .u32 pc] w fun e w'=>e=.returned (pinsV ⟨0,0,0,0,0,0,4,x⟩)∧Below w.heap.size w w':=by
  have HR:Hid (PM ((w.alloc (Gu.insB 0 0 0 0 0)).alloc (stopB 0 0)) X s):=(h.alloc _).alloc _
  have HF:Hid (fet s pc 1=some x):=hf
  clear h hf
  go_enter Tryz.func20,Tryz.ntmps20
  go_wp2_with (go_at_call 42;refine(pfetch_b X pc x 1 s _ hpc hs HR.out HF.out).mono ?_;rintro e w' ⟨p,c,rfl,hBl⟩;have HI:Hid (IP w w'):=ip_start hBl;obtain⟨i0,i1,i2,i3,i4⟩:=Gu.ins_cells HI.out.b1;obtain⟨f0,f1,f2,f3,f4⟩:=Gu.ins_frozen HI.out.b1;obtain⟨s0,s1,g0,g1⟩:=stop_cells HI.out.b2;have hl1:=HI.out.lt;have hl0:=Nat.lt_of_succ_lt hl1;clear hBl)
  go_region
  all_goals
    go_wp2
    exact bodyPost_ret (v:=pinsV ⟨0,0,0,0,0,0,4,x⟩) (by simp[results,Tryz.results20,go_sem,i0,i1,i2,i3,i4,s0,s1,hl0,hl1]) rfl ⟨rfl,by
      have hB:=HI.out.bel
      repeat first
        | with_reducible exact hB
        | with_reducible refine Below.setCell ?_ zq20 _
        | with_reducible refine Below.alloc ?_ zq36 _
        | with_reducible refine Below.drew ?_⟩
theorem pins_bad2(X:Nat)(pc x:Nat)(s:MS)(w:World)(hpc:pc < 4294967296)(hs:s.Ok)(h:PM w X s)(hf:fet s pc 1=none)(hm:fetM s pc 1=1)(hf2:fet s pc (Gu.sizeF (s.B pc))=some x) :
    Calls Tryz.prog 20 #[.pointer (some ⟨X,0,none⟩),.int .u32 pc] w fun e w'=>e=.returned (pinsV ⟨0,0,0,0,0,0,4,x⟩)∧Below w.heap.size w w':=by
  have HR:Hid (PM ((w.alloc (Gu.insB 0 0 0 0 0)).alloc (stopB 0 0)) X s):=(h.alloc _).alloc _
  have HF:Hid (fet s pc 1=none):=hf
  have HM:Hid (fetM s pc 1=1):=hm
  obtain⟨y0,y1⟩:=hs.by_ pc
  have HF2:Hid (fet s pc (Gu.sizeF (s.B pc))=some x):=hf2
  clear h hf hm hf2
  go_enter Tryz.func20,Tryz.ntmps20
  go_wp2_with (first
    | (go_at_call 42;have HQ:=HR2;refine(pfetch_b X pc x (Gu.sizeF (s.B pc)) s _ hpc hs HR2.out HF2.out).mono ?_;rintro e w3 ⟨p3,c3,rfl,hb3⟩;have HI3:Hid _:=HI2.out.below hb3;obtain⟨i0,i1,i2,i3,i4⟩:=Gu.ins_cells HI3.out.b1;obtain⟨f0,f1,f2,f3,f4⟩:=Gu.ins_frozen HI3.out.b1;obtain⟨s0,s1,g0,g1⟩:=stop_cells HI3.out.b2;obtain⟨t0,t1,u0,u1⟩:=stop_cells HI3.out.b3;have hl1:=HI3.out.lt;have hl0:=Nat.lt_of_succ_lt hl1;clear hb3 HQ)
    | (go_at_call 42;have HQ:=HR;refine(pfetch_g X pc 1 s _ hpc hs HR.out HF.out).mono ?_;rintro e w' ⟨p,c,rfl,hS,hBl⟩;rw[HM.out];obtain⟨b,off,rfl,hc⟩:=hS zq42;have hc0:=one_byte hc HM.out;have hb0:=lt_of_cell hc0;have HB1:Hid _:=hBl;have HRA:Hid (PM w' X s):=HR.out.below hBl HR.out.lt;clear hc hS hBl HR HQ)
    | (go_at_call 43;refine(psize_any (s.B pc) _ y0 y1).mono ?_;rintro e w2 ⟨rfl,hb2⟩;have HI2:Hid (IB w w2 0 0 w'.heap.size):=(ib_start HB1.out).below hb2;have HR2:Hid (PM w2 X s):=(HRA.out.alloc _).below hb2 (HRA.out.alloc _).lt;clear hb2))
  go_region
  all_goals
    go_wp2
    exact bodyPost_ret (v:=pinsV ⟨0,0,0,0,0,0,4,x⟩) (by simp[results,Tryz.results20,go_sem,i0,i1,i2,i3,i4,s0,s1,hl0,hl1,t0,t1]) rfl ⟨rfl,by
      have hB:=HI3.out.bel
      repeat first
        | with_reducible exact hB
        | with_reducible refine Below.setCell ?_ zq20 _
        | with_reducible refine Below.alloc ?_ zq36 _
        | with_reducible refine Below.drew ?_⟩
theorem pins_op(X:Nat)(pc:Nat)(i:IR)(eR:Int)(s:MS)(w:World)(hpc:pc < 4294967296)(hs:s.Ok)(h:PM w X s)(hf:fet s pc 1=none)(hm:fetM s pc 1=1)(hf2:fet s pc (Gu.sizeF (s.B pc))=none)
    (hd:∀ (w3:World) (p:Option Addr) (c:Nat),(0 < fetM s pc (Gu.sizeF (s.B pc))→∃ H,p=some ⟨H,0,none⟩∧NR w3 H (fetM s pc (Gu.sizeF (s.B pc))) (fun i=>s.B (pc+i)))→(0 < fetM s pc (Gu.sizeF (s.B pc))→fetM s pc (Gu.sizeF (s.B pc))≤c∧c≤maxLen)→
      Calls Tryz.prog 44 #[.slice p (fetM s pc (Gu.sizeF (s.B pc))) c] w3 fun e w'=>e=.returned (.tuple #[.agg #[.int .i64 i.op,.int .i64 i.D,.int .i64 i.S,.int .i64 i.O,.int .u32 i.imm],.int .i64 i.n,.int .i64 eR])∧Below w3.heap.size w3 w') (he:(eR==0)=false) (he2:¬eR=0) :
    Calls Tryz.prog 20 #[.pointer (some ⟨X,0,none⟩),.int .u32 pc] w fun e w'=>e=.returned (pinsV ⟨0,0,0,0,0,0,3,0⟩)∧Below w.heap.size w w':=by
  have HR:Hid (PM ((w.alloc (Gu.insB 0 0 0 0 0)).alloc (stopB 0 0)) X s):=(h.alloc _).alloc _
  have HF:Hid (fet s pc 1=none):=hf
  have HM:Hid (fetM s pc 1=1):=hm
  obtain⟨y0,y1⟩:=hs.by_ pc
  have HF2:Hid (fet s pc (Gu.sizeF (s.B pc))=none):=hf2
  have HD:Hid _:=hd
  clear h hf hm hf2 hd
  go_enter Tryz.func20,Tryz.ntmps20
  go_wp2_with (first
    | (go_at_call 42;have HQ:=HR2;refine(pfetch_c X pc (Gu.sizeF (s.B pc)) s _ hpc hs HR2.out HF2.out).mono ?_;rintro e w3 ⟨p3,c3,rfl,hO,hC⟩;have HC3:Hid _:=hC;have HO3:Hid _:=hO;have HI3:Hid _:=HI2.out.below hO.bel;obtain⟨t0,t1,u0,u1⟩:=stop_cells HI3.out.b3;have hl1:=HI3.out.lt;have hl0:=Nat.lt_of_succ_lt hl1;clear hC hO HQ)
    | (go_at_call 44;refine(HD.out _ p3 c3 (nr_set HO3.out (lt_of_block HI2.out.b3) _ _) HC3.out).mono ?_;rintro e w4 ⟨rfl,hb4⟩;have HI4:Hid (IB w w4 0 0 w'.heap.size):=(HI3.out.set 0 0).below hb4;obtain⟨i0,i1,i2,i3,i4⟩:=Gu.ins_cells HI4.out.b1;obtain⟨f0,f1,f2,f3,f4⟩:=Gu.ins_frozen HI4.out.b1;obtain⟨s0,s1,g0,g1⟩:=stop_cells HI4.out.b2;obtain⟨t0,t1,u0,u1⟩:=stop_cells HI4.out.b3;have hm1:w.heap.size < w4.heap.size:=lt_of_block HI4.out.b1;have hm2:w.heap.size+1 < w4.heap.size:=lt_of_block HI4.out.b2;have hm3:w'.heap.size < w4.heap.size:=lt_of_block HI4.out.b3;clear hb4)
    | (go_at_call 42;have HQ:=HR;refine(pfetch_g X pc 1 s _ hpc hs HR.out HF.out).mono ?_;rintro e w' ⟨p,c,rfl,hS,hBl⟩;rw[HM.out];obtain⟨b,off,rfl,hc⟩:=hS zq42;have hc0:=one_byte hc HM.out;have hb0:=lt_of_cell hc0;have HB1:Hid _:=hBl;have HRA:Hid (PM w' X s):=HR.out.below hBl HR.out.lt;clear hc hS hBl HR HQ)
    | (go_at_call 43;refine(psize_any (s.B pc) _ y0 y1).mono ?_;rintro e w2 ⟨rfl,hb2⟩;have HI2:Hid (IB w w2 0 0 w'.heap.size):=(ib_start HB1.out).below hb2;have HR2:Hid (PM w2 X s):=(HRA.out.alloc _).below hb2 (HRA.out.alloc _).lt;clear hb2))
  exact bodyPost_ret (v:=pinsV ⟨0,0,0,0,0,0,3,0⟩) (by simp[results,Tryz.results20,go_sem,i0,i1,i2,i3,i4,s0,s1,hl0,hl1,t0,t1,hm1,hm2,hm3]) rfl ⟨rfl,by
    have hB:=HI4.out.bel
    repeat first
      | with_reducible exact hB
      | with_reducible refine Below.setCell ?_ zq20 _
      | with_reducible refine Below.alloc ?_ zq36 _
      | with_reducible refine Below.drew ?_⟩
theorem pins_ok(X:Nat)(pc:Nat)(i:IR)(s:MS)(w:World)(hpc:pc < 4294967296)(hs:s.Ok)(h:PM w X s)(hf:fet s pc 1=none)(hm:fetM s pc 1=1)(hf2:fet s pc (Gu.sizeF (s.B pc))=none)(hn9:i.n≤9)
    (hd:∀ (w3:World) (p:Option Addr) (c:Nat),(0 < fetM s pc (Gu.sizeF (s.B pc))→∃ H,p=some ⟨H,0,none⟩∧NR w3 H (fetM s pc (Gu.sizeF (s.B pc))) (fun i=>s.B (pc+i)))→(0 < fetM s pc (Gu.sizeF (s.B pc))→fetM s pc (Gu.sizeF (s.B pc))≤c∧c≤maxLen)→
      Calls Tryz.prog 44 #[.slice p (fetM s pc (Gu.sizeF (s.B pc))) c] w3 fun e w'=>e=.returned (.tuple #[.agg #[.int .i64 i.op,.int .i64 i.D,.int .i64 i.S,.int .i64 i.O,.int .u32 i.imm],.int .i64 i.n,.int .i64 0])∧Below w3.heap.size w3 w') :
    Calls Tryz.prog 20 #[.pointer (some ⟨X,0,none⟩),.int .u32 pc] w fun e w'=>e=.returned (pinsV { i with k:=0,a:=0 })∧Below w.heap.size w w':=by
  have HR:Hid (PM ((w.alloc (Gu.insB 0 0 0 0 0)).alloc (stopB 0 0)) X s):=(h.alloc _).alloc _
  have HF:Hid (fet s pc 1=none):=hf
  have HM:Hid (fetM s pc 1=1):=hm
  obtain⟨y0,y1⟩:=hs.by_ pc
  have HF2:Hid (fet s pc (Gu.sizeF (s.B pc))=none):=hf2
  have HD:Hid _:=hd
  clear h hf hm hf2 hd
  go_enter Tryz.func20,Tryz.ntmps20
  go_wp2_with (first
    | (go_at_call 42;have HQ:=HR2;refine(pfetch_c X pc (Gu.sizeF (s.B pc)) s _ hpc hs HR2.out HF2.out).mono ?_;rintro e w3 ⟨p3,c3,rfl,hO,hC⟩;have HC3:Hid _:=hC;have HO3:Hid _:=hO;have HI3:Hid _:=HI2.out.below hO.bel;obtain⟨t0,t1,u0,u1⟩:=stop_cells HI3.out.b3;have hl1:=HI3.out.lt;have hl0:=Nat.lt_of_succ_lt hl1;clear hC hO HQ)
    | (go_at_call 44;refine(HD.out _ p3 c3 (nr_set HO3.out (lt_of_block HI2.out.b3) _ _) HC3.out).mono ?_;rintro e w4 ⟨rfl,hb4⟩;have HI4:Hid (IB w w4 0 0 w'.heap.size):=(HI3.out.set 0 0).below hb4;obtain⟨i0,i1,i2,i3,i4⟩:=Gu.ins_cells HI4.out.b1;obtain⟨f0,f1,f2,f3,f4⟩:=Gu.ins_frozen HI4.out.b1;obtain⟨s0,s1,g0,g1⟩:=stop_cells HI4.out.b2;obtain⟨t0,t1,u0,u1⟩:=stop_cells HI4.out.b3;have hm1:w.heap.size < w4.heap.size:=lt_of_block HI4.out.b1;have hm2:w.heap.size+1 < w4.heap.size:=lt_of_block HI4.out.b2;have hm3:w'.heap.size < w4.heap.size:=lt_of_block HI4.out.b3;clear hb4)
    | (go_at_call 42;have HQ:=HR;refine(pfetch_g X pc 1 s _ hpc hs HR.out HF.out).mono ?_;rintro e w' ⟨p,c,rfl,hS,hBl⟩;rw[HM.out];obtain⟨b,off,rfl,hc⟩:=hS zq42;have hc0:=one_byte hc HM.out;have hb0:=lt_of_cell hc0;have HB1:Hid _:=hBl;have HRA:Hid (PM w' X s):=HR.out.below hBl HR.out.lt;clear hc hS hBl HR HQ)
    | (go_at_call 43;refine(psize_any (s.B pc) _ y0 y1).mono ?_;rintro e w2 ⟨rfl,hb2⟩;have HI2:Hid (IB w w2 0 0 w'.heap.size):=(ib_start HB1.out).below hb2;have HR2:Hid (PM w2 X s):=(HRA.out.alloc _).below hb2 (HRA.out.alloc _).lt;clear hb2))
  exact bodyPost_ret (v:=pinsV { i with k:=0,a:=0 }) (by simp[results,Tryz.results20,go_sem,i0,i1,i2,i3,i4,s0,s1,hl0,hl1,t0,t1,hm1,hm2,hm3]) rfl ⟨rfl,by
    have hB:=HI4.out.bel
    repeat first
      | with_reducible exact hB
      | with_reducible refine Below.setCell ?_ zq20 _
      | with_reducible refine Below.alloc ?_ zq36 _
      | with_reducible refine Below.drew ?_⟩
theorem pins_any(X:Nat)(pc:Nat)(s:MS)(w:World)(hpc:pc < 4294967296)(hs:s.Ok)(h:PM w X s) :
    Calls Tryz.prog 20 #[.pointer (some ⟨X,0,none⟩),.int .u32 pc] w fun e w'=>e=.returned (pinsV (insOf s pc))∧Below w.heap.size w w':=by
  have e1:fet s pc 1=badN s 4 pc 1:=if_pos zo
  cases hb:badN s 4 pc 1 with
  | some x=>
    have e:insOf s pc=⟨0,0,0,0,0,0,4,x⟩:=by unfold insOf;rw[hb]
    rw[e];exact pins_bad1 X pc x s w hpc hs h (e1.trans hb)
  | none=>
    have hm:fetM s pc 1=1:=if_pos ⟨by omega,hb⟩
    cases hb2:fet s pc (Gu.sizeF (s.B pc)) with
    | some x=>
      have e:insOf s pc=⟨0,0,0,0,0,0,4,x⟩:=by unfold insOf;rw[hb];simp only[hb2]
      rw[e];exact pins_bad2 X pc x s w hpc hs h (e1.trans hb) hm hb2
    | none=>
      by_cases he:(Gu.refDec (byL s pc (fetM s pc (Gu.sizeF (s.B pc)))) (fetM s pc (Gu.sizeF (s.B pc)))).e=0
      · have hd:=dec_ok_bd (fetM s pc (Gu.sizeF (s.B pc))) (byL_bd hs pc (fetM s pc (Gu.sizeF (s.B pc)))) he
        have e:insOf s pc={ insOf s pc with k:=0,a:=0 }:=by unfold insOf;rw[hb];simp only[hb2];rw[if_pos he]
        have hk0:(insOf s pc).k=0:=by rw[e]
        rw[e]
        refine pins_ok X pc (insOf s pc) s w hpc hs h (e1.trans hb) hm hb2 (insOf_ok s pc hs hk0).n1 fun w3 p c h1 h2=>(pdec_f hs pc _ c p w3 h1 h2).mono fun e w' ⟨he1,hb1⟩=>⟨?_,hb1⟩
        rw[he1]
        unfold insOf;rw[hb];simp only[hb2];rw[if_pos he]
        simp only[Gu.decV,he,Int.toNat_of_nonneg hd.D0,Int.toNat_of_nonneg hd.S0,Int.toNat_of_nonneg hd.im0,Int.toNat_of_nonneg (Int.le_trans zo hd.n0)]
      · have e:insOf s pc=⟨0,0,0,0,0,0,3,0⟩:=by unfold insOf;rw[hb];simp only[hb2];rw[if_neg he]
        rw[e]
        obtain⟨i,hi⟩:∃ i:IR,Gu.decV (Gu.refDec (byL s pc (fetM s pc (Gu.sizeF (s.B pc)))) (fetM s pc (Gu.sizeF (s.B pc))))=.tuple #[.agg #[.int .i64 i.op,.int .i64 i.D,.int .i64 i.S,.int .i64 i.O,.int .u32 i.imm],.int .i64 i.n,.int .i64 (Gu.refDec (byL s pc (fetM s pc (Gu.sizeF (s.B pc)))) (fetM s pc (Gu.sizeF (s.B pc)))).e]:=by
          obtain⟨x,hx⟩:=dec_err (byL s pc (fetM s pc (Gu.sizeF (s.B pc)))) (fetM s pc (Gu.sizeF (s.B pc))) he
          exact⟨⟨0,0,0,0,0,0,0,0⟩,by rw[hx];rfl⟩
        refine pins_op X pc i _ s w hpc hs h (e1.trans hb) hm hb2 (fun w3 p c h1 h2=>(pdec_f hs pc _ c p w3 h1 h2).mono fun e w' ⟨he1,hb1⟩=>⟨by rw[he1,hi],hb1⟩) (by simpa using he) he
end Go.Proofs.YtfokgedjocnnmaaGreat
