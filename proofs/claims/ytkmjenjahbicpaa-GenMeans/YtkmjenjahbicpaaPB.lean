import Derived.Test.YtkmjenjahbicpaaC1
set_option linter.unusedVariables false
set_option linter.unusedSimpArgs false
set_option maxHeartbeats 4000000
namespace Go.Proofs.Ytkmjenjahbicpaa
open Go.RowKit
set_option maxRecDepth 100000
structure FW(w wr:World)(r:RU)(o:zL):Prop where
 b3:wr.heap[w.heap.size]?=some (.cells #[.int .u8 r.lo,.int .u8 r.hi,.int .u8 r.takes,.int .u8 r.has,.bool r.gives,.bool r.leaves,.bool r.ends] 111)
 b4:wr.heap[w.heap.size+1]?=some (.cells #[.int .i64 o.kind,.int .i64 o.w,.int .i64 o.a,.int .i64 o.b,.int .i64 o.c,.int .u32 o.k,.int .i64 o.n] 52)
 bel:Below w.heap.size w wr
theorem FW.alloc{w wr:World}{r:RU}{o:zL}(h:FW w wr r o)(x:Obj):FW w (wr.alloc x) r o:=
 ⟨(yW _ x _ (zE h.b3)).trans h.b3,(yW _ x _ (zE h.b4)).trans h.b4,h.bel.alloc (Nat.le_of_lt (zE h.b3)) x⟩
theorem FW.next{w wr w':World}{r:RU}{o:zL}(h:FW w wr r o)(k:Below wr.heap.size wr w'):FW w w' r o:=
 ⟨(k.block _ (zE h.b3)).trans h.b3,(k.block _ (zE h.b4)).trans h.b4,h.bel.trans (k.mono (Nat.le_of_lt (zE h.b3)))⟩
theorem zFO(w:World)(o1 o2:Obj):Below w.heap.size w ((w.alloc o1).alloc o2):=(aB.alloc aL _).alloc aS _
theorem yS(w:World)(o1:Obj):Below w.heap.size w (w.alloc o1):=aB.alloc aL _
theorem FW.start(w:World)(r:RU)(o:zL):FW w ((w.alloc (.cells #[.int .u8 r.lo,.int .u8 r.hi,.int .u8 r.takes,.int .u8 r.has,.bool r.gives,.bool r.leaves,.bool r.ends] 111)).alloc (.cells #[.int .i64 o.kind,.int .i64 o.w,.int .i64 o.a,.int .i64 o.b,.int .i64 o.c,.int .u32 o.k,.int .i64 o.n] 52)) r o:=
 ⟨(al2 w _ _).1,(al2 w _ _).2,zFO w _ _⟩
theorem zE1(m0 v0 m1 v1 m2 v2 m3 v3 m4 v4:Bool)(w:World):(Instr.index 169 (.agg #[.bool m0,.bool v0,.bool m1,.bool v1,.bool m2,.bool v2,.bool m3,.bool v3,.bool m4,.bool v4]) (.int .i64 0)).run Try.prog w=.ok (.agg #[.bool m0,.bool v0]) w:=by
 simp[Instr.index,Try.underlying169,Try.underlying168,go_sem,part,asAgg]
theorem zGd(m0 v0 m1 v1 m2 v2 m3 v3 m4 v4:Bool)(w:World):(Instr.index 169 (.agg #[.bool m0,.bool v0,.bool m1,.bool v1,.bool m2,.bool v2,.bool m3,.bool v3,.bool m4,.bool v4]) (.int .i64 1)).run Try.prog w=.ok (.agg #[.bool m1,.bool v1]) w:=by
 simp[Instr.index,Try.underlying169,Try.underlying168,go_sem,part,asAgg]
theorem zE2(m0 v0 m1 v1 m2 v2 m3 v3 m4 v4:Bool)(w:World):(Instr.index 169 (.agg #[.bool m0,.bool v0,.bool m1,.bool v1,.bool m2,.bool v2,.bool m3,.bool v3,.bool m4,.bool v4]) (.int .i64 2)).run Try.prog w=.ok (.agg #[.bool m2,.bool v2]) w:=by
 simp[Instr.index,Try.underlying169,Try.underlying168,go_sem,part,asAgg]
theorem zE3(m0 v0 m1 v1 m2 v2 m3 v3 m4 v4:Bool)(w:World):(Instr.index 169 (.agg #[.bool m0,.bool v0,.bool m1,.bool v1,.bool m2,.bool v2,.bool m3,.bool v3,.bool m4,.bool v4]) (.int .i64 3)).run Try.prog w=.ok (.agg #[.bool m3,.bool v3]) w:=by
 simp[Instr.index,Try.underlying169,Try.underlying168,go_sem,part,asAgg]
theorem zE4(m0 v0 m1 v1 m2 v2 m3 v3 m4 v4:Bool)(w:World):(Instr.index 169 (.agg #[.bool m0,.bool v0,.bool m1,.bool v1,.bool m2,.bool v2,.bool m3,.bool v3,.bool m4,.bool v4]) (.int .i64 4)).run Try.prog w=.ok (.agg #[.bool m4,.bool v4]) w:=by
 simp[Instr.index,Try.underlying169,Try.underlying168,go_sem,part,asAgg]
theorem zLc(r:RU)(x:FL)(o:zL)(count:Int)(w:World)(hm:zEW r x)(hmb:decide (2≤r.takes)=true) :
  Calls Try.prog 68 #[.agg #[.int .u8 r.lo,.int .u8 r.hi,.int .u8 r.takes,.int .u8 r.has,.bool r.gives,.bool r.leaves,.bool r.ends],.agg #[.int .i64 o.kind,.int .i64 o.w,.int .i64 o.a,.int .i64 o.b,.int .i64 o.c,.int .u32 o.k,.int .i64 o.n],.int .i64 count] w
   fun e w'=>e=.returned (.bool (!(zG x o count)))∧Below w.heap.size w w':=by
 obtain⟨v0,hv0⟩:∃ v,(o.a !=0)=v:=⟨_,rfl⟩
 obtain⟨v1,hv1⟩:∃ v,(o.b !=0)=v:=⟨_,rfl⟩
 obtain⟨v2,hv2⟩:∃ v,(o.c !=0)=v:=⟨_,rfl⟩
 obtain⟨v3,hv3⟩:∃ v,((o.k:Int) !=0)=v:=⟨_,rfl⟩
 obtain⟨v4,hv4⟩:∃ v,(o.n !=0)=v:=⟨_,rfl⟩
 obtain⟨m0,hm0⟩:∃ v,x.ha=v:=⟨_,rfl⟩
 obtain⟨m2,hm2⟩:∃ v,x.hc=v:=⟨_,rfl⟩
 obtain⟨m3,hm3⟩:∃ v,x.hk=v:=⟨_,rfl⟩
 obtain⟨m4,hm4⟩:∃ v,x.hn=v:=⟨_,rfl⟩
 obtain⟨g,hg⟩:∃ v,x.hg=v:=⟨_,rfl⟩
 obtain⟨e0,e1,e2,e3,e4,e5,t0,t3⟩:=hm
 rw[hmb] at e1
 have B0:Hid (bd x o 0=(v0 && !m0)):=by show _=_;rw[← hv0,← hm0];rfl
 have B1:Hid (bd x o 1=(v1 && !(true))):=by show _=_;rw[← hv1];show((o.b !=0) && !(x.hb || x.hg))=_;rw[← e1,hg];rfl
 have B2:Hid (bd x o 2=(v2 && !m2)):=by show _=_;rw[← hv2,← hm2];rfl
 have B3:Hid (bd x o 3=(v3 && !m3)):=by show _=_;rw[← hv3,← hm3];rfl
 have B4:Hid (bd x o 4=(v4 && !m4)):=by show _=_;rw[← hv4,← hm4];rfl
 have BG:Hid (bg x o=(g && (decide (o.b < 0) || decide (4294967295 < o.b)))):=by show _=_;rw[← hg];rfl
 rw[hm0] at e0
 rw[hm2] at e2
 rw[hm3] at e3
 rw[hm4] at e4
 rw[hg] at e5
 clear hm0 hm2 hm3 hm4 hg e1
 go_enter Try.func68,Try.ntmps68
 go_upto_region 3 with fail
 have HW:Hid (FW w _ r o):=(FW.start w r o).alloc (.cells #[.bool m0,.bool v0,.bool true,.bool v1,.bool m2,.bool v2,.bool m3,.bool v3,.bool m4,.bool v4] 169)
 go_wp2
 go_loopw [57] (fun i wr=>∃ j:Nat,i=.int .i64 j∧j≤5∧(∀ p,p < j→bd x o p=false)∧FW w wr r o) (fun i _=>5 - (intOf i).toNat)
 case atStart=>exact⟨0,rfl,by omega,fun p hp=>absurd hp (Nat.not_lt_zero p),HW.out⟩
 case round=>
  obtain⟨j,rfl,hj,hall,hW⟩:=hrel
  have HA:Hid _:=hall
  have HWr:Hid _:=hW
  have l3:=zE hW.b3
  have l4:=zE hW.b4
  have l3':=Nat.lt_succ_of_lt l3
  have m4':wr.cell? ⟨w.heap.size+1,3,none⟩=some (.int .i64 o.b):=zA hW.b4 3
  have m5':wr.cell? ⟨w.heap.size+1,6,none⟩=some (.int .i64 o.n):=zA hW.b4 6
  clear hall hW HW
  rcases(by omega:j=0∨j=1∨j=2∨j=3∨j=4∨j=5) with rfl|rfl|rfl|rfl|rfl|rfl
  ·clear hv0 hv1 hv2 hv3 hv4
   cases v0 with
   | false=>
    go_wp2_with (refine zU rfl 169 (.tmp 56) (.tmp 57) rfl _ _ (.agg #[.bool m0,.bool false]) rfl rfl (fun w=>zE1 _ _ _ _ _ _ _ _ _ _ w) ?_)
    go_round
    case rel=>exact⟨1,by go_num,by omega,fun p hp=>by
      rcases Nat.lt_succ_iff_lt_or_eq.1 hp with h|rfl
      ·exact HA.out p h
      ·rw[B0.out];simp,HWr.out.alloc _⟩
    case measure=>simp[intOf]
   | true=>
    cases m0 with
    | true=>
     go_wp2_with (refine zU rfl 169 (.tmp 56) (.tmp 57) rfl _ _ (.agg #[.bool true,.bool true]) rfl rfl (fun w=>zE1 _ _ _ _ _ _ _ _ _ _ w) ?_)
     go_round
     case rel=>exact⟨1,by go_num,by omega,fun p hp=>by
       rcases Nat.lt_succ_iff_lt_or_eq.1 hp with h|rfl
       ·exact HA.out p h
       ·rw[B0.out];simp,HWr.out.alloc _⟩
     case measure=>simp[intOf]
    | false=>
     have FB:Hid (zG x o count=true):=by show _=_;unfold zG;rw[show bd x o 0=true by rw[B0.out];rfl];simp
     go_wp2_with (refine zU rfl 169 (.tmp 56) (.tmp 57) rfl _ _ (.agg #[.bool false,.bool true]) rfl rfl (fun w=>zE1 _ _ _ _ _ _ _ _ _ _ w) ?_)
     go_ret
     exact⟨by rw[FB.out];rfl,(HWr.out.alloc _).bel⟩
  ·clear hv0 hv1 hv2 hv3 hv4
   cases v1 with
   | false=>
    go_wp2_with (refine zU rfl 169 (.tmp 56) (.tmp 57) rfl _ _ (.agg #[.bool true,.bool false]) rfl rfl (fun w=>zGd _ _ _ _ _ _ _ _ _ _ w) ?_)
    go_round
    case rel=>exact⟨2,by go_num,by omega,fun p hp=>by
      rcases Nat.lt_succ_iff_lt_or_eq.1 hp with h|rfl
      ·exact HA.out p h
      ·rw[B1.out];simp,HWr.out.alloc _⟩
    case measure=>simp[intOf]
   | true=>
    go_wp2_with (refine zU rfl 169 (.tmp 56) (.tmp 57) rfl _ _ (.agg #[.bool true,.bool true]) rfl rfl (fun w=>zGd _ _ _ _ _ _ _ _ _ _ w) ?_)
    go_round
    case rel=>exact⟨2,by go_num,by omega,fun p hp=>by
      rcases Nat.lt_succ_iff_lt_or_eq.1 hp with h|rfl
      ·exact HA.out p h
      ·rw[B1.out];simp,HWr.out.alloc _⟩
    case measure=>simp[intOf]
  ·clear hv0 hv1 hv2 hv3 hv4
   cases v2 with
   | false=>
    go_wp2_with (refine zU rfl 169 (.tmp 56) (.tmp 57) rfl _ _ (.agg #[.bool m2,.bool false]) rfl rfl (fun w=>zE2 _ _ _ _ _ _ _ _ _ _ w) ?_)
    go_round
    case rel=>exact⟨3,by go_num,by omega,fun p hp=>by
      rcases Nat.lt_succ_iff_lt_or_eq.1 hp with h|rfl
      ·exact HA.out p h
      ·rw[B2.out];simp,HWr.out.alloc _⟩
    case measure=>simp[intOf]
   | true=>
    cases m2 with
    | true=>
     go_wp2_with (refine zU rfl 169 (.tmp 56) (.tmp 57) rfl _ _ (.agg #[.bool true,.bool true]) rfl rfl (fun w=>zE2 _ _ _ _ _ _ _ _ _ _ w) ?_)
     go_round
     case rel=>exact⟨3,by go_num,by omega,fun p hp=>by
       rcases Nat.lt_succ_iff_lt_or_eq.1 hp with h|rfl
       ·exact HA.out p h
       ·rw[B2.out];simp,HWr.out.alloc _⟩
     case measure=>simp[intOf]
    | false=>
     have FB:Hid (zG x o count=true):=by show _=_;unfold zG;rw[show bd x o 2=true by rw[B2.out];rfl];simp
     go_wp2_with (refine zU rfl 169 (.tmp 56) (.tmp 57) rfl _ _ (.agg #[.bool false,.bool true]) rfl rfl (fun w=>zE2 _ _ _ _ _ _ _ _ _ _ w) ?_)
     go_ret
     exact⟨by rw[FB.out];rfl,(HWr.out.alloc _).bel⟩
  ·clear hv0 hv1 hv2 hv3 hv4
   cases v3 with
   | false=>
    go_wp2_with (refine zU rfl 169 (.tmp 56) (.tmp 57) rfl _ _ (.agg #[.bool m3,.bool false]) rfl rfl (fun w=>zE3 _ _ _ _ _ _ _ _ _ _ w) ?_)
    go_round
    case rel=>exact⟨4,by go_num,by omega,fun p hp=>by
      rcases Nat.lt_succ_iff_lt_or_eq.1 hp with h|rfl
      ·exact HA.out p h
      ·rw[B3.out];simp,HWr.out.alloc _⟩
    case measure=>simp[intOf]
   | true=>
    cases m3 with
    | true=>
     go_wp2_with (refine zU rfl 169 (.tmp 56) (.tmp 57) rfl _ _ (.agg #[.bool true,.bool true]) rfl rfl (fun w=>zE3 _ _ _ _ _ _ _ _ _ _ w) ?_)
     go_round
     case rel=>exact⟨4,by go_num,by omega,fun p hp=>by
       rcases Nat.lt_succ_iff_lt_or_eq.1 hp with h|rfl
       ·exact HA.out p h
       ·rw[B3.out];simp,HWr.out.alloc _⟩
     case measure=>simp[intOf]
    | false=>
     have FB:Hid (zG x o count=true):=by show _=_;unfold zG;rw[show bd x o 3=true by rw[B3.out];rfl];simp
     go_wp2_with (refine zU rfl 169 (.tmp 56) (.tmp 57) rfl _ _ (.agg #[.bool false,.bool true]) rfl rfl (fun w=>zE3 _ _ _ _ _ _ _ _ _ _ w) ?_)
     go_ret
     exact⟨by rw[FB.out];rfl,(HWr.out.alloc _).bel⟩
  ·clear hv0 hv1 hv2 hv3 hv4
   cases v4 with
   | false=>
    go_wp2_with (refine zU rfl 169 (.tmp 56) (.tmp 57) rfl _ _ (.agg #[.bool m4,.bool false]) rfl rfl (fun w=>zE4 _ _ _ _ _ _ _ _ _ _ w) ?_)
    go_round
    case rel=>exact⟨5,by go_num,by omega,fun p hp=>by
      rcases Nat.lt_succ_iff_lt_or_eq.1 hp with h|rfl
      ·exact HA.out p h
      ·rw[B4.out];simp,HWr.out.alloc _⟩
    case measure=>simp[intOf]
   | true=>
    cases m4 with
    | true=>
     go_wp2_with (refine zU rfl 169 (.tmp 56) (.tmp 57) rfl _ _ (.agg #[.bool true,.bool true]) rfl rfl (fun w=>zE4 _ _ _ _ _ _ _ _ _ _ w) ?_)
     go_round
     case rel=>exact⟨5,by go_num,by omega,fun p hp=>by
       rcases Nat.lt_succ_iff_lt_or_eq.1 hp with h|rfl
       ·exact HA.out p h
       ·rw[B4.out];simp,HWr.out.alloc _⟩
     case measure=>simp[intOf]
    | false=>
     have FB:Hid (zG x o count=true):=by show _=_;unfold zG;rw[show bd x o 4=true by rw[B4.out];rfl];simp
     go_wp2_with (refine zU rfl 169 (.tmp 56) (.tmp 57) rfl _ _ (.agg #[.bool false,.bool true]) rfl rfl (fun w=>zE4 _ _ _ _ _ _ _ _ _ _ w) ?_)
     go_ret
     exact⟨by rw[FB.out];rfl,(HWr.out.alloc _).bel⟩
  ·have A0:=HA.out 0 aO
   have A1:=HA.out 1 aO
   have A2:=HA.out 2 aO
   have A3:=HA.out 3 aO
   have A4:=HA.out 4 aO
   have FB:Hid (zG x o count=(bg x o || !(decide (0≤o.n∧o.n≤count)))):=by show _=_;unfold zG;rw[A0,A1,A2,A3,A4];rfl
   clear A0 A1 A2 A3 A4 hv0 hv1 hv2 hv3 hv4
   cases g with
   | false=>
    go_wp2_with (go_at_call 43;refine(zY o.n count _).mono ?_;rintro e w1 ⟨rfl,rfl⟩)
    go_ret
    exact⟨by rw[FB.out,BG.out];simp,HWr.out.bel⟩
   | true=>
    by_cases hb0:o.b < 0
    ·have d0:decide (o.b < 0)=true:=decide_eq_true hb0
     go_wp2
     go_ret
     exact⟨by rw[FB.out,BG.out,d0];simp,HWr.out.bel⟩
    ·have d0:decide (o.b < 0)=false:=decide_eq_false hb0
     by_cases hb1:4294967295 < o.b
     ·have d1:decide (4294967295 < o.b)=true:=decide_eq_true hb1
      go_wp2
      go_ret
      exact⟨by rw[FB.out,BG.out,d0,d1];simp,HWr.out.bel⟩
     ·have d1:decide (4294967295 < o.b)=false:=decide_eq_false hb1
      go_wp2_with (go_at_call 43;refine(zY o.n count _).mono ?_;rintro e w1 ⟨rfl,rfl⟩)
      go_ret
      exact⟨by rw[FB.out,BG.out,d0,d1];simp,HWr.out.bel⟩
theorem zLb(r:RU)(x:FL)(o:zL)(count:Int)(w:World)(hm:zEW r x)(hmb:decide (2≤r.takes)=false) :
  Calls Try.prog 68 #[.agg #[.int .u8 r.lo,.int .u8 r.hi,.int .u8 r.takes,.int .u8 r.has,.bool r.gives,.bool r.leaves,.bool r.ends],.agg #[.int .i64 o.kind,.int .i64 o.w,.int .i64 o.a,.int .i64 o.b,.int .i64 o.c,.int .u32 o.k,.int .i64 o.n],.int .i64 count] w
   fun e w'=>e=.returned (.bool (!(zG x o count)))∧Below w.heap.size w w':=by
 obtain⟨v0,hv0⟩:∃ v,(o.a !=0)=v:=⟨_,rfl⟩
 obtain⟨v1,hv1⟩:∃ v,(o.b !=0)=v:=⟨_,rfl⟩
 obtain⟨v2,hv2⟩:∃ v,(o.c !=0)=v:=⟨_,rfl⟩
 obtain⟨v3,hv3⟩:∃ v,((o.k:Int) !=0)=v:=⟨_,rfl⟩
 obtain⟨v4,hv4⟩:∃ v,(o.n !=0)=v:=⟨_,rfl⟩
 obtain⟨m0,hm0⟩:∃ v,x.ha=v:=⟨_,rfl⟩
 obtain⟨m2,hm2⟩:∃ v,x.hc=v:=⟨_,rfl⟩
 obtain⟨m3,hm3⟩:∃ v,x.hk=v:=⟨_,rfl⟩
 obtain⟨m4,hm4⟩:∃ v,x.hn=v:=⟨_,rfl⟩
 obtain⟨g,hg⟩:∃ v,x.hg=v:=⟨_,rfl⟩
 obtain⟨e0,e1,e2,e3,e4,e5,t0,t3⟩:=hm
 rw[hmb] at e1
 have B0:Hid (bd x o 0=(v0 && !m0)):=by show _=_;rw[← hv0,← hm0];rfl
 have B1:Hid (bd x o 1=(v1 && !(g))):=by show _=_;rw[← hv1];show((o.b !=0) && !(x.hb || x.hg))=_;rw[← e1,hg];rfl
 have B2:Hid (bd x o 2=(v2 && !m2)):=by show _=_;rw[← hv2,← hm2];rfl
 have B3:Hid (bd x o 3=(v3 && !m3)):=by show _=_;rw[← hv3,← hm3];rfl
 have B4:Hid (bd x o 4=(v4 && !m4)):=by show _=_;rw[← hv4,← hm4];rfl
 have BG:Hid (bg x o=(g && (decide (o.b < 0) || decide (4294967295 < o.b)))):=by show _=_;rw[← hg];rfl
 rw[hm0] at e0
 rw[hm2] at e2
 rw[hm3] at e3
 rw[hm4] at e4
 rw[hg] at e5
 clear hm0 hm2 hm3 hm4 hg e1
 go_enter Try.func68,Try.ntmps68
 go_upto_region 3 with fail
 have HW:Hid (FW w _ r o):=(FW.start w r o).alloc (.cells #[.bool m0,.bool v0,.bool g,.bool v1,.bool m2,.bool v2,.bool m3,.bool v3,.bool m4,.bool v4] 169)
 go_wp2
 go_loopw [57] (fun i wr=>∃ j:Nat,i=.int .i64 j∧j≤5∧(∀ p,p < j→bd x o p=false)∧FW w wr r o) (fun i _=>5 - (intOf i).toNat)
 case atStart=>exact⟨0,rfl,by omega,fun p hp=>absurd hp (Nat.not_lt_zero p),HW.out⟩
 case round=>
  obtain⟨j,rfl,hj,hall,hW⟩:=hrel
  have HA:Hid _:=hall
  have HWr:Hid _:=hW
  have l3:=zE hW.b3
  have l4:=zE hW.b4
  have l3':=Nat.lt_succ_of_lt l3
  have m4':wr.cell? ⟨w.heap.size+1,3,none⟩=some (.int .i64 o.b):=zA hW.b4 3
  have m5':wr.cell? ⟨w.heap.size+1,6,none⟩=some (.int .i64 o.n):=zA hW.b4 6
  clear hall hW HW
  rcases(by omega:j=0∨j=1∨j=2∨j=3∨j=4∨j=5) with rfl|rfl|rfl|rfl|rfl|rfl
  ·clear hv0 hv1 hv2 hv3 hv4
   cases v0 with
   | false=>
    go_wp2_with (refine zU rfl 169 (.tmp 56) (.tmp 57) rfl _ _ (.agg #[.bool m0,.bool false]) rfl rfl (fun w=>zE1 _ _ _ _ _ _ _ _ _ _ w) ?_)
    go_round
    case rel=>exact⟨1,by go_num,by omega,fun p hp=>by
      rcases Nat.lt_succ_iff_lt_or_eq.1 hp with h|rfl
      ·exact HA.out p h
      ·rw[B0.out];simp,HWr.out.alloc _⟩
    case measure=>simp[intOf]
   | true=>
    cases m0 with
    | true=>
     go_wp2_with (refine zU rfl 169 (.tmp 56) (.tmp 57) rfl _ _ (.agg #[.bool true,.bool true]) rfl rfl (fun w=>zE1 _ _ _ _ _ _ _ _ _ _ w) ?_)
     go_round
     case rel=>exact⟨1,by go_num,by omega,fun p hp=>by
       rcases Nat.lt_succ_iff_lt_or_eq.1 hp with h|rfl
       ·exact HA.out p h
       ·rw[B0.out];simp,HWr.out.alloc _⟩
     case measure=>simp[intOf]
    | false=>
     have FB:Hid (zG x o count=true):=by show _=_;unfold zG;rw[show bd x o 0=true by rw[B0.out];rfl];simp
     go_wp2_with (refine zU rfl 169 (.tmp 56) (.tmp 57) rfl _ _ (.agg #[.bool false,.bool true]) rfl rfl (fun w=>zE1 _ _ _ _ _ _ _ _ _ _ w) ?_)
     go_ret
     exact⟨by rw[FB.out];rfl,(HWr.out.alloc _).bel⟩
  ·clear hv0 hv1 hv2 hv3 hv4
   cases v1 with
   | false=>
    go_wp2_with (refine zU rfl 169 (.tmp 56) (.tmp 57) rfl _ _ (.agg #[.bool g,.bool false]) rfl rfl (fun w=>zGd _ _ _ _ _ _ _ _ _ _ w) ?_)
    go_round
    case rel=>exact⟨2,by go_num,by omega,fun p hp=>by
      rcases Nat.lt_succ_iff_lt_or_eq.1 hp with h|rfl
      ·exact HA.out p h
      ·rw[B1.out];simp,HWr.out.alloc _⟩
    case measure=>simp[intOf]
   | true=>
    cases g with
    | true=>
     go_wp2_with (refine zU rfl 169 (.tmp 56) (.tmp 57) rfl _ _ (.agg #[.bool true,.bool true]) rfl rfl (fun w=>zGd _ _ _ _ _ _ _ _ _ _ w) ?_)
     go_round
     case rel=>exact⟨2,by go_num,by omega,fun p hp=>by
       rcases Nat.lt_succ_iff_lt_or_eq.1 hp with h|rfl
       ·exact HA.out p h
       ·rw[B1.out];simp,HWr.out.alloc _⟩
     case measure=>simp[intOf]
    | false=>
     have FB:Hid (zG x o count=true):=by show _=_;unfold zG;rw[show bd x o 1=true by rw[B1.out];rfl];simp
     go_wp2_with (refine zU rfl 169 (.tmp 56) (.tmp 57) rfl _ _ (.agg #[.bool false,.bool true]) rfl rfl (fun w=>zGd _ _ _ _ _ _ _ _ _ _ w) ?_)
     go_ret
     exact⟨by rw[FB.out];rfl,(HWr.out.alloc _).bel⟩
  ·clear hv0 hv1 hv2 hv3 hv4
   cases v2 with
   | false=>
    go_wp2_with (refine zU rfl 169 (.tmp 56) (.tmp 57) rfl _ _ (.agg #[.bool m2,.bool false]) rfl rfl (fun w=>zE2 _ _ _ _ _ _ _ _ _ _ w) ?_)
    go_round
    case rel=>exact⟨3,by go_num,by omega,fun p hp=>by
      rcases Nat.lt_succ_iff_lt_or_eq.1 hp with h|rfl
      ·exact HA.out p h
      ·rw[B2.out];simp,HWr.out.alloc _⟩
    case measure=>simp[intOf]
   | true=>
    cases m2 with
    | true=>
     go_wp2_with (refine zU rfl 169 (.tmp 56) (.tmp 57) rfl _ _ (.agg #[.bool true,.bool true]) rfl rfl (fun w=>zE2 _ _ _ _ _ _ _ _ _ _ w) ?_)
     go_round
     case rel=>exact⟨3,by go_num,by omega,fun p hp=>by
       rcases Nat.lt_succ_iff_lt_or_eq.1 hp with h|rfl
       ·exact HA.out p h
       ·rw[B2.out];simp,HWr.out.alloc _⟩
     case measure=>simp[intOf]
    | false=>
     have FB:Hid (zG x o count=true):=by show _=_;unfold zG;rw[show bd x o 2=true by rw[B2.out];rfl];simp
     go_wp2_with (refine zU rfl 169 (.tmp 56) (.tmp 57) rfl _ _ (.agg #[.bool false,.bool true]) rfl rfl (fun w=>zE2 _ _ _ _ _ _ _ _ _ _ w) ?_)
     go_ret
     exact⟨by rw[FB.out];rfl,(HWr.out.alloc _).bel⟩
  ·clear hv0 hv1 hv2 hv3 hv4
   cases v3 with
   | false=>
    go_wp2_with (refine zU rfl 169 (.tmp 56) (.tmp 57) rfl _ _ (.agg #[.bool m3,.bool false]) rfl rfl (fun w=>zE3 _ _ _ _ _ _ _ _ _ _ w) ?_)
    go_round
    case rel=>exact⟨4,by go_num,by omega,fun p hp=>by
      rcases Nat.lt_succ_iff_lt_or_eq.1 hp with h|rfl
      ·exact HA.out p h
      ·rw[B3.out];simp,HWr.out.alloc _⟩
    case measure=>simp[intOf]
   | true=>
    cases m3 with
    | true=>
     go_wp2_with (refine zU rfl 169 (.tmp 56) (.tmp 57) rfl _ _ (.agg #[.bool true,.bool true]) rfl rfl (fun w=>zE3 _ _ _ _ _ _ _ _ _ _ w) ?_)
     go_round
     case rel=>exact⟨4,by go_num,by omega,fun p hp=>by
       rcases Nat.lt_succ_iff_lt_or_eq.1 hp with h|rfl
       ·exact HA.out p h
       ·rw[B3.out];simp,HWr.out.alloc _⟩
     case measure=>simp[intOf]
    | false=>
     have FB:Hid (zG x o count=true):=by show _=_;unfold zG;rw[show bd x o 3=true by rw[B3.out];rfl];simp
     go_wp2_with (refine zU rfl 169 (.tmp 56) (.tmp 57) rfl _ _ (.agg #[.bool false,.bool true]) rfl rfl (fun w=>zE3 _ _ _ _ _ _ _ _ _ _ w) ?_)
     go_ret
     exact⟨by rw[FB.out];rfl,(HWr.out.alloc _).bel⟩
  ·clear hv0 hv1 hv2 hv3 hv4
   cases v4 with
   | false=>
    go_wp2_with (refine zU rfl 169 (.tmp 56) (.tmp 57) rfl _ _ (.agg #[.bool m4,.bool false]) rfl rfl (fun w=>zE4 _ _ _ _ _ _ _ _ _ _ w) ?_)
    go_round
    case rel=>exact⟨5,by go_num,by omega,fun p hp=>by
      rcases Nat.lt_succ_iff_lt_or_eq.1 hp with h|rfl
      ·exact HA.out p h
      ·rw[B4.out];simp,HWr.out.alloc _⟩
    case measure=>simp[intOf]
   | true=>
    cases m4 with
    | true=>
     go_wp2_with (refine zU rfl 169 (.tmp 56) (.tmp 57) rfl _ _ (.agg #[.bool true,.bool true]) rfl rfl (fun w=>zE4 _ _ _ _ _ _ _ _ _ _ w) ?_)
     go_round
     case rel=>exact⟨5,by go_num,by omega,fun p hp=>by
       rcases Nat.lt_succ_iff_lt_or_eq.1 hp with h|rfl
       ·exact HA.out p h
       ·rw[B4.out];simp,HWr.out.alloc _⟩
     case measure=>simp[intOf]
    | false=>
     have FB:Hid (zG x o count=true):=by show _=_;unfold zG;rw[show bd x o 4=true by rw[B4.out];rfl];simp
     go_wp2_with (refine zU rfl 169 (.tmp 56) (.tmp 57) rfl _ _ (.agg #[.bool false,.bool true]) rfl rfl (fun w=>zE4 _ _ _ _ _ _ _ _ _ _ w) ?_)
     go_ret
     exact⟨by rw[FB.out];rfl,(HWr.out.alloc _).bel⟩
  ·have A0:=HA.out 0 aO
   have A1:=HA.out 1 aO
   have A2:=HA.out 2 aO
   have A3:=HA.out 3 aO
   have A4:=HA.out 4 aO
   have FB:Hid (zG x o count=(bg x o || !(decide (0≤o.n∧o.n≤count)))):=by show _=_;unfold zG;rw[A0,A1,A2,A3,A4];rfl
   clear A0 A1 A2 A3 A4 hv0 hv1 hv2 hv3 hv4
   cases g with
   | false=>
    go_wp2_with (go_at_call 43;refine(zY o.n count _).mono ?_;rintro e w1 ⟨rfl,rfl⟩)
    go_ret
    exact⟨by rw[FB.out,BG.out];simp,HWr.out.bel⟩
   | true=>
    by_cases hb0:o.b < 0
    ·have d0:decide (o.b < 0)=true:=decide_eq_true hb0
     go_wp2
     go_ret
     exact⟨by rw[FB.out,BG.out,d0];simp,HWr.out.bel⟩
    ·have d0:decide (o.b < 0)=false:=decide_eq_false hb0
     by_cases hb1:4294967295 < o.b
     ·have d1:decide (4294967295 < o.b)=true:=decide_eq_true hb1
      go_wp2
      go_ret
      exact⟨by rw[FB.out,BG.out,d0,d1];simp,HWr.out.bel⟩
     ·have d1:decide (4294967295 < o.b)=false:=decide_eq_false hb1
      go_wp2_with (go_at_call 43;refine(zY o.n count _).mono ?_;rintro e w1 ⟨rfl,rfl⟩)
      go_ret
      exact⟨by rw[FB.out,BG.out,d0,d1];simp,HWr.out.bel⟩
theorem zCh(r:RU)(x:FL)(o:zL)(count:Int)(w:World)(hm:zEW r x) :
  Calls Try.prog 68 #[.agg #[.int .u8 r.lo,.int .u8 r.hi,.int .u8 r.takes,.int .u8 r.has,.bool r.gives,.bool r.leaves,.bool r.ends],.agg #[.int .i64 o.kind,.int .i64 o.w,.int .i64 o.a,.int .i64 o.b,.int .i64 o.c,.int .u32 o.k,.int .i64 o.n],.int .i64 count] w
   fun e w'=>e=.returned (.bool (!(zG x o count)))∧Below w.heap.size w w':=by
 cases h:decide (2≤r.takes)
 ·exact zLb r x o count w hm h
 ·exact zLc r x o count w hm h
end Go.Proofs.Ytkmjenjahbicpaa
