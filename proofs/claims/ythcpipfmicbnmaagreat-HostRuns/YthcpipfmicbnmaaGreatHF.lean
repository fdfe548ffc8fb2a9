import Derived.Test.YthcpipfmicbnmaaGreatHD
set_option linter.unusedVariables false
set_option linter.unusedSimpArgs false
set_option maxHeartbeats 4000000
namespace Go.Proofs.YthcpipfmicbnmaaGreat.Ho
open Go.RowKit
set_option maxRecDepth 100000
theorem zCm(I b off cap:Nat)(ws:Nat→Nat)(x0:Cd)(f:Fo)(nn:Int)(w:World)(hI:w.heap[I]?=some (.cells (yT x0 f nn) 90))(hr:WR w b off 1 ws)(hbI:b≠I)(hcap:1≤cap) :
  Calls Tryz.prog 45 #[.pointer (some ⟨I,0,none⟩),.slice (some ⟨b,off,none⟩) 1 cap] w fun e w'=>e=.returned (.int .u32 (rd6 f.has (ws 0)))∧w'.heap[I]?=some (.cells (yT (rdX f.has (ws 0) (0) (0)) f nn) 90)∧zI [I] w w':=by
 have lI:=zE hI
 have lb:=hr.lb
 have v0:w.cell? ⟨b,off,none⟩=some (.int .u32 (ws 0)):=by simpa using hr.cell 0 aO
 have HLT:Hid (∀ i,ws i < 4294967296):=hr.lt
 have HI:Hid _:=hI
 have HNB:Hid _:=hbI
 clear hr hI hbI
 generalize e0:ws 0=u0 at *
 have HU:Hid (u0 < 4294967296):=by rw[← e0];exact HLT.out 0
 clear HLT e0
 go_enter Tryz.func45,Tryz.ntmps45
 go_upto_region 4 with fail
 refine zJ (fun W'=>RD w W' I (w.heap.size+1) w.heap.size (w.heap.size+1+1) x0 f nn u0) ?_ ?_
 ·exact zDj w I u0 x0 f nn HI.out
 intro W h4
 have c0:W.cell? ⟨w.heap.size,0,none⟩=some (.pointer (some ⟨I,0,none⟩)):=zA h4.bi 0
 have c1:W.cell? ⟨w.heap.size+1+1,0,none⟩=some (.func (Fn.func 59) #[] #[.pointer (some ⟨w.heap.size+1,0,none⟩)]):=zA h4.bc 0
 have lI:=zE h4.b
 have lA:=zE h4.bi
 have lC:=zE h4.bc
 have H:Hid _:=h4
 clear h4
 go_region_held3 (fun W'=>W'.cell? ⟨w.heap.size,0,none⟩=some (.pointer (some ⟨I,0,none⟩))∧W'.cell? ⟨w.heap.size+1+1,0,none⟩=some (.func (Fn.func 59) #[] #[.pointer (some ⟨w.heap.size+1,0,none⟩)])) (first|(simp[go_sem,c0,c1];done)|(simp[go_sem,d0,d1];done)) ((go_at_call 59;refine(zFV (w.heap.size+1) u0 _ ?_ HU.out).mono ?_;(focus(exact H.out.drw.br));rintro e w1 ⟨rfl,hb1,hc1⟩;have h1:=H.out.drw.rest hc1 hb1;have d0:w1.cell? ⟨w.heap.size,0,none⟩=some (.pointer (some ⟨I,0,none⟩)):=zA h1.bi 0;have d1:w1.cell? ⟨w.heap.size+1+1,0,none⟩=some (.func (Fn.func 59) #[] #[.pointer (some ⟨w.heap.size+1,0,none⟩)]):=zA h1.bc 0;have mI:=zE h1.b;have mA:=zE h1.bi;have mC:=zE h1.bc;have fr0:=zD h1.b 0;have fr1:=zD h1.b 1;have fr2:=zD h1.b 2;have fr3:=zD h1.b 3;have fr4:=zD h1.b 4;have fr5:=zD h1.b 5;have fr6:=zD h1.b 6;have fr7:=zD h1.b 7;have q0:=zA h1.b 0;have q1:=zA h1.b 1;have q2:=zA h1.b 2;have q3:=zA h1.b 3;have q4:=zA h1.b 4;have q5:=zA h1.b 5;have q6:=zA h1.b 6;have q7:=zA h1.b 7;have H1:Hid _:=h1;clear h1))
 go_upto_region 5 with fail
 refine zJ (fun W'=>RD w W' I (w.heap.size+1) w.heap.size (w.heap.size+1+1) ⟨zP true 1 256 u0,0,0,0,0,0,0,0⟩ f nn (uT u0)) ?_ ?_
 ·first|exact H1.out.put8 ⟨zP true 1 256 u0,0,0,0,0,0,0,0⟩|exact(H1.out.put8 ⟨zP true 1 256 u0,0,0,0,0,0,0,0⟩).drw
 clear H H1 c0 c1 d0 d1 lI lA lC mI mA mC fr0 q0 fr1 q1 fr2 q2 fr3 q3 fr4 q4 fr5 q5 fr6 q6 fr7 q7 hb1 hc1
 intro W h4
 have c0:W.cell? ⟨w.heap.size,0,none⟩=some (.pointer (some ⟨I,0,none⟩)):=zA h4.bi 0
 have c1:W.cell? ⟨w.heap.size+1+1,0,none⟩=some (.func (Fn.func 59) #[] #[.pointer (some ⟨w.heap.size+1,0,none⟩)]):=zA h4.bc 0
 have lI:=zE h4.b
 have lA:=zE h4.bi
 have lC:=zE h4.bc
 have H:Hid _:=h4
 clear h4
 go_region_held3 (fun W'=>W'.cell? ⟨w.heap.size,0,none⟩=some (.pointer (some ⟨I,0,none⟩))∧W'.cell? ⟨w.heap.size+1+1,0,none⟩=some (.func (Fn.func 59) #[] #[.pointer (some ⟨w.heap.size+1,0,none⟩)])) (first|(simp[go_sem,c0,c1];done)|(simp[go_sem,d0,d1];done)) ((go_at_call 60;refine(zEk w.heap.size (w.heap.size+1+1) (w.heap.size+1) I (uT u0) f.has (hb f.has 448) _ ?_ (zEc HU.out) (hb_iff _ _)).mono ?_;(focus(exact H.out.drw.fw));rintro e w1 ⟨rfl,hb1,hc1⟩;have h1:=H.out.drw.rest hc1 hb1;have d0:w1.cell? ⟨w.heap.size,0,none⟩=some (.pointer (some ⟨I,0,none⟩)):=zA h1.bi 0;have d1:w1.cell? ⟨w.heap.size+1+1,0,none⟩=some (.func (Fn.func 59) #[] #[.pointer (some ⟨w.heap.size+1,0,none⟩)]):=zA h1.bc 0;have mI:=zE h1.b;have mA:=zE h1.bi;have mC:=zE h1.bc;have fr0:=zD h1.b 0;have fr1:=zD h1.b 1;have fr2:=zD h1.b 2;have fr3:=zD h1.b 3;have fr4:=zD h1.b 4;have fr5:=zD h1.b 5;have fr6:=zD h1.b 6;have fr7:=zD h1.b 7;have q0:=zA h1.b 0;have q1:=zA h1.b 1;have q2:=zA h1.b 2;have q3:=zA h1.b 3;have q4:=zA h1.b 4;have q5:=zA h1.b 5;have q6:=zA h1.b 6;have q7:=zA h1.b 7;have H1:Hid _:=h1;clear h1))
 go_upto_region 6 with fail
 refine zJ (fun W'=>RD w W' I (w.heap.size+1) w.heap.size (w.heap.size+1+1) ⟨zP true 1 256 u0,zP (hb f.has 448) 256 16 (uT u0),0,0,0,0,0,0⟩ f nn (rd2 f.has u0)) ?_ ?_
 ·first|exact H1.out.put ⟨zP true 1 256 u0,zP (hb f.has 448) 256 16 (uT u0),0,0,0,0,0,0⟩ 1 _ rfl|exact(H1.out.put ⟨zP true 1 256 u0,zP (hb f.has 448) 256 16 (uT u0),0,0,0,0,0,0⟩ 1 _ rfl).drw
 clear H H1 c0 c1 d0 d1 lI lA lC mI mA mC fr0 q0 fr1 q1 fr2 q2 fr3 q3 fr4 q4 fr5 q5 fr6 q6 fr7 q7 hb1 hc1
 intro W h4
 have c0:W.cell? ⟨w.heap.size,0,none⟩=some (.pointer (some ⟨I,0,none⟩)):=zA h4.bi 0
 have c1:W.cell? ⟨w.heap.size+1+1,0,none⟩=some (.func (Fn.func 59) #[] #[.pointer (some ⟨w.heap.size+1,0,none⟩)]):=zA h4.bc 0
 have lI:=zE h4.b
 have lA:=zE h4.bi
 have lC:=zE h4.bc
 have H:Hid _:=h4
 clear h4
 go_region_held3 (fun W'=>W'.cell? ⟨w.heap.size,0,none⟩=some (.pointer (some ⟨I,0,none⟩))∧W'.cell? ⟨w.heap.size+1+1,0,none⟩=some (.func (Fn.func 59) #[] #[.pointer (some ⟨w.heap.size+1,0,none⟩)])) (first|(simp[go_sem,c0,c1];done)|(simp[go_sem,d0,d1];done)) ((go_at_call 60;refine(zEh w.heap.size (w.heap.size+1+1) (w.heap.size+1) I (rd2 f.has u0) f.has (hb f.has 1) _ ?_ (zEd f.has HU.out) (hb_iff _ _)).mono ?_;(focus(exact H.out.drw.fw));rintro e w1 ⟨rfl,hb1,hc1⟩;have h1:=H.out.drw.rest hc1 hb1;have d0:w1.cell? ⟨w.heap.size,0,none⟩=some (.pointer (some ⟨I,0,none⟩)):=zA h1.bi 0;have d1:w1.cell? ⟨w.heap.size+1+1,0,none⟩=some (.func (Fn.func 59) #[] #[.pointer (some ⟨w.heap.size+1,0,none⟩)]):=zA h1.bc 0;have mI:=zE h1.b;have mA:=zE h1.bi;have mC:=zE h1.bc;have fr0:=zD h1.b 0;have fr1:=zD h1.b 1;have fr2:=zD h1.b 2;have fr3:=zD h1.b 3;have fr4:=zD h1.b 4;have fr5:=zD h1.b 5;have fr6:=zD h1.b 6;have fr7:=zD h1.b 7;have q0:=zA h1.b 0;have q1:=zA h1.b 1;have q2:=zA h1.b 2;have q3:=zA h1.b 3;have q4:=zA h1.b 4;have q5:=zA h1.b 5;have q6:=zA h1.b 6;have q7:=zA h1.b 7;have H1:Hid _:=h1;clear h1))
 go_upto_region 7 with fail
 refine zJ (fun W'=>RD w W' I (w.heap.size+1) w.heap.size (w.heap.size+1+1) ⟨zP true 1 256 u0,zP (hb f.has 448) 256 16 (uT u0),zP (hb f.has 1) 4096 16 (rd2 f.has u0),0,0,0,0,0⟩ f nn (rd3 f.has u0)) ?_ ?_
 ·first|exact H1.out.put ⟨zP true 1 256 u0,zP (hb f.has 448) 256 16 (uT u0),zP (hb f.has 1) 4096 16 (rd2 f.has u0),0,0,0,0,0⟩ 2 _ rfl|exact(H1.out.put ⟨zP true 1 256 u0,zP (hb f.has 448) 256 16 (uT u0),zP (hb f.has 1) 4096 16 (rd2 f.has u0),0,0,0,0,0⟩ 2 _ rfl).drw
 clear H H1 c0 c1 d0 d1 lI lA lC mI mA mC fr0 q0 fr1 q1 fr2 q2 fr3 q3 fr4 q4 fr5 q5 fr6 q6 fr7 q7 hb1 hc1
 intro W h4
 have c0:W.cell? ⟨w.heap.size,0,none⟩=some (.pointer (some ⟨I,0,none⟩)):=zA h4.bi 0
 have c1:W.cell? ⟨w.heap.size+1+1,0,none⟩=some (.func (Fn.func 59) #[] #[.pointer (some ⟨w.heap.size+1,0,none⟩)]):=zA h4.bc 0
 have lI:=zE h4.b
 have lA:=zE h4.bi
 have lC:=zE h4.bc
 have H:Hid _:=h4
 clear h4
 go_region_held3 (fun W'=>W'.cell? ⟨w.heap.size,0,none⟩=some (.pointer (some ⟨I,0,none⟩))∧W'.cell? ⟨w.heap.size+1+1,0,none⟩=some (.func (Fn.func 59) #[] #[.pointer (some ⟨w.heap.size+1,0,none⟩)])) (first|(simp[go_sem,c0,c1];done)|(simp[go_sem,d0,d1];done)) ((go_at_call 60;refine(zEi w.heap.size (w.heap.size+1+1) (w.heap.size+1) I (rd3 f.has u0) f.has (hb f.has 2) _ ?_ (zEe f.has HU.out) (hb_iff _ _)).mono ?_;(focus(exact H.out.drw.fw));rintro e w1 ⟨rfl,hb1,hc1⟩;have h1:=H.out.drw.rest hc1 hb1;have d0:w1.cell? ⟨w.heap.size,0,none⟩=some (.pointer (some ⟨I,0,none⟩)):=zA h1.bi 0;have d1:w1.cell? ⟨w.heap.size+1+1,0,none⟩=some (.func (Fn.func 59) #[] #[.pointer (some ⟨w.heap.size+1,0,none⟩)]):=zA h1.bc 0;have mI:=zE h1.b;have mA:=zE h1.bi;have mC:=zE h1.bc;have fr0:=zD h1.b 0;have fr1:=zD h1.b 1;have fr2:=zD h1.b 2;have fr3:=zD h1.b 3;have fr4:=zD h1.b 4;have fr5:=zD h1.b 5;have fr6:=zD h1.b 6;have fr7:=zD h1.b 7;have q0:=zA h1.b 0;have q1:=zA h1.b 1;have q2:=zA h1.b 2;have q3:=zA h1.b 3;have q4:=zA h1.b 4;have q5:=zA h1.b 5;have q6:=zA h1.b 6;have q7:=zA h1.b 7;have H1:Hid _:=h1;clear h1))
 go_upto_region 8 with fail
 refine zJ (fun W'=>RD w W' I (w.heap.size+1) w.heap.size (w.heap.size+1+1) ⟨zP true 1 256 u0,zP (hb f.has 448) 256 16 (uT u0),zP (hb f.has 1) 4096 16 (rd2 f.has u0),zP (hb f.has 2) 65536 16 (rd3 f.has u0),0,0,0,0⟩ f nn (rd4 f.has u0)) ?_ ?_
 ·first|exact H1.out.put ⟨zP true 1 256 u0,zP (hb f.has 448) 256 16 (uT u0),zP (hb f.has 1) 4096 16 (rd2 f.has u0),zP (hb f.has 2) 65536 16 (rd3 f.has u0),0,0,0,0⟩ 3 _ rfl|exact(H1.out.put ⟨zP true 1 256 u0,zP (hb f.has 448) 256 16 (uT u0),zP (hb f.has 1) 4096 16 (rd2 f.has u0),zP (hb f.has 2) 65536 16 (rd3 f.has u0),0,0,0,0⟩ 3 _ rfl).drw
 clear H H1 c0 c1 d0 d1 lI lA lC mI mA mC fr0 q0 fr1 q1 fr2 q2 fr3 q3 fr4 q4 fr5 q5 fr6 q6 fr7 q7 hb1 hc1
 intro W h4
 have c0:W.cell? ⟨w.heap.size,0,none⟩=some (.pointer (some ⟨I,0,none⟩)):=zA h4.bi 0
 have c1:W.cell? ⟨w.heap.size+1+1,0,none⟩=some (.func (Fn.func 59) #[] #[.pointer (some ⟨w.heap.size+1,0,none⟩)]):=zA h4.bc 0
 have lI:=zE h4.b
 have lA:=zE h4.bi
 have lC:=zE h4.bc
 have H:Hid _:=h4
 clear h4
 go_region_held3 (fun W'=>W'.cell? ⟨w.heap.size,0,none⟩=some (.pointer (some ⟨I,0,none⟩))∧W'.cell? ⟨w.heap.size+1+1,0,none⟩=some (.func (Fn.func 59) #[] #[.pointer (some ⟨w.heap.size+1,0,none⟩)])) (first|(simp[go_sem,c0,c1];done)|(simp[go_sem,d0,d1];done)) ((go_at_call 60;refine(zEj w.heap.size (w.heap.size+1+1) (w.heap.size+1) I (rd4 f.has u0) f.has (hb f.has 4) _ ?_ (zEf f.has HU.out) (hb_iff _ _)).mono ?_;(focus(exact H.out.drw.fw));rintro e w1 ⟨rfl,hb1,hc1⟩;have h1:=H.out.drw.rest hc1 hb1;have d0:w1.cell? ⟨w.heap.size,0,none⟩=some (.pointer (some ⟨I,0,none⟩)):=zA h1.bi 0;have d1:w1.cell? ⟨w.heap.size+1+1,0,none⟩=some (.func (Fn.func 59) #[] #[.pointer (some ⟨w.heap.size+1,0,none⟩)]):=zA h1.bc 0;have mI:=zE h1.b;have mA:=zE h1.bi;have mC:=zE h1.bc;have fr0:=zD h1.b 0;have fr1:=zD h1.b 1;have fr2:=zD h1.b 2;have fr3:=zD h1.b 3;have fr4:=zD h1.b 4;have fr5:=zD h1.b 5;have fr6:=zD h1.b 6;have fr7:=zD h1.b 7;have q0:=zA h1.b 0;have q1:=zA h1.b 1;have q2:=zA h1.b 2;have q3:=zA h1.b 3;have q4:=zA h1.b 4;have q5:=zA h1.b 5;have q6:=zA h1.b 6;have q7:=zA h1.b 7;have H1:Hid _:=h1;clear h1))
 go_upto_region 9 with fail
 refine zJ (fun W'=>RD w W' I (w.heap.size+1) w.heap.size (w.heap.size+1+1) ⟨zP true 1 256 u0,zP (hb f.has 448) 256 16 (uT u0),zP (hb f.has 1) 4096 16 (rd2 f.has u0),zP (hb f.has 2) 65536 16 (rd3 f.has u0),zP (hb f.has 4) 1048576 16 (rd4 f.has u0),0,0,0⟩ f nn (rd5 f.has u0)) ?_ ?_
 ·first|exact H1.out.put ⟨zP true 1 256 u0,zP (hb f.has 448) 256 16 (uT u0),zP (hb f.has 1) 4096 16 (rd2 f.has u0),zP (hb f.has 2) 65536 16 (rd3 f.has u0),zP (hb f.has 4) 1048576 16 (rd4 f.has u0),0,0,0⟩ 4 _ rfl|exact(H1.out.put ⟨zP true 1 256 u0,zP (hb f.has 448) 256 16 (uT u0),zP (hb f.has 1) 4096 16 (rd2 f.has u0),zP (hb f.has 2) 65536 16 (rd3 f.has u0),zP (hb f.has 4) 1048576 16 (rd4 f.has u0),0,0,0⟩ 4 _ rfl).drw
 clear H H1 c0 c1 d0 d1 lI lA lC mI mA mC fr0 q0 fr1 q1 fr2 q2 fr3 q3 fr4 q4 fr5 q5 fr6 q6 fr7 q7 hb1 hc1
 intro W h4
 have c0:W.cell? ⟨w.heap.size,0,none⟩=some (.pointer (some ⟨I,0,none⟩)):=zA h4.bi 0
 have c1:W.cell? ⟨w.heap.size+1+1,0,none⟩=some (.func (Fn.func 59) #[] #[.pointer (some ⟨w.heap.size+1,0,none⟩)]):=zA h4.bc 0
 have lI:=zE h4.b
 have lA:=zE h4.bi
 have lC:=zE h4.bc
 have H:Hid _:=h4
 clear h4
 go_region_held3 (fun W'=>W'.cell? ⟨w.heap.size,0,none⟩=some (.pointer (some ⟨I,0,none⟩))∧W'.cell? ⟨w.heap.size+1+1,0,none⟩=some (.func (Fn.func 59) #[] #[.pointer (some ⟨w.heap.size+1,0,none⟩)])) (first|(simp[go_sem,c0,c1];done)|(simp[go_sem,d0,d1];done)) ((go_at_call 60;refine(zEl w.heap.size (w.heap.size+1+1) (w.heap.size+1) I (rd5 f.has u0) f.has (hb f.has 8) _ ?_ (zFY f.has HU.out) (hb_iff _ _)).mono ?_;(focus(exact H.out.drw.fw));rintro e w1 ⟨rfl,hb1,hc1⟩;have h1:=H.out.drw.rest hc1 hb1;have d0:w1.cell? ⟨w.heap.size,0,none⟩=some (.pointer (some ⟨I,0,none⟩)):=zA h1.bi 0;have d1:w1.cell? ⟨w.heap.size+1+1,0,none⟩=some (.func (Fn.func 59) #[] #[.pointer (some ⟨w.heap.size+1,0,none⟩)]):=zA h1.bc 0;have mI:=zE h1.b;have mA:=zE h1.bi;have mC:=zE h1.bc;have fr0:=zD h1.b 0;have fr1:=zD h1.b 1;have fr2:=zD h1.b 2;have fr3:=zD h1.b 3;have fr4:=zD h1.b 4;have fr5:=zD h1.b 5;have fr6:=zD h1.b 6;have fr7:=zD h1.b 7;have q0:=zA h1.b 0;have q1:=zA h1.b 1;have q2:=zA h1.b 2;have q3:=zA h1.b 3;have q4:=zA h1.b 4;have q5:=zA h1.b 5;have q6:=zA h1.b 6;have q7:=zA h1.b 7;have H1:Hid _:=h1;clear h1))
 go_upto_region 14 with fail
 refine zJ (fun W'=>RD w W' I (w.heap.size+1) w.heap.size (w.heap.size+1+1) ⟨zP true 1 256 u0,zP (hb f.has 448) 256 16 (uT u0),zP (hb f.has 1) 4096 16 (rd2 f.has u0),zP (hb f.has 2) 65536 16 (rd3 f.has u0),zP (hb f.has 4) 1048576 16 (rd4 f.has u0),zP (hb f.has 8) 65536 65536 (rd5 f.has u0),0,0⟩ f nn (rd6 f.has u0)) ?_ ?_
 ·first|exact H1.out.put ⟨zP true 1 256 u0,zP (hb f.has 448) 256 16 (uT u0),zP (hb f.has 1) 4096 16 (rd2 f.has u0),zP (hb f.has 2) 65536 16 (rd3 f.has u0),zP (hb f.has 4) 1048576 16 (rd4 f.has u0),zP (hb f.has 8) 65536 65536 (rd5 f.has u0),0,0⟩ 5 _ rfl|exact(H1.out.put ⟨zP true 1 256 u0,zP (hb f.has 448) 256 16 (uT u0),zP (hb f.has 1) 4096 16 (rd2 f.has u0),zP (hb f.has 2) 65536 16 (rd3 f.has u0),zP (hb f.has 4) 1048576 16 (rd4 f.has u0),zP (hb f.has 8) 65536 65536 (rd5 f.has u0),0,0⟩ 5 _ rfl).drw|exact(H1.out.put ⟨zP true 1 256 u0,zP (hb f.has 448) 256 16 (uT u0),zP (hb f.has 1) 4096 16 (rd2 f.has u0),zP (hb f.has 2) 65536 16 (rd3 f.has u0),zP (hb f.has 4) 1048576 16 (rd4 f.has u0),zP (hb f.has 8) 65536 65536 (rd5 f.has u0),0,0⟩ 5 _ rfl).drw.drw
 clear H H1 c0 c1 d0 d1 lI lA lC mI mA mC fr0 q0 fr1 q1 fr2 q2 fr3 q3 fr4 q4 fr5 q5 fr6 q6 fr7 q7 hb1 hc1
 intro W h4
 have c0:W.cell? ⟨w.heap.size+1,0,none⟩=some (.int .u32 (rd6 f.has u0)):=zA h4.br 0
 have lR:=zE h4.br
 have HB:Hid _:=h4.b
 have HC:Hid _:=h4.ch
 clear h4
 go_wp2
 go_ret
 exact⟨rfl,HB.out,HC.out⟩
theorem zCn(I b off cap:Nat)(ws:Nat→Nat)(x0:Cd)(f:Fo)(nn:Int)(w:World)(hI:w.heap[I]?=some (.cells (yT x0 f nn) 90))(hr:WR w b off 2 ws)(hbI:b≠I)(hcap:2≤cap) :
  Calls Tryz.prog 45 #[.pointer (some ⟨I,0,none⟩),.slice (some ⟨b,off,none⟩) 2 cap] w fun e w'=>e=.returned (.int .u32 (rd6 f.has (ws 0)))∧w'.heap[I]?=some (.cells (yT (rdX f.has (ws 0) (ws 1) (0)) f nn) 90)∧zI [I] w w':=by
 have lI:=zE hI
 have lb:=hr.lb
 have v0:w.cell? ⟨b,off,none⟩=some (.int .u32 (ws 0)):=by simpa using hr.cell 0 aO
 have v1:w.cell? ⟨b,off+1,none⟩=some (.int .u32 (ws 1)):=hr.cell 1 aO
 have HLT:Hid (∀ i,ws i < 4294967296):=hr.lt
 have HI:Hid _:=hI
 have HNB:Hid _:=hbI
 clear hr hI hbI
 generalize e0:ws 0=u0 at *
 generalize e1:ws 1=u1 at *
 have HU:Hid (u0 < 4294967296):=by rw[← e0];exact HLT.out 0
 clear HLT e0 e1
 go_enter Tryz.func45,Tryz.ntmps45
 go_upto_region 4 with fail
 refine zJ (fun W'=>RD w W' I (w.heap.size+1) w.heap.size (w.heap.size+1+1) x0 f nn u0) ?_ ?_
 ·exact zDj w I u0 x0 f nn HI.out
 intro W h4
 have c0:W.cell? ⟨w.heap.size,0,none⟩=some (.pointer (some ⟨I,0,none⟩)):=zA h4.bi 0
 have c1:W.cell? ⟨w.heap.size+1+1,0,none⟩=some (.func (Fn.func 59) #[] #[.pointer (some ⟨w.heap.size+1,0,none⟩)]):=zA h4.bc 0
 have lI:=zE h4.b
 have lA:=zE h4.bi
 have lC:=zE h4.bc
 have H:Hid _:=h4
 clear h4
 go_region_held3 (fun W'=>W'.cell? ⟨w.heap.size,0,none⟩=some (.pointer (some ⟨I,0,none⟩))∧W'.cell? ⟨w.heap.size+1+1,0,none⟩=some (.func (Fn.func 59) #[] #[.pointer (some ⟨w.heap.size+1,0,none⟩)])) (first|(simp[go_sem,c0,c1];done)|(simp[go_sem,d0,d1];done)) ((go_at_call 59;refine(zFV (w.heap.size+1) u0 _ ?_ HU.out).mono ?_;(focus(exact H.out.drw.br));rintro e w1 ⟨rfl,hb1,hc1⟩;have h1:=H.out.drw.rest hc1 hb1;have d0:w1.cell? ⟨w.heap.size,0,none⟩=some (.pointer (some ⟨I,0,none⟩)):=zA h1.bi 0;have d1:w1.cell? ⟨w.heap.size+1+1,0,none⟩=some (.func (Fn.func 59) #[] #[.pointer (some ⟨w.heap.size+1,0,none⟩)]):=zA h1.bc 0;have mI:=zE h1.b;have mA:=zE h1.bi;have mC:=zE h1.bc;have fr0:=zD h1.b 0;have fr1:=zD h1.b 1;have fr2:=zD h1.b 2;have fr3:=zD h1.b 3;have fr4:=zD h1.b 4;have fr5:=zD h1.b 5;have fr6:=zD h1.b 6;have fr7:=zD h1.b 7;have q0:=zA h1.b 0;have q1:=zA h1.b 1;have q2:=zA h1.b 2;have q3:=zA h1.b 3;have q4:=zA h1.b 4;have q5:=zA h1.b 5;have q6:=zA h1.b 6;have q7:=zA h1.b 7;have H1:Hid _:=h1;clear h1))
 go_upto_region 5 with fail
 refine zJ (fun W'=>RD w W' I (w.heap.size+1) w.heap.size (w.heap.size+1+1) ⟨zP true 1 256 u0,0,0,0,0,0,0,0⟩ f nn (uT u0)) ?_ ?_
 ·first|exact H1.out.put8 ⟨zP true 1 256 u0,0,0,0,0,0,0,0⟩|exact(H1.out.put8 ⟨zP true 1 256 u0,0,0,0,0,0,0,0⟩).drw
 clear H H1 c0 c1 d0 d1 lI lA lC mI mA mC fr0 q0 fr1 q1 fr2 q2 fr3 q3 fr4 q4 fr5 q5 fr6 q6 fr7 q7 hb1 hc1
 intro W h4
 have c0:W.cell? ⟨w.heap.size,0,none⟩=some (.pointer (some ⟨I,0,none⟩)):=zA h4.bi 0
 have c1:W.cell? ⟨w.heap.size+1+1,0,none⟩=some (.func (Fn.func 59) #[] #[.pointer (some ⟨w.heap.size+1,0,none⟩)]):=zA h4.bc 0
 have lI:=zE h4.b
 have lA:=zE h4.bi
 have lC:=zE h4.bc
 have H:Hid _:=h4
 clear h4
 go_region_held3 (fun W'=>W'.cell? ⟨w.heap.size,0,none⟩=some (.pointer (some ⟨I,0,none⟩))∧W'.cell? ⟨w.heap.size+1+1,0,none⟩=some (.func (Fn.func 59) #[] #[.pointer (some ⟨w.heap.size+1,0,none⟩)])) (first|(simp[go_sem,c0,c1];done)|(simp[go_sem,d0,d1];done)) ((go_at_call 60;refine(zEk w.heap.size (w.heap.size+1+1) (w.heap.size+1) I (uT u0) f.has (hb f.has 448) _ ?_ (zEc HU.out) (hb_iff _ _)).mono ?_;(focus(exact H.out.drw.fw));rintro e w1 ⟨rfl,hb1,hc1⟩;have h1:=H.out.drw.rest hc1 hb1;have d0:w1.cell? ⟨w.heap.size,0,none⟩=some (.pointer (some ⟨I,0,none⟩)):=zA h1.bi 0;have d1:w1.cell? ⟨w.heap.size+1+1,0,none⟩=some (.func (Fn.func 59) #[] #[.pointer (some ⟨w.heap.size+1,0,none⟩)]):=zA h1.bc 0;have mI:=zE h1.b;have mA:=zE h1.bi;have mC:=zE h1.bc;have fr0:=zD h1.b 0;have fr1:=zD h1.b 1;have fr2:=zD h1.b 2;have fr3:=zD h1.b 3;have fr4:=zD h1.b 4;have fr5:=zD h1.b 5;have fr6:=zD h1.b 6;have fr7:=zD h1.b 7;have q0:=zA h1.b 0;have q1:=zA h1.b 1;have q2:=zA h1.b 2;have q3:=zA h1.b 3;have q4:=zA h1.b 4;have q5:=zA h1.b 5;have q6:=zA h1.b 6;have q7:=zA h1.b 7;have H1:Hid _:=h1;clear h1))
 go_upto_region 6 with fail
 refine zJ (fun W'=>RD w W' I (w.heap.size+1) w.heap.size (w.heap.size+1+1) ⟨zP true 1 256 u0,zP (hb f.has 448) 256 16 (uT u0),0,0,0,0,0,0⟩ f nn (rd2 f.has u0)) ?_ ?_
 ·first|exact H1.out.put ⟨zP true 1 256 u0,zP (hb f.has 448) 256 16 (uT u0),0,0,0,0,0,0⟩ 1 _ rfl|exact(H1.out.put ⟨zP true 1 256 u0,zP (hb f.has 448) 256 16 (uT u0),0,0,0,0,0,0⟩ 1 _ rfl).drw
 clear H H1 c0 c1 d0 d1 lI lA lC mI mA mC fr0 q0 fr1 q1 fr2 q2 fr3 q3 fr4 q4 fr5 q5 fr6 q6 fr7 q7 hb1 hc1
 intro W h4
 have c0:W.cell? ⟨w.heap.size,0,none⟩=some (.pointer (some ⟨I,0,none⟩)):=zA h4.bi 0
 have c1:W.cell? ⟨w.heap.size+1+1,0,none⟩=some (.func (Fn.func 59) #[] #[.pointer (some ⟨w.heap.size+1,0,none⟩)]):=zA h4.bc 0
 have lI:=zE h4.b
 have lA:=zE h4.bi
 have lC:=zE h4.bc
 have H:Hid _:=h4
 clear h4
 go_region_held3 (fun W'=>W'.cell? ⟨w.heap.size,0,none⟩=some (.pointer (some ⟨I,0,none⟩))∧W'.cell? ⟨w.heap.size+1+1,0,none⟩=some (.func (Fn.func 59) #[] #[.pointer (some ⟨w.heap.size+1,0,none⟩)])) (first|(simp[go_sem,c0,c1];done)|(simp[go_sem,d0,d1];done)) ((go_at_call 60;refine(zEh w.heap.size (w.heap.size+1+1) (w.heap.size+1) I (rd2 f.has u0) f.has (hb f.has 1) _ ?_ (zEd f.has HU.out) (hb_iff _ _)).mono ?_;(focus(exact H.out.drw.fw));rintro e w1 ⟨rfl,hb1,hc1⟩;have h1:=H.out.drw.rest hc1 hb1;have d0:w1.cell? ⟨w.heap.size,0,none⟩=some (.pointer (some ⟨I,0,none⟩)):=zA h1.bi 0;have d1:w1.cell? ⟨w.heap.size+1+1,0,none⟩=some (.func (Fn.func 59) #[] #[.pointer (some ⟨w.heap.size+1,0,none⟩)]):=zA h1.bc 0;have mI:=zE h1.b;have mA:=zE h1.bi;have mC:=zE h1.bc;have fr0:=zD h1.b 0;have fr1:=zD h1.b 1;have fr2:=zD h1.b 2;have fr3:=zD h1.b 3;have fr4:=zD h1.b 4;have fr5:=zD h1.b 5;have fr6:=zD h1.b 6;have fr7:=zD h1.b 7;have q0:=zA h1.b 0;have q1:=zA h1.b 1;have q2:=zA h1.b 2;have q3:=zA h1.b 3;have q4:=zA h1.b 4;have q5:=zA h1.b 5;have q6:=zA h1.b 6;have q7:=zA h1.b 7;have H1:Hid _:=h1;clear h1))
 go_upto_region 7 with fail
 refine zJ (fun W'=>RD w W' I (w.heap.size+1) w.heap.size (w.heap.size+1+1) ⟨zP true 1 256 u0,zP (hb f.has 448) 256 16 (uT u0),zP (hb f.has 1) 4096 16 (rd2 f.has u0),0,0,0,0,0⟩ f nn (rd3 f.has u0)) ?_ ?_
 ·first|exact H1.out.put ⟨zP true 1 256 u0,zP (hb f.has 448) 256 16 (uT u0),zP (hb f.has 1) 4096 16 (rd2 f.has u0),0,0,0,0,0⟩ 2 _ rfl|exact(H1.out.put ⟨zP true 1 256 u0,zP (hb f.has 448) 256 16 (uT u0),zP (hb f.has 1) 4096 16 (rd2 f.has u0),0,0,0,0,0⟩ 2 _ rfl).drw
 clear H H1 c0 c1 d0 d1 lI lA lC mI mA mC fr0 q0 fr1 q1 fr2 q2 fr3 q3 fr4 q4 fr5 q5 fr6 q6 fr7 q7 hb1 hc1
 intro W h4
 have c0:W.cell? ⟨w.heap.size,0,none⟩=some (.pointer (some ⟨I,0,none⟩)):=zA h4.bi 0
 have c1:W.cell? ⟨w.heap.size+1+1,0,none⟩=some (.func (Fn.func 59) #[] #[.pointer (some ⟨w.heap.size+1,0,none⟩)]):=zA h4.bc 0
 have lI:=zE h4.b
 have lA:=zE h4.bi
 have lC:=zE h4.bc
 have H:Hid _:=h4
 clear h4
 go_region_held3 (fun W'=>W'.cell? ⟨w.heap.size,0,none⟩=some (.pointer (some ⟨I,0,none⟩))∧W'.cell? ⟨w.heap.size+1+1,0,none⟩=some (.func (Fn.func 59) #[] #[.pointer (some ⟨w.heap.size+1,0,none⟩)])) (first|(simp[go_sem,c0,c1];done)|(simp[go_sem,d0,d1];done)) ((go_at_call 60;refine(zEi w.heap.size (w.heap.size+1+1) (w.heap.size+1) I (rd3 f.has u0) f.has (hb f.has 2) _ ?_ (zEe f.has HU.out) (hb_iff _ _)).mono ?_;(focus(exact H.out.drw.fw));rintro e w1 ⟨rfl,hb1,hc1⟩;have h1:=H.out.drw.rest hc1 hb1;have d0:w1.cell? ⟨w.heap.size,0,none⟩=some (.pointer (some ⟨I,0,none⟩)):=zA h1.bi 0;have d1:w1.cell? ⟨w.heap.size+1+1,0,none⟩=some (.func (Fn.func 59) #[] #[.pointer (some ⟨w.heap.size+1,0,none⟩)]):=zA h1.bc 0;have mI:=zE h1.b;have mA:=zE h1.bi;have mC:=zE h1.bc;have fr0:=zD h1.b 0;have fr1:=zD h1.b 1;have fr2:=zD h1.b 2;have fr3:=zD h1.b 3;have fr4:=zD h1.b 4;have fr5:=zD h1.b 5;have fr6:=zD h1.b 6;have fr7:=zD h1.b 7;have q0:=zA h1.b 0;have q1:=zA h1.b 1;have q2:=zA h1.b 2;have q3:=zA h1.b 3;have q4:=zA h1.b 4;have q5:=zA h1.b 5;have q6:=zA h1.b 6;have q7:=zA h1.b 7;have H1:Hid _:=h1;clear h1))
 go_upto_region 8 with fail
 refine zJ (fun W'=>RD w W' I (w.heap.size+1) w.heap.size (w.heap.size+1+1) ⟨zP true 1 256 u0,zP (hb f.has 448) 256 16 (uT u0),zP (hb f.has 1) 4096 16 (rd2 f.has u0),zP (hb f.has 2) 65536 16 (rd3 f.has u0),0,0,0,0⟩ f nn (rd4 f.has u0)) ?_ ?_
 ·first|exact H1.out.put ⟨zP true 1 256 u0,zP (hb f.has 448) 256 16 (uT u0),zP (hb f.has 1) 4096 16 (rd2 f.has u0),zP (hb f.has 2) 65536 16 (rd3 f.has u0),0,0,0,0⟩ 3 _ rfl|exact(H1.out.put ⟨zP true 1 256 u0,zP (hb f.has 448) 256 16 (uT u0),zP (hb f.has 1) 4096 16 (rd2 f.has u0),zP (hb f.has 2) 65536 16 (rd3 f.has u0),0,0,0,0⟩ 3 _ rfl).drw
 clear H H1 c0 c1 d0 d1 lI lA lC mI mA mC fr0 q0 fr1 q1 fr2 q2 fr3 q3 fr4 q4 fr5 q5 fr6 q6 fr7 q7 hb1 hc1
 intro W h4
 have c0:W.cell? ⟨w.heap.size,0,none⟩=some (.pointer (some ⟨I,0,none⟩)):=zA h4.bi 0
 have c1:W.cell? ⟨w.heap.size+1+1,0,none⟩=some (.func (Fn.func 59) #[] #[.pointer (some ⟨w.heap.size+1,0,none⟩)]):=zA h4.bc 0
 have lI:=zE h4.b
 have lA:=zE h4.bi
 have lC:=zE h4.bc
 have H:Hid _:=h4
 clear h4
 go_region_held3 (fun W'=>W'.cell? ⟨w.heap.size,0,none⟩=some (.pointer (some ⟨I,0,none⟩))∧W'.cell? ⟨w.heap.size+1+1,0,none⟩=some (.func (Fn.func 59) #[] #[.pointer (some ⟨w.heap.size+1,0,none⟩)])) (first|(simp[go_sem,c0,c1];done)|(simp[go_sem,d0,d1];done)) ((go_at_call 60;refine(zEj w.heap.size (w.heap.size+1+1) (w.heap.size+1) I (rd4 f.has u0) f.has (hb f.has 4) _ ?_ (zEf f.has HU.out) (hb_iff _ _)).mono ?_;(focus(exact H.out.drw.fw));rintro e w1 ⟨rfl,hb1,hc1⟩;have h1:=H.out.drw.rest hc1 hb1;have d0:w1.cell? ⟨w.heap.size,0,none⟩=some (.pointer (some ⟨I,0,none⟩)):=zA h1.bi 0;have d1:w1.cell? ⟨w.heap.size+1+1,0,none⟩=some (.func (Fn.func 59) #[] #[.pointer (some ⟨w.heap.size+1,0,none⟩)]):=zA h1.bc 0;have mI:=zE h1.b;have mA:=zE h1.bi;have mC:=zE h1.bc;have fr0:=zD h1.b 0;have fr1:=zD h1.b 1;have fr2:=zD h1.b 2;have fr3:=zD h1.b 3;have fr4:=zD h1.b 4;have fr5:=zD h1.b 5;have fr6:=zD h1.b 6;have fr7:=zD h1.b 7;have q0:=zA h1.b 0;have q1:=zA h1.b 1;have q2:=zA h1.b 2;have q3:=zA h1.b 3;have q4:=zA h1.b 4;have q5:=zA h1.b 5;have q6:=zA h1.b 6;have q7:=zA h1.b 7;have H1:Hid _:=h1;clear h1))
 go_upto_region 9 with fail
 refine zJ (fun W'=>RD w W' I (w.heap.size+1) w.heap.size (w.heap.size+1+1) ⟨zP true 1 256 u0,zP (hb f.has 448) 256 16 (uT u0),zP (hb f.has 1) 4096 16 (rd2 f.has u0),zP (hb f.has 2) 65536 16 (rd3 f.has u0),zP (hb f.has 4) 1048576 16 (rd4 f.has u0),0,0,0⟩ f nn (rd5 f.has u0)) ?_ ?_
 ·first|exact H1.out.put ⟨zP true 1 256 u0,zP (hb f.has 448) 256 16 (uT u0),zP (hb f.has 1) 4096 16 (rd2 f.has u0),zP (hb f.has 2) 65536 16 (rd3 f.has u0),zP (hb f.has 4) 1048576 16 (rd4 f.has u0),0,0,0⟩ 4 _ rfl|exact(H1.out.put ⟨zP true 1 256 u0,zP (hb f.has 448) 256 16 (uT u0),zP (hb f.has 1) 4096 16 (rd2 f.has u0),zP (hb f.has 2) 65536 16 (rd3 f.has u0),zP (hb f.has 4) 1048576 16 (rd4 f.has u0),0,0,0⟩ 4 _ rfl).drw
 clear H H1 c0 c1 d0 d1 lI lA lC mI mA mC fr0 q0 fr1 q1 fr2 q2 fr3 q3 fr4 q4 fr5 q5 fr6 q6 fr7 q7 hb1 hc1
 intro W h4
 have c0:W.cell? ⟨w.heap.size,0,none⟩=some (.pointer (some ⟨I,0,none⟩)):=zA h4.bi 0
 have c1:W.cell? ⟨w.heap.size+1+1,0,none⟩=some (.func (Fn.func 59) #[] #[.pointer (some ⟨w.heap.size+1,0,none⟩)]):=zA h4.bc 0
 have lI:=zE h4.b
 have lA:=zE h4.bi
 have lC:=zE h4.bc
 have H:Hid _:=h4
 clear h4
 go_region_held3 (fun W'=>W'.cell? ⟨w.heap.size,0,none⟩=some (.pointer (some ⟨I,0,none⟩))∧W'.cell? ⟨w.heap.size+1+1,0,none⟩=some (.func (Fn.func 59) #[] #[.pointer (some ⟨w.heap.size+1,0,none⟩)])) (first|(simp[go_sem,c0,c1];done)|(simp[go_sem,d0,d1];done)) ((go_at_call 60;refine(zEl w.heap.size (w.heap.size+1+1) (w.heap.size+1) I (rd5 f.has u0) f.has (hb f.has 8) _ ?_ (zFY f.has HU.out) (hb_iff _ _)).mono ?_;(focus(exact H.out.drw.fw));rintro e w1 ⟨rfl,hb1,hc1⟩;have h1:=H.out.drw.rest hc1 hb1;have d0:w1.cell? ⟨w.heap.size,0,none⟩=some (.pointer (some ⟨I,0,none⟩)):=zA h1.bi 0;have d1:w1.cell? ⟨w.heap.size+1+1,0,none⟩=some (.func (Fn.func 59) #[] #[.pointer (some ⟨w.heap.size+1,0,none⟩)]):=zA h1.bc 0;have mI:=zE h1.b;have mA:=zE h1.bi;have mC:=zE h1.bc;have fr0:=zD h1.b 0;have fr1:=zD h1.b 1;have fr2:=zD h1.b 2;have fr3:=zD h1.b 3;have fr4:=zD h1.b 4;have fr5:=zD h1.b 5;have fr6:=zD h1.b 6;have fr7:=zD h1.b 7;have q0:=zA h1.b 0;have q1:=zA h1.b 1;have q2:=zA h1.b 2;have q3:=zA h1.b 3;have q4:=zA h1.b 4;have q5:=zA h1.b 5;have q6:=zA h1.b 6;have q7:=zA h1.b 7;have H1:Hid _:=h1;clear h1))
 go_upto_region 11 with fail
 refine zJ (fun W'=>RD w W' I (w.heap.size+1) w.heap.size (w.heap.size+1+1) ⟨zP true 1 256 u0,zP (hb f.has 448) 256 16 (uT u0),zP (hb f.has 1) 4096 16 (rd2 f.has u0),zP (hb f.has 2) 65536 16 (rd3 f.has u0),zP (hb f.has 4) 1048576 16 (rd4 f.has u0),zP (hb f.has 8) 65536 65536 (rd5 f.has u0),0,0⟩ f nn (rd6 f.has u0)) ?_ ?_
 ·first|exact H1.out.put ⟨zP true 1 256 u0,zP (hb f.has 448) 256 16 (uT u0),zP (hb f.has 1) 4096 16 (rd2 f.has u0),zP (hb f.has 2) 65536 16 (rd3 f.has u0),zP (hb f.has 4) 1048576 16 (rd4 f.has u0),zP (hb f.has 8) 65536 65536 (rd5 f.has u0),0,0⟩ 5 _ rfl|exact(H1.out.put ⟨zP true 1 256 u0,zP (hb f.has 448) 256 16 (uT u0),zP (hb f.has 1) 4096 16 (rd2 f.has u0),zP (hb f.has 2) 65536 16 (rd3 f.has u0),zP (hb f.has 4) 1048576 16 (rd4 f.has u0),zP (hb f.has 8) 65536 65536 (rd5 f.has u0),0,0⟩ 5 _ rfl).drw|exact(H1.out.put ⟨zP true 1 256 u0,zP (hb f.has 448) 256 16 (uT u0),zP (hb f.has 1) 4096 16 (rd2 f.has u0),zP (hb f.has 2) 65536 16 (rd3 f.has u0),zP (hb f.has 4) 1048576 16 (rd4 f.has u0),zP (hb f.has 8) 65536 65536 (rd5 f.has u0),0,0⟩ 5 _ rfl).drw.drw
 clear H H1 c0 c1 d0 d1 lI lA lC mI mA mC fr0 q0 fr1 q1 fr2 q2 fr3 q3 fr4 q4 fr5 q5 fr6 q6 fr7 q7 hb1 hc1
 intro W h4
 have c0:W.cell? ⟨w.heap.size,0,none⟩=some (.pointer (some ⟨I,0,none⟩)):=zA h4.bi 0
 have lI:=zE h4.b
 have lA:=zE h4.bi
 have f6:=zD h4.b 6
 have q6:W.cell? ⟨I,6,none⟩=some (.int .u32 0):=zA h4.b 6
 have vv:W.cell? ⟨b,off+1,none⟩=some (.int .u32 u1):=(World.cell?_of_block (w:=w) (h4.ch.block b lb (by simpa using HNB.out))).trans v1
 have nbI:¬b=I:=HNB.out
 have lb2:b < W.heap.size:=Nat.lt_of_lt_of_le lb h4.ch.size
 have H:Hid _:=h4
 clear h4
 go_region_held3 (fun W'=>W'.cell? ⟨w.heap.size,0,none⟩=some (.pointer (some ⟨I,0,none⟩))∧W'.cell? ⟨b,off+1,none⟩=some (.int .u32 u1)) ((simp[go_sem,c0,vv,nbI];done)) (fail)
 go_upto_region 14 with fail
 refine zJ (fun W'=>RD w W' I (w.heap.size+1) w.heap.size (w.heap.size+1+1) ⟨zP true 1 256 u0,zP (hb f.has 448) 256 16 (uT u0),zP (hb f.has 1) 4096 16 (rd2 f.has u0),zP (hb f.has 2) 65536 16 (rd3 f.has u0),zP (hb f.has 4) 1048576 16 (rd4 f.has u0),zP (hb f.has 8) 65536 65536 (rd5 f.has u0),u1,0⟩ f nn (rd6 f.has u0)) ?_ ?_
 ·first|exact H.out.put ⟨zP true 1 256 u0,zP (hb f.has 448) 256 16 (uT u0),zP (hb f.has 1) 4096 16 (rd2 f.has u0),zP (hb f.has 2) 65536 16 (rd3 f.has u0),zP (hb f.has 4) 1048576 16 (rd4 f.has u0),zP (hb f.has 8) 65536 65536 (rd5 f.has u0),u1,0⟩ 6 _ rfl|exact(H.out.put ⟨zP true 1 256 u0,zP (hb f.has 448) 256 16 (uT u0),zP (hb f.has 1) 4096 16 (rd2 f.has u0),zP (hb f.has 2) 65536 16 (rd3 f.has u0),zP (hb f.has 4) 1048576 16 (rd4 f.has u0),zP (hb f.has 8) 65536 65536 (rd5 f.has u0),u1,0⟩ 6 _ rfl).drw|exact(H.out.put ⟨zP true 1 256 u0,zP (hb f.has 448) 256 16 (uT u0),zP (hb f.has 1) 4096 16 (rd2 f.has u0),zP (hb f.has 2) 65536 16 (rd3 f.has u0),zP (hb f.has 4) 1048576 16 (rd4 f.has u0),zP (hb f.has 8) 65536 65536 (rd5 f.has u0),u1,0⟩ 6 _ rfl).drw.drw
 clear H c0 lI lA f6 q6 vv lb2 nbI
 intro W h4
 have c0:W.cell? ⟨w.heap.size+1,0,none⟩=some (.int .u32 (rd6 f.has u0)):=zA h4.br 0
 have lR:=zE h4.br
 have HB:Hid _:=h4.b
 have HC:Hid _:=h4.ch
 clear h4
 go_wp2
 go_ret
 exact⟨rfl,HB.out,HC.out⟩
theorem zCo(I b off cap:Nat)(ws:Nat→Nat)(x0:Cd)(f:Fo)(nn:Int)(w:World)(hI:w.heap[I]?=some (.cells (yT x0 f nn) 90))(hr:WR w b off 3 ws)(hbI:b≠I)(hcap:3≤cap) :
  Calls Tryz.prog 45 #[.pointer (some ⟨I,0,none⟩),.slice (some ⟨b,off,none⟩) 3 cap] w fun e w'=>e=.returned (.int .u32 (rd6 f.has (ws 0)))∧w'.heap[I]?=some (.cells (yT (rdX f.has (ws 0) (ws 1) (ws 2)) f nn) 90)∧zI [I] w w':=by
 have lI:=zE hI
 have lb:=hr.lb
 have v0:w.cell? ⟨b,off,none⟩=some (.int .u32 (ws 0)):=by simpa using hr.cell 0 aO
 have v1:w.cell? ⟨b,off+1,none⟩=some (.int .u32 (ws 1)):=hr.cell 1 aO
 have v2:w.cell? ⟨b,off+2,none⟩=some (.int .u32 (ws 2)):=hr.cell 2 aO
 have HLT:Hid (∀ i,ws i < 4294967296):=hr.lt
 have HI:Hid _:=hI
 have HNB:Hid _:=hbI
 clear hr hI hbI
 generalize e0:ws 0=u0 at *
 generalize e1:ws 1=u1 at *
 generalize e2:ws 2=u2 at *
 have HU:Hid (u0 < 4294967296):=by rw[← e0];exact HLT.out 0
 clear HLT e0 e1 e2
 go_enter Tryz.func45,Tryz.ntmps45
 go_upto_region 4 with fail
 refine zJ (fun W'=>RD w W' I (w.heap.size+1) w.heap.size (w.heap.size+1+1) x0 f nn u0) ?_ ?_
 ·exact zDj w I u0 x0 f nn HI.out
 intro W h4
 have c0:W.cell? ⟨w.heap.size,0,none⟩=some (.pointer (some ⟨I,0,none⟩)):=zA h4.bi 0
 have c1:W.cell? ⟨w.heap.size+1+1,0,none⟩=some (.func (Fn.func 59) #[] #[.pointer (some ⟨w.heap.size+1,0,none⟩)]):=zA h4.bc 0
 have lI:=zE h4.b
 have lA:=zE h4.bi
 have lC:=zE h4.bc
 have H:Hid _:=h4
 clear h4
 go_region_held3 (fun W'=>W'.cell? ⟨w.heap.size,0,none⟩=some (.pointer (some ⟨I,0,none⟩))∧W'.cell? ⟨w.heap.size+1+1,0,none⟩=some (.func (Fn.func 59) #[] #[.pointer (some ⟨w.heap.size+1,0,none⟩)])) (first|(simp[go_sem,c0,c1];done)|(simp[go_sem,d0,d1];done)) ((go_at_call 59;refine(zFV (w.heap.size+1) u0 _ ?_ HU.out).mono ?_;(focus(exact H.out.drw.br));rintro e w1 ⟨rfl,hb1,hc1⟩;have h1:=H.out.drw.rest hc1 hb1;have d0:w1.cell? ⟨w.heap.size,0,none⟩=some (.pointer (some ⟨I,0,none⟩)):=zA h1.bi 0;have d1:w1.cell? ⟨w.heap.size+1+1,0,none⟩=some (.func (Fn.func 59) #[] #[.pointer (some ⟨w.heap.size+1,0,none⟩)]):=zA h1.bc 0;have mI:=zE h1.b;have mA:=zE h1.bi;have mC:=zE h1.bc;have fr0:=zD h1.b 0;have fr1:=zD h1.b 1;have fr2:=zD h1.b 2;have fr3:=zD h1.b 3;have fr4:=zD h1.b 4;have fr5:=zD h1.b 5;have fr6:=zD h1.b 6;have fr7:=zD h1.b 7;have q0:=zA h1.b 0;have q1:=zA h1.b 1;have q2:=zA h1.b 2;have q3:=zA h1.b 3;have q4:=zA h1.b 4;have q5:=zA h1.b 5;have q6:=zA h1.b 6;have q7:=zA h1.b 7;have H1:Hid _:=h1;clear h1))
 go_upto_region 5 with fail
 refine zJ (fun W'=>RD w W' I (w.heap.size+1) w.heap.size (w.heap.size+1+1) ⟨zP true 1 256 u0,0,0,0,0,0,0,0⟩ f nn (uT u0)) ?_ ?_
 ·first|exact H1.out.put8 ⟨zP true 1 256 u0,0,0,0,0,0,0,0⟩|exact(H1.out.put8 ⟨zP true 1 256 u0,0,0,0,0,0,0,0⟩).drw
 clear H H1 c0 c1 d0 d1 lI lA lC mI mA mC fr0 q0 fr1 q1 fr2 q2 fr3 q3 fr4 q4 fr5 q5 fr6 q6 fr7 q7 hb1 hc1
 intro W h4
 have c0:W.cell? ⟨w.heap.size,0,none⟩=some (.pointer (some ⟨I,0,none⟩)):=zA h4.bi 0
 have c1:W.cell? ⟨w.heap.size+1+1,0,none⟩=some (.func (Fn.func 59) #[] #[.pointer (some ⟨w.heap.size+1,0,none⟩)]):=zA h4.bc 0
 have lI:=zE h4.b
 have lA:=zE h4.bi
 have lC:=zE h4.bc
 have H:Hid _:=h4
 clear h4
 go_region_held3 (fun W'=>W'.cell? ⟨w.heap.size,0,none⟩=some (.pointer (some ⟨I,0,none⟩))∧W'.cell? ⟨w.heap.size+1+1,0,none⟩=some (.func (Fn.func 59) #[] #[.pointer (some ⟨w.heap.size+1,0,none⟩)])) (first|(simp[go_sem,c0,c1];done)|(simp[go_sem,d0,d1];done)) ((go_at_call 60;refine(zEk w.heap.size (w.heap.size+1+1) (w.heap.size+1) I (uT u0) f.has (hb f.has 448) _ ?_ (zEc HU.out) (hb_iff _ _)).mono ?_;(focus(exact H.out.drw.fw));rintro e w1 ⟨rfl,hb1,hc1⟩;have h1:=H.out.drw.rest hc1 hb1;have d0:w1.cell? ⟨w.heap.size,0,none⟩=some (.pointer (some ⟨I,0,none⟩)):=zA h1.bi 0;have d1:w1.cell? ⟨w.heap.size+1+1,0,none⟩=some (.func (Fn.func 59) #[] #[.pointer (some ⟨w.heap.size+1,0,none⟩)]):=zA h1.bc 0;have mI:=zE h1.b;have mA:=zE h1.bi;have mC:=zE h1.bc;have fr0:=zD h1.b 0;have fr1:=zD h1.b 1;have fr2:=zD h1.b 2;have fr3:=zD h1.b 3;have fr4:=zD h1.b 4;have fr5:=zD h1.b 5;have fr6:=zD h1.b 6;have fr7:=zD h1.b 7;have q0:=zA h1.b 0;have q1:=zA h1.b 1;have q2:=zA h1.b 2;have q3:=zA h1.b 3;have q4:=zA h1.b 4;have q5:=zA h1.b 5;have q6:=zA h1.b 6;have q7:=zA h1.b 7;have H1:Hid _:=h1;clear h1))
 go_upto_region 6 with fail
 refine zJ (fun W'=>RD w W' I (w.heap.size+1) w.heap.size (w.heap.size+1+1) ⟨zP true 1 256 u0,zP (hb f.has 448) 256 16 (uT u0),0,0,0,0,0,0⟩ f nn (rd2 f.has u0)) ?_ ?_
 ·first|exact H1.out.put ⟨zP true 1 256 u0,zP (hb f.has 448) 256 16 (uT u0),0,0,0,0,0,0⟩ 1 _ rfl|exact(H1.out.put ⟨zP true 1 256 u0,zP (hb f.has 448) 256 16 (uT u0),0,0,0,0,0,0⟩ 1 _ rfl).drw
 clear H H1 c0 c1 d0 d1 lI lA lC mI mA mC fr0 q0 fr1 q1 fr2 q2 fr3 q3 fr4 q4 fr5 q5 fr6 q6 fr7 q7 hb1 hc1
 intro W h4
 have c0:W.cell? ⟨w.heap.size,0,none⟩=some (.pointer (some ⟨I,0,none⟩)):=zA h4.bi 0
 have c1:W.cell? ⟨w.heap.size+1+1,0,none⟩=some (.func (Fn.func 59) #[] #[.pointer (some ⟨w.heap.size+1,0,none⟩)]):=zA h4.bc 0
 have lI:=zE h4.b
 have lA:=zE h4.bi
 have lC:=zE h4.bc
 have H:Hid _:=h4
 clear h4
 go_region_held3 (fun W'=>W'.cell? ⟨w.heap.size,0,none⟩=some (.pointer (some ⟨I,0,none⟩))∧W'.cell? ⟨w.heap.size+1+1,0,none⟩=some (.func (Fn.func 59) #[] #[.pointer (some ⟨w.heap.size+1,0,none⟩)])) (first|(simp[go_sem,c0,c1];done)|(simp[go_sem,d0,d1];done)) ((go_at_call 60;refine(zEh w.heap.size (w.heap.size+1+1) (w.heap.size+1) I (rd2 f.has u0) f.has (hb f.has 1) _ ?_ (zEd f.has HU.out) (hb_iff _ _)).mono ?_;(focus(exact H.out.drw.fw));rintro e w1 ⟨rfl,hb1,hc1⟩;have h1:=H.out.drw.rest hc1 hb1;have d0:w1.cell? ⟨w.heap.size,0,none⟩=some (.pointer (some ⟨I,0,none⟩)):=zA h1.bi 0;have d1:w1.cell? ⟨w.heap.size+1+1,0,none⟩=some (.func (Fn.func 59) #[] #[.pointer (some ⟨w.heap.size+1,0,none⟩)]):=zA h1.bc 0;have mI:=zE h1.b;have mA:=zE h1.bi;have mC:=zE h1.bc;have fr0:=zD h1.b 0;have fr1:=zD h1.b 1;have fr2:=zD h1.b 2;have fr3:=zD h1.b 3;have fr4:=zD h1.b 4;have fr5:=zD h1.b 5;have fr6:=zD h1.b 6;have fr7:=zD h1.b 7;have q0:=zA h1.b 0;have q1:=zA h1.b 1;have q2:=zA h1.b 2;have q3:=zA h1.b 3;have q4:=zA h1.b 4;have q5:=zA h1.b 5;have q6:=zA h1.b 6;have q7:=zA h1.b 7;have H1:Hid _:=h1;clear h1))
 go_upto_region 7 with fail
 refine zJ (fun W'=>RD w W' I (w.heap.size+1) w.heap.size (w.heap.size+1+1) ⟨zP true 1 256 u0,zP (hb f.has 448) 256 16 (uT u0),zP (hb f.has 1) 4096 16 (rd2 f.has u0),0,0,0,0,0⟩ f nn (rd3 f.has u0)) ?_ ?_
 ·first|exact H1.out.put ⟨zP true 1 256 u0,zP (hb f.has 448) 256 16 (uT u0),zP (hb f.has 1) 4096 16 (rd2 f.has u0),0,0,0,0,0⟩ 2 _ rfl|exact(H1.out.put ⟨zP true 1 256 u0,zP (hb f.has 448) 256 16 (uT u0),zP (hb f.has 1) 4096 16 (rd2 f.has u0),0,0,0,0,0⟩ 2 _ rfl).drw
 clear H H1 c0 c1 d0 d1 lI lA lC mI mA mC fr0 q0 fr1 q1 fr2 q2 fr3 q3 fr4 q4 fr5 q5 fr6 q6 fr7 q7 hb1 hc1
 intro W h4
 have c0:W.cell? ⟨w.heap.size,0,none⟩=some (.pointer (some ⟨I,0,none⟩)):=zA h4.bi 0
 have c1:W.cell? ⟨w.heap.size+1+1,0,none⟩=some (.func (Fn.func 59) #[] #[.pointer (some ⟨w.heap.size+1,0,none⟩)]):=zA h4.bc 0
 have lI:=zE h4.b
 have lA:=zE h4.bi
 have lC:=zE h4.bc
 have H:Hid _:=h4
 clear h4
 go_region_held3 (fun W'=>W'.cell? ⟨w.heap.size,0,none⟩=some (.pointer (some ⟨I,0,none⟩))∧W'.cell? ⟨w.heap.size+1+1,0,none⟩=some (.func (Fn.func 59) #[] #[.pointer (some ⟨w.heap.size+1,0,none⟩)])) (first|(simp[go_sem,c0,c1];done)|(simp[go_sem,d0,d1];done)) ((go_at_call 60;refine(zEi w.heap.size (w.heap.size+1+1) (w.heap.size+1) I (rd3 f.has u0) f.has (hb f.has 2) _ ?_ (zEe f.has HU.out) (hb_iff _ _)).mono ?_;(focus(exact H.out.drw.fw));rintro e w1 ⟨rfl,hb1,hc1⟩;have h1:=H.out.drw.rest hc1 hb1;have d0:w1.cell? ⟨w.heap.size,0,none⟩=some (.pointer (some ⟨I,0,none⟩)):=zA h1.bi 0;have d1:w1.cell? ⟨w.heap.size+1+1,0,none⟩=some (.func (Fn.func 59) #[] #[.pointer (some ⟨w.heap.size+1,0,none⟩)]):=zA h1.bc 0;have mI:=zE h1.b;have mA:=zE h1.bi;have mC:=zE h1.bc;have fr0:=zD h1.b 0;have fr1:=zD h1.b 1;have fr2:=zD h1.b 2;have fr3:=zD h1.b 3;have fr4:=zD h1.b 4;have fr5:=zD h1.b 5;have fr6:=zD h1.b 6;have fr7:=zD h1.b 7;have q0:=zA h1.b 0;have q1:=zA h1.b 1;have q2:=zA h1.b 2;have q3:=zA h1.b 3;have q4:=zA h1.b 4;have q5:=zA h1.b 5;have q6:=zA h1.b 6;have q7:=zA h1.b 7;have H1:Hid _:=h1;clear h1))
 go_upto_region 8 with fail
 refine zJ (fun W'=>RD w W' I (w.heap.size+1) w.heap.size (w.heap.size+1+1) ⟨zP true 1 256 u0,zP (hb f.has 448) 256 16 (uT u0),zP (hb f.has 1) 4096 16 (rd2 f.has u0),zP (hb f.has 2) 65536 16 (rd3 f.has u0),0,0,0,0⟩ f nn (rd4 f.has u0)) ?_ ?_
 ·first|exact H1.out.put ⟨zP true 1 256 u0,zP (hb f.has 448) 256 16 (uT u0),zP (hb f.has 1) 4096 16 (rd2 f.has u0),zP (hb f.has 2) 65536 16 (rd3 f.has u0),0,0,0,0⟩ 3 _ rfl|exact(H1.out.put ⟨zP true 1 256 u0,zP (hb f.has 448) 256 16 (uT u0),zP (hb f.has 1) 4096 16 (rd2 f.has u0),zP (hb f.has 2) 65536 16 (rd3 f.has u0),0,0,0,0⟩ 3 _ rfl).drw
 clear H H1 c0 c1 d0 d1 lI lA lC mI mA mC fr0 q0 fr1 q1 fr2 q2 fr3 q3 fr4 q4 fr5 q5 fr6 q6 fr7 q7 hb1 hc1
 intro W h4
 have c0:W.cell? ⟨w.heap.size,0,none⟩=some (.pointer (some ⟨I,0,none⟩)):=zA h4.bi 0
 have c1:W.cell? ⟨w.heap.size+1+1,0,none⟩=some (.func (Fn.func 59) #[] #[.pointer (some ⟨w.heap.size+1,0,none⟩)]):=zA h4.bc 0
 have lI:=zE h4.b
 have lA:=zE h4.bi
 have lC:=zE h4.bc
 have H:Hid _:=h4
 clear h4
 go_region_held3 (fun W'=>W'.cell? ⟨w.heap.size,0,none⟩=some (.pointer (some ⟨I,0,none⟩))∧W'.cell? ⟨w.heap.size+1+1,0,none⟩=some (.func (Fn.func 59) #[] #[.pointer (some ⟨w.heap.size+1,0,none⟩)])) (first|(simp[go_sem,c0,c1];done)|(simp[go_sem,d0,d1];done)) ((go_at_call 60;refine(zEj w.heap.size (w.heap.size+1+1) (w.heap.size+1) I (rd4 f.has u0) f.has (hb f.has 4) _ ?_ (zEf f.has HU.out) (hb_iff _ _)).mono ?_;(focus(exact H.out.drw.fw));rintro e w1 ⟨rfl,hb1,hc1⟩;have h1:=H.out.drw.rest hc1 hb1;have d0:w1.cell? ⟨w.heap.size,0,none⟩=some (.pointer (some ⟨I,0,none⟩)):=zA h1.bi 0;have d1:w1.cell? ⟨w.heap.size+1+1,0,none⟩=some (.func (Fn.func 59) #[] #[.pointer (some ⟨w.heap.size+1,0,none⟩)]):=zA h1.bc 0;have mI:=zE h1.b;have mA:=zE h1.bi;have mC:=zE h1.bc;have fr0:=zD h1.b 0;have fr1:=zD h1.b 1;have fr2:=zD h1.b 2;have fr3:=zD h1.b 3;have fr4:=zD h1.b 4;have fr5:=zD h1.b 5;have fr6:=zD h1.b 6;have fr7:=zD h1.b 7;have q0:=zA h1.b 0;have q1:=zA h1.b 1;have q2:=zA h1.b 2;have q3:=zA h1.b 3;have q4:=zA h1.b 4;have q5:=zA h1.b 5;have q6:=zA h1.b 6;have q7:=zA h1.b 7;have H1:Hid _:=h1;clear h1))
 go_upto_region 9 with fail
 refine zJ (fun W'=>RD w W' I (w.heap.size+1) w.heap.size (w.heap.size+1+1) ⟨zP true 1 256 u0,zP (hb f.has 448) 256 16 (uT u0),zP (hb f.has 1) 4096 16 (rd2 f.has u0),zP (hb f.has 2) 65536 16 (rd3 f.has u0),zP (hb f.has 4) 1048576 16 (rd4 f.has u0),0,0,0⟩ f nn (rd5 f.has u0)) ?_ ?_
 ·first|exact H1.out.put ⟨zP true 1 256 u0,zP (hb f.has 448) 256 16 (uT u0),zP (hb f.has 1) 4096 16 (rd2 f.has u0),zP (hb f.has 2) 65536 16 (rd3 f.has u0),zP (hb f.has 4) 1048576 16 (rd4 f.has u0),0,0,0⟩ 4 _ rfl|exact(H1.out.put ⟨zP true 1 256 u0,zP (hb f.has 448) 256 16 (uT u0),zP (hb f.has 1) 4096 16 (rd2 f.has u0),zP (hb f.has 2) 65536 16 (rd3 f.has u0),zP (hb f.has 4) 1048576 16 (rd4 f.has u0),0,0,0⟩ 4 _ rfl).drw
 clear H H1 c0 c1 d0 d1 lI lA lC mI mA mC fr0 q0 fr1 q1 fr2 q2 fr3 q3 fr4 q4 fr5 q5 fr6 q6 fr7 q7 hb1 hc1
 intro W h4
 have c0:W.cell? ⟨w.heap.size,0,none⟩=some (.pointer (some ⟨I,0,none⟩)):=zA h4.bi 0
 have c1:W.cell? ⟨w.heap.size+1+1,0,none⟩=some (.func (Fn.func 59) #[] #[.pointer (some ⟨w.heap.size+1,0,none⟩)]):=zA h4.bc 0
 have lI:=zE h4.b
 have lA:=zE h4.bi
 have lC:=zE h4.bc
 have H:Hid _:=h4
 clear h4
 go_region_held3 (fun W'=>W'.cell? ⟨w.heap.size,0,none⟩=some (.pointer (some ⟨I,0,none⟩))∧W'.cell? ⟨w.heap.size+1+1,0,none⟩=some (.func (Fn.func 59) #[] #[.pointer (some ⟨w.heap.size+1,0,none⟩)])) (first|(simp[go_sem,c0,c1];done)|(simp[go_sem,d0,d1];done)) ((go_at_call 60;refine(zEl w.heap.size (w.heap.size+1+1) (w.heap.size+1) I (rd5 f.has u0) f.has (hb f.has 8) _ ?_ (zFY f.has HU.out) (hb_iff _ _)).mono ?_;(focus(exact H.out.drw.fw));rintro e w1 ⟨rfl,hb1,hc1⟩;have h1:=H.out.drw.rest hc1 hb1;have d0:w1.cell? ⟨w.heap.size,0,none⟩=some (.pointer (some ⟨I,0,none⟩)):=zA h1.bi 0;have d1:w1.cell? ⟨w.heap.size+1+1,0,none⟩=some (.func (Fn.func 59) #[] #[.pointer (some ⟨w.heap.size+1,0,none⟩)]):=zA h1.bc 0;have mI:=zE h1.b;have mA:=zE h1.bi;have mC:=zE h1.bc;have fr0:=zD h1.b 0;have fr1:=zD h1.b 1;have fr2:=zD h1.b 2;have fr3:=zD h1.b 3;have fr4:=zD h1.b 4;have fr5:=zD h1.b 5;have fr6:=zD h1.b 6;have fr7:=zD h1.b 7;have q0:=zA h1.b 0;have q1:=zA h1.b 1;have q2:=zA h1.b 2;have q3:=zA h1.b 3;have q4:=zA h1.b 4;have q5:=zA h1.b 5;have q6:=zA h1.b 6;have q7:=zA h1.b 7;have H1:Hid _:=h1;clear h1))
 go_upto_region 11 with fail
 refine zJ (fun W'=>RD w W' I (w.heap.size+1) w.heap.size (w.heap.size+1+1) ⟨zP true 1 256 u0,zP (hb f.has 448) 256 16 (uT u0),zP (hb f.has 1) 4096 16 (rd2 f.has u0),zP (hb f.has 2) 65536 16 (rd3 f.has u0),zP (hb f.has 4) 1048576 16 (rd4 f.has u0),zP (hb f.has 8) 65536 65536 (rd5 f.has u0),0,0⟩ f nn (rd6 f.has u0)) ?_ ?_
 ·first|exact H1.out.put ⟨zP true 1 256 u0,zP (hb f.has 448) 256 16 (uT u0),zP (hb f.has 1) 4096 16 (rd2 f.has u0),zP (hb f.has 2) 65536 16 (rd3 f.has u0),zP (hb f.has 4) 1048576 16 (rd4 f.has u0),zP (hb f.has 8) 65536 65536 (rd5 f.has u0),0,0⟩ 5 _ rfl|exact(H1.out.put ⟨zP true 1 256 u0,zP (hb f.has 448) 256 16 (uT u0),zP (hb f.has 1) 4096 16 (rd2 f.has u0),zP (hb f.has 2) 65536 16 (rd3 f.has u0),zP (hb f.has 4) 1048576 16 (rd4 f.has u0),zP (hb f.has 8) 65536 65536 (rd5 f.has u0),0,0⟩ 5 _ rfl).drw|exact(H1.out.put ⟨zP true 1 256 u0,zP (hb f.has 448) 256 16 (uT u0),zP (hb f.has 1) 4096 16 (rd2 f.has u0),zP (hb f.has 2) 65536 16 (rd3 f.has u0),zP (hb f.has 4) 1048576 16 (rd4 f.has u0),zP (hb f.has 8) 65536 65536 (rd5 f.has u0),0,0⟩ 5 _ rfl).drw.drw
 clear H H1 c0 c1 d0 d1 lI lA lC mI mA mC fr0 q0 fr1 q1 fr2 q2 fr3 q3 fr4 q4 fr5 q5 fr6 q6 fr7 q7 hb1 hc1
 intro W h4
 have c0:W.cell? ⟨w.heap.size,0,none⟩=some (.pointer (some ⟨I,0,none⟩)):=zA h4.bi 0
 have lI:=zE h4.b
 have lA:=zE h4.bi
 have f6:=zD h4.b 6
 have q6:W.cell? ⟨I,6,none⟩=some (.int .u32 0):=zA h4.b 6
 have vv:W.cell? ⟨b,off+1,none⟩=some (.int .u32 u1):=(World.cell?_of_block (w:=w) (h4.ch.block b lb (by simpa using HNB.out))).trans v1
 have nbI:¬b=I:=HNB.out
 have lb2:b < W.heap.size:=Nat.lt_of_lt_of_le lb h4.ch.size
 have H:Hid _:=h4
 clear h4
 go_region_held3 (fun W'=>W'.cell? ⟨w.heap.size,0,none⟩=some (.pointer (some ⟨I,0,none⟩))∧W'.cell? ⟨b,off+1,none⟩=some (.int .u32 u1)) ((simp[go_sem,c0,vv,nbI];done)) (fail)
 go_upto_region 13 with fail
 refine zJ (fun W'=>RD w W' I (w.heap.size+1) w.heap.size (w.heap.size+1+1) ⟨zP true 1 256 u0,zP (hb f.has 448) 256 16 (uT u0),zP (hb f.has 1) 4096 16 (rd2 f.has u0),zP (hb f.has 2) 65536 16 (rd3 f.has u0),zP (hb f.has 4) 1048576 16 (rd4 f.has u0),zP (hb f.has 8) 65536 65536 (rd5 f.has u0),u1,0⟩ f nn (rd6 f.has u0)) ?_ ?_
 ·first|exact H.out.put ⟨zP true 1 256 u0,zP (hb f.has 448) 256 16 (uT u0),zP (hb f.has 1) 4096 16 (rd2 f.has u0),zP (hb f.has 2) 65536 16 (rd3 f.has u0),zP (hb f.has 4) 1048576 16 (rd4 f.has u0),zP (hb f.has 8) 65536 65536 (rd5 f.has u0),u1,0⟩ 6 _ rfl|exact(H.out.put ⟨zP true 1 256 u0,zP (hb f.has 448) 256 16 (uT u0),zP (hb f.has 1) 4096 16 (rd2 f.has u0),zP (hb f.has 2) 65536 16 (rd3 f.has u0),zP (hb f.has 4) 1048576 16 (rd4 f.has u0),zP (hb f.has 8) 65536 65536 (rd5 f.has u0),u1,0⟩ 6 _ rfl).drw|exact(H.out.put ⟨zP true 1 256 u0,zP (hb f.has 448) 256 16 (uT u0),zP (hb f.has 1) 4096 16 (rd2 f.has u0),zP (hb f.has 2) 65536 16 (rd3 f.has u0),zP (hb f.has 4) 1048576 16 (rd4 f.has u0),zP (hb f.has 8) 65536 65536 (rd5 f.has u0),u1,0⟩ 6 _ rfl).drw.drw
 clear H c0 lI lA f6 q6 vv lb2 nbI
 intro W h4
 have c0:W.cell? ⟨w.heap.size,0,none⟩=some (.pointer (some ⟨I,0,none⟩)):=zA h4.bi 0
 have lI:=zE h4.b
 have lA:=zE h4.bi
 have f7:=zD h4.b 7
 have q7:W.cell? ⟨I,7,none⟩=some (.int .u32 0):=zA h4.b 7
 have vv:W.cell? ⟨b,off+2,none⟩=some (.int .u32 u2):=(World.cell?_of_block (w:=w) (h4.ch.block b lb (by simpa using HNB.out))).trans v2
 have nbI:¬b=I:=HNB.out
 have lb2:b < W.heap.size:=Nat.lt_of_lt_of_le lb h4.ch.size
 have H:Hid _:=h4
 clear h4
 go_region_held3 (fun W'=>W'.cell? ⟨w.heap.size,0,none⟩=some (.pointer (some ⟨I,0,none⟩))∧W'.cell? ⟨b,off+2,none⟩=some (.int .u32 u2)) ((simp[go_sem,c0,vv,nbI];done)) (fail)
 go_upto_region 14 with fail
 refine zJ (fun W'=>RD w W' I (w.heap.size+1) w.heap.size (w.heap.size+1+1) ⟨zP true 1 256 u0,zP (hb f.has 448) 256 16 (uT u0),zP (hb f.has 1) 4096 16 (rd2 f.has u0),zP (hb f.has 2) 65536 16 (rd3 f.has u0),zP (hb f.has 4) 1048576 16 (rd4 f.has u0),zP (hb f.has 8) 65536 65536 (rd5 f.has u0),u1,u2⟩ f nn (rd6 f.has u0)) ?_ ?_
 ·first|exact H.out.put ⟨zP true 1 256 u0,zP (hb f.has 448) 256 16 (uT u0),zP (hb f.has 1) 4096 16 (rd2 f.has u0),zP (hb f.has 2) 65536 16 (rd3 f.has u0),zP (hb f.has 4) 1048576 16 (rd4 f.has u0),zP (hb f.has 8) 65536 65536 (rd5 f.has u0),u1,u2⟩ 7 _ rfl|exact(H.out.put ⟨zP true 1 256 u0,zP (hb f.has 448) 256 16 (uT u0),zP (hb f.has 1) 4096 16 (rd2 f.has u0),zP (hb f.has 2) 65536 16 (rd3 f.has u0),zP (hb f.has 4) 1048576 16 (rd4 f.has u0),zP (hb f.has 8) 65536 65536 (rd5 f.has u0),u1,u2⟩ 7 _ rfl).drw|exact(H.out.put ⟨zP true 1 256 u0,zP (hb f.has 448) 256 16 (uT u0),zP (hb f.has 1) 4096 16 (rd2 f.has u0),zP (hb f.has 2) 65536 16 (rd3 f.has u0),zP (hb f.has 4) 1048576 16 (rd4 f.has u0),zP (hb f.has 8) 65536 65536 (rd5 f.has u0),u1,u2⟩ 7 _ rfl).drw.drw
 clear H c0 lI lA f7 q7 vv lb2 nbI
 intro W h4
 have c0:W.cell? ⟨w.heap.size+1,0,none⟩=some (.int .u32 (rd6 f.has u0)):=zA h4.br 0
 have lR:=zE h4.br
 have HB:Hid _:=h4.b
 have HC:Hid _:=h4.ch
 clear h4
 go_wp2
 go_ret
 exact⟨rfl,HB.out,HC.out⟩
end Go.Proofs.YthcpipfmicbnmaaGreat.Ho
