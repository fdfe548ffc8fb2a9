import Derived.Test.YtgkkghphlbgcoaaHF
import Derived.Test.YtgkkghphlbgcoaaHG
namespace Go.Proofs.Ytgkkghphlbgcoaa.Ho
open Go.RowKit
set_option maxRecDepth 100000
set_option linter.unusedVariables false
set_option linter.unusedSimpArgs false
set_option maxHeartbeats 4000000 in
theorem read2_any (I b off cap : Nat) (ws : Nat → Nat) (x0 : Cd) (f : Fo) (nn : Int) (w : World) (hI : w.heap[I]? = some (.cells (fdA x0 f nn) 119)) (hr : WR w b off 2 ws) (hbI : b ≠ I) (hcap : 2 ≤ cap) :
    Calls Try.prog 72 #[.pointer (some ⟨I, 0, none⟩), .slice (some ⟨b, off, none⟩) 2 cap] w fun e w' => e = .returned (.int .u32 (rd6 f.has (ws 0))) ∧ w'.heap[I]? = some (.cells (fdA (rdX f.has (ws 0) (ws 1) (0)) f nn) 119) ∧ Chg [I] w w' := by
  have lI := row_lt hI
  have lb := hr.lb
  have v0 : w.cell? ⟨b, off, none⟩ = some (.int .u32 (ws 0)) := by simpa using hr.cell 0 (by omega)
  have v1 : w.cell? ⟨b, off + 1, none⟩ = some (.int .u32 (ws 1)) := hr.cell 1 (by omega)
  have HLT : Hid (∀ i, ws i < 4294967296) := hr.lt
  have HI : Hid _ := hI
  have HNB : Hid _ := hbI
  clear hr hI hbI
  generalize e0 : ws 0 = u0 at *
  generalize e1 : ws 1 = u1 at *
  have HU : Hid (u0 < 4294967296) := by rw [← e0]; exact HLT.out 0
  clear HLT e0 e1
  go_enter Try.func72, Try.ntmps72
  go_upto_region 4 with fail
  refine wp_gen (fun W' => RD w W' I (w.heap.size + 1) w.heap.size (w.heap.size + 1 + 1) x0 f nn u0) ?_ ?_
  · exact rd_start w I u0 x0 f nn HI.out
  intro W h4
  have c0 : W.cell? ⟨w.heap.size, 0, none⟩ = some (.pointer (some ⟨I, 0, none⟩)) := row_cell h4.bi 0
  have c1 : W.cell? ⟨w.heap.size + 1 + 1, 0, none⟩ = some (.func (Fn.func 86) #[] #[.pointer (some ⟨w.heap.size + 1, 0, none⟩)]) := row_cell h4.bc 0
  have lI := row_lt h4.b
  have lA := row_lt h4.bi
  have lC := row_lt h4.bc
  have H : Hid _ := h4
  clear h4
  go_region_held3 (fun W' => W'.cell? ⟨w.heap.size, 0, none⟩ = some (.pointer (some ⟨I, 0, none⟩)) ∧ W'.cell? ⟨w.heap.size + 1 + 1, 0, none⟩ = some (.func (Fn.func 86) #[] #[.pointer (some ⟨w.heap.size + 1, 0, none⟩)])) (first | (simp [go_sem, c0, c1]; done) | (simp [go_sem, d0, d1]; done)) ((go_at_call 86; refine (cut0_8 (w.heap.size + 1) u0 _ ?_ HU.out).mono ?_; (focus (exact H.out.drw.br)); rintro e w1 ⟨rfl, hb1, hc1⟩; have h1 := H.out.drw.rest hc1 hb1; have d0 : w1.cell? ⟨w.heap.size, 0, none⟩ = some (.pointer (some ⟨I, 0, none⟩)) := row_cell h1.bi 0; have d1 : w1.cell? ⟨w.heap.size + 1 + 1, 0, none⟩ = some (.func (Fn.func 86) #[] #[.pointer (some ⟨w.heap.size + 1, 0, none⟩)]) := row_cell h1.bc 0; have mI := row_lt h1.b; have mA := row_lt h1.bi; have mC := row_lt h1.bc; have fr0 := row_fr h1.b 0; have fr1 := row_fr h1.b 1; have fr2 := row_fr h1.b 2; have fr3 := row_fr h1.b 3; have fr4 := row_fr h1.b 4; have fr5 := row_fr h1.b 5; have fr6 := row_fr h1.b 6; have fr7 := row_fr h1.b 7; have q0 := row_cell h1.b 0; have q1 := row_cell h1.b 1; have q2 := row_cell h1.b 2; have q3 := row_cell h1.b 3; have q4 := row_cell h1.b 4; have q5 := row_cell h1.b 5; have q6 := row_cell h1.b 6; have q7 := row_cell h1.b 7; have H1 : Hid _ := h1; clear h1))
  go_upto_region 5 with fail
  refine wp_gen (fun W' => RD w W' I (w.heap.size + 1) w.heap.size (w.heap.size + 1 + 1) ⟨fld true 1 256 u0, 0, 0, 0, 0, 0, 0, 0⟩ f nn (rd1 u0)) ?_ ?_
  · first | exact H1.out.put8 ⟨fld true 1 256 u0, 0, 0, 0, 0, 0, 0, 0⟩ | exact (H1.out.put8 ⟨fld true 1 256 u0, 0, 0, 0, 0, 0, 0, 0⟩).drw
  clear H H1 c0 c1 d0 d1 lI lA lC mI mA mC fr0 q0 fr1 q1 fr2 q2 fr3 q3 fr4 q4 fr5 q5 fr6 q6 fr7 q7 hb1 hc1
  intro W h4
  have c0 : W.cell? ⟨w.heap.size, 0, none⟩ = some (.pointer (some ⟨I, 0, none⟩)) := row_cell h4.bi 0
  have c1 : W.cell? ⟨w.heap.size + 1 + 1, 0, none⟩ = some (.func (Fn.func 86) #[] #[.pointer (some ⟨w.heap.size + 1, 0, none⟩)]) := row_cell h4.bc 0
  have lI := row_lt h4.b
  have lA := row_lt h4.bi
  have lC := row_lt h4.bc
  have H : Hid _ := h4
  clear h4
  go_region_held3 (fun W' => W'.cell? ⟨w.heap.size, 0, none⟩ = some (.pointer (some ⟨I, 0, none⟩)) ∧ W'.cell? ⟨w.heap.size + 1 + 1, 0, none⟩ = some (.func (Fn.func 86) #[] #[.pointer (some ⟨w.heap.size + 1, 0, none⟩)])) (first | (simp [go_sem, c0, c1]; done) | (simp [go_sem, d0, d1]; done)) ((go_at_call 87; refine (field_d w.heap.size (w.heap.size + 1 + 1) (w.heap.size + 1) I (rd1 u0) f.has (hb f.has 448) _ ?_ (rd1_lt HU.out) (hb_iff _ _)).mono ?_; (focus (exact H.out.drw.fw)); rintro e w1 ⟨rfl, hb1, hc1⟩; have h1 := H.out.drw.rest hc1 hb1; have d0 : w1.cell? ⟨w.heap.size, 0, none⟩ = some (.pointer (some ⟨I, 0, none⟩)) := row_cell h1.bi 0; have d1 : w1.cell? ⟨w.heap.size + 1 + 1, 0, none⟩ = some (.func (Fn.func 86) #[] #[.pointer (some ⟨w.heap.size + 1, 0, none⟩)]) := row_cell h1.bc 0; have mI := row_lt h1.b; have mA := row_lt h1.bi; have mC := row_lt h1.bc; have fr0 := row_fr h1.b 0; have fr1 := row_fr h1.b 1; have fr2 := row_fr h1.b 2; have fr3 := row_fr h1.b 3; have fr4 := row_fr h1.b 4; have fr5 := row_fr h1.b 5; have fr6 := row_fr h1.b 6; have fr7 := row_fr h1.b 7; have q0 := row_cell h1.b 0; have q1 := row_cell h1.b 1; have q2 := row_cell h1.b 2; have q3 := row_cell h1.b 3; have q4 := row_cell h1.b 4; have q5 := row_cell h1.b 5; have q6 := row_cell h1.b 6; have q7 := row_cell h1.b 7; have H1 : Hid _ := h1; clear h1))
  go_upto_region 6 with fail
  refine wp_gen (fun W' => RD w W' I (w.heap.size + 1) w.heap.size (w.heap.size + 1 + 1) ⟨fld true 1 256 u0, fld (hb f.has 448) 256 16 (rd1 u0), 0, 0, 0, 0, 0, 0⟩ f nn (rd2 f.has u0)) ?_ ?_
  · first | exact H1.out.put ⟨fld true 1 256 u0, fld (hb f.has 448) 256 16 (rd1 u0), 0, 0, 0, 0, 0, 0⟩ 1 _ rfl | exact (H1.out.put ⟨fld true 1 256 u0, fld (hb f.has 448) 256 16 (rd1 u0), 0, 0, 0, 0, 0, 0⟩ 1 _ rfl).drw
  clear H H1 c0 c1 d0 d1 lI lA lC mI mA mC fr0 q0 fr1 q1 fr2 q2 fr3 q3 fr4 q4 fr5 q5 fr6 q6 fr7 q7 hb1 hc1
  intro W h4
  have c0 : W.cell? ⟨w.heap.size, 0, none⟩ = some (.pointer (some ⟨I, 0, none⟩)) := row_cell h4.bi 0
  have c1 : W.cell? ⟨w.heap.size + 1 + 1, 0, none⟩ = some (.func (Fn.func 86) #[] #[.pointer (some ⟨w.heap.size + 1, 0, none⟩)]) := row_cell h4.bc 0
  have lI := row_lt h4.b
  have lA := row_lt h4.bi
  have lC := row_lt h4.bc
  have H : Hid _ := h4
  clear h4
  go_region_held3 (fun W' => W'.cell? ⟨w.heap.size, 0, none⟩ = some (.pointer (some ⟨I, 0, none⟩)) ∧ W'.cell? ⟨w.heap.size + 1 + 1, 0, none⟩ = some (.func (Fn.func 86) #[] #[.pointer (some ⟨w.heap.size + 1, 0, none⟩)])) (first | (simp [go_sem, c0, c1]; done) | (simp [go_sem, d0, d1]; done)) ((go_at_call 87; refine (field_a w.heap.size (w.heap.size + 1 + 1) (w.heap.size + 1) I (rd2 f.has u0) f.has (hb f.has 1) _ ?_ (rd2_lt f.has HU.out) (hb_iff _ _)).mono ?_; (focus (exact H.out.drw.fw)); rintro e w1 ⟨rfl, hb1, hc1⟩; have h1 := H.out.drw.rest hc1 hb1; have d0 : w1.cell? ⟨w.heap.size, 0, none⟩ = some (.pointer (some ⟨I, 0, none⟩)) := row_cell h1.bi 0; have d1 : w1.cell? ⟨w.heap.size + 1 + 1, 0, none⟩ = some (.func (Fn.func 86) #[] #[.pointer (some ⟨w.heap.size + 1, 0, none⟩)]) := row_cell h1.bc 0; have mI := row_lt h1.b; have mA := row_lt h1.bi; have mC := row_lt h1.bc; have fr0 := row_fr h1.b 0; have fr1 := row_fr h1.b 1; have fr2 := row_fr h1.b 2; have fr3 := row_fr h1.b 3; have fr4 := row_fr h1.b 4; have fr5 := row_fr h1.b 5; have fr6 := row_fr h1.b 6; have fr7 := row_fr h1.b 7; have q0 := row_cell h1.b 0; have q1 := row_cell h1.b 1; have q2 := row_cell h1.b 2; have q3 := row_cell h1.b 3; have q4 := row_cell h1.b 4; have q5 := row_cell h1.b 5; have q6 := row_cell h1.b 6; have q7 := row_cell h1.b 7; have H1 : Hid _ := h1; clear h1))
  go_upto_region 7 with fail
  refine wp_gen (fun W' => RD w W' I (w.heap.size + 1) w.heap.size (w.heap.size + 1 + 1) ⟨fld true 1 256 u0, fld (hb f.has 448) 256 16 (rd1 u0), fld (hb f.has 1) 4096 16 (rd2 f.has u0), 0, 0, 0, 0, 0⟩ f nn (rd3 f.has u0)) ?_ ?_
  · first | exact H1.out.put ⟨fld true 1 256 u0, fld (hb f.has 448) 256 16 (rd1 u0), fld (hb f.has 1) 4096 16 (rd2 f.has u0), 0, 0, 0, 0, 0⟩ 2 _ rfl | exact (H1.out.put ⟨fld true 1 256 u0, fld (hb f.has 448) 256 16 (rd1 u0), fld (hb f.has 1) 4096 16 (rd2 f.has u0), 0, 0, 0, 0, 0⟩ 2 _ rfl).drw
  clear H H1 c0 c1 d0 d1 lI lA lC mI mA mC fr0 q0 fr1 q1 fr2 q2 fr3 q3 fr4 q4 fr5 q5 fr6 q6 fr7 q7 hb1 hc1
  intro W h4
  have c0 : W.cell? ⟨w.heap.size, 0, none⟩ = some (.pointer (some ⟨I, 0, none⟩)) := row_cell h4.bi 0
  have c1 : W.cell? ⟨w.heap.size + 1 + 1, 0, none⟩ = some (.func (Fn.func 86) #[] #[.pointer (some ⟨w.heap.size + 1, 0, none⟩)]) := row_cell h4.bc 0
  have lI := row_lt h4.b
  have lA := row_lt h4.bi
  have lC := row_lt h4.bc
  have H : Hid _ := h4
  clear h4
  go_region_held3 (fun W' => W'.cell? ⟨w.heap.size, 0, none⟩ = some (.pointer (some ⟨I, 0, none⟩)) ∧ W'.cell? ⟨w.heap.size + 1 + 1, 0, none⟩ = some (.func (Fn.func 86) #[] #[.pointer (some ⟨w.heap.size + 1, 0, none⟩)])) (first | (simp [go_sem, c0, c1]; done) | (simp [go_sem, d0, d1]; done)) ((go_at_call 87; refine (field_b w.heap.size (w.heap.size + 1 + 1) (w.heap.size + 1) I (rd3 f.has u0) f.has (hb f.has 2) _ ?_ (rd3_lt f.has HU.out) (hb_iff _ _)).mono ?_; (focus (exact H.out.drw.fw)); rintro e w1 ⟨rfl, hb1, hc1⟩; have h1 := H.out.drw.rest hc1 hb1; have d0 : w1.cell? ⟨w.heap.size, 0, none⟩ = some (.pointer (some ⟨I, 0, none⟩)) := row_cell h1.bi 0; have d1 : w1.cell? ⟨w.heap.size + 1 + 1, 0, none⟩ = some (.func (Fn.func 86) #[] #[.pointer (some ⟨w.heap.size + 1, 0, none⟩)]) := row_cell h1.bc 0; have mI := row_lt h1.b; have mA := row_lt h1.bi; have mC := row_lt h1.bc; have fr0 := row_fr h1.b 0; have fr1 := row_fr h1.b 1; have fr2 := row_fr h1.b 2; have fr3 := row_fr h1.b 3; have fr4 := row_fr h1.b 4; have fr5 := row_fr h1.b 5; have fr6 := row_fr h1.b 6; have fr7 := row_fr h1.b 7; have q0 := row_cell h1.b 0; have q1 := row_cell h1.b 1; have q2 := row_cell h1.b 2; have q3 := row_cell h1.b 3; have q4 := row_cell h1.b 4; have q5 := row_cell h1.b 5; have q6 := row_cell h1.b 6; have q7 := row_cell h1.b 7; have H1 : Hid _ := h1; clear h1))
  go_upto_region 8 with fail
  refine wp_gen (fun W' => RD w W' I (w.heap.size + 1) w.heap.size (w.heap.size + 1 + 1) ⟨fld true 1 256 u0, fld (hb f.has 448) 256 16 (rd1 u0), fld (hb f.has 1) 4096 16 (rd2 f.has u0), fld (hb f.has 2) 65536 16 (rd3 f.has u0), 0, 0, 0, 0⟩ f nn (rd4 f.has u0)) ?_ ?_
  · first | exact H1.out.put ⟨fld true 1 256 u0, fld (hb f.has 448) 256 16 (rd1 u0), fld (hb f.has 1) 4096 16 (rd2 f.has u0), fld (hb f.has 2) 65536 16 (rd3 f.has u0), 0, 0, 0, 0⟩ 3 _ rfl | exact (H1.out.put ⟨fld true 1 256 u0, fld (hb f.has 448) 256 16 (rd1 u0), fld (hb f.has 1) 4096 16 (rd2 f.has u0), fld (hb f.has 2) 65536 16 (rd3 f.has u0), 0, 0, 0, 0⟩ 3 _ rfl).drw
  clear H H1 c0 c1 d0 d1 lI lA lC mI mA mC fr0 q0 fr1 q1 fr2 q2 fr3 q3 fr4 q4 fr5 q5 fr6 q6 fr7 q7 hb1 hc1
  intro W h4
  have c0 : W.cell? ⟨w.heap.size, 0, none⟩ = some (.pointer (some ⟨I, 0, none⟩)) := row_cell h4.bi 0
  have c1 : W.cell? ⟨w.heap.size + 1 + 1, 0, none⟩ = some (.func (Fn.func 86) #[] #[.pointer (some ⟨w.heap.size + 1, 0, none⟩)]) := row_cell h4.bc 0
  have lI := row_lt h4.b
  have lA := row_lt h4.bi
  have lC := row_lt h4.bc
  have H : Hid _ := h4
  clear h4
  go_region_held3 (fun W' => W'.cell? ⟨w.heap.size, 0, none⟩ = some (.pointer (some ⟨I, 0, none⟩)) ∧ W'.cell? ⟨w.heap.size + 1 + 1, 0, none⟩ = some (.func (Fn.func 86) #[] #[.pointer (some ⟨w.heap.size + 1, 0, none⟩)])) (first | (simp [go_sem, c0, c1]; done) | (simp [go_sem, d0, d1]; done)) ((go_at_call 87; refine (field_c w.heap.size (w.heap.size + 1 + 1) (w.heap.size + 1) I (rd4 f.has u0) f.has (hb f.has 4) _ ?_ (rd4_lt f.has HU.out) (hb_iff _ _)).mono ?_; (focus (exact H.out.drw.fw)); rintro e w1 ⟨rfl, hb1, hc1⟩; have h1 := H.out.drw.rest hc1 hb1; have d0 : w1.cell? ⟨w.heap.size, 0, none⟩ = some (.pointer (some ⟨I, 0, none⟩)) := row_cell h1.bi 0; have d1 : w1.cell? ⟨w.heap.size + 1 + 1, 0, none⟩ = some (.func (Fn.func 86) #[] #[.pointer (some ⟨w.heap.size + 1, 0, none⟩)]) := row_cell h1.bc 0; have mI := row_lt h1.b; have mA := row_lt h1.bi; have mC := row_lt h1.bc; have fr0 := row_fr h1.b 0; have fr1 := row_fr h1.b 1; have fr2 := row_fr h1.b 2; have fr3 := row_fr h1.b 3; have fr4 := row_fr h1.b 4; have fr5 := row_fr h1.b 5; have fr6 := row_fr h1.b 6; have fr7 := row_fr h1.b 7; have q0 := row_cell h1.b 0; have q1 := row_cell h1.b 1; have q2 := row_cell h1.b 2; have q3 := row_cell h1.b 3; have q4 := row_cell h1.b 4; have q5 := row_cell h1.b 5; have q6 := row_cell h1.b 6; have q7 := row_cell h1.b 7; have H1 : Hid _ := h1; clear h1))
  go_upto_region 9 with fail
  refine wp_gen (fun W' => RD w W' I (w.heap.size + 1) w.heap.size (w.heap.size + 1 + 1) ⟨fld true 1 256 u0, fld (hb f.has 448) 256 16 (rd1 u0), fld (hb f.has 1) 4096 16 (rd2 f.has u0), fld (hb f.has 2) 65536 16 (rd3 f.has u0), fld (hb f.has 4) 1048576 16 (rd4 f.has u0), 0, 0, 0⟩ f nn (rd5 f.has u0)) ?_ ?_
  · first | exact H1.out.put ⟨fld true 1 256 u0, fld (hb f.has 448) 256 16 (rd1 u0), fld (hb f.has 1) 4096 16 (rd2 f.has u0), fld (hb f.has 2) 65536 16 (rd3 f.has u0), fld (hb f.has 4) 1048576 16 (rd4 f.has u0), 0, 0, 0⟩ 4 _ rfl | exact (H1.out.put ⟨fld true 1 256 u0, fld (hb f.has 448) 256 16 (rd1 u0), fld (hb f.has 1) 4096 16 (rd2 f.has u0), fld (hb f.has 2) 65536 16 (rd3 f.has u0), fld (hb f.has 4) 1048576 16 (rd4 f.has u0), 0, 0, 0⟩ 4 _ rfl).drw
  clear H H1 c0 c1 d0 d1 lI lA lC mI mA mC fr0 q0 fr1 q1 fr2 q2 fr3 q3 fr4 q4 fr5 q5 fr6 q6 fr7 q7 hb1 hc1
  intro W h4
  have c0 : W.cell? ⟨w.heap.size, 0, none⟩ = some (.pointer (some ⟨I, 0, none⟩)) := row_cell h4.bi 0
  have c1 : W.cell? ⟨w.heap.size + 1 + 1, 0, none⟩ = some (.func (Fn.func 86) #[] #[.pointer (some ⟨w.heap.size + 1, 0, none⟩)]) := row_cell h4.bc 0
  have lI := row_lt h4.b
  have lA := row_lt h4.bi
  have lC := row_lt h4.bc
  have H : Hid _ := h4
  clear h4
  go_region_held3 (fun W' => W'.cell? ⟨w.heap.size, 0, none⟩ = some (.pointer (some ⟨I, 0, none⟩)) ∧ W'.cell? ⟨w.heap.size + 1 + 1, 0, none⟩ = some (.func (Fn.func 86) #[] #[.pointer (some ⟨w.heap.size + 1, 0, none⟩)])) (first | (simp [go_sem, c0, c1]; done) | (simp [go_sem, d0, d1]; done)) ((go_at_call 87; refine (field_n w.heap.size (w.heap.size + 1 + 1) (w.heap.size + 1) I (rd5 f.has u0) f.has (hb f.has 8) _ ?_ (rd5_lt f.has HU.out) (hb_iff _ _)).mono ?_; (focus (exact H.out.drw.fw)); rintro e w1 ⟨rfl, hb1, hc1⟩; have h1 := H.out.drw.rest hc1 hb1; have d0 : w1.cell? ⟨w.heap.size, 0, none⟩ = some (.pointer (some ⟨I, 0, none⟩)) := row_cell h1.bi 0; have d1 : w1.cell? ⟨w.heap.size + 1 + 1, 0, none⟩ = some (.func (Fn.func 86) #[] #[.pointer (some ⟨w.heap.size + 1, 0, none⟩)]) := row_cell h1.bc 0; have mI := row_lt h1.b; have mA := row_lt h1.bi; have mC := row_lt h1.bc; have fr0 := row_fr h1.b 0; have fr1 := row_fr h1.b 1; have fr2 := row_fr h1.b 2; have fr3 := row_fr h1.b 3; have fr4 := row_fr h1.b 4; have fr5 := row_fr h1.b 5; have fr6 := row_fr h1.b 6; have fr7 := row_fr h1.b 7; have q0 := row_cell h1.b 0; have q1 := row_cell h1.b 1; have q2 := row_cell h1.b 2; have q3 := row_cell h1.b 3; have q4 := row_cell h1.b 4; have q5 := row_cell h1.b 5; have q6 := row_cell h1.b 6; have q7 := row_cell h1.b 7; have H1 : Hid _ := h1; clear h1))
  go_upto_region 11 with fail
  refine wp_gen (fun W' => RD w W' I (w.heap.size + 1) w.heap.size (w.heap.size + 1 + 1) ⟨fld true 1 256 u0, fld (hb f.has 448) 256 16 (rd1 u0), fld (hb f.has 1) 4096 16 (rd2 f.has u0), fld (hb f.has 2) 65536 16 (rd3 f.has u0), fld (hb f.has 4) 1048576 16 (rd4 f.has u0), fld (hb f.has 8) 65536 65536 (rd5 f.has u0), 0, 0⟩ f nn (rd6 f.has u0)) ?_ ?_
  · first | exact H1.out.put ⟨fld true 1 256 u0, fld (hb f.has 448) 256 16 (rd1 u0), fld (hb f.has 1) 4096 16 (rd2 f.has u0), fld (hb f.has 2) 65536 16 (rd3 f.has u0), fld (hb f.has 4) 1048576 16 (rd4 f.has u0), fld (hb f.has 8) 65536 65536 (rd5 f.has u0), 0, 0⟩ 5 _ rfl | exact (H1.out.put ⟨fld true 1 256 u0, fld (hb f.has 448) 256 16 (rd1 u0), fld (hb f.has 1) 4096 16 (rd2 f.has u0), fld (hb f.has 2) 65536 16 (rd3 f.has u0), fld (hb f.has 4) 1048576 16 (rd4 f.has u0), fld (hb f.has 8) 65536 65536 (rd5 f.has u0), 0, 0⟩ 5 _ rfl).drw | exact (H1.out.put ⟨fld true 1 256 u0, fld (hb f.has 448) 256 16 (rd1 u0), fld (hb f.has 1) 4096 16 (rd2 f.has u0), fld (hb f.has 2) 65536 16 (rd3 f.has u0), fld (hb f.has 4) 1048576 16 (rd4 f.has u0), fld (hb f.has 8) 65536 65536 (rd5 f.has u0), 0, 0⟩ 5 _ rfl).drw.drw
  clear H H1 c0 c1 d0 d1 lI lA lC mI mA mC fr0 q0 fr1 q1 fr2 q2 fr3 q3 fr4 q4 fr5 q5 fr6 q6 fr7 q7 hb1 hc1
  intro W h4
  have c0 : W.cell? ⟨w.heap.size, 0, none⟩ = some (.pointer (some ⟨I, 0, none⟩)) := row_cell h4.bi 0
  have lI := row_lt h4.b
  have lA := row_lt h4.bi
  have f6 := row_fr h4.b 6
  have q6 : W.cell? ⟨I, 6, none⟩ = some (.int .u32 0) := row_cell h4.b 6
  have vv : W.cell? ⟨b, off + 1, none⟩ = some (.int .u32 u1) := (World.cell?_of_block (w := w) (h4.ch.block b lb (by simpa using HNB.out))).trans v1
  have nbI : ¬ b = I := HNB.out
  have lb2 : b < W.heap.size := Nat.lt_of_lt_of_le lb h4.ch.size
  have H : Hid _ := h4
  clear h4
  go_region_held3 (fun W' => W'.cell? ⟨w.heap.size, 0, none⟩ = some (.pointer (some ⟨I, 0, none⟩)) ∧ W'.cell? ⟨b, off + 1, none⟩ = some (.int .u32 u1)) ((simp [go_sem, c0, vv, nbI]; done)) (fail)
  go_upto_region 14 with fail
  refine wp_gen (fun W' => RD w W' I (w.heap.size + 1) w.heap.size (w.heap.size + 1 + 1) ⟨fld true 1 256 u0, fld (hb f.has 448) 256 16 (rd1 u0), fld (hb f.has 1) 4096 16 (rd2 f.has u0), fld (hb f.has 2) 65536 16 (rd3 f.has u0), fld (hb f.has 4) 1048576 16 (rd4 f.has u0), fld (hb f.has 8) 65536 65536 (rd5 f.has u0), u1, 0⟩ f nn (rd6 f.has u0)) ?_ ?_
  · first | exact H.out.put ⟨fld true 1 256 u0, fld (hb f.has 448) 256 16 (rd1 u0), fld (hb f.has 1) 4096 16 (rd2 f.has u0), fld (hb f.has 2) 65536 16 (rd3 f.has u0), fld (hb f.has 4) 1048576 16 (rd4 f.has u0), fld (hb f.has 8) 65536 65536 (rd5 f.has u0), u1, 0⟩ 6 _ rfl | exact (H.out.put ⟨fld true 1 256 u0, fld (hb f.has 448) 256 16 (rd1 u0), fld (hb f.has 1) 4096 16 (rd2 f.has u0), fld (hb f.has 2) 65536 16 (rd3 f.has u0), fld (hb f.has 4) 1048576 16 (rd4 f.has u0), fld (hb f.has 8) 65536 65536 (rd5 f.has u0), u1, 0⟩ 6 _ rfl).drw | exact (H.out.put ⟨fld true 1 256 u0, fld (hb f.has 448) 256 16 (rd1 u0), fld (hb f.has 1) 4096 16 (rd2 f.has u0), fld (hb f.has 2) 65536 16 (rd3 f.has u0), fld (hb f.has 4) 1048576 16 (rd4 f.has u0), fld (hb f.has 8) 65536 65536 (rd5 f.has u0), u1, 0⟩ 6 _ rfl).drw.drw
  clear H c0 lI lA f6 q6 vv lb2 nbI
  intro W h4
  have c0 : W.cell? ⟨w.heap.size + 1, 0, none⟩ = some (.int .u32 (rd6 f.has u0)) := row_cell h4.br 0
  have lR := row_lt h4.br
  have HB : Hid _ := h4.b
  have HC : Hid _ := h4.ch
  clear h4
  go_wp2
  go_ret
  exact ⟨rfl, HB.out, HC.out⟩
end Go.Proofs.Ytgkkghphlbgcoaa.Ho
namespace Go.Proofs.Ytgkkghphlbgcoaa.Ho
open Go.RowKit
set_option maxRecDepth 100000
set_option linter.unusedVariables false
set_option linter.unusedSimpArgs false
set_option maxHeartbeats 4000000 in
theorem dec2_ok (I b off len cap a : Nat) (ws : Nat → Nat) (x0 : Cd) (f0 : Fo) (n0 : Int) (k : Nat) (w : World) (hI : w.heap[I]? = some (.cells (fdA x0 f0 n0) 119)) (hr : WR w b off len ws) (hbI : b ≠ I) (hcap : len ≤ cap) (hl : len ≤ 140737488355328) (ha : a + 2 ≤ len) (hk : hit ((ws a % 256 : Nat) : Int) = some k) (hn : szN (foOf k).has = 2) :
    Calls Try.prog 64 #[.pointer (some ⟨I, 0, none⟩), .slice (some ⟨b, off, none⟩) len cap, .int .i64 a] w fun e w' => e = .returned (.int .i64 (dcE (foOf k) (ws a) (rdX (foOf k).has (ws a) (ws (a + 1)) 0))) ∧ w'.heap[I]? = some (.cells (fdA (rdX (foOf k).has (ws a) (ws (a + 1)) 0) (foOf k) 2) 119) ∧ Chg [I] w w' := by
  have lI := row_lt hI
  have lb := hr.lb
  have v0 : w.cell? ⟨b, off + a, none⟩ = some (.int .u32 (ws a)) := hr.cell a (by omega)
  have HV : Hid (ws a < 4294967296) := hr.lt a
  generalize eV : ws a = v at *
  have hm : bits .and .u32 (v : Int) 255 = ((v % 256 : Nat) : Int) := mask8 v HV.out
  generalize eO : v % 256 = op at *
  have o0 : (0 : Int) ≤ op := by omega
  have o1 : (op : Int) < 256 := by omega
  have HK : Hid _ := hk
  have HW : Hid (IntKind.i64.wrap (op : Int) = op) := IntWalk.i64_in _ (by omega)
  have nb0 : ¬ b = w.heap.size := by omega
  have a0 : (0 : Int) ≤ a := by omega
  have HA : Hid (a + 2 ≤ len) := ha
  have a3 : (a : Int) + 2 ≤ len := by omega
  have a4 : a + 2 ≤ cap := by omega
  have hw2 : IntKind.i64.wrap ((a : Int) + 2) = (a : Int) + 2 := IntWalk.i64_in _ (by omega)
  have hw3 : IntKind.i64.wrap ((len : Int) - a) = (len : Int) - a := IntWalk.i64_in _ (by omega)
  have a1 : (a : Int) < len := by omega
  have a2 : (a : Int) ≤ len := by omega
  have HI : Hid _ := hI
  have HN : Hid _ := hn
  have HR : Hid _ := hr
  have HNB : Hid _ := hbI
  clear hk hI hn hr hbI ha
  go_enter Try.func64, Try.ntmps64
  go_upto_region 5 with fail
  go_region_held3 (fun W' => W'.cell? ⟨b, off + a, none⟩ = some (.int .u32 v)) (first | (simp [go_sem, v0, lb, nb0]; done) | (simp [go_sem, z0, lb1, nb1, nb0]; done)) (first | (go_at_call 70; refine (room8 _).mono ?_; rintro e w1 ⟨rfl, rfl⟩) | (go_at_call 65; refine (format_any _ w.drew).mono ?_; rintro e w1 ⟨rfl, hb1⟩; (try rw [HW.out]); rw [HK.out]; have z0 : w1.cell? ⟨b, off + a, none⟩ = some (.int .u32 v) := (hb1.cell (p := ⟨b, off + a, none⟩) lb).trans v0; have lb1 : b < w1.heap.size := (by have h9 := hb1.size; first | (simp at h9; omega) | omega); have nb1 : ¬ b = w1.heap.size := (by omega); have HB2 : Hid (Below w.heap.size w w1) := (first_below hb1)) | (go_at_call 65; refine (format_any _ (w.alloc (.cells #[.int .u8 0, .int .u8 0, .int .u8 0, .int .u16 0, .int .u16 0] 117)).drew).mono ?_; rintro e w1 ⟨rfl, hb1⟩; (try rw [HW.out]); rw [HK.out]; have b1 : w1.heap[w.heap.size]? = some (.cells #[.int .u8 0, .int .u8 0, .int .u8 0, .int .u16 0, .int .u16 0] 117) := (hb1.block w.heap.size (by simp)).trans (heap_alloc_last w _); have y0 : w1.cell? ⟨w.heap.size, 0, none⟩ = some (.int .u8 0) := row_cell b1 0; have g0 := row_fr b1 0; have y1 : w1.cell? ⟨w.heap.size, 1, none⟩ = some (.int .u8 0) := row_cell b1 1; have g1 := row_fr b1 1; have y2 : w1.cell? ⟨w.heap.size, 2, none⟩ = some (.int .u8 0) := row_cell b1 2; have g2 := row_fr b1 2; have y3 : w1.cell? ⟨w.heap.size, 3, none⟩ = some (.int .u16 0) := row_cell b1 3; have g3 := row_fr b1 3; have y4 : w1.cell? ⟨w.heap.size, 4, none⟩ = some (.int .u16 0) := row_cell b1 4; have g4 := row_fr b1 4; have lw1 := row_lt b1; have z0 : w1.cell? ⟨b, off + a, none⟩ = some (.int .u32 v) := (hb1.cell (p := ⟨b, off + a, none⟩) (by simp; omega)).trans ((World.cell?_alloc_past _ _ _ lb).trans v0); have lb1 : b < w1.heap.size := (by omega); have nb1 : ¬ b = w1.heap.size := (by omega); have HB1 : Hid (Below (w.alloc (.cells #[.int .u8 0, .int .u8 0, .int .u8 0, .int .u16 0, .int .u16 0] 117)).heap.size (w.alloc (.cells #[.int .u8 0, .int .u8 0, .int .u8 0, .int .u16 0, .int .u16 0] 117)) w1) := ((Below.refl _ _).drew).trans hb1))
  ·
    go_upto_region 8 with fail
    refine wp_gen (fun W' => DE w W' I w1.heap.size (fdA x0 f0 n0) (foOf k)) (by first | exact de_post (foOf k) HI.out HB2.out | exact (de_post (foOf k) HI.out HB2.out).drw) ?_
    intro W hD
    have p0 : W.cell? ⟨w1.heap.size, 0, none⟩ = some (.int .u8 (foOf k).first) := row_cell hD.bf 0
    have fr0 := row_fr hD.b 8
    have q0 : W.cell? ⟨I, 8, none⟩ = some (.int .u8 f0.first) := row_cell hD.b 8
    have p1 : W.cell? ⟨w1.heap.size, 1, none⟩ = some (.int .u8 (foOf k).last) := row_cell hD.bf 1
    have fr1 := row_fr hD.b 9
    have q1 : W.cell? ⟨I, 9, none⟩ = some (.int .u8 f0.last) := row_cell hD.b 9
    have p2 : W.cell? ⟨w1.heap.size, 2, none⟩ = some (.int .u8 (foOf k).kind) := row_cell hD.bf 2
    have fr2 := row_fr hD.b 10
    have q2 : W.cell? ⟨I, 10, none⟩ = some (.int .u8 f0.kind) := row_cell hD.b 10
    have p3 : W.cell? ⟨w1.heap.size, 3, none⟩ = some (.int .u16 (foOf k).has) := row_cell hD.bf 3
    have fr3 := row_fr hD.b 11
    have q3 : W.cell? ⟨I, 11, none⟩ = some (.int .u16 f0.has) := row_cell hD.b 11
    have p4 : W.cell? ⟨w1.heap.size, 4, none⟩ = some (.int .u16 (foOf k).most) := row_cell hD.bf 4
    have fr4 := row_fr hD.b 12
    have q4 : W.cell? ⟨I, 12, none⟩ = some (.int .u16 f0.most) := row_cell hD.b 12
    have lF := row_lt hD.bf
    have lJ := row_lt hD.b
    have nF : ¬ w1.heap.size = I := hD.ne
    have H : Hid _ := hD
    clear hD
    have HM : Hid (0 ≤ (foOf k).most ∧ (foOf k).most ≤ 65535) := foOf_most k (hit_lt HK.out)
    generalize eF : foOf k = f at *
    go_upto_region 9 with fail
    refine wp_gen (fun W' => D2 w W' I x0 f n0) (by first | exact D2.form H.out | exact (D2.form H.out).drw) ?_
    clear H p0 p1 p2 p3 p4 q0 q1 q2 q3 q4 fr0 fr1 fr2 fr3 fr4 lF lJ nF
    intro W2 h2
    have lJ := row_lt h2.b
    have c11 : W2.cell? ⟨I, 11, none⟩ = some (.int .u16 f.has) := row_cell h2.b 11
    have c13 : W2.cell? ⟨I, 13, none⟩ = some (.int .i64 n0) := row_cell h2.b 13
    have f13 := row_fr h2.b 13
    have H2 : Hid _ := h2
    clear h2
    go_upto_region 10 with (go_at_call 71; refine (size8_any I 2 f.has _ (by have := szOf f.has; rw [HN.out] at this; exact this) c11 lJ).mono ?_; rintro e w9 ⟨rfl, rfl⟩)
    refine wp_gen (fun W' => D2 w W' I x0 f 2) (by first | exact H2.out.words 2 | exact (H2.out.words 2).drw) ?_
    clear H2 c11 c13 f13 lJ
    intro W3 h3
    have lJ := row_lt h3.b
    have c13 : W3.cell? ⟨I, 13, none⟩ = some (.int .i64 2) := row_cell h3.b 13
    have H3 : Hid _ := h3
    clear h3
    go_upto_region 13 with (go_at_call 72; refine (read2_any I b (off + a) (cap - a) (fun i => ws (a + i)) x0 f 2 W3 H3.out.b (H3.out.wr HR.out HNB.out a 2 HA.out) HNB.out (by omega)).mono ?_; rintro e w9 ⟨rfl, hb9, hc9⟩; rw [show ws (a + 0) = v from eV]; have HB9 : Hid (w9.heap[I]? = some (.cells (fdA (rdX f.has v (ws (a + 1)) 0) f 2) 119)) := (by rw [← eV]; exact hb9); have HC9 : Hid _ := hc9; clear hb9 hc9)
    refine wp_gen (fun W' => D2 w W' I (rdX f.has v (ws (a + 1)) 0) f 2) (by first | exact ⟨HB9.out, H3.out.ch.trans HC9.out⟩ | exact (D2.mk HB9.out (H3.out.ch.trans HC9.out)).drw) ?_
    clear HB9 HC9 H3 c13 lJ
    clear w9
    intro W4 h4
    have lJ := row_lt h4.b
    generalize eX : rdX f.has v (ws (a + 1)) 0 = xx at *
    have c1 : W4.cell? ⟨I, 1, none⟩ = some (.int .i64 xx.d) := row_cell h4.b 1
    have c5 : W4.cell? ⟨I, 5, none⟩ = some (.int .i64 xx.n) := row_cell h4.b 5
    have c11 : W4.cell? ⟨I, 11, none⟩ = some (.int .u16 f.has) := row_cell h4.b 11
    have c12 : W4.cell? ⟨I, 12, none⟩ = some (.int .u16 f.most) := row_cell h4.b 12
    have H4 : Hid _ := h4
    clear h4
    generalize eR : rd6 f.has v = r at *
    by_cases hr0 : r = 0
    · subst hr0
      cases hA : alB (hb f.has 256) xx.d xx.n f.most
      · go_region_held3 (fun _ => True) (trivial) ((go_at_call 73; refine (allows_any I f.has xx.d xx.n f.most (hb f.has 256) W4.drew (hb_iff _ _) c1 c5 c11 c12 lJ HM.out.1 HM.out.2).mono ?_; rintro e w5 ⟨rfl, nn5, rfl⟩; rw [hA]))
        go_wp2
        go_ret
        exact ⟨by rw [eF, eX]; unfold dcE; rw [eR, hA]; rfl, (by rw [eF, eX]; exact H4.out.b), H4.out.ch.trans ⟨rfl, rfl, rfl, Nat.le_refl _, fun _ _ _ => rfl⟩⟩
      · go_region_held3 (fun _ => True) (trivial) ((go_at_call 73; refine (allows_any I f.has xx.d xx.n f.most (hb f.has 256) W4.drew (hb_iff _ _) c1 c5 c11 c12 lJ HM.out.1 HM.out.2).mono ?_; rintro e w5 ⟨rfl, nn5, rfl⟩; rw [hA]))
        go_wp2
        go_ret
        exact ⟨by rw [eF, eX]; unfold dcE; rw [eR, hA]; rfl, (by rw [eF, eX]; exact H4.out.b), H4.out.ch.trans ⟨rfl, rfl, rfl, Nat.le_refl _, fun _ _ _ => rfl⟩⟩
    · have hr1 : (((r : Nat) : Int) != 0) = true := by simp; omega
      go_quiet (fail)
      go_wp2
      go_ret
      exact ⟨by rw [eF, eX]; unfold dcE; rw [eR]; simp only [hr0, false_and, if_false]; rfl, (by rw [eF, eX]; exact H4.out.b), H4.out.ch.trans ⟨rfl, rfl, rfl, Nat.le_refl _, fun _ _ _ => rfl⟩⟩
  ·
    go_upto_region 8 with fail
    refine wp_gen (fun W' => DE w W' I w.heap.size (fdA x0 f0 n0) (foOf k)) (by first | exact de_pre (foOf k) HI.out HB1.out | exact (de_pre (foOf k) HI.out HB1.out).drw) ?_
    intro W hD
    have p0 : W.cell? ⟨w.heap.size, 0, none⟩ = some (.int .u8 (foOf k).first) := row_cell hD.bf 0
    have fr0 := row_fr hD.b 8
    have q0 : W.cell? ⟨I, 8, none⟩ = some (.int .u8 f0.first) := row_cell hD.b 8
    have p1 : W.cell? ⟨w.heap.size, 1, none⟩ = some (.int .u8 (foOf k).last) := row_cell hD.bf 1
    have fr1 := row_fr hD.b 9
    have q1 : W.cell? ⟨I, 9, none⟩ = some (.int .u8 f0.last) := row_cell hD.b 9
    have p2 : W.cell? ⟨w.heap.size, 2, none⟩ = some (.int .u8 (foOf k).kind) := row_cell hD.bf 2
    have fr2 := row_fr hD.b 10
    have q2 : W.cell? ⟨I, 10, none⟩ = some (.int .u8 f0.kind) := row_cell hD.b 10
    have p3 : W.cell? ⟨w.heap.size, 3, none⟩ = some (.int .u16 (foOf k).has) := row_cell hD.bf 3
    have fr3 := row_fr hD.b 11
    have q3 : W.cell? ⟨I, 11, none⟩ = some (.int .u16 f0.has) := row_cell hD.b 11
    have p4 : W.cell? ⟨w.heap.size, 4, none⟩ = some (.int .u16 (foOf k).most) := row_cell hD.bf 4
    have fr4 := row_fr hD.b 12
    have q4 : W.cell? ⟨I, 12, none⟩ = some (.int .u16 f0.most) := row_cell hD.b 12
    have lF := row_lt hD.bf
    have lJ := row_lt hD.b
    have nF : ¬ w.heap.size = I := hD.ne
    have H : Hid _ := hD
    clear hD
    have HM : Hid (0 ≤ (foOf k).most ∧ (foOf k).most ≤ 65535) := foOf_most k (hit_lt HK.out)
    generalize eF : foOf k = f at *
    go_upto_region 9 with fail
    refine wp_gen (fun W' => D2 w W' I x0 f n0) (by first | exact D2.form H.out | exact (D2.form H.out).drw) ?_
    clear H p0 p1 p2 p3 p4 q0 q1 q2 q3 q4 fr0 fr1 fr2 fr3 fr4 lF lJ nF
    intro W2 h2
    have lJ := row_lt h2.b
    have c11 : W2.cell? ⟨I, 11, none⟩ = some (.int .u16 f.has) := row_cell h2.b 11
    have c13 : W2.cell? ⟨I, 13, none⟩ = some (.int .i64 n0) := row_cell h2.b 13
    have f13 := row_fr h2.b 13
    have H2 : Hid _ := h2
    clear h2
    go_upto_region 10 with (go_at_call 71; refine (size8_any I 2 f.has _ (by have := szOf f.has; rw [HN.out] at this; exact this) c11 lJ).mono ?_; rintro e w9 ⟨rfl, rfl⟩)
    refine wp_gen (fun W' => D2 w W' I x0 f 2) (by first | exact H2.out.words 2 | exact (H2.out.words 2).drw) ?_
    clear H2 c11 c13 f13 lJ
    intro W3 h3
    have lJ := row_lt h3.b
    have c13 : W3.cell? ⟨I, 13, none⟩ = some (.int .i64 2) := row_cell h3.b 13
    have H3 : Hid _ := h3
    clear h3
    go_upto_region 13 with (go_at_call 72; refine (read2_any I b (off + a) (cap - a) (fun i => ws (a + i)) x0 f 2 W3 H3.out.b (H3.out.wr HR.out HNB.out a 2 HA.out) HNB.out (by omega)).mono ?_; rintro e w9 ⟨rfl, hb9, hc9⟩; rw [show ws (a + 0) = v from eV]; have HB9 : Hid (w9.heap[I]? = some (.cells (fdA (rdX f.has v (ws (a + 1)) 0) f 2) 119)) := (by rw [← eV]; exact hb9); have HC9 : Hid _ := hc9; clear hb9 hc9)
    refine wp_gen (fun W' => D2 w W' I (rdX f.has v (ws (a + 1)) 0) f 2) (by first | exact ⟨HB9.out, H3.out.ch.trans HC9.out⟩ | exact (D2.mk HB9.out (H3.out.ch.trans HC9.out)).drw) ?_
    clear HB9 HC9 H3 c13 lJ
    clear w9
    intro W4 h4
    have lJ := row_lt h4.b
    generalize eX : rdX f.has v (ws (a + 1)) 0 = xx at *
    have c1 : W4.cell? ⟨I, 1, none⟩ = some (.int .i64 xx.d) := row_cell h4.b 1
    have c5 : W4.cell? ⟨I, 5, none⟩ = some (.int .i64 xx.n) := row_cell h4.b 5
    have c11 : W4.cell? ⟨I, 11, none⟩ = some (.int .u16 f.has) := row_cell h4.b 11
    have c12 : W4.cell? ⟨I, 12, none⟩ = some (.int .u16 f.most) := row_cell h4.b 12
    have H4 : Hid _ := h4
    clear h4
    generalize eR : rd6 f.has v = r at *
    by_cases hr0 : r = 0
    · subst hr0
      cases hA : alB (hb f.has 256) xx.d xx.n f.most
      · go_region_held3 (fun _ => True) (trivial) ((go_at_call 73; refine (allows_any I f.has xx.d xx.n f.most (hb f.has 256) W4.drew (hb_iff _ _) c1 c5 c11 c12 lJ HM.out.1 HM.out.2).mono ?_; rintro e w5 ⟨rfl, nn5, rfl⟩; rw [hA]))
        go_wp2
        go_ret
        exact ⟨by rw [eF, eX]; unfold dcE; rw [eR, hA]; rfl, (by rw [eF, eX]; exact H4.out.b), H4.out.ch.trans ⟨rfl, rfl, rfl, Nat.le_refl _, fun _ _ _ => rfl⟩⟩
      · go_region_held3 (fun _ => True) (trivial) ((go_at_call 73; refine (allows_any I f.has xx.d xx.n f.most (hb f.has 256) W4.drew (hb_iff _ _) c1 c5 c11 c12 lJ HM.out.1 HM.out.2).mono ?_; rintro e w5 ⟨rfl, nn5, rfl⟩; rw [hA]))
        go_wp2
        go_ret
        exact ⟨by rw [eF, eX]; unfold dcE; rw [eR, hA]; rfl, (by rw [eF, eX]; exact H4.out.b), H4.out.ch.trans ⟨rfl, rfl, rfl, Nat.le_refl _, fun _ _ _ => rfl⟩⟩
    · have hr1 : (((r : Nat) : Int) != 0) = true := by simp; omega
      go_quiet (fail)
      go_wp2
      go_ret
      exact ⟨by rw [eF, eX]; unfold dcE; rw [eR]; simp only [hr0, false_and, if_false]; rfl, (by rw [eF, eX]; exact H4.out.b), H4.out.ch.trans ⟨rfl, rfl, rfl, Nat.le_refl _, fun _ _ _ => rfl⟩⟩
  ·
    go_upto_region 8 with fail
    refine wp_gen (fun W' => DE w W' I w.heap.size (fdA x0 f0 n0) (foOf k)) (by first | exact de_pre (foOf k) HI.out HB1.out | exact (de_pre (foOf k) HI.out HB1.out).drw) ?_
    intro W hD
    have p0 : W.cell? ⟨w.heap.size, 0, none⟩ = some (.int .u8 (foOf k).first) := row_cell hD.bf 0
    have fr0 := row_fr hD.b 8
    have q0 : W.cell? ⟨I, 8, none⟩ = some (.int .u8 f0.first) := row_cell hD.b 8
    have p1 : W.cell? ⟨w.heap.size, 1, none⟩ = some (.int .u8 (foOf k).last) := row_cell hD.bf 1
    have fr1 := row_fr hD.b 9
    have q1 : W.cell? ⟨I, 9, none⟩ = some (.int .u8 f0.last) := row_cell hD.b 9
    have p2 : W.cell? ⟨w.heap.size, 2, none⟩ = some (.int .u8 (foOf k).kind) := row_cell hD.bf 2
    have fr2 := row_fr hD.b 10
    have q2 : W.cell? ⟨I, 10, none⟩ = some (.int .u8 f0.kind) := row_cell hD.b 10
    have p3 : W.cell? ⟨w.heap.size, 3, none⟩ = some (.int .u16 (foOf k).has) := row_cell hD.bf 3
    have fr3 := row_fr hD.b 11
    have q3 : W.cell? ⟨I, 11, none⟩ = some (.int .u16 f0.has) := row_cell hD.b 11
    have p4 : W.cell? ⟨w.heap.size, 4, none⟩ = some (.int .u16 (foOf k).most) := row_cell hD.bf 4
    have fr4 := row_fr hD.b 12
    have q4 : W.cell? ⟨I, 12, none⟩ = some (.int .u16 f0.most) := row_cell hD.b 12
    have lF := row_lt hD.bf
    have lJ := row_lt hD.b
    have nF : ¬ w.heap.size = I := hD.ne
    have H : Hid _ := hD
    clear hD
    have HM : Hid (0 ≤ (foOf k).most ∧ (foOf k).most ≤ 65535) := foOf_most k (hit_lt HK.out)
    generalize eF : foOf k = f at *
    go_upto_region 9 with fail
    refine wp_gen (fun W' => D2 w W' I x0 f n0) (by first | exact D2.form H.out | exact (D2.form H.out).drw) ?_
    clear H p0 p1 p2 p3 p4 q0 q1 q2 q3 q4 fr0 fr1 fr2 fr3 fr4 lF lJ nF
    intro W2 h2
    have lJ := row_lt h2.b
    have c11 : W2.cell? ⟨I, 11, none⟩ = some (.int .u16 f.has) := row_cell h2.b 11
    have c13 : W2.cell? ⟨I, 13, none⟩ = some (.int .i64 n0) := row_cell h2.b 13
    have f13 := row_fr h2.b 13
    have H2 : Hid _ := h2
    clear h2
    go_upto_region 10 with (go_at_call 71; refine (size8_any I 2 f.has _ (by have := szOf f.has; rw [HN.out] at this; exact this) c11 lJ).mono ?_; rintro e w9 ⟨rfl, rfl⟩)
    refine wp_gen (fun W' => D2 w W' I x0 f 2) (by first | exact H2.out.words 2 | exact (H2.out.words 2).drw) ?_
    clear H2 c11 c13 f13 lJ
    intro W3 h3
    have lJ := row_lt h3.b
    have c13 : W3.cell? ⟨I, 13, none⟩ = some (.int .i64 2) := row_cell h3.b 13
    have H3 : Hid _ := h3
    clear h3
    go_upto_region 13 with (go_at_call 72; refine (read2_any I b (off + a) (cap - a) (fun i => ws (a + i)) x0 f 2 W3 H3.out.b (H3.out.wr HR.out HNB.out a 2 HA.out) HNB.out (by omega)).mono ?_; rintro e w9 ⟨rfl, hb9, hc9⟩; rw [show ws (a + 0) = v from eV]; have HB9 : Hid (w9.heap[I]? = some (.cells (fdA (rdX f.has v (ws (a + 1)) 0) f 2) 119)) := (by rw [← eV]; exact hb9); have HC9 : Hid _ := hc9; clear hb9 hc9)
    refine wp_gen (fun W' => D2 w W' I (rdX f.has v (ws (a + 1)) 0) f 2) (by first | exact ⟨HB9.out, H3.out.ch.trans HC9.out⟩ | exact (D2.mk HB9.out (H3.out.ch.trans HC9.out)).drw) ?_
    clear HB9 HC9 H3 c13 lJ
    clear w9
    intro W4 h4
    have lJ := row_lt h4.b
    generalize eX : rdX f.has v (ws (a + 1)) 0 = xx at *
    have c1 : W4.cell? ⟨I, 1, none⟩ = some (.int .i64 xx.d) := row_cell h4.b 1
    have c5 : W4.cell? ⟨I, 5, none⟩ = some (.int .i64 xx.n) := row_cell h4.b 5
    have c11 : W4.cell? ⟨I, 11, none⟩ = some (.int .u16 f.has) := row_cell h4.b 11
    have c12 : W4.cell? ⟨I, 12, none⟩ = some (.int .u16 f.most) := row_cell h4.b 12
    have H4 : Hid _ := h4
    clear h4
    generalize eR : rd6 f.has v = r at *
    by_cases hr0 : r = 0
    · subst hr0
      cases hA : alB (hb f.has 256) xx.d xx.n f.most
      · go_region_held3 (fun _ => True) (trivial) ((go_at_call 73; refine (allows_any I f.has xx.d xx.n f.most (hb f.has 256) W4.drew (hb_iff _ _) c1 c5 c11 c12 lJ HM.out.1 HM.out.2).mono ?_; rintro e w5 ⟨rfl, nn5, rfl⟩; rw [hA]))
        go_wp2
        go_ret
        exact ⟨by rw [eF, eX]; unfold dcE; rw [eR, hA]; rfl, (by rw [eF, eX]; exact H4.out.b), H4.out.ch.trans ⟨rfl, rfl, rfl, Nat.le_refl _, fun _ _ _ => rfl⟩⟩
      · go_region_held3 (fun _ => True) (trivial) ((go_at_call 73; refine (allows_any I f.has xx.d xx.n f.most (hb f.has 256) W4.drew (hb_iff _ _) c1 c5 c11 c12 lJ HM.out.1 HM.out.2).mono ?_; rintro e w5 ⟨rfl, nn5, rfl⟩; rw [hA]))
        go_wp2
        go_ret
        exact ⟨by rw [eF, eX]; unfold dcE; rw [eR, hA]; rfl, (by rw [eF, eX]; exact H4.out.b), H4.out.ch.trans ⟨rfl, rfl, rfl, Nat.le_refl _, fun _ _ _ => rfl⟩⟩
    · have hr1 : (((r : Nat) : Int) != 0) = true := by simp; omega
      go_quiet (fail)
      go_wp2
      go_ret
      exact ⟨by rw [eF, eX]; unfold dcE; rw [eR]; simp only [hr0, false_and, if_false]; rfl, (by rw [eF, eX]; exact H4.out.b), H4.out.ch.trans ⟨rfl, rfl, rfl, Nat.le_refl _, fun _ _ _ => rfl⟩⟩
end Go.Proofs.Ytgkkghphlbgcoaa.Ho
