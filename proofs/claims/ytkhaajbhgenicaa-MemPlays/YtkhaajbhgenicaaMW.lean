import Derived.Test.YtkhaajbhgenicaaMV
namespace Go.Proofs.Ytkhaajbhgenicaa
open Go.RowKit
set_option maxRecDepth 100000
set_option linter.unusedVariables false

/-- One step of a script, as it lies there. -/
structure StepAt (w : World) (b o : Nat) (kind : Int) (A : Nat) (N : Int) (V : Nat) (bp : Option Addr) (n c : Nat) (on : Bool) (z : Nat → Int) : Prop where
  c0 : w.cell? ⟨b, o, none⟩ = some (.int .i64 kind)
  c1 : w.cell? ⟨b, o + 1, none⟩ = some (.int .u32 A)
  c2 : w.cell? ⟨b, o + 2, none⟩ = some (.int .i64 N)
  c3 : w.cell? ⟨b, o + 3, none⟩ = some (.int .u32 V)
  c4 : w.cell? ⟨b, o + 4, none⟩ = some (.slice bp n c)
  c5 : w.cell? ⟨b, o + 5, none⟩ = some (.bool on)
  hA : A < 4294967296
  hV : V < 4294967296
  hN : I64 N
  row : 0 < n → ∃ b' off', bp = some ⟨b', off', none⟩ ∧ ∀ i, i < n → w.cell? ⟨b', off' + i, none⟩ = some (.int .u8 (z i))
  le : n ≤ 140737488355328
  bd : ∀ i, i < n → 0 ≤ z i ∧ z i ≤ 255
structure Script (w : World) (sp : Option Addr) (len : Nat) : Prop where
  row : 0 < len → ∃ b off, sp = some ⟨b, off, none⟩ ∧ ∀ i, i < len → ∃ kind A N V bp n c on z, StepAt w b (off + i * 6) kind A N V bp n c on z
  le : len ≤ 140737488355328
structure Whiches (w : World) (wp : Option Addr) (wl : Nat) : Prop where
  row : 0 < wl → ∃ b off, wp = some ⟨b, off, none⟩ ∧ ∀ i, i < wl → ∃ v, w.cell? ⟨b, off + i, none⟩ = some (.bool v)
  le : wl ≤ 140737488355328

/-- Both pairs, apart from each other and from all that was there. -/
structure Pairs (W : World) (X1 X2 : Nat) (k1 k2 : RB) (wr : World) : Prop where
  b1 : ∃ s, Both wr X1 k1 s
  b2 : ∃ s, Both wr X2 k2 s
  bel : Below W.heap.size W wr
  n1 : ∀ x ∈ X1 :: k1.y :: k1.all, W.heap.size ≤ x ∧ x ∉ X2 :: k2.y :: k2.all
  n2 : ∀ x ∈ X2 :: k2.y :: k2.all, W.heap.size ≤ x
theorem mem_all {X : Nat} {k : RB} {x : Nat} (h : x ∈ X :: k.all) : x ∈ X :: k.y :: k.all := by
  rcases List.mem_cons.1 h with rfl | h
  · simp
  · exact List.mem_cons_of_mem _ (List.mem_cons_of_mem _ h)
theorem Both.keep {S : List Nat} {w w' : World} {X : Nat} {k : RB} {s : MS} (h : Both w X k s) (hc : Chg S w w') (hS : ∀ x ∈ X :: k.y :: k.all, x ∉ S) : Both w' X k s :=
  ⟨h.pm.keep hc (hS X (by simp)), h.rm.keep hc (fun x hx => hS x (List.mem_cons_of_mem _ hx)), h.ok, h.ne⟩
theorem Pairs.fin1 {W : World} {X1 X2 : Nat} {k1 k2 : RB} {wr w' : World} (h : Pairs W X1 X2 k1 k2 wr) (hf : Fin wr X1 k1 w') : Pairs W X1 X2 k1 k2 w' := by
  obtain ⟨s2, h2⟩ := h.b2
  refine ⟨hf.1, ⟨s2, h2.keep hf.2 (fun x hx hm => (h.n1 x (mem_all hm)).2 hx)⟩, ?_, h.n1, h.n2⟩
  exact h.bel.trans (hf.2.below h.bel.size (fun x hx => (h.n1 x (mem_all hx)).1))
theorem Pairs.fin2 {W : World} {X1 X2 : Nat} {k1 k2 : RB} {wr w' : World} (h : Pairs W X1 X2 k1 k2 wr) (hf : Fin wr X2 k2 w') : Pairs W X1 X2 k1 k2 w' := by
  obtain ⟨s1, h1⟩ := h.b1
  refine ⟨⟨s1, h1.keep hf.2 (fun x hx hm => (h.n1 x hx).2 (mem_all hm))⟩, hf.1, ?_, h.n1, h.n2⟩
  exact h.bel.trans (hf.2.below h.bel.size (fun x hx => h.n2 x (mem_all hx)))
theorem Pairs.alloc {W : World} {X1 X2 : Nat} {k1 k2 : RB} {wr : World} (h : Pairs W X1 X2 k1 k2 wr) (o : Obj) : Pairs W X1 X2 k1 k2 (wr.alloc o) := by
  obtain ⟨s1, h1⟩ := h.b1
  obtain ⟨s2, h2⟩ := h.b2
  exact ⟨⟨s1, h1.alloc o⟩, ⟨s2, h2.alloc o⟩, h.bel.alloc h.bel.size o, h.n1, h.n2⟩
theorem StepAt.ar {W wr : World} {b o : Nat} {kind : Int} {A : Nat} {N : Int} {V : Nat} {bp : Option Addr} {n c : Nat} {on : Bool} {z : Nat → Int} (h : StepAt W b o kind A N V bp n c on z) (hb : Below W.heap.size W wr) (X : Nat) (k : RB) (hk : ∀ x ∈ X :: k.all, W.heap.size ≤ x) : AR wr X k bp n z :=
  ⟨fun hn => by
    obtain ⟨b', off', hp, hr⟩ := h.row hn
    have hlt : b' < W.heap.size := lt_of_cell (hr 0 hn)
    exact ⟨b', off', hp, Nat.lt_of_lt_of_le hlt hb.size, fun hm => by have := hk _ hm; omega, fun i hi => (hb.cell (p := ⟨b', off' + i, none⟩) hlt).trans (hr i hi)⟩, h.le, h.bd⟩

theorem pairs_new (W : World) {k1 k2 : RB} {w3 w4 : World} (h1 : NewR ((W.alloc (.cells zeroC 67)).alloc (.cells zeroC 67)) k1 w3) (h2 : NewR w3 k2 w4) : Pairs W W.heap.size (W.heap.size + 1) k1 k2 w4 := by
  have hb1 := h1.bel
  have hs1 := h1.size
  have hs2 := h2.size
  simp only [World.size_alloc] at hb1 hs1
  have hl1 : ∀ x ∈ k1.y :: k1.all, W.heap.size + 2 ≤ x := fun x hx => by have := h1.le x hx; simp only [World.size_alloc] at this; omega
  have hu1 : ∀ x ∈ k1.y :: k1.all, x < w3.heap.size := h1.rm.lt
  have hl2 := h2.le
  have pm1 : PM w4 W.heap.size newS := by
    have a := (new_pm W).alloc (.cells zeroC 67)
    have b := a.below hb1 (by omega)
    exact b.below h2.bel (by omega)
  have pm2 : PM w4 (W.heap.size + 1) newS := by
    have a := new_pm (W.alloc (.cells zeroC 67))
    rw [World.size_alloc] at a
    have b := a.below hb1 (by omega)
    exact b.below h2.bel (by omega)
  refine ⟨⟨newS, pm1, h1.rm.below h2.bel (Nat.le_refl _), newS_ok, fun hm => by have := hl1 _ hm; omega⟩, ⟨newS, pm2, h2.rm, newS_ok, fun hm => by have := hl2 _ hm; omega⟩, ?_, fun x hx => ?_, fun x hx => ?_⟩
  · have a : Below W.heap.size W ((W.alloc (.cells zeroC 67)).alloc (.cells zeroC 67)) := ((Below.refl _ _).alloc (Nat.le_refl _) _).alloc (by simp) _
    exact (a.trans (hb1.mono (by omega))).trans (h2.bel.mono (by omega))
  · rcases List.mem_cons.1 hx with rfl | hx
    · refine ⟨Nat.le_refl _, fun hm => ?_⟩
      rcases List.mem_cons.1 hm with h | hm
      · omega
      · have := hl2 _ hm; omega
    · have q1 := hl1 x hx
      have q2 := hu1 x hx
      refine ⟨by omega, fun hm => ?_⟩
      rcases List.mem_cons.1 hm with h | hm
      · omega
      · have := hl2 _ hm; omega
  · rcases List.mem_cons.1 hx with rfl | hx
    · omega
    · have := hl2 _ hx; omega

theorem step1_at {W wr : World} {X1 X2 : Nat} {k1 k2 : RB} {b o : Nat} {kind : Int} {A : Nat} {N : Int} {V : Nat} {bp : Option Addr} {n c : Nat} {on : Bool} {z : Nat → Int} (hp : Pairs W X1 X2 k1 k2 wr) (hst : StepAt W b o kind A N V bp n c on z) (ob : Obj) :
    Calls Try.prog 19 #[.pointer (some ⟨X1, 0, none⟩), .pointer (some ⟨k1.y, 0, none⟩), .agg (stepC kind A N V bp n c on)] (wr.alloc ob) fun e w' => e = .returned (.bool true) ∧ Pairs W X1 X2 k1 k2 w' := by
  have hp' := hp.alloc ob
  obtain ⟨s, h⟩ := hp'.b1
  exact (step_any X1 A V k1 kind N bp n c on z s _ h hst.hA hst.hV hst.hN (hst.ar hp'.bel X1 k1 (fun x hx => (hp.n1 x (mem_all hx)).1))).mono fun e w' ⟨he, hf⟩ => ⟨he, hp'.fin1 hf⟩
theorem step2_at {W wr : World} {X1 X2 : Nat} {k1 k2 : RB} {b o : Nat} {kind : Int} {A : Nat} {N : Int} {V : Nat} {bp : Option Addr} {n c : Nat} {on : Bool} {z : Nat → Int} (hp : Pairs W X1 X2 k1 k2 wr) (hst : StepAt W b o kind A N V bp n c on z) (ob : Obj) :
    Calls Try.prog 19 #[.pointer (some ⟨X2, 0, none⟩), .pointer (some ⟨k2.y, 0, none⟩), .agg (stepC kind A N V bp n c on)] (wr.alloc ob) fun e w' => e = .returned (.bool true) ∧ Pairs W X1 X2 k1 k2 w' := by
  have hp' := hp.alloc ob
  obtain ⟨s, h⟩ := hp'.b2
  exact (step_any X2 A V k2 kind N bp n c on z s _ h hst.hA hst.hV hst.hN (hst.ar hp'.bel X2 k2 (fun x hx => hp.n2 x (mem_all hx)))).mono fun e w' ⟨he, hf⟩ => ⟨he, hp'.fin2 hf⟩

set_option maxHeartbeats 4000000 in
theorem plays_walk (sp wp : Option Addr) (len cap wl wc : Nat) (W : World) (hs : Script W sp len) (hw : Whiches W wp wl) :
    Calls Try.prog 6 #[.slice sp len cap, .slice wp wl wc] W fun e w' => e = .returned (.bool true) ∧ Below W.heap.size W w' := by
  have HS : Hid (Script W sp len) := hs
  have HW : Hid (Whiches W wp wl) := hw
  have hl1 : (len : Int) ≤ 140737488355328 := by have := hs.le; omega
  have hl2 : (wl : Int) ≤ 140737488355328 := by have := hw.le; omega
  clear hs hw
  go_enter Try.func6, Try.ntmps6
  go_wp2_with first
    | (go_at_call 17; refine (new_any _).mono ?_; rintro e w' ⟨rfl, rfl⟩)
    | (go_at_call 18; refine (rnew_any _).mono ?_; rintro e w3 ⟨k1, rfl, hn1⟩; have HN1 : Hid (NewR ((W.alloc (.cells zeroC 67)).alloc (.cells zeroC 67)) k1 w3) := hn1; clear hn1)
    | (go_at_call 18; refine (rnew_any _).mono ?_; rintro e w4 ⟨k2, rfl, hn2⟩; have HN2 : Hid (NewR w3 k2 w4) := hn2; clear hn2)
  have HP0 : Hid (Pairs W W.heap.size (W.heap.size + 1) k1 k2 w4) := pairs_new W HN1.out HN2.out
  clear HN1 HN2
  go_loopw [23] (fun i wr => ∃ j : Nat, i = .int .i64 j ∧ j ≤ len ∧ Pairs W W.heap.size (W.heap.size + 1) k1 k2 wr) (fun i _ => len - (intOf i).toNat)
  case atStart => exact ⟨0, rfl, by omega, HP0.out⟩
  case round =>
    obtain ⟨j, rfl, hj, hp⟩ := hrel
    have HP : Hid (Pairs W W.heap.size (W.heap.size + 1) k1 k2 wr) := hp
    clear hp HP0
    by_cases hlt : j < len
    · obtain ⟨b, off, rfl, hr⟩ := HS.out.row (by omega)
      obtain ⟨kind, A, N, V, bp, n, c, on, z, hst⟩ := hr j hlt
      have hblt : b < W.heap.size := lt_of_cell hst.c0
      have hk : ∀ o, wr.cell? ⟨b, o, none⟩ = W.cell? ⟨b, o, none⟩ := fun o => HP.out.bel.cell (p := ⟨b, o, none⟩) hblt
      have d0 := (hk _).trans hst.c0
      have d1 := (hk _).trans hst.c1
      have d2 := (hk _).trans hst.c2
      have d3 := (hk _).trans hst.c3
      have d4 := (hk _).trans hst.c4
      have d5 := (hk _).trans hst.c5
      have hji : (j : Int) < len := by omega
      have hj0 : (0 : Int) ≤ j := by omega
      have hjm : (j : Int) ≤ 140737488355328 := by omega
      have HST : Hid (StepAt W b (off + j * 6) kind A N V bp n c on z) := hst
      have hbw : b < wr.heap.size := Nat.lt_of_lt_of_le hblt HP.out.bel.size
      clear hr hst hk
      by_cases hwl : j < wl
      · obtain ⟨b2, off2, rfl, hr2⟩ := HW.out.row (by omega)
        obtain ⟨v, hv⟩ := hr2 j hwl
        have hb2 : b2 < W.heap.size := lt_of_cell hv
        have dv := (HP.out.bel.cell (p := ⟨b2, off2 + j, none⟩) hb2).trans hv
        have hbw2 : b2 < wr.heap.size := Nat.lt_of_lt_of_le hb2 HP.out.bel.size
        have hwi : (j : Int) < wl := by omega
        have dwl : decide ((j : Int) < wl) = true := decide_eq_true hwi
        clear hr2 hv
        cases v
        · go_wp2_with (go_at_call 19; refine (step1_at HP.out HST.out _).mono ?_; rintro e w5 ⟨rfl, hp5⟩; have HP5 : Hid (Pairs W W.heap.size (W.heap.size + 1) k1 k2 w5) := hp5; clear hp5)
          go_roundw
          case rel => exact ⟨j + 1, by go_num, hlt, HP5.out⟩
          case measure => simp [intOf]; omega
        · go_wp2_with (go_at_call 19; refine (step2_at HP.out HST.out _).mono ?_; rintro e w5 ⟨rfl, hp5⟩; have HP5 : Hid (Pairs W W.heap.size (W.heap.size + 1) k1 k2 w5) := hp5; clear hp5)
          go_roundw
          case rel => exact ⟨j + 1, by go_num, hlt, HP5.out⟩
          case measure => simp [intOf]; omega
      · have hwi : ¬ (j : Int) < wl := by omega
        have dwl : decide ((j : Int) < wl) = false := decide_eq_false hwi
        go_wp2_with (go_at_call 19; refine (step1_at HP.out HST.out _).mono ?_; rintro e w5 ⟨rfl, hp5⟩; have HP5 : Hid (Pairs W W.heap.size (W.heap.size + 1) k1 k2 w5) := hp5; clear hp5)
        go_roundw
        case rel => exact ⟨j + 1, by go_num, hlt, HP5.out⟩
        case measure => simp [intOf]; omega
    · have hji : ¬ (j : Int) < len := by omega
      obtain ⟨s1, q1⟩ := HP.out.b1
      obtain ⟨s2, q2⟩ := HP.out.b2
      have HQ1 : Hid (Both wr W.heap.size k1 s1) := q1
      have HQ2 : Hid (Both wr (W.heap.size + 1) k2 s2) := q2
      clear q1 q2
      go_wp2_with first
        | (go_at_call 20; refine (whole_any (W.heap.size + 1) k2 s2 _ (HQ2.out.below HB5.out (Nat.le_refl _)).pm (HQ2.out.below HB5.out (Nat.le_refl _)).rm).mono ?_; rintro e w6 ⟨rfl, hb6⟩; have HB6 : Hid (Below w5.heap.size w5 w6) := hb6; clear hb6)
        | (go_at_call 20; refine (whole_any W.heap.size k1 s1 _ HQ1.out.pm HQ1.out.rm).mono ?_; rintro e w5 ⟨rfl, hb5⟩; have HB5 : Hid (Below wr.heap.size wr w5) := hb5; clear hb5)
      go_ret
      refine ⟨rfl, ?_⟩
      have t1 := HP.out.bel.trans (HB5.out.mono HP.out.bel.size)
      exact t1.trans (HB6.out.mono t1.size)
end Go.Proofs.Ytkhaajbhgenicaa
