import Derived.Test.YtkgbjpdoigdjnabLMC
import Derived.Test.YtkgbjpdoigdjnabWEZ
import Derived.Deep.MidRow
set_option linter.unusedVariables false
set_option linter.unusedSimpArgs false
set_option maxHeartbeats 16000000
namespace Go.Proofs.Ytkgbjpdoigdjnab
open Go.RowKit
open Go.Maps
set_option maxRecDepth 100000
structure OMC (W wx : World) (k k' : Va.RB) (s s' : Va.MS) (L : List (Nat × Obj)) (bp' bq : Option Addr) (n n2 : Nat) (f g : Nat → OpR) : Prop where
  rm : Va.RM wx k s
  rm' : Va.RM wx k' s'
  kp : Kp wx L
  o' : OpsR wx bp' n f
  q : OpsR wx bq n2 g
  bel : Below W.heap.size W wx
  nk : ∀ p ∈ L, p.1 ∉ k.all ∧ p.1 ∉ k'.all
  np : ∀ b off, bp' = some ⟨b, off, none⟩ → b ∉ k.all ∧ b ∉ k'.all
  nq : ∀ b off, bq = some ⟨b, off, none⟩ → b ∉ k.all ∧ b ∉ k'.all
  d1 : ∀ x ∈ k.y :: k.all, x ∉ k'.all
  d2 : ∀ x ∈ k'.y :: k'.all, x ∉ k.all
  f1 : ∀ x ∈ k.all, W.heap.size ≤ x
  f2 : ∀ x ∈ k'.all, W.heap.size ≤ x
theorem OMC.new {W wx : World} {k k' : Va.RB} {s s' : Va.MS} {L : List (Nat × Obj)} {bp' bq : Option Addr} {n n2 : Nat} {f g : Nat → OpR} (h : OMC W wx k k' s s' L bp' bq n n2 f g) (o : Obj) : OMC W (wx.alloc o) k k' s s' ((wx.heap.size, o) :: L) bp' bq n n2 f g :=
  have hb : Below wx.heap.size wx (wx.alloc o) := (Below.refl _ _).alloc (Nat.le_refl _) o
  ⟨h.rm.alloc o, h.rm'.alloc o, h.kp.new o, h.o'.below hb (Nat.le_refl _), h.q.below hb (Nat.le_refl _), h.bel.alloc h.bel.size o, fun p hp => by
    rcases List.mem_cons.1 hp with rfl | hp
    · exact ⟨fun hm => Nat.lt_irrefl _ (h.rm.lt _ (List.mem_cons_of_mem _ hm)), fun hm => Nat.lt_irrefl _ (h.rm'.lt _ (List.mem_cons_of_mem _ hm))⟩
    · exact h.nk p hp, h.np, h.nq, h.d1, h.d2, h.f1, h.f2⟩
theorem OMC.below {W wx : World} {k k' : Va.RB} {s s' : Va.MS} {L : List (Nat × Obj)} {bp' bq : Option Addr} {n n2 : Nat} {f g : Nat → OpR} (h : OMC W wx k k' s s' L bp' bq n n2 f g) {w' : World} (hb : Below wx.heap.size wx w') : OMC W w' k k' s s' L bp' bq n n2 f g :=
  ⟨h.rm.below hb (Nat.le_refl _), h.rm'.below hb (Nat.le_refl _), h.kp.below hb, h.o'.below hb (Nat.le_refl _), h.q.below hb (Nat.le_refl _), h.bel.trans (hb.mono h.bel.size), h.nk, h.np, h.nq, h.d1, h.d2, h.f1, h.f2⟩
theorem OMC.ev1 {W wx : World} {k k' : Va.RB} {s s' : Va.MS} {L : List (Nat × Obj)} {bp' bq : Option Addr} {n n2 : Nat} {f g : Nat → OpR} (h : OMC W wx k k' s s' L bp' bq n n2 f g) {w' : World} {s2 : Va.MS} (hR : Va.RM w' k s2) (hC : Va.Chg k.all wx w') : OMC W w' k k' s2 s' L bp' bq n n2 f g :=
  ⟨hR, h.rm'.keep hC h.d2, h.kp.chg hC (fun p hp => (h.nk p hp).1), opsR_chg h.o' (fun b off e => (h.np b off e).1) hC, opsR_chg h.q (fun b off e => (h.nq b off e).1) hC, h.bel.trans (hC.below h.bel.size h.f1), h.nk, h.np, h.nq, h.d1, h.d2, h.f1, h.f2⟩
theorem OMC.ev2 {W wx : World} {k k' : Va.RB} {s s' : Va.MS} {L : List (Nat × Obj)} {bp' bq : Option Addr} {n n2 : Nat} {f g : Nat → OpR} (h : OMC W wx k k' s s' L bp' bq n n2 f g) {w' : World} {s2 : Va.MS} (hR : Va.RM w' k' s2) (hC : Va.Chg k'.all wx w') : OMC W w' k k' s s2 L bp' bq n n2 f g :=
  ⟨h.rm.keep hC h.d1, hR, h.kp.chg hC (fun p hp => (h.nk p hp).2), opsR_chg h.o' (fun b off e => (h.np b off e).2) hC, opsR_chg h.q (fun b off e => (h.nq b off e).2) hC, h.bel.trans (hC.below h.bel.size h.f2), h.nk, h.np, h.nq, h.d1, h.d2, h.f1, h.f2⟩
theorem OMA.copy {W W0 wx w' : World} {X : Nat} {k k' : Va.RB} {m : Va.MS} {L : List (Nat × Obj)} {bp bp' bq : Option Addr} {n n2 : Nat} {f g : Nat → OpR} (h : OMA W0 wx X k m L bp bp' bq n n2 f g) (hW : Below W.heap.size W W0) (hR : Va.RM w' k' m) (hB : Below wx.heap.size wx w') (hF : ∀ x ∈ k'.y :: k'.all, wx.heap.size ≤ x) (nk : ∀ p ∈ L, p.1 ∉ k.all) (h0 : 0 < n) (h2 : 0 < n2) (np : ∀ b off, bp' = some ⟨b, off, none⟩ → b ∉ k.all) (nq : ∀ b off, bq = some ⟨b, off, none⟩ → b ∉ k.all) : OMC W w' k k' m m L bp' bq n n2 f g :=
  ⟨h.bs.rm.below hB (Nat.le_refl _), hR, h.kp.below hB, h.o'.below hB (Nat.le_refl _), h.q.below hB (Nat.le_refl _), hW.trans ((h.bs.bel.trans (hB.mono h.bs.bel.size)).mono hW.size), fun p hp => ⟨nk p hp, fun hm => by have h1 := hF _ (List.mem_cons_of_mem _ hm); have h2 := h.kp.lt hp; omega⟩,
   fun b off e => ⟨np b off e, fun hm => by
    have h1 := hF _ (List.mem_cons_of_mem _ hm)
    obtain ⟨b', off', e', hb, -⟩ := h.o' h0
    rw [e'] at e; cases e; omega⟩,
   fun b off e => ⟨nq b off e, fun hm => by
    have h1 := hF _ (List.mem_cons_of_mem _ hm)
    obtain ⟨b', off', e', hb, -⟩ := h.q h2
    rw [e'] at e; cases e; omega⟩,
   fun x hx hm => by have h1 := hF _ (List.mem_cons_of_mem _ hm); have h2 := h.bs.rm.lt x hx; omega,
   fun x hx hm => by have h1 := hF x hx; have h2 := h.bs.rm.lt x (List.mem_cons_of_mem _ hm); omega,
   fun x hx => Nat.le_trans hW.size (h.bs.far x (List.mem_cons_of_mem _ (List.mem_cons_of_mem _ hx))),
   fun x hx => Nat.le_trans hW.size (Nat.le_trans h.bs.bel.size (hF x (List.mem_cons_of_mem _ hx)))⟩
theorem rng {w : World} {b : Nat} {c' : Nat → Nat} (h : w.heap[b]? = some (.cells (Va.cxA c') 27)) : w.rangeAt b 0 [.int .u32 (c' 0), .int .u32 (c' 1), .int .u32 (c' 2), .int .u32 (c' 3), .int .u32 (c' 4), .int .u32 (c' 5), .int .u32 (c' 6), .int .u32 (c' 7), .int .u32 (c' 8), .int .u32 (c' 9), .int .u32 (c' 10), .int .u32 (c' 11)] := fun j v hv => by
  rw [Nat.zero_add]
  exact (row_cell h j).trans (by simpa using hv)
theorem om_good (pc : Nat) (count bytes : Int) (bp pp mp : Option Addr) (n cap plen pcap mlen mcap : Nat) (f : Nat → OpR) (c : Nat → Nat) (W : World) (hO : OpsR W bp n f) (hby : n * 56 ≤ 140737488355328) (hp : Va.Parts W pp plen) (hm : Va.Marks W mp mlen) (hB : BlkE pc count bytes bp n cap f c) (hck : checkF count bytes n f = (0, 0)) (hkf : ∀ j, j < n → (f j).k < 4294967296) (hcx : Va.cxOk c) :
    Calls Try.prog 3 #[.agg #[.int .u32 pc, .int .i64 count, .int .i64 bytes, .slice bp n cap], Va.cxV c, .slice pp plen pcap, .slice mp mlen mcap] W fun e w' => e = .returned (.bool true) ∧ Below W.heap.size W w' := by
  have HE : Hid (checkF count bytes n f = (0, 0)) := hck
  have HKF : Hid _ := hkf
  have HCX : Hid (Va.cxOk c) := hcx
  clear hck hkf hcx
  have HO : Hid (OpsR W bp n f) := hO
  have HBY : Hid _ := hby
  have HN : Hid (n < 9223372036854775807) := show n < 9223372036854775807 by omega
  have HPs : Hid _ := hp
  have HMs : Hid _ := hm
  have HBR : Hid (BlkE pc count bytes bp n cap f c) := hB
  have n0 : (0 : Int) ≤ (n : Int) := by omega
  clear hO hby hp hm hB
  go_enter Try.func3, Try.ntmps3
  go_upto_region 6 with first
    | (go_at_call 11; refine (Va.both_any pp mp plen pcap mlen mcap _ (parts_below HPs.out (w2b W _ _)) (marks_below HMs.out (w2b W _ _))).mono ?_; rintro e w0 ⟨X, k, m, rfl, hB0⟩; have HB0 : Hid (Va.BS ((W.alloc (.cells #[.int .u32 pc, .int .i64 count, .int .i64 bytes, .slice bp n cap] 25)).alloc (.cells (Va.cxA c) 27)) w0 X k m m) := hB0; have HK0 : Hid (Kp w0 [(W.heap.size + 1, .cells (Va.cxA c) 27), (W.heap.size, .cells #[.int .u32 pc, .int .i64 count, .int .i64 bytes, .slice bp n cap] 25)]) := (kp0 W _ _).below hB0.bel; have HO0 : Hid (OpsR w0 bp n f) := (HO.out.below (w2b W _ _) (Nat.le_refl _)).below hB0.bel (Nat.le_refl _); clear hB0; have a0 : w0.cell? ⟨W.heap.size, 0, none⟩ = some (.int .u32 pc) := row_cell (HK0.out.k _ (List.mem_cons_of_mem _ (List.mem_cons_self))) 0; have a1 : w0.cell? ⟨W.heap.size, 1, none⟩ = some (.int .i64 count) := row_cell (HK0.out.k _ (List.mem_cons_of_mem _ (List.mem_cons_self))) 1; have a2 : w0.cell? ⟨W.heap.size, 2, none⟩ = some (.int .i64 bytes) := row_cell (HK0.out.k _ (List.mem_cons_of_mem _ (List.mem_cons_self))) 2; have a3 : w0.cell? ⟨W.heap.size, 3, none⟩ = some (.slice bp n cap) := row_cell (HK0.out.k _ (List.mem_cons_of_mem _ (List.mem_cons_self))) 3; have al : W.heap.size < w0.heap.size := HK0.out.lt (List.mem_cons_of_mem _ (List.mem_cons_self)))
    | (go_at_call 12; refine (twin_any pc count bytes bp n cap f _ HO0.out HBY.out).mono ?_; rintro e w1 ⟨bp', cap', rfl, hO', hc', hB', hfr⟩; have HB1 : Hid (Va.BS ((W.alloc (.cells #[.int .u32 pc, .int .i64 count, .int .i64 bytes, .slice bp n cap] 25)).alloc (.cells (Va.cxA c) 27)) (w1.alloc (.cells #[.int .u32 pc, .int .i64 count, .int .i64 bytes, .slice bp' n cap'] 25)) X k m m) := (HB0.out.below hB').alloc _; have HK1 : Hid (Kp (w1.alloc (.cells #[.int .u32 pc, .int .i64 count, .int .i64 bytes, .slice bp' n cap'] 25)) ((w1.heap.size, .cells #[.int .u32 pc, .int .i64 count, .int .i64 bytes, .slice bp' n cap'] 25) :: [(W.heap.size + 1, .cells (Va.cxA c) 27), (W.heap.size, .cells #[.int .u32 pc, .int .i64 count, .int .i64 bytes, .slice bp n cap] 25)])) := (HK0.out.below hB').new _; have HO1 : Hid (OpsR (w1.alloc (.cells #[.int .u32 pc, .int .i64 count, .int .i64 bytes, .slice bp' n cap'] 25)) bp n f) := (HO0.out.below hB' (Nat.le_refl _)).below ((Below.refl _ _).alloc (Nat.le_refl _) _) (Nat.le_refl _); have HO1' : Hid (OpsR (w1.alloc (.cells #[.int .u32 pc, .int .i64 count, .int .i64 bytes, .slice bp' n cap'] 25)) bp' n f) := hO'.below ((Below.refl _ _).alloc (Nat.le_refl _) _) (Nat.le_refl _); have HFR : Hid (∀ b off, bp' = some ⟨b, off, none⟩ → b ∉ k.all) := show ∀ b off, _ from fun b off e => HB0.out.nK (hfr b off e); have HP1 : Hid (w0.heap.size ≤ w1.heap.size) := hB'.size; clear hO' hc' hB' hfr a0 a1 a2 a3 al; have a0 : (w1.alloc (.cells #[.int .u32 pc, .int .i64 count, .int .i64 bytes, .slice bp' n cap'] 25)).cell? ⟨W.heap.size, 0, none⟩ = some (.int .u32 pc) := row_cell (HK1.out.k _ (List.mem_cons_of_mem _ (List.mem_cons_of_mem _ (List.mem_cons_self)))) 0; have a1 : (w1.alloc (.cells #[.int .u32 pc, .int .i64 count, .int .i64 bytes, .slice bp' n cap'] 25)).cell? ⟨W.heap.size, 1, none⟩ = some (.int .i64 count) := row_cell (HK1.out.k _ (List.mem_cons_of_mem _ (List.mem_cons_of_mem _ (List.mem_cons_self)))) 1; have a2 : (w1.alloc (.cells #[.int .u32 pc, .int .i64 count, .int .i64 bytes, .slice bp' n cap'] 25)).cell? ⟨W.heap.size, 2, none⟩ = some (.int .i64 bytes) := row_cell (HK1.out.k _ (List.mem_cons_of_mem _ (List.mem_cons_of_mem _ (List.mem_cons_self)))) 2; have a3 : (w1.alloc (.cells #[.int .u32 pc, .int .i64 count, .int .i64 bytes, .slice bp' n cap'] 25)).cell? ⟨W.heap.size, 3, none⟩ = some (.slice bp n cap) := row_cell (HK1.out.k _ (List.mem_cons_of_mem _ (List.mem_cons_of_mem _ (List.mem_cons_self)))) 3; have al : W.heap.size < (w1.alloc (.cells #[.int .u32 pc, .int .i64 count, .int .i64 bytes, .slice bp' n cap'] 25)).heap.size := HK1.out.lt (List.mem_cons_of_mem _ (List.mem_cons_of_mem _ (List.mem_cons_self))))
    | (go_at_call 13; refine (HBR.out _ HO1.out).mono ?_; rintro e w2 ⟨n2, g, bq, cap2, hfi, rfl, hq, hfq, hB2⟩; have HFI : Hid _ := hfi; clear hfi; have H2 : Hid (OMA ((W.alloc (.cells #[.int .u32 pc, .int .i64 count, .int .i64 bytes, .slice bp n cap] 25)).alloc (.cells (Va.cxA c) 27)) (w2.alloc (.cells #[.int .u32 pc, .int .i64 count, .int .i64 bytes, .slice bq n2 cap2] 25)) X k m ((w2.heap.size, .cells #[.int .u32 pc, .int .i64 count, .int .i64 bytes, .slice bq n2 cap2] 25) :: (w1.heap.size, .cells #[.int .u32 pc, .int .i64 count, .int .i64 bytes, .slice bp' n cap'] 25) :: [(W.heap.size + 1, .cells (Va.cxA c) 27), (W.heap.size, .cells #[.int .u32 pc, .int .i64 count, .int .i64 bytes, .slice bp n cap] 25)]) bp bp' bq n n2 f g) := ⟨(HB1.out.below hB2).alloc _, (HK1.out.below hB2).new _, (HO1.out.below hB2 (Nat.le_refl _)).below ((Below.refl _ _).alloc (Nat.le_refl _) _) (Nat.le_refl _), (HO1'.out.below hB2 (Nat.le_refl _)).below ((Below.refl _ _).alloc (Nat.le_refl _) _) (Nat.le_refl _), hq.below ((Below.refl _ _).alloc (Nat.le_refl _) _) (Nat.le_refl _)⟩; have HFQ : Hid (0 < n2 → ∀ b off, bq = some ⟨b, off, none⟩ → b ∉ k.all) := show 0 < n2 → ∀ b off, _ from fun h0 b off e => HB1.out.nK (hfq b off e h0); have HQ1 : Hid (w1.heap.size < w2.heap.size) := Nat.lt_of_lt_of_le (show w1.heap.size < (w1.alloc (.cells #[.int .u32 pc, .int .i64 count, .int .i64 bytes, .slice bp' n cap'] 25)).heap.size by simp) hB2.size; clear hq hfq hB2 a0 a1 a2 a3 al)
  have HPK : Hid (w1.heap.size ∉ k.all) := HB0.out.nK HP1.out
  have HQK : Hid (w2.heap.size ∉ k.all) := HB0.out.nK (Nat.le_of_lt (Nat.lt_of_le_of_lt HP1.out HQ1.out))
  have HFAR : Hid (∀ x ∈ k.y :: k.all, W.heap.size + 1 < x) := show ∀ x ∈ k.y :: k.all, _ from fun x hx => by have := HB0.out.far x (List.mem_cons_of_mem _ hx); simp at this; omega
  clear HB1 HK1 HO1 HO1' HB0 HK0 HO0 HP1 HQ1 HBR HPs HMs HBY HO
  generalize w1.heap.size = P at *
  generalize w2.heap.size = Q at *
  refine wp_gen (fun W' => OMA ((W.alloc (.cells #[.int .u32 pc, .int .i64 count, .int .i64 bytes, .slice bp n cap] 25)).alloc (.cells (Va.cxA c) 27)) W' X k m ((Q, .cells #[.int .u32 pc, .int .i64 count, .int .i64 bytes, .slice bq n2 cap2] 25) :: (P, .cells #[.int .u32 pc, .int .i64 count, .int .i64 bytes, .slice bp' n cap'] 25) :: [(W.heap.size + 1, .cells (Va.cxA c) 27), (W.heap.size, .cells #[.int .u32 pc, .int .i64 count, .int .i64 bytes, .slice bp n cap] 25)] : List (Nat × Obj)) bp bp' bq n n2 f g) H2.out ?_
  clear H2
  intro wx hW
  have HW : Hid _ := hW
  have a0 : wx.cell? ⟨W.heap.size, 0, none⟩ = some (.int .u32 pc) := row_cell (hW.kp.k _ (List.mem_cons_of_mem _ (List.mem_cons_of_mem _ (List.mem_cons_of_mem _ (List.mem_cons_self))))) 0
  have a1 : wx.cell? ⟨W.heap.size, 1, none⟩ = some (.int .i64 count) := row_cell (hW.kp.k _ (List.mem_cons_of_mem _ (List.mem_cons_of_mem _ (List.mem_cons_of_mem _ (List.mem_cons_self))))) 1
  have a2 : wx.cell? ⟨W.heap.size, 2, none⟩ = some (.int .i64 bytes) := row_cell (hW.kp.k _ (List.mem_cons_of_mem _ (List.mem_cons_of_mem _ (List.mem_cons_of_mem _ (List.mem_cons_self))))) 2
  have a3 : wx.cell? ⟨W.heap.size, 3, none⟩ = some (.slice bp n cap) := row_cell (hW.kp.k _ (List.mem_cons_of_mem _ (List.mem_cons_of_mem _ (List.mem_cons_of_mem _ (List.mem_cons_self))))) 3
  have al : W.heap.size < wx.heap.size := hW.kp.lt (List.mem_cons_of_mem _ (List.mem_cons_of_mem _ (List.mem_cons_of_mem _ (List.mem_cons_self))))
  have p0 : wx.cell? ⟨P, 0, none⟩ = some (.int .u32 pc) := row_cell (hW.kp.k _ (List.mem_cons_of_mem _ (List.mem_cons_self))) 0
  have p1 : wx.cell? ⟨P, 1, none⟩ = some (.int .i64 count) := row_cell (hW.kp.k _ (List.mem_cons_of_mem _ (List.mem_cons_self))) 1
  have p2 : wx.cell? ⟨P, 2, none⟩ = some (.int .i64 bytes) := row_cell (hW.kp.k _ (List.mem_cons_of_mem _ (List.mem_cons_self))) 2
  have p3 : wx.cell? ⟨P, 3, none⟩ = some (.slice bp' n cap') := row_cell (hW.kp.k _ (List.mem_cons_of_mem _ (List.mem_cons_self))) 3
  have pl : P < wx.heap.size := hW.kp.lt (List.mem_cons_of_mem _ (List.mem_cons_self))
  have q0 : wx.cell? ⟨Q, 0, none⟩ = some (.int .u32 pc) := row_cell (hW.kp.k _ (List.mem_cons_self)) 0
  have q1 : wx.cell? ⟨Q, 1, none⟩ = some (.int .i64 count) := row_cell (hW.kp.k _ (List.mem_cons_self)) 1
  have q2 : wx.cell? ⟨Q, 2, none⟩ = some (.int .i64 bytes) := row_cell (hW.kp.k _ (List.mem_cons_self)) 2
  have q3 : wx.cell? ⟨Q, 3, none⟩ = some (.slice bq n2 cap2) := row_cell (hW.kp.k _ (List.mem_cons_self)) 3
  have ql : Q < wx.heap.size := hW.kp.lt (List.mem_cons_self)
  clear hW
  have hle := HFI.out.le
  have dn : decide ((n : Int) < (n2 : Int)) = false := decide_eq_false (by omega)
  have dn2 : ¬ (n < n2) := by omega
  clear hle
  have HE2 : Hid (checkF count bytes n2 g = (0, 0)) := HFI.out.ck
  have HN2 : Hid (0 < n2) := HFI.out.pos
  have HN1 : Hid (0 < n) := Nat.lt_of_lt_of_le HFI.out.pos HFI.out.le
  have HNN2 : Hid (n2 < 9223372036854775807) := Nat.lt_of_le_of_lt HFI.out.le HN.out
  have HKG : Hid (∀ j, j < n2 → (g j).k < 4294967296) := HFI.out.kg
  have HRU : Hid (∀ m : Va.MS, m.Ok → ∃ c' m' xk xa xn p, Va.cxOk c' ∧ RunS f n c m c' m' xk xa xn p ∧ RunS g n2 c m c' m' xk xa xn p) := HFI.out.run
  have n20 : (0 : Int) ≤ (n2 : Int) := by omega
  clear HFI
  go_upto_region 8 with first
    | (go_at_call 14; refine (sameOps_any bp bp' n cap cap' f _ HW.out.o HW.out.o' HN.out).mono ?_; rintro e w3 ⟨rfl, h3⟩; have H3 : Hid _ := HW.out.below h3; clear h3 a0 a1 a2 a3 al p0 p1 p2 p3 pl q0 q1 q2 q3 ql; have p0 : w3.cell? ⟨P, 0, none⟩ = some (.int .u32 pc) := row_cell (H3.out.kp.k _ (List.mem_cons_of_mem _ (List.mem_cons_self))) 0; have p1 : w3.cell? ⟨P, 1, none⟩ = some (.int .i64 count) := row_cell (H3.out.kp.k _ (List.mem_cons_of_mem _ (List.mem_cons_self))) 1; have p2 : w3.cell? ⟨P, 2, none⟩ = some (.int .i64 bytes) := row_cell (H3.out.kp.k _ (List.mem_cons_of_mem _ (List.mem_cons_self))) 2; have p3 : w3.cell? ⟨P, 3, none⟩ = some (.slice bp' n cap') := row_cell (H3.out.kp.k _ (List.mem_cons_of_mem _ (List.mem_cons_self))) 3; have pl : P < w3.heap.size := H3.out.kp.lt (List.mem_cons_of_mem _ (List.mem_cons_self)); have q0 : w3.cell? ⟨Q, 0, none⟩ = some (.int .u32 pc) := row_cell (H3.out.kp.k _ (List.mem_cons_self)) 0; have q1 : w3.cell? ⟨Q, 1, none⟩ = some (.int .i64 count) := row_cell (H3.out.kp.k _ (List.mem_cons_self)) 1; have q2 : w3.cell? ⟨Q, 2, none⟩ = some (.int .i64 bytes) := row_cell (H3.out.kp.k _ (List.mem_cons_self)) 2; have q3 : w3.cell? ⟨Q, 3, none⟩ = some (.slice bq n2 cap2) := row_cell (H3.out.kp.k _ (List.mem_cons_self)) 3; have ql : Q < w3.heap.size := H3.out.kp.lt (List.mem_cons_self))
  go_upto_region 11 with first
    | (go_at_call 15; refine (rcheck_any pc count bytes bp' n cap' f _ H3.out.o' HN.out).mono ?_; rintro e w4 ⟨rfl, h4⟩; rw [HE.out]; have H4 : Hid _ := H3.out.below h4; clear h4 p0 p1 p2 p3 pl q0 q1 q2 q3 ql; have p0 : w4.cell? ⟨P, 0, none⟩ = some (.int .u32 pc) := row_cell (H4.out.kp.k _ (List.mem_cons_of_mem _ (List.mem_cons_self))) 0; have p1 : w4.cell? ⟨P, 1, none⟩ = some (.int .i64 count) := row_cell (H4.out.kp.k _ (List.mem_cons_of_mem _ (List.mem_cons_self))) 1; have p2 : w4.cell? ⟨P, 2, none⟩ = some (.int .i64 bytes) := row_cell (H4.out.kp.k _ (List.mem_cons_of_mem _ (List.mem_cons_self))) 2; have p3 : w4.cell? ⟨P, 3, none⟩ = some (.slice bp' n cap') := row_cell (H4.out.kp.k _ (List.mem_cons_of_mem _ (List.mem_cons_self))) 3; have pl : P < w4.heap.size := H4.out.kp.lt (List.mem_cons_of_mem _ (List.mem_cons_self)); have q0 : w4.cell? ⟨Q, 0, none⟩ = some (.int .u32 pc) := row_cell (H4.out.kp.k _ (List.mem_cons_self)) 0; have q1 : w4.cell? ⟨Q, 1, none⟩ = some (.int .i64 count) := row_cell (H4.out.kp.k _ (List.mem_cons_self)) 1; have q2 : w4.cell? ⟨Q, 2, none⟩ = some (.int .i64 bytes) := row_cell (H4.out.kp.k _ (List.mem_cons_self)) 2; have q3 : w4.cell? ⟨Q, 3, none⟩ = some (.slice bq n2 cap2) := row_cell (H4.out.kp.k _ (List.mem_cons_self)) 3; have ql : Q < w4.heap.size := H4.out.kp.lt (List.mem_cons_self))
  go_upto_region 14 with first
    | (go_at_call 15; refine (rcheck_any pc count bytes bq n2 cap2 g _ H4.out.q HNN2.out).mono ?_; rintro e w5 ⟨rfl, h5⟩; rw [HE2.out]; have H5 : Hid _ := H4.out.below h5; clear h5 p0 p1 p2 p3 pl q0 q1 q2 q3 ql)
  obtain ⟨c', m', xk, xa, xn, p, hcx', hr1, hr2⟩ := HRU.out m H5.out.bs.ok1
  have HCX' : Hid (Va.cxOk c') := hcx'
  have HR1 : Hid _ := hr1
  have HR2 : Hid _ := hr2
  have HMO : Hid m.Ok := H5.out.bs.ok1
  have HCP : Hid (∀ (w' : World) (k' : Va.RB), Va.RM w' k' m → Below w5.heap.size w5 w' → (∀ x ∈ k'.y :: k'.all, w5.heap.size ≤ x) → OMC W w' k k' m m ((Q, .cells #[.int .u32 pc, .int .i64 count, .int .i64 bytes, .slice bq n2 cap2] 25) :: (P, .cells #[.int .u32 pc, .int .i64 count, .int .i64 bytes, .slice bp' n cap'] 25) :: [(W.heap.size + 1, .cells (Va.cxA c) 27), (W.heap.size, .cells #[.int .u32 pc, .int .i64 count, .int .i64 bytes, .slice bp n cap] 25)] : List (Nat × Obj)) bp' bq n n2 f g) := show ∀ (w' : World) (k' : Va.RB), _ from fun w' k' hR hB hF => H5.out.copy (w2b W _ _) hR hB hF (fun p hp => by
    have hf := HFAR.out
    simp at hp
    rcases hp with rfl | rfl | rfl | rfl
    · exact HQK.out
    · exact HPK.out
    · exact fun hm => by have := hf _ (List.mem_cons_of_mem _ hm); omega
    · exact fun hm => by have := hf _ (List.mem_cons_of_mem _ hm); omega) HN1.out HN2.out HFR.out (HFQ.out HN2.out)
  clear hcx' hr1 hr2 HW HFAR HPK HQK HFR HFQ HRU
  go_upto_region 15 with first
    | (go_at_call 16; refine (Va.rcopy_any k m _ H5.out.bs.rm).mono ?_; rintro e w6 ⟨k', rfl, hR6, hB6, hF6⟩; have H6 : Hid _ := HCP.out w6 k' hR6 hB6 hF6; clear hR6 hB6 hF6)
  clear HCP H5 H4 H3
  have p0 : w6.cell? ⟨P, 0, none⟩ = some (.int .u32 pc) := row_cell (H6.out.kp.k _ (List.mem_cons_of_mem _ (List.mem_cons_self))) 0
  have p1 : w6.cell? ⟨P, 1, none⟩ = some (.int .i64 count) := row_cell (H6.out.kp.k _ (List.mem_cons_of_mem _ (List.mem_cons_self))) 1
  have p2 : w6.cell? ⟨P, 2, none⟩ = some (.int .i64 bytes) := row_cell (H6.out.kp.k _ (List.mem_cons_of_mem _ (List.mem_cons_self))) 2
  have p3 : w6.cell? ⟨P, 3, none⟩ = some (.slice bp' n cap') := row_cell (H6.out.kp.k _ (List.mem_cons_of_mem _ (List.mem_cons_self))) 3
  have pl : P < w6.heap.size := H6.out.kp.lt (List.mem_cons_of_mem _ (List.mem_cons_self))
  have c0 : w6.cell? ⟨(W.heap.size + 1), 0, none⟩ = some (.int .u32 (c 0)) := row_cell (H6.out.kp.k _ (List.mem_cons_of_mem _ (List.mem_cons_of_mem _ (List.mem_cons_self)))) 0
  have c1 : w6.cell? ⟨(W.heap.size + 1), 1, none⟩ = some (.int .u32 (c 1)) := row_cell (H6.out.kp.k _ (List.mem_cons_of_mem _ (List.mem_cons_of_mem _ (List.mem_cons_self)))) 1
  have c2 : w6.cell? ⟨(W.heap.size + 1), 2, none⟩ = some (.int .u32 (c 2)) := row_cell (H6.out.kp.k _ (List.mem_cons_of_mem _ (List.mem_cons_of_mem _ (List.mem_cons_self)))) 2
  have c3 : w6.cell? ⟨(W.heap.size + 1), 3, none⟩ = some (.int .u32 (c 3)) := row_cell (H6.out.kp.k _ (List.mem_cons_of_mem _ (List.mem_cons_of_mem _ (List.mem_cons_self)))) 3
  have c4 : w6.cell? ⟨(W.heap.size + 1), 4, none⟩ = some (.int .u32 (c 4)) := row_cell (H6.out.kp.k _ (List.mem_cons_of_mem _ (List.mem_cons_of_mem _ (List.mem_cons_self)))) 4
  have c5 : w6.cell? ⟨(W.heap.size + 1), 5, none⟩ = some (.int .u32 (c 5)) := row_cell (H6.out.kp.k _ (List.mem_cons_of_mem _ (List.mem_cons_of_mem _ (List.mem_cons_self)))) 5
  have c6 : w6.cell? ⟨(W.heap.size + 1), 6, none⟩ = some (.int .u32 (c 6)) := row_cell (H6.out.kp.k _ (List.mem_cons_of_mem _ (List.mem_cons_of_mem _ (List.mem_cons_self)))) 6
  have c7 : w6.cell? ⟨(W.heap.size + 1), 7, none⟩ = some (.int .u32 (c 7)) := row_cell (H6.out.kp.k _ (List.mem_cons_of_mem _ (List.mem_cons_of_mem _ (List.mem_cons_self)))) 7
  have c8 : w6.cell? ⟨(W.heap.size + 1), 8, none⟩ = some (.int .u32 (c 8)) := row_cell (H6.out.kp.k _ (List.mem_cons_of_mem _ (List.mem_cons_of_mem _ (List.mem_cons_self)))) 8
  have c9 : w6.cell? ⟨(W.heap.size + 1), 9, none⟩ = some (.int .u32 (c 9)) := row_cell (H6.out.kp.k _ (List.mem_cons_of_mem _ (List.mem_cons_of_mem _ (List.mem_cons_self)))) 9
  have c10 : w6.cell? ⟨(W.heap.size + 1), 10, none⟩ = some (.int .u32 (c 10)) := row_cell (H6.out.kp.k _ (List.mem_cons_of_mem _ (List.mem_cons_of_mem _ (List.mem_cons_self)))) 10
  have c11 : w6.cell? ⟨(W.heap.size + 1), 11, none⟩ = some (.int .u32 (c 11)) := row_cell (H6.out.kp.k _ (List.mem_cons_of_mem _ (List.mem_cons_of_mem _ (List.mem_cons_self)))) 11
  have cl : (W.heap.size + 1) < w6.heap.size := H6.out.kp.lt (List.mem_cons_of_mem _ (List.mem_cons_of_mem _ (List.mem_cons_self)))
  have A1 : Hid (Calls Try.prog 17 #[.agg #[.int .u32 pc, .int .i64 count, .int .i64 bytes, .slice bp' n cap'], Va.cxV c, .pointer (some ⟨k.y, 0, none⟩)] w6 fun e w' => e = .returned (.tuple #[Va.cxV c', .agg #[.int .i64 xk, .int .u32 xa, .int .u32 (p : Int), .int .i64 xn], .int .i64 0]) ∧ OMC W w' k k' m' m ((Q, .cells #[.int .u32 pc, .int .i64 count, .int .i64 bytes, .slice bq n2 cap2] 25) :: (P, .cells #[.int .u32 pc, .int .i64 count, .int .i64 bytes, .slice bp' n cap'] 25) :: [(W.heap.size + 1, .cells (Va.cxA c) 27), (W.heap.size, .cells #[.int .u32 pc, .int .i64 count, .int .i64 bytes, .slice bp n cap] 25)] : List (Nat × Obj)) bp' bq n n2 f g) := by
    show Calls _ _ _ _ _
    refine (Va.reval_ok pc count bytes bp' n cap' k f c m w6 H6.out.o' (fun b off e => (H6.out.np b off e).1) HKF.out HN.out HCX.out HMO.out H6.out.rm (by rw [HE.out])).mono ?_
    rintro e w' ⟨rfl, hR, hC⟩
    rw [HR1.out.rs] at hR
    refine ⟨?_, H6.out.ev1 hR hC⟩
    rw [HR1.out.rc, HR1.out.rx]
  go_upto_region 16 with first
    | (go_at_call 17; refine A1.out.mono ?_; rintro e w7 ⟨rfl, h7⟩; have h8 := (h7.new (.cells (Va.cxA c') 27)).new (.cells #[.int .i64 xk, .int .u32 xa, .int .u32 (p : Int), .int .i64 xn] 43); rw [show (w7.alloc (.cells (Va.cxA c') 27)).heap.size = w7.heap.size + 1 by simp] at h8; have H7 : Hid _ := h8; clear h7 h8 p0 p1 p2 p3 pl c0 c1 c2 c3 c4 c5 c6 c7 c8 c9 c10 c11 cl)
  clear H6 A1
  generalize w7.heap.size = D at *
  refine wp_gen (fun W' => OMC W W' k k' m' m ((D + 1, .cells #[.int .i64 xk, .int .u32 xa, .int .u32 (p : Int), .int .i64 xn] 43) :: (D, .cells (Va.cxA c') 27) :: ((Q, .cells #[.int .u32 pc, .int .i64 count, .int .i64 bytes, .slice bq n2 cap2] 25) :: (P, .cells #[.int .u32 pc, .int .i64 count, .int .i64 bytes, .slice bp' n cap'] 25) :: [(W.heap.size + 1, .cells (Va.cxA c) 27), (W.heap.size, .cells #[.int .u32 pc, .int .i64 count, .int .i64 bytes, .slice bp n cap] 25)] : List (Nat × Obj))) bp' bq n n2 f g) H7.out ?_
  clear H7
  intro w8 h8
  have H8 : Hid _ := h8
  have q0 : w8.cell? ⟨Q, 0, none⟩ = some (.int .u32 pc) := row_cell (h8.kp.k _ (List.mem_cons_of_mem _ (List.mem_cons_of_mem _ (List.mem_cons_self)))) 0
  have q1 : w8.cell? ⟨Q, 1, none⟩ = some (.int .i64 count) := row_cell (h8.kp.k _ (List.mem_cons_of_mem _ (List.mem_cons_of_mem _ (List.mem_cons_self)))) 1
  have q2 : w8.cell? ⟨Q, 2, none⟩ = some (.int .i64 bytes) := row_cell (h8.kp.k _ (List.mem_cons_of_mem _ (List.mem_cons_of_mem _ (List.mem_cons_self)))) 2
  have q3 : w8.cell? ⟨Q, 3, none⟩ = some (.slice bq n2 cap2) := row_cell (h8.kp.k _ (List.mem_cons_of_mem _ (List.mem_cons_of_mem _ (List.mem_cons_self)))) 3
  have ql : Q < w8.heap.size := h8.kp.lt (List.mem_cons_of_mem _ (List.mem_cons_of_mem _ (List.mem_cons_self)))
  have c0 : w8.cell? ⟨(W.heap.size + 1), 0, none⟩ = some (.int .u32 (c 0)) := row_cell (h8.kp.k _ (List.mem_cons_of_mem _ (List.mem_cons_of_mem _ (List.mem_cons_of_mem _ (List.mem_cons_of_mem _ (List.mem_cons_self)))))) 0
  have c1 : w8.cell? ⟨(W.heap.size + 1), 1, none⟩ = some (.int .u32 (c 1)) := row_cell (h8.kp.k _ (List.mem_cons_of_mem _ (List.mem_cons_of_mem _ (List.mem_cons_of_mem _ (List.mem_cons_of_mem _ (List.mem_cons_self)))))) 1
  have c2 : w8.cell? ⟨(W.heap.size + 1), 2, none⟩ = some (.int .u32 (c 2)) := row_cell (h8.kp.k _ (List.mem_cons_of_mem _ (List.mem_cons_of_mem _ (List.mem_cons_of_mem _ (List.mem_cons_of_mem _ (List.mem_cons_self)))))) 2
  have c3 : w8.cell? ⟨(W.heap.size + 1), 3, none⟩ = some (.int .u32 (c 3)) := row_cell (h8.kp.k _ (List.mem_cons_of_mem _ (List.mem_cons_of_mem _ (List.mem_cons_of_mem _ (List.mem_cons_of_mem _ (List.mem_cons_self)))))) 3
  have c4 : w8.cell? ⟨(W.heap.size + 1), 4, none⟩ = some (.int .u32 (c 4)) := row_cell (h8.kp.k _ (List.mem_cons_of_mem _ (List.mem_cons_of_mem _ (List.mem_cons_of_mem _ (List.mem_cons_of_mem _ (List.mem_cons_self)))))) 4
  have c5 : w8.cell? ⟨(W.heap.size + 1), 5, none⟩ = some (.int .u32 (c 5)) := row_cell (h8.kp.k _ (List.mem_cons_of_mem _ (List.mem_cons_of_mem _ (List.mem_cons_of_mem _ (List.mem_cons_of_mem _ (List.mem_cons_self)))))) 5
  have c6 : w8.cell? ⟨(W.heap.size + 1), 6, none⟩ = some (.int .u32 (c 6)) := row_cell (h8.kp.k _ (List.mem_cons_of_mem _ (List.mem_cons_of_mem _ (List.mem_cons_of_mem _ (List.mem_cons_of_mem _ (List.mem_cons_self)))))) 6
  have c7 : w8.cell? ⟨(W.heap.size + 1), 7, none⟩ = some (.int .u32 (c 7)) := row_cell (h8.kp.k _ (List.mem_cons_of_mem _ (List.mem_cons_of_mem _ (List.mem_cons_of_mem _ (List.mem_cons_of_mem _ (List.mem_cons_self)))))) 7
  have c8 : w8.cell? ⟨(W.heap.size + 1), 8, none⟩ = some (.int .u32 (c 8)) := row_cell (h8.kp.k _ (List.mem_cons_of_mem _ (List.mem_cons_of_mem _ (List.mem_cons_of_mem _ (List.mem_cons_of_mem _ (List.mem_cons_self)))))) 8
  have c9 : w8.cell? ⟨(W.heap.size + 1), 9, none⟩ = some (.int .u32 (c 9)) := row_cell (h8.kp.k _ (List.mem_cons_of_mem _ (List.mem_cons_of_mem _ (List.mem_cons_of_mem _ (List.mem_cons_of_mem _ (List.mem_cons_self)))))) 9
  have c10 : w8.cell? ⟨(W.heap.size + 1), 10, none⟩ = some (.int .u32 (c 10)) := row_cell (h8.kp.k _ (List.mem_cons_of_mem _ (List.mem_cons_of_mem _ (List.mem_cons_of_mem _ (List.mem_cons_of_mem _ (List.mem_cons_self)))))) 10
  have c11 : w8.cell? ⟨(W.heap.size + 1), 11, none⟩ = some (.int .u32 (c 11)) := row_cell (h8.kp.k _ (List.mem_cons_of_mem _ (List.mem_cons_of_mem _ (List.mem_cons_of_mem _ (List.mem_cons_of_mem _ (List.mem_cons_self)))))) 11
  have cl : (W.heap.size + 1) < w8.heap.size := h8.kp.lt (List.mem_cons_of_mem _ (List.mem_cons_of_mem _ (List.mem_cons_of_mem _ (List.mem_cons_of_mem _ (List.mem_cons_self)))))
  clear h8
  have A2 : Hid (Calls Try.prog 17 #[.agg #[.int .u32 pc, .int .i64 count, .int .i64 bytes, .slice bq n2 cap2], Va.cxV c, .pointer (some ⟨k'.y, 0, none⟩)] w8 fun e w' => e = .returned (.tuple #[Va.cxV c', .agg #[.int .i64 xk, .int .u32 xa, .int .u32 (p : Int), .int .i64 xn], .int .i64 0]) ∧ OMC W w' k k' m' m' ((D + 1, .cells #[.int .i64 xk, .int .u32 xa, .int .u32 (p : Int), .int .i64 xn] 43) :: (D, .cells (Va.cxA c') 27) :: ((Q, .cells #[.int .u32 pc, .int .i64 count, .int .i64 bytes, .slice bq n2 cap2] 25) :: (P, .cells #[.int .u32 pc, .int .i64 count, .int .i64 bytes, .slice bp' n cap'] 25) :: [(W.heap.size + 1, .cells (Va.cxA c) 27), (W.heap.size, .cells #[.int .u32 pc, .int .i64 count, .int .i64 bytes, .slice bp n cap] 25)] : List (Nat × Obj))) bp' bq n n2 f g) := by
    show Calls _ _ _ _ _
    refine (Va.reval_ok pc count bytes bq n2 cap2 k' g c m w8 H8.out.q (fun b off e => (H8.out.nq b off e).2) HKG.out HNN2.out HCX.out HMO.out H8.out.rm' (by rw [HE2.out])).mono ?_
    rintro e w' ⟨rfl, hR, hC⟩
    rw [HR2.out.rs] at hR
    refine ⟨?_, H8.out.ev2 hR hC⟩
    rw [HR2.out.rc, HR2.out.rx]
  go_upto_region 17 with first
    | (go_at_call 17; refine A2.out.mono ?_; rintro e w9 ⟨rfl, h9⟩; have hx := (h9.new (.cells (Va.cxA c') 27)).new (.cells #[.int .i64 xk, .int .u32 xa, .int .u32 (p : Int), .int .i64 xn] 43); rw [show (w9.alloc (.cells (Va.cxA c') 27)).heap.size = w9.heap.size + 1 by simp] at hx; have H9 : Hid _ := hx; clear h9 hx q0 q1 q2 q3 ql c0 c1 c2 c3 c4 c5 c6 c7 c8 c9 c10 c11 cl)
  clear H8 A2 HE HE2 HR1 HR2 HKF HKG HCX HMO
  generalize w9.heap.size = F at *
  refine wp_gen (fun W' => OMC W W' k k' m' m' ((F + 1, .cells #[.int .i64 xk, .int .u32 xa, .int .u32 (p : Int), .int .i64 xn] 43) :: (F, .cells (Va.cxA c') 27) :: ((D + 1, .cells #[.int .i64 xk, .int .u32 xa, .int .u32 (p : Int), .int .i64 xn] 43) :: (D, .cells (Va.cxA c') 27) :: ((Q, .cells #[.int .u32 pc, .int .i64 count, .int .i64 bytes, .slice bq n2 cap2] 25) :: (P, .cells #[.int .u32 pc, .int .i64 count, .int .i64 bytes, .slice bp' n cap'] 25) :: [(W.heap.size + 1, .cells (Va.cxA c) 27), (W.heap.size, .cells #[.int .u32 pc, .int .i64 count, .int .i64 bytes, .slice bp n cap] 25)] : List (Nat × Obj)))) bp' bq n n2 f g) H9.out ?_
  clear H9
  intro wz hz
  have HZ : Hid (OMC W wz.drew k k' m' m' ((F + 1, .cells #[.int .i64 xk, .int .u32 xa, .int .u32 (p : Int), .int .i64 xn] 43) :: (F, .cells (Va.cxA c') 27) :: ((D + 1, .cells #[.int .i64 xk, .int .u32 xa, .int .u32 (p : Int), .int .i64 xn] 43) :: (D, .cells (Va.cxA c') 27) :: ((Q, .cells #[.int .u32 pc, .int .i64 count, .int .i64 bytes, .slice bq n2 cap2] 25) :: (P, .cells #[.int .u32 pc, .int .i64 count, .int .i64 bytes, .slice bp' n cap'] 25) :: [(W.heap.size + 1, .cells (Va.cxA c) 27), (W.heap.size, .cells #[.int .u32 pc, .int .i64 count, .int .i64 bytes, .slice bp n cap] 25)] : List (Nat × Obj)))) bp' bq n n2 f g) := hz.below ((Below.refl _ _).drew)
  have rD : wz.rangeAt D 0 [.int .u32 (c' 0), .int .u32 (c' 1), .int .u32 (c' 2), .int .u32 (c' 3), .int .u32 (c' 4), .int .u32 (c' 5), .int .u32 (c' 6), .int .u32 (c' 7), .int .u32 (c' 8), .int .u32 (c' 9), .int .u32 (c' 10), .int .u32 (c' 11)] := rng (hz.kp.k _ (List.mem_cons_of_mem _ (List.mem_cons_of_mem _ (List.mem_cons_of_mem _ (List.mem_cons_self))))); have dl : D < wz.heap.size := hz.kp.lt (List.mem_cons_of_mem _ (List.mem_cons_of_mem _ (List.mem_cons_of_mem _ (List.mem_cons_self))))
  have x0 : wz.cell? ⟨(D + 1), 0, none⟩ = some (.int .i64 xk) := row_cell (hz.kp.k _ (List.mem_cons_of_mem _ (List.mem_cons_of_mem _ (List.mem_cons_self)))) 0
  have x1 : wz.cell? ⟨(D + 1), 1, none⟩ = some (.int .u32 xa) := row_cell (hz.kp.k _ (List.mem_cons_of_mem _ (List.mem_cons_of_mem _ (List.mem_cons_self)))) 1
  have x2 : wz.cell? ⟨(D + 1), 2, none⟩ = some (.int .u32 (p : Int)) := row_cell (hz.kp.k _ (List.mem_cons_of_mem _ (List.mem_cons_of_mem _ (List.mem_cons_self)))) 2
  have x3 : wz.cell? ⟨(D + 1), 3, none⟩ = some (.int .i64 xn) := row_cell (hz.kp.k _ (List.mem_cons_of_mem _ (List.mem_cons_of_mem _ (List.mem_cons_self)))) 3
  have xl : (D + 1) < wz.heap.size := hz.kp.lt (List.mem_cons_of_mem _ (List.mem_cons_of_mem _ (List.mem_cons_self)))
  have rF : wz.rangeAt F 0 [.int .u32 (c' 0), .int .u32 (c' 1), .int .u32 (c' 2), .int .u32 (c' 3), .int .u32 (c' 4), .int .u32 (c' 5), .int .u32 (c' 6), .int .u32 (c' 7), .int .u32 (c' 8), .int .u32 (c' 9), .int .u32 (c' 10), .int .u32 (c' 11)] := rng (hz.kp.k _ (List.mem_cons_of_mem _ (List.mem_cons_self))); have gl : F < wz.heap.size := hz.kp.lt (List.mem_cons_of_mem _ (List.mem_cons_self))
  have y0 : wz.cell? ⟨(F + 1), 0, none⟩ = some (.int .i64 xk) := row_cell (hz.kp.k _ (List.mem_cons_self)) 0
  have y1 : wz.cell? ⟨(F + 1), 1, none⟩ = some (.int .u32 xa) := row_cell (hz.kp.k _ (List.mem_cons_self)) 1
  have y2 : wz.cell? ⟨(F + 1), 2, none⟩ = some (.int .u32 (p : Int)) := row_cell (hz.kp.k _ (List.mem_cons_self)) 2
  have y3 : wz.cell? ⟨(F + 1), 3, none⟩ = some (.int .i64 xn) := row_cell (hz.kp.k _ (List.mem_cons_self)) 3
  have yl : (F + 1) < wz.heap.size := hz.kp.lt (List.mem_cons_self)
  clear hz
  have U27 := Try.underlying27
  have I27 : (Try.prog.info? 27).map (·.size) = some ([.int .u32 (c' 0), .int .u32 (c' 1), .int .u32 (c' 2), .int .u32 (c' 3), .int .u32 (c' 4), .int .u32 (c' 5), .int .u32 (c' 6), .int .u32 (c' 7), .int .u32 (c' 8), .int .u32 (c' 9), .int .u32 (c' 10), .int .u32 (c' 11)] : List Value).length := by kernel_rfl
  have E8 := fun w => eqa8 (c' 0) (c' 1) (c' 2) (c' 3) (c' 4) (c' 5) (c' 6) (c' 7) w
  obtain ⟨FL, HFL⟩ : ∃ FL, Hid (Va.cxF c' = FL) := ⟨_, rfl⟩
  refine wp_region_held_drew (S := fun W' => W'.rangeAt D 0 [.int .u32 (c' 0), .int .u32 (c' 1), .int .u32 (c' 2), .int .u32 (c' 3), .int .u32 (c' 4), .int .u32 (c' 5), .int .u32 (c' 6), .int .u32 (c' 7), .int .u32 (c' 8), .int .u32 (c' 9), .int .u32 (c' 10), .int .u32 (c' 11)] ∧ W'.rangeAt F 0 [.int .u32 (c' 0), .int .u32 (c' 1), .int .u32 (c' 2), .int .u32 (c' 3), .int .u32 (c' 4), .int .u32 (c' 5), .int .u32 (c' 6), .int .u32 (c' 7), .int .u32 (c' 8), .int .u32 (c' 9), .int .u32 (c' 10), .int .u32 (c' 11)] ∧ W'.cell? ⟨D + 1, 0, none⟩ = some (.int .i64 xk) ∧ W'.cell? ⟨D + 1, 1, none⟩ = some (.int .u32 xa) ∧ W'.cell? ⟨D + 1, 2, none⟩ = some (.int .u32 (p : Int)) ∧ W'.cell? ⟨D + 1, 3, none⟩ = some (.int .i64 xn) ∧ W'.cell? ⟨F + 1, 0, none⟩ = some (.int .i64 xk) ∧ W'.cell? ⟨F + 1, 1, none⟩ = some (.int .u32 xa) ∧ W'.cell? ⟨F + 1, 2, none⟩ = some (.int .u32 (p : Int)) ∧ W'.cell? ⟨F + 1, 3, none⟩ = some (.int .i64 xn)) (by kernel_rfl) (by simp [go_sem, rD, rF, x0, x1, x2, x3, y0, y1, y2, y3, dl, xl, gl, yl]) (fun hHeld => ?_)
  refine wpAnyH_take (i := 0) (oi := _) (v := ?v0) rfl (by kernel_rfl) (by kernel_rfl) (by kernel_rfl) (fun _ _ _ h => h) (Or.inl ⟨by rfl, ?hy0⟩) (by assumption) ?rest0
  case hy0 => (intro w hSw; (try dsimp only at hSw); go_simp; (try with_reducible rfl))
  simp only [Act.put, List.getElem_toArray, List.getElem_cons_zero, List.getElem_cons_succ, List.setIfInBounds_toArray, List.set_cons_zero, List.set_cons_succ]
  refine wpAnyH_take (i := 1) (oi := _) (v := ?v1) rfl (by kernel_rfl) (by kernel_rfl) (by kernel_rfl) (fun _ _ _ h => h) (Or.inl ⟨by rfl, ?hy1⟩) (by assumption) ?rest1
  case hy1 => (intro w hSw; (try dsimp only at hSw); go_simp; (try with_reducible rfl))
  simp only [Act.put, List.getElem_toArray, List.getElem_cons_zero, List.getElem_cons_succ, List.setIfInBounds_toArray, List.set_cons_zero, List.set_cons_succ]
  refine wpAnyH_take (i := 2) (oi := _) (v := ?v2) rfl (by kernel_rfl) (by kernel_rfl) (by kernel_rfl) (fun _ _ _ h => h) (Or.inl ⟨by rfl, ?hy2⟩) (by assumption) ?rest2
  case hy2 => (intro w hSw; (try dsimp only at hSw); go_simp; (try with_reducible rfl))
  simp only [Act.put, List.getElem_toArray, List.getElem_cons_zero, List.getElem_cons_succ, List.setIfInBounds_toArray, List.set_cons_zero, List.set_cons_succ]
  refine wpAnyH_take (i := 3) (oi := _) (v := ?v3) rfl (by kernel_rfl) (by kernel_rfl) (by kernel_rfl) (fun _ _ _ h => h) (Or.inl ⟨by rfl, ?hy3⟩) (by assumption) ?rest3
  case hy3 => (intro w hSw; (try dsimp only at hSw); go_simp; (try with_reducible rfl))
  simp only [Act.put, List.getElem_toArray, List.getElem_cons_zero, List.getElem_cons_succ, List.setIfInBounds_toArray, List.set_cons_zero, List.set_cons_succ]
  refine wpAnyH_take (i := 4) (oi := _) (v := _) rfl (by kernel_rfl) (by kernel_rfl) (by kernel_rfl) (fun _ _ _ h => h) (yieldsIf_load_mid (by rfl) _ _ rfl _ _ rfl _ _ (fun w hSw => hSw.1) U27 rfl I27) (by assumption) ?rest4
  simp only [Act.put, List.getElem_toArray, List.getElem_cons_zero, List.getElem_cons_succ, List.setIfInBounds_toArray, List.set_cons_zero, List.set_cons_succ]
  refine wpAnyH_take (i := 5) (oi := _) (v := ?v5) rfl (by kernel_rfl) (by kernel_rfl) (by kernel_rfl) (fun _ _ _ h => h) (Or.inl ⟨by rfl, ?hy5⟩) (by assumption) ?rest5
  case hy5 => (intro w hSw; (try dsimp only at hSw); go_simp; (try with_reducible rfl))
  simp only [Act.put, List.getElem_toArray, List.getElem_cons_zero, List.getElem_cons_succ, List.setIfInBounds_toArray, List.set_cons_zero, List.set_cons_succ]
  refine wpAnyH_take (i := 6) (oi := _) (v := ?v6) rfl (by kernel_rfl) (by kernel_rfl) (by kernel_rfl) (fun _ _ _ h => h) (Or.inl ⟨by rfl, ?hy6⟩) (by assumption) ?rest6
  case hy6 => (intro w hSw; (try dsimp only at hSw); go_simp; (try with_reducible rfl))
  simp only [Act.put, List.getElem_toArray, List.getElem_cons_zero, List.getElem_cons_succ, List.setIfInBounds_toArray, List.set_cons_zero, List.set_cons_succ]
  refine wpAnyH_take (i := 8) (oi := _) (v := _) rfl (by kernel_rfl) (by kernel_rfl) (by kernel_rfl) (fun _ _ _ h => h) (yieldsIf_load_mid (by rfl) _ _ rfl _ _ rfl _ _ (fun w hSw => hSw.2.1) U27 rfl I27) (by assumption) ?rest8
  simp only [Act.put, List.getElem_toArray, List.getElem_cons_zero, List.getElem_cons_succ, List.setIfInBounds_toArray, List.set_cons_zero, List.set_cons_succ]
  refine wpAnyH_take (i := 9) (oi := _) (v := ?v9) rfl (by kernel_rfl) (by kernel_rfl) (by kernel_rfl) (fun _ _ _ h => h) (Or.inl ⟨by rfl, ?hy9⟩) (by assumption) ?rest9
  case hy9 => (intro w hSw; (try dsimp only at hSw); go_simp; (try with_reducible rfl))
  simp only [Act.put, List.getElem_toArray, List.getElem_cons_zero, List.getElem_cons_succ, List.setIfInBounds_toArray, List.set_cons_zero, List.set_cons_succ]
  refine wpAnyH_take (i := 10) (oi := _) (v := ?v10) rfl (by kernel_rfl) (by kernel_rfl) (by kernel_rfl) (fun _ _ _ h => h) (Or.inl ⟨by rfl, ?hy10⟩) (by assumption) ?rest10
  case hy10 => (intro w hSw; (try dsimp only at hSw); go_simp; (try with_reducible rfl))
  simp only [Act.put, List.getElem_toArray, List.getElem_cons_zero, List.getElem_cons_succ, List.setIfInBounds_toArray, List.set_cons_zero, List.set_cons_succ]
  refine wpAnyH_ready (rs := [7]) (by kernel_rfl) (by simp) ?_
  refine AllReadyH.cons (o := _) rfl (fun K hK => ?_) AllReadyH.nil
  go_simp
  go_at_call 18
  refine (Va.rstate_any c' p _ HCX'.out).mono ?_
  rintro e wa ⟨rfl, hn⟩
  rw [HFL.out]; have HA : Hid _ := HZ.out.below hn
  clear hn hHeld rD dl x0 x1 x2 x3 xl rF gl y0 y1 y2 y3 yl
  have rD : wa.rangeAt D 0 [.int .u32 (c' 0), .int .u32 (c' 1), .int .u32 (c' 2), .int .u32 (c' 3), .int .u32 (c' 4), .int .u32 (c' 5), .int .u32 (c' 6), .int .u32 (c' 7), .int .u32 (c' 8), .int .u32 (c' 9), .int .u32 (c' 10), .int .u32 (c' 11)] := rng (HA.out.kp.k _ (List.mem_cons_of_mem _ (List.mem_cons_of_mem _ (List.mem_cons_of_mem _ (List.mem_cons_self))))); have dl : D < wa.heap.size := HA.out.kp.lt (List.mem_cons_of_mem _ (List.mem_cons_of_mem _ (List.mem_cons_of_mem _ (List.mem_cons_self))))
  have x0 : wa.cell? ⟨(D + 1), 0, none⟩ = some (.int .i64 xk) := row_cell (HA.out.kp.k _ (List.mem_cons_of_mem _ (List.mem_cons_of_mem _ (List.mem_cons_self)))) 0
  have x1 : wa.cell? ⟨(D + 1), 1, none⟩ = some (.int .u32 xa) := row_cell (HA.out.kp.k _ (List.mem_cons_of_mem _ (List.mem_cons_of_mem _ (List.mem_cons_self)))) 1
  have x2 : wa.cell? ⟨(D + 1), 2, none⟩ = some (.int .u32 (p : Int)) := row_cell (HA.out.kp.k _ (List.mem_cons_of_mem _ (List.mem_cons_of_mem _ (List.mem_cons_self)))) 2
  have x3 : wa.cell? ⟨(D + 1), 3, none⟩ = some (.int .i64 xn) := row_cell (HA.out.kp.k _ (List.mem_cons_of_mem _ (List.mem_cons_of_mem _ (List.mem_cons_self)))) 3
  have xl : (D + 1) < wa.heap.size := HA.out.kp.lt (List.mem_cons_of_mem _ (List.mem_cons_of_mem _ (List.mem_cons_self)))
  have rF : wa.rangeAt F 0 [.int .u32 (c' 0), .int .u32 (c' 1), .int .u32 (c' 2), .int .u32 (c' 3), .int .u32 (c' 4), .int .u32 (c' 5), .int .u32 (c' 6), .int .u32 (c' 7), .int .u32 (c' 8), .int .u32 (c' 9), .int .u32 (c' 10), .int .u32 (c' 11)] := rng (HA.out.kp.k _ (List.mem_cons_of_mem _ (List.mem_cons_self))); have gl : F < wa.heap.size := HA.out.kp.lt (List.mem_cons_of_mem _ (List.mem_cons_self))
  have y0 : wa.cell? ⟨(F + 1), 0, none⟩ = some (.int .i64 xk) := row_cell (HA.out.kp.k _ (List.mem_cons_self)) 0
  have y1 : wa.cell? ⟨(F + 1), 1, none⟩ = some (.int .u32 xa) := row_cell (HA.out.kp.k _ (List.mem_cons_self)) 1
  have y2 : wa.cell? ⟨(F + 1), 2, none⟩ = some (.int .u32 (p : Int)) := row_cell (HA.out.kp.k _ (List.mem_cons_self)) 2
  have y3 : wa.cell? ⟨(F + 1), 3, none⟩ = some (.int .i64 xn) := row_cell (HA.out.kp.k _ (List.mem_cons_self)) 3
  have yl : (F + 1) < wa.heap.size := HA.out.kp.lt (List.mem_cons_self)
  (try dsimp only)
  refine hK.out _ _ (by (try dsimp only); simp [go_sem, rD, rF, x0, x1, x2, x3, y0, y1, y2, y3, dl, xl, gl, yl]) (fun hHeld => ?_)
  clear hK K
  (try simp only [Act.put, List.getElem_toArray, List.getElem_cons_zero, List.getElem_cons_succ, List.setIfInBounds_toArray, List.set_cons_zero, List.set_cons_succ])
  refine wpAnyH_ready (rs := [11]) (by kernel_rfl) (by simp) ?_
  refine AllReadyH.cons (o := _) rfl (fun K hK => ?_) AllReadyH.nil
  go_simp
  go_at_call 18
  refine (Va.rstate_any c' p _ HCX'.out).mono ?_
  rintro e wb ⟨rfl, hn⟩
  rw [HFL.out]; have HB : Hid _ := HA.out.below hn
  clear hn hHeld rD dl x0 x1 x2 x3 xl rF gl y0 y1 y2 y3 yl
  have rD : wb.rangeAt D 0 [.int .u32 (c' 0), .int .u32 (c' 1), .int .u32 (c' 2), .int .u32 (c' 3), .int .u32 (c' 4), .int .u32 (c' 5), .int .u32 (c' 6), .int .u32 (c' 7), .int .u32 (c' 8), .int .u32 (c' 9), .int .u32 (c' 10), .int .u32 (c' 11)] := rng (HB.out.kp.k _ (List.mem_cons_of_mem _ (List.mem_cons_of_mem _ (List.mem_cons_of_mem _ (List.mem_cons_self))))); have dl : D < wb.heap.size := HB.out.kp.lt (List.mem_cons_of_mem _ (List.mem_cons_of_mem _ (List.mem_cons_of_mem _ (List.mem_cons_self))))
  have x0 : wb.cell? ⟨(D + 1), 0, none⟩ = some (.int .i64 xk) := row_cell (HB.out.kp.k _ (List.mem_cons_of_mem _ (List.mem_cons_of_mem _ (List.mem_cons_self)))) 0
  have x1 : wb.cell? ⟨(D + 1), 1, none⟩ = some (.int .u32 xa) := row_cell (HB.out.kp.k _ (List.mem_cons_of_mem _ (List.mem_cons_of_mem _ (List.mem_cons_self)))) 1
  have x2 : wb.cell? ⟨(D + 1), 2, none⟩ = some (.int .u32 (p : Int)) := row_cell (HB.out.kp.k _ (List.mem_cons_of_mem _ (List.mem_cons_of_mem _ (List.mem_cons_self)))) 2
  have x3 : wb.cell? ⟨(D + 1), 3, none⟩ = some (.int .i64 xn) := row_cell (HB.out.kp.k _ (List.mem_cons_of_mem _ (List.mem_cons_of_mem _ (List.mem_cons_self)))) 3
  have xl : (D + 1) < wb.heap.size := HB.out.kp.lt (List.mem_cons_of_mem _ (List.mem_cons_of_mem _ (List.mem_cons_self)))
  have rF : wb.rangeAt F 0 [.int .u32 (c' 0), .int .u32 (c' 1), .int .u32 (c' 2), .int .u32 (c' 3), .int .u32 (c' 4), .int .u32 (c' 5), .int .u32 (c' 6), .int .u32 (c' 7), .int .u32 (c' 8), .int .u32 (c' 9), .int .u32 (c' 10), .int .u32 (c' 11)] := rng (HB.out.kp.k _ (List.mem_cons_of_mem _ (List.mem_cons_self))); have gl : F < wb.heap.size := HB.out.kp.lt (List.mem_cons_of_mem _ (List.mem_cons_self))
  have y0 : wb.cell? ⟨(F + 1), 0, none⟩ = some (.int .i64 xk) := row_cell (HB.out.kp.k _ (List.mem_cons_self)) 0
  have y1 : wb.cell? ⟨(F + 1), 1, none⟩ = some (.int .u32 xa) := row_cell (HB.out.kp.k _ (List.mem_cons_self)) 1
  have y2 : wb.cell? ⟨(F + 1), 2, none⟩ = some (.int .u32 (p : Int)) := row_cell (HB.out.kp.k _ (List.mem_cons_self)) 2
  have y3 : wb.cell? ⟨(F + 1), 3, none⟩ = some (.int .i64 xn) := row_cell (HB.out.kp.k _ (List.mem_cons_self)) 3
  have yl : (F + 1) < wb.heap.size := HB.out.kp.lt (List.mem_cons_self)
  (try dsimp only)
  refine hK.out _ _ (by (try dsimp only); simp [go_sem, rD, rF, x0, x1, x2, x3, y0, y1, y2, y3, dl, xl, gl, yl]) (fun hHeld => ?_)
  clear hK K
  (try simp only [Act.put, List.getElem_toArray, List.getElem_cons_zero, List.getElem_cons_succ, List.setIfInBounds_toArray, List.set_cons_zero, List.set_cons_succ])
  refine wpAnyH_take (i := 12) (oi := _) (v := ?v12) rfl (by kernel_rfl) (by kernel_rfl) (by kernel_rfl) (fun _ _ _ h => h) (Or.inl ⟨by rfl, ?hy12⟩) (by assumption) ?rest12
  case hy12 => (intro w hSw; (try dsimp only at hSw); go_simp; (try with_reducible rfl))
  simp only [Act.put, List.getElem_toArray, List.getElem_cons_zero, List.getElem_cons_succ, List.setIfInBounds_toArray, List.set_cons_zero, List.set_cons_succ]
  refine wpAnyH_take (i := 13) (oi := _) (v := ?v13) rfl (by kernel_rfl) (by kernel_rfl) (by kernel_rfl) (fun _ _ _ h => h) (Or.inl ⟨by rfl, ?hy13⟩) (by assumption) ?rest13
  case hy13 => (intro w hSw; (try dsimp only at hSw); go_simp; (try with_reducible rfl))
  simp only [Act.put, List.getElem_toArray, List.getElem_cons_zero, List.getElem_cons_succ, List.setIfInBounds_toArray, List.set_cons_zero, List.set_cons_succ]
  refine wpAnyH_take (i := 14) (oi := _) (v := ?v14) rfl (by kernel_rfl) (by kernel_rfl) (by kernel_rfl) (fun _ _ _ h => h) (Or.inl ⟨by rfl, ?hy14⟩) (by assumption) ?rest14
  case hy14 => (intro w hSw; (try dsimp only at hSw); go_simp; (try with_reducible rfl))
  simp only [Act.put, List.getElem_toArray, List.getElem_cons_zero, List.getElem_cons_succ, List.setIfInBounds_toArray, List.set_cons_zero, List.set_cons_succ]
  refine wpAnyH_take (i := 15) (oi := _) (v := ?v15) rfl (by kernel_rfl) (by kernel_rfl) (by kernel_rfl) (fun _ _ _ h => h) (Or.inl ⟨by rfl, ?hy15⟩) (by assumption) ?rest15
  case hy15 => (intro w hSw; (try dsimp only at hSw); go_simp; (try with_reducible rfl))
  simp only [Act.put, List.getElem_toArray, List.getElem_cons_zero, List.getElem_cons_succ, List.setIfInBounds_toArray, List.set_cons_zero, List.set_cons_succ]
  refine wpAnyH_take (i := 16) (oi := _) (v := ?v16) rfl (by kernel_rfl) (by kernel_rfl) (by kernel_rfl) (fun _ _ _ h => h) (Or.inl ⟨by rfl, ?hy16⟩) (by assumption) ?rest16
  case hy16 => (intro w hSw; (try dsimp only at hSw); go_simp; (try with_reducible rfl))
  simp only [Act.put, List.getElem_toArray, List.getElem_cons_zero, List.getElem_cons_succ, List.setIfInBounds_toArray, List.set_cons_zero, List.set_cons_succ]
  refine wpAnyH_ready (rs := [17]) (by kernel_rfl) (by simp) ?_
  refine AllReadyH.cons (o := _) rfl (fun K hK => ?_) AllReadyH.nil
  go_simp
  go_at_call 19
  refine (rsame_any k' k m' m' _ HB.out.rm' HB.out.rm rfl).mono ?_
  rintro e wc ⟨rfl, hn⟩
  have HC : Hid _ := HB.out.below hn
  clear hn hHeld rD dl x0 x1 x2 x3 xl rF gl y0 y1 y2 y3 yl
  have rD : wc.rangeAt D 0 [.int .u32 (c' 0), .int .u32 (c' 1), .int .u32 (c' 2), .int .u32 (c' 3), .int .u32 (c' 4), .int .u32 (c' 5), .int .u32 (c' 6), .int .u32 (c' 7), .int .u32 (c' 8), .int .u32 (c' 9), .int .u32 (c' 10), .int .u32 (c' 11)] := rng (HC.out.kp.k _ (List.mem_cons_of_mem _ (List.mem_cons_of_mem _ (List.mem_cons_of_mem _ (List.mem_cons_self))))); have dl : D < wc.heap.size := HC.out.kp.lt (List.mem_cons_of_mem _ (List.mem_cons_of_mem _ (List.mem_cons_of_mem _ (List.mem_cons_self))))
  have x0 : wc.cell? ⟨(D + 1), 0, none⟩ = some (.int .i64 xk) := row_cell (HC.out.kp.k _ (List.mem_cons_of_mem _ (List.mem_cons_of_mem _ (List.mem_cons_self)))) 0
  have x1 : wc.cell? ⟨(D + 1), 1, none⟩ = some (.int .u32 xa) := row_cell (HC.out.kp.k _ (List.mem_cons_of_mem _ (List.mem_cons_of_mem _ (List.mem_cons_self)))) 1
  have x2 : wc.cell? ⟨(D + 1), 2, none⟩ = some (.int .u32 (p : Int)) := row_cell (HC.out.kp.k _ (List.mem_cons_of_mem _ (List.mem_cons_of_mem _ (List.mem_cons_self)))) 2
  have x3 : wc.cell? ⟨(D + 1), 3, none⟩ = some (.int .i64 xn) := row_cell (HC.out.kp.k _ (List.mem_cons_of_mem _ (List.mem_cons_of_mem _ (List.mem_cons_self)))) 3
  have xl : (D + 1) < wc.heap.size := HC.out.kp.lt (List.mem_cons_of_mem _ (List.mem_cons_of_mem _ (List.mem_cons_self)))
  have rF : wc.rangeAt F 0 [.int .u32 (c' 0), .int .u32 (c' 1), .int .u32 (c' 2), .int .u32 (c' 3), .int .u32 (c' 4), .int .u32 (c' 5), .int .u32 (c' 6), .int .u32 (c' 7), .int .u32 (c' 8), .int .u32 (c' 9), .int .u32 (c' 10), .int .u32 (c' 11)] := rng (HC.out.kp.k _ (List.mem_cons_of_mem _ (List.mem_cons_self))); have gl : F < wc.heap.size := HC.out.kp.lt (List.mem_cons_of_mem _ (List.mem_cons_self))
  have y0 : wc.cell? ⟨(F + 1), 0, none⟩ = some (.int .i64 xk) := row_cell (HC.out.kp.k _ (List.mem_cons_self)) 0
  have y1 : wc.cell? ⟨(F + 1), 1, none⟩ = some (.int .u32 xa) := row_cell (HC.out.kp.k _ (List.mem_cons_self)) 1
  have y2 : wc.cell? ⟨(F + 1), 2, none⟩ = some (.int .u32 (p : Int)) := row_cell (HC.out.kp.k _ (List.mem_cons_self)) 2
  have y3 : wc.cell? ⟨(F + 1), 3, none⟩ = some (.int .i64 xn) := row_cell (HC.out.kp.k _ (List.mem_cons_self)) 3
  have yl : (F + 1) < wc.heap.size := HC.out.kp.lt (List.mem_cons_self)
  (try dsimp only)
  refine hK.out _ _ (by (try dsimp only); simp [go_sem, rD, rF, x0, x1, x2, x3, y0, y1, y2, y3, dl, xl, gl, yl]) (fun hHeld => ?_)
  clear hK K
  (try simp only [Act.put, List.getElem_toArray, List.getElem_cons_zero, List.getElem_cons_succ, List.setIfInBounds_toArray, List.set_cons_zero, List.set_cons_succ])
  refine wpAnyH_take (i := 18) (oi := _) (v := ?v18) rfl (by kernel_rfl) (by kernel_rfl) (by kernel_rfl) (fun _ _ _ h => h) (Or.inl ⟨by rfl, ?hy18⟩) (by assumption) ?rest18
  case hy18 => (intro w hSw; (try dsimp only at hSw); go_simp; (try with_reducible rfl))
  simp only [Act.put, List.getElem_toArray, List.getElem_cons_zero, List.getElem_cons_succ, List.setIfInBounds_toArray, List.set_cons_zero, List.set_cons_succ]
  refine wpAnyH_take (i := 19) (oi := _) (v := ?v19) rfl (by kernel_rfl) (by kernel_rfl) (by kernel_rfl) (fun _ _ _ h => h) (Or.inl ⟨by rfl, ?hy19⟩) (by assumption) ?rest19
  case hy19 => (intro w hSw; (try dsimp only at hSw); go_simp; (try with_reducible rfl))
  simp only [Act.put, List.getElem_toArray, List.getElem_cons_zero, List.getElem_cons_succ, List.setIfInBounds_toArray, List.set_cons_zero, List.set_cons_succ]
  refine wpAnyH_done (by kernel_rfl) ?_ _
  go_wp2
  go_ret
  exact ⟨rfl, HC.out.bel⟩
end Go.Proofs.Ytkgbjpdoigdjnab
