import Derived.Test.YtnnnmhpbdkalaaaX
namespace Go.Proofs.Ytnnnmhpbdkalaaa
open Go.RowKit
set_option linter.unusedVariables false
set_option linter.unusedSimpArgs false

/-! ## What is read depends on its own bytes alone, and is written as it was -/
theorem rd_ext (zs zt : List Int) (first f r i : Int) (hc : (f, r, i) ∈ combos) (h : ∀ j : Nat, (j : Int) < sizeN r i → zt.getD j 0 = zs.getD j 0) : rd zt first f r i = rd zs first f r i := by
  simp only [combos, List.mem_cons, Prod.mk.injEq, List.not_mem_nil, or_false] at hc
  rcases hc with ⟨rfl, rfl, rfl⟩ | ⟨rfl, rfl, rfl⟩ | ⟨rfl, rfl, rfl⟩ | ⟨rfl, rfl, rfl⟩ | ⟨rfl, rfl, rfl⟩ | ⟨rfl, rfl, rfl⟩ | ⟨rfl, rfl, rfl⟩ | ⟨rfl, rfl, rfl⟩ | ⟨rfl, rfl, rfl⟩ | ⟨rfl, rfl, rfl⟩ | ⟨rfl, rfl, rfl⟩ | ⟨rfl, rfl, rfl⟩ | ⟨rfl, rfl, rfl⟩ | ⟨rfl, rfl, rfl⟩ | ⟨rfl, rfl, rfl⟩ | ⟨rfl, rfl, rfl⟩ | ⟨rfl, rfl, rfl⟩ | ⟨rfl, rfl, rfl⟩
  · have e1 : rd zs first 0 0 0 = ⟨1, 0, 0, 0, 0⟩ := rfl
    have e2 : rd zt first 0 0 0 = ⟨1, 0, 0, 0, 0⟩ := rfl
    have hs : sizeN 0 0 = 1 := rfl
    rw [hs] at h
    simp only [e1, e2, h 0 (by decide)]
  · have e1 : rd zs first 0 0 1 = ⟨2, 0, 0, 0, zs.getD 1 0⟩ := rfl
    have e2 : rd zt first 0 0 1 = ⟨2, 0, 0, 0, zt.getD 1 0⟩ := rfl
    have hs : sizeN 0 1 = 2 := rfl
    rw [hs] at h
    simp only [e1, e2, h 0 (by decide), h 1 (by decide)]
  · have e1 : rd zs first 0 0 2 = ⟨2, 0, 0, 0, (if 128 ≤ zs.getD 1 0 then zs.getD 1 0 + 4294967040 else zs.getD 1 0)⟩ := rfl
    have e2 : rd zt first 0 0 2 = ⟨2, 0, 0, 0, (if 128 ≤ zt.getD 1 0 then zt.getD 1 0 + 4294967040 else zt.getD 1 0)⟩ := rfl
    have hs : sizeN 0 2 = 2 := rfl
    rw [hs] at h
    simp only [e1, e2, h 0 (by decide), h 1 (by decide)]
  · have e1 : rd zs first 0 0 3 = ⟨5, 0, 0, 0, zs.getD 1 0 + zs.getD 2 0 * 256 + zs.getD 3 0 * 65536 + zs.getD 4 0 * 16777216⟩ := rfl
    have e2 : rd zt first 0 0 3 = ⟨5, 0, 0, 0, zt.getD 1 0 + zt.getD 2 0 * 256 + zt.getD 3 0 * 65536 + zt.getD 4 0 * 16777216⟩ := rfl
    have hs : sizeN 0 3 = 5 := rfl
    rw [hs] at h
    simp only [e1, e2, h 0 (by decide), h 1 (by decide), h 2 (by decide), h 3 (by decide), h 4 (by decide)]
  · have e1 : rd zs first 0 1 0 = ⟨2, 0, zs.getD 1 0, 0, 0⟩ := rfl
    have e2 : rd zt first 0 1 0 = ⟨2, 0, zt.getD 1 0, 0, 0⟩ := rfl
    have hs : sizeN 1 0 = 2 := rfl
    rw [hs] at h
    simp only [e1, e2, h 0 (by decide), h 1 (by decide)]
  · have e1 : rd zs first 0 1 2 = ⟨3, 0, zs.getD 1 0, 0, (if 128 ≤ zs.getD 2 0 then zs.getD 2 0 + 4294967040 else zs.getD 2 0)⟩ := rfl
    have e2 : rd zt first 0 1 2 = ⟨3, 0, zt.getD 1 0, 0, (if 128 ≤ zt.getD 2 0 then zt.getD 2 0 + 4294967040 else zt.getD 2 0)⟩ := rfl
    have hs : sizeN 1 2 = 3 := rfl
    rw [hs] at h
    simp only [e1, e2, h 0 (by decide), h 1 (by decide), h 2 (by decide)]
  · have e1 : rd zs first 0 3 0 = ⟨2, zs.getD 1 0 % 16, 0, zs.getD 1 0 / 16, 0⟩ := rfl
    have e2 : rd zt first 0 3 0 = ⟨2, zt.getD 1 0 % 16, 0, zt.getD 1 0 / 16, 0⟩ := rfl
    have hs : sizeN 3 0 = 2 := rfl
    rw [hs] at h
    simp only [e1, e2, h 0 (by decide), h 1 (by decide)]
  · have e1 : rd zs first 0 4 0 = ⟨2, zs.getD 1 0 / 16, zs.getD 1 0 % 16, 0, 0⟩ := rfl
    have e2 : rd zt first 0 4 0 = ⟨2, zt.getD 1 0 / 16, zt.getD 1 0 % 16, 0, 0⟩ := rfl
    have hs : sizeN 4 0 = 2 := rfl
    rw [hs] at h
    simp only [e1, e2, h 0 (by decide), h 1 (by decide)]
  · have e1 : rd zs first 0 4 2 = ⟨3, zs.getD 1 0 / 16, zs.getD 1 0 % 16, 0, (if 128 ≤ zs.getD 2 0 then zs.getD 2 0 + 4294967040 else zs.getD 2 0)⟩ := rfl
    have e2 : rd zt first 0 4 2 = ⟨3, zt.getD 1 0 / 16, zt.getD 1 0 % 16, 0, (if 128 ≤ zt.getD 2 0 then zt.getD 2 0 + 4294967040 else zt.getD 2 0)⟩ := rfl
    have hs : sizeN 4 2 = 3 := rfl
    rw [hs] at h
    simp only [e1, e2, h 0 (by decide), h 1 (by decide), h 2 (by decide)]
  · have e1 : rd zs first 1 0 2 = ⟨2, 0, 0, zs.getD 0 0 - first, (if 128 ≤ zs.getD 1 0 then zs.getD 1 0 + 4294967040 else zs.getD 1 0)⟩ := rfl
    have e2 : rd zt first 1 0 2 = ⟨2, 0, 0, zt.getD 0 0 - first, (if 128 ≤ zt.getD 1 0 then zt.getD 1 0 + 4294967040 else zt.getD 1 0)⟩ := rfl
    have hs : sizeN 0 2 = 2 := rfl
    rw [hs] at h
    simp only [e1, e2, h 0 (by decide), h 1 (by decide)]
  · have e1 : rd zs first 1 0 3 = ⟨5, 0, 0, zs.getD 0 0 - first, zs.getD 1 0 + zs.getD 2 0 * 256 + zs.getD 3 0 * 65536 + zs.getD 4 0 * 16777216⟩ := rfl
    have e2 : rd zt first 1 0 3 = ⟨5, 0, 0, zt.getD 0 0 - first, zt.getD 1 0 + zt.getD 2 0 * 256 + zt.getD 3 0 * 65536 + zt.getD 4 0 * 16777216⟩ := rfl
    have hs : sizeN 0 3 = 5 := rfl
    rw [hs] at h
    simp only [e1, e2, h 0 (by decide), h 1 (by decide), h 2 (by decide), h 3 (by decide), h 4 (by decide)]
  · have e1 : rd zs first 1 2 2 = ⟨3, zs.getD 1 0, 0, zs.getD 0 0 - first, (if 128 ≤ zs.getD 2 0 then zs.getD 2 0 + 4294967040 else zs.getD 2 0)⟩ := rfl
    have e2 : rd zt first 1 2 2 = ⟨3, zt.getD 1 0, 0, zt.getD 0 0 - first, (if 128 ≤ zt.getD 2 0 then zt.getD 2 0 + 4294967040 else zt.getD 2 0)⟩ := rfl
    have hs : sizeN 2 2 = 3 := rfl
    rw [hs] at h
    simp only [e1, e2, h 0 (by decide), h 1 (by decide), h 2 (by decide)]
  · have e1 : rd zs first 1 2 3 = ⟨6, zs.getD 1 0, 0, zs.getD 0 0 - first, zs.getD 2 0 + zs.getD 3 0 * 256 + zs.getD 4 0 * 65536 + zs.getD 5 0 * 16777216⟩ := rfl
    have e2 : rd zt first 1 2 3 = ⟨6, zt.getD 1 0, 0, zt.getD 0 0 - first, zt.getD 2 0 + zt.getD 3 0 * 256 + zt.getD 4 0 * 65536 + zt.getD 5 0 * 16777216⟩ := rfl
    have hs : sizeN 2 3 = 6 := rfl
    rw [hs] at h
    simp only [e1, e2, h 0 (by decide), h 1 (by decide), h 2 (by decide), h 3 (by decide), h 4 (by decide), h 5 (by decide)]
  · have e1 : rd zs first 1 4 0 = ⟨2, zs.getD 1 0 / 16, zs.getD 1 0 % 16, zs.getD 0 0 - first, 0⟩ := rfl
    have e2 : rd zt first 1 4 0 = ⟨2, zt.getD 1 0 / 16, zt.getD 1 0 % 16, zt.getD 0 0 - first, 0⟩ := rfl
    have hs : sizeN 4 0 = 2 := rfl
    rw [hs] at h
    simp only [e1, e2, h 0 (by decide), h 1 (by decide)]
  · have e1 : rd zs first 1 4 2 = ⟨3, zs.getD 1 0 / 16, zs.getD 1 0 % 16, zs.getD 0 0 - first, (if 128 ≤ zs.getD 2 0 then zs.getD 2 0 + 4294967040 else zs.getD 2 0)⟩ := rfl
    have e2 : rd zt first 1 4 2 = ⟨3, zt.getD 1 0 / 16, zt.getD 1 0 % 16, zt.getD 0 0 - first, (if 128 ≤ zt.getD 2 0 then zt.getD 2 0 + 4294967040 else zt.getD 2 0)⟩ := rfl
    have hs : sizeN 4 2 = 3 := rfl
    rw [hs] at h
    simp only [e1, e2, h 0 (by decide), h 1 (by decide), h 2 (by decide)]
  · have e1 : rd zs first 2 0 0 = ⟨1, 0, zs.getD 0 0 - first, 0, 0⟩ := rfl
    have e2 : rd zt first 2 0 0 = ⟨1, 0, zt.getD 0 0 - first, 0, 0⟩ := rfl
    have hs : sizeN 0 0 = 1 := rfl
    rw [hs] at h
    simp only [e1, e2, h 0 (by decide)]
  · have e1 : rd zs first 3 0 0 = ⟨1, zs.getD 0 0 - first, 0, 0, 0⟩ := rfl
    have e2 : rd zt first 3 0 0 = ⟨1, zt.getD 0 0 - first, 0, 0, 0⟩ := rfl
    have hs : sizeN 0 0 = 1 := rfl
    rw [hs] at h
    simp only [e1, e2, h 0 (by decide)]
  · have e1 : rd zs first 3 0 3 = ⟨5, zs.getD 0 0 - first, 0, 0, zs.getD 1 0 + zs.getD 2 0 * 256 + zs.getD 3 0 * 65536 + zs.getD 4 0 * 16777216⟩ := rfl
    have e2 : rd zt first 3 0 3 = ⟨5, zt.getD 0 0 - first, 0, 0, zt.getD 1 0 + zt.getD 2 0 * 256 + zt.getD 3 0 * 65536 + zt.getD 4 0 * 16777216⟩ := rfl
    have hs : sizeN 0 3 = 5 := rfl
    rw [hs] at h
    simp only [e1, e2, h 0 (by decide), h 1 (by decide), h 2 (by decide), h 3 (by decide), h 4 (by decide)]

theorem rd_round (zs : List Int) (first f r i : Int) (hc : (f, r, i) ∈ combos) (b0 : ∀ j, 0 ≤ zs.getD j 0 ∧ zs.getD j 0 ≤ 255) (h0 : f = 0 → zs.getD 0 0 = first) :
    ((layL first f r i (rd zs first f r i).D (rd zs first f r i).S (rd zs first f r i).O (rd zs first f r i).imm).length : Int) = sizeN r i ∧
      ∀ j : Nat, (j : Int) < sizeN r i → (layL first f r i (rd zs first f r i).D (rd zs first f r i).S (rd zs first f r i).O (rd zs first f r i).imm).getD j 0 = zs.getD j 0 := by
  have c0 := b0 0
  have c1 := b0 1
  have c2 := b0 2
  have c3 := b0 3
  have c4 := b0 4
  have c5 := b0 5
  simp only [combos, List.mem_cons, Prod.mk.injEq, List.not_mem_nil, or_false] at hc
  rcases hc with ⟨rfl, rfl, rfl⟩ | ⟨rfl, rfl, rfl⟩ | ⟨rfl, rfl, rfl⟩ | ⟨rfl, rfl, rfl⟩ | ⟨rfl, rfl, rfl⟩ | ⟨rfl, rfl, rfl⟩ | ⟨rfl, rfl, rfl⟩ | ⟨rfl, rfl, rfl⟩ | ⟨rfl, rfl, rfl⟩ | ⟨rfl, rfl, rfl⟩ | ⟨rfl, rfl, rfl⟩ | ⟨rfl, rfl, rfl⟩ | ⟨rfl, rfl, rfl⟩ | ⟨rfl, rfl, rfl⟩ | ⟨rfl, rfl, rfl⟩ | ⟨rfl, rfl, rfl⟩ | ⟨rfl, rfl, rfl⟩ | ⟨rfl, rfl, rfl⟩
  · have e : layL first 0 0 0 (rd zs first 0 0 0).D (rd zs first 0 0 0).S (rd zs first 0 0 0).O (rd zs first 0 0 0).imm = [(first + (0)) % 256] := rfl
    have a0 : (first + (0)) % 256 = zs.getD 0 0 := by have := h0 rfl; omega
    rw [e, a0]
    refine ⟨rfl, fun j hj => ?_⟩
    have hj' : (j : Int) < 1 := hj
    match j, hj' with
    | 0, _ => rfl
    | m + 1, h => omega
  · have e : layL first 0 0 1 (rd zs first 0 0 1).D (rd zs first 0 0 1).S (rd zs first 0 0 1).O (rd zs first 0 0 1).imm = [(first + (0)) % 256, (zs.getD 1 0) % 256] := rfl
    have a0 : (first + (0)) % 256 = zs.getD 0 0 := by have := h0 rfl; omega
    have a1 : (zs.getD 1 0) % 256 = zs.getD 1 0 := by omega
    rw [e, a0, a1]
    refine ⟨rfl, fun j hj => ?_⟩
    have hj' : (j : Int) < 2 := hj
    match j, hj' with
    | 0, _ => rfl
    | 1, _ => rfl
    | m + 2, h => omega
  · have e : layL first 0 0 2 (rd zs first 0 0 2).D (rd zs first 0 0 2).S (rd zs first 0 0 2).O (rd zs first 0 0 2).imm = [(first + (0)) % 256, ((if 128 ≤ zs.getD 1 0 then zs.getD 1 0 + 4294967040 else zs.getD 1 0)) % 256] := rfl
    have a0 : (first + (0)) % 256 = zs.getD 0 0 := by have := h0 rfl; omega
    have a1 : ((if 128 ≤ zs.getD 1 0 then zs.getD 1 0 + 4294967040 else zs.getD 1 0)) % 256 = zs.getD 1 0 := by split <;> omega
    rw [e, a0, a1]
    refine ⟨rfl, fun j hj => ?_⟩
    have hj' : (j : Int) < 2 := hj
    match j, hj' with
    | 0, _ => rfl
    | 1, _ => rfl
    | m + 2, h => omega
  · have e : layL first 0 0 3 (rd zs first 0 0 3).D (rd zs first 0 0 3).S (rd zs first 0 0 3).O (rd zs first 0 0 3).imm = [(first + (0)) % 256, (zs.getD 1 0 + zs.getD 2 0 * 256 + zs.getD 3 0 * 65536 + zs.getD 4 0 * 16777216) % 256, (zs.getD 1 0 + zs.getD 2 0 * 256 + zs.getD 3 0 * 65536 + zs.getD 4 0 * 16777216) / 256 % 256, (zs.getD 1 0 + zs.getD 2 0 * 256 + zs.getD 3 0 * 65536 + zs.getD 4 0 * 16777216) / 65536 % 256, (zs.getD 1 0 + zs.getD 2 0 * 256 + zs.getD 3 0 * 65536 + zs.getD 4 0 * 16777216) / 16777216 % 256] := rfl
    have a0 : (first + (0)) % 256 = zs.getD 0 0 := by have := h0 rfl; omega
    have a1 : (zs.getD 1 0 + zs.getD 2 0 * 256 + zs.getD 3 0 * 65536 + zs.getD 4 0 * 16777216) % 256 = zs.getD 1 0 := by omega
    have a2 : (zs.getD 1 0 + zs.getD 2 0 * 256 + zs.getD 3 0 * 65536 + zs.getD 4 0 * 16777216) / 256 % 256 = zs.getD 2 0 := by omega
    have a3 : (zs.getD 1 0 + zs.getD 2 0 * 256 + zs.getD 3 0 * 65536 + zs.getD 4 0 * 16777216) / 65536 % 256 = zs.getD 3 0 := by omega
    have a4 : (zs.getD 1 0 + zs.getD 2 0 * 256 + zs.getD 3 0 * 65536 + zs.getD 4 0 * 16777216) / 16777216 % 256 = zs.getD 4 0 := by omega
    rw [e, a0, a1, a2, a3, a4]
    refine ⟨rfl, fun j hj => ?_⟩
    have hj' : (j : Int) < 5 := hj
    match j, hj' with
    | 0, _ => rfl
    | 1, _ => rfl
    | 2, _ => rfl
    | 3, _ => rfl
    | 4, _ => rfl
    | m + 5, h => omega
  · have e : layL first 0 1 0 (rd zs first 0 1 0).D (rd zs first 0 1 0).S (rd zs first 0 1 0).O (rd zs first 0 1 0).imm = [(first + (0)) % 256, (zs.getD 1 0) % 256] := rfl
    have a0 : (first + (0)) % 256 = zs.getD 0 0 := by have := h0 rfl; omega
    have a1 : (zs.getD 1 0) % 256 = zs.getD 1 0 := by omega
    rw [e, a0, a1]
    refine ⟨rfl, fun j hj => ?_⟩
    have hj' : (j : Int) < 2 := hj
    match j, hj' with
    | 0, _ => rfl
    | 1, _ => rfl
    | m + 2, h => omega
  · have e : layL first 0 1 2 (rd zs first 0 1 2).D (rd zs first 0 1 2).S (rd zs first 0 1 2).O (rd zs first 0 1 2).imm = [(first + (0)) % 256, (zs.getD 1 0) % 256, ((if 128 ≤ zs.getD 2 0 then zs.getD 2 0 + 4294967040 else zs.getD 2 0)) % 256] := rfl
    have a0 : (first + (0)) % 256 = zs.getD 0 0 := by have := h0 rfl; omega
    have a1 : (zs.getD 1 0) % 256 = zs.getD 1 0 := by omega
    have a2 : ((if 128 ≤ zs.getD 2 0 then zs.getD 2 0 + 4294967040 else zs.getD 2 0)) % 256 = zs.getD 2 0 := by split <;> omega
    rw [e, a0, a1, a2]
    refine ⟨rfl, fun j hj => ?_⟩
    have hj' : (j : Int) < 3 := hj
    match j, hj' with
    | 0, _ => rfl
    | 1, _ => rfl
    | 2, _ => rfl
    | m + 3, h => omega
  · have e : layL first 0 3 0 (rd zs first 0 3 0).D (rd zs first 0 3 0).S (rd zs first 0 3 0).O (rd zs first 0 3 0).imm = [(first + (0)) % 256, (16 * (zs.getD 1 0 / 16) + (zs.getD 1 0 % 16)) % 256] := rfl
    have a0 : (first + (0)) % 256 = zs.getD 0 0 := by have := h0 rfl; omega
    have a1 : (16 * (zs.getD 1 0 / 16) + (zs.getD 1 0 % 16)) % 256 = zs.getD 1 0 := by omega
    rw [e, a0, a1]
    refine ⟨rfl, fun j hj => ?_⟩
    have hj' : (j : Int) < 2 := hj
    match j, hj' with
    | 0, _ => rfl
    | 1, _ => rfl
    | m + 2, h => omega
  · have e : layL first 0 4 0 (rd zs first 0 4 0).D (rd zs first 0 4 0).S (rd zs first 0 4 0).O (rd zs first 0 4 0).imm = [(first + (0)) % 256, (16 * (zs.getD 1 0 / 16) + (zs.getD 1 0 % 16)) % 256] := rfl
    have a0 : (first + (0)) % 256 = zs.getD 0 0 := by have := h0 rfl; omega
    have a1 : (16 * (zs.getD 1 0 / 16) + (zs.getD 1 0 % 16)) % 256 = zs.getD 1 0 := by omega
    rw [e, a0, a1]
    refine ⟨rfl, fun j hj => ?_⟩
    have hj' : (j : Int) < 2 := hj
    match j, hj' with
    | 0, _ => rfl
    | 1, _ => rfl
    | m + 2, h => omega
  · have e : layL first 0 4 2 (rd zs first 0 4 2).D (rd zs first 0 4 2).S (rd zs first 0 4 2).O (rd zs first 0 4 2).imm = [(first + (0)) % 256, (16 * (zs.getD 1 0 / 16) + (zs.getD 1 0 % 16)) % 256, ((if 128 ≤ zs.getD 2 0 then zs.getD 2 0 + 4294967040 else zs.getD 2 0)) % 256] := rfl
    have a0 : (first + (0)) % 256 = zs.getD 0 0 := by have := h0 rfl; omega
    have a1 : (16 * (zs.getD 1 0 / 16) + (zs.getD 1 0 % 16)) % 256 = zs.getD 1 0 := by omega
    have a2 : ((if 128 ≤ zs.getD 2 0 then zs.getD 2 0 + 4294967040 else zs.getD 2 0)) % 256 = zs.getD 2 0 := by split <;> omega
    rw [e, a0, a1, a2]
    refine ⟨rfl, fun j hj => ?_⟩
    have hj' : (j : Int) < 3 := hj
    match j, hj' with
    | 0, _ => rfl
    | 1, _ => rfl
    | 2, _ => rfl
    | m + 3, h => omega
  · have e : layL first 1 0 2 (rd zs first 1 0 2).D (rd zs first 1 0 2).S (rd zs first 1 0 2).O (rd zs first 1 0 2).imm = [(first + (zs.getD 0 0 - first)) % 256, ((if 128 ≤ zs.getD 1 0 then zs.getD 1 0 + 4294967040 else zs.getD 1 0)) % 256] := rfl
    have a0 : (first + (zs.getD 0 0 - first)) % 256 = zs.getD 0 0 := by omega
    have a1 : ((if 128 ≤ zs.getD 1 0 then zs.getD 1 0 + 4294967040 else zs.getD 1 0)) % 256 = zs.getD 1 0 := by split <;> omega
    rw [e, a0, a1]
    refine ⟨rfl, fun j hj => ?_⟩
    have hj' : (j : Int) < 2 := hj
    match j, hj' with
    | 0, _ => rfl
    | 1, _ => rfl
    | m + 2, h => omega
  · have e : layL first 1 0 3 (rd zs first 1 0 3).D (rd zs first 1 0 3).S (rd zs first 1 0 3).O (rd zs first 1 0 3).imm = [(first + (zs.getD 0 0 - first)) % 256, (zs.getD 1 0 + zs.getD 2 0 * 256 + zs.getD 3 0 * 65536 + zs.getD 4 0 * 16777216) % 256, (zs.getD 1 0 + zs.getD 2 0 * 256 + zs.getD 3 0 * 65536 + zs.getD 4 0 * 16777216) / 256 % 256, (zs.getD 1 0 + zs.getD 2 0 * 256 + zs.getD 3 0 * 65536 + zs.getD 4 0 * 16777216) / 65536 % 256, (zs.getD 1 0 + zs.getD 2 0 * 256 + zs.getD 3 0 * 65536 + zs.getD 4 0 * 16777216) / 16777216 % 256] := rfl
    have a0 : (first + (zs.getD 0 0 - first)) % 256 = zs.getD 0 0 := by omega
    have a1 : (zs.getD 1 0 + zs.getD 2 0 * 256 + zs.getD 3 0 * 65536 + zs.getD 4 0 * 16777216) % 256 = zs.getD 1 0 := by omega
    have a2 : (zs.getD 1 0 + zs.getD 2 0 * 256 + zs.getD 3 0 * 65536 + zs.getD 4 0 * 16777216) / 256 % 256 = zs.getD 2 0 := by omega
    have a3 : (zs.getD 1 0 + zs.getD 2 0 * 256 + zs.getD 3 0 * 65536 + zs.getD 4 0 * 16777216) / 65536 % 256 = zs.getD 3 0 := by omega
    have a4 : (zs.getD 1 0 + zs.getD 2 0 * 256 + zs.getD 3 0 * 65536 + zs.getD 4 0 * 16777216) / 16777216 % 256 = zs.getD 4 0 := by omega
    rw [e, a0, a1, a2, a3, a4]
    refine ⟨rfl, fun j hj => ?_⟩
    have hj' : (j : Int) < 5 := hj
    match j, hj' with
    | 0, _ => rfl
    | 1, _ => rfl
    | 2, _ => rfl
    | 3, _ => rfl
    | 4, _ => rfl
    | m + 5, h => omega
  · have e : layL first 1 2 2 (rd zs first 1 2 2).D (rd zs first 1 2 2).S (rd zs first 1 2 2).O (rd zs first 1 2 2).imm = [(first + (zs.getD 0 0 - first)) % 256, (zs.getD 1 0) % 256, ((if 128 ≤ zs.getD 2 0 then zs.getD 2 0 + 4294967040 else zs.getD 2 0)) % 256] := rfl
    have a0 : (first + (zs.getD 0 0 - first)) % 256 = zs.getD 0 0 := by omega
    have a1 : (zs.getD 1 0) % 256 = zs.getD 1 0 := by omega
    have a2 : ((if 128 ≤ zs.getD 2 0 then zs.getD 2 0 + 4294967040 else zs.getD 2 0)) % 256 = zs.getD 2 0 := by split <;> omega
    rw [e, a0, a1, a2]
    refine ⟨rfl, fun j hj => ?_⟩
    have hj' : (j : Int) < 3 := hj
    match j, hj' with
    | 0, _ => rfl
    | 1, _ => rfl
    | 2, _ => rfl
    | m + 3, h => omega
  · have e : layL first 1 2 3 (rd zs first 1 2 3).D (rd zs first 1 2 3).S (rd zs first 1 2 3).O (rd zs first 1 2 3).imm = [(first + (zs.getD 0 0 - first)) % 256, (zs.getD 1 0) % 256, (zs.getD 2 0 + zs.getD 3 0 * 256 + zs.getD 4 0 * 65536 + zs.getD 5 0 * 16777216) % 256, (zs.getD 2 0 + zs.getD 3 0 * 256 + zs.getD 4 0 * 65536 + zs.getD 5 0 * 16777216) / 256 % 256, (zs.getD 2 0 + zs.getD 3 0 * 256 + zs.getD 4 0 * 65536 + zs.getD 5 0 * 16777216) / 65536 % 256, (zs.getD 2 0 + zs.getD 3 0 * 256 + zs.getD 4 0 * 65536 + zs.getD 5 0 * 16777216) / 16777216 % 256] := rfl
    have a0 : (first + (zs.getD 0 0 - first)) % 256 = zs.getD 0 0 := by omega
    have a1 : (zs.getD 1 0) % 256 = zs.getD 1 0 := by omega
    have a2 : (zs.getD 2 0 + zs.getD 3 0 * 256 + zs.getD 4 0 * 65536 + zs.getD 5 0 * 16777216) % 256 = zs.getD 2 0 := by omega
    have a3 : (zs.getD 2 0 + zs.getD 3 0 * 256 + zs.getD 4 0 * 65536 + zs.getD 5 0 * 16777216) / 256 % 256 = zs.getD 3 0 := by omega
    have a4 : (zs.getD 2 0 + zs.getD 3 0 * 256 + zs.getD 4 0 * 65536 + zs.getD 5 0 * 16777216) / 65536 % 256 = zs.getD 4 0 := by omega
    have a5 : (zs.getD 2 0 + zs.getD 3 0 * 256 + zs.getD 4 0 * 65536 + zs.getD 5 0 * 16777216) / 16777216 % 256 = zs.getD 5 0 := by omega
    rw [e, a0, a1, a2, a3, a4, a5]
    refine ⟨rfl, fun j hj => ?_⟩
    have hj' : (j : Int) < 6 := hj
    match j, hj' with
    | 0, _ => rfl
    | 1, _ => rfl
    | 2, _ => rfl
    | 3, _ => rfl
    | 4, _ => rfl
    | 5, _ => rfl
    | m + 6, h => omega
  · have e : layL first 1 4 0 (rd zs first 1 4 0).D (rd zs first 1 4 0).S (rd zs first 1 4 0).O (rd zs first 1 4 0).imm = [(first + (zs.getD 0 0 - first)) % 256, (16 * (zs.getD 1 0 / 16) + (zs.getD 1 0 % 16)) % 256] := rfl
    have a0 : (first + (zs.getD 0 0 - first)) % 256 = zs.getD 0 0 := by omega
    have a1 : (16 * (zs.getD 1 0 / 16) + (zs.getD 1 0 % 16)) % 256 = zs.getD 1 0 := by omega
    rw [e, a0, a1]
    refine ⟨rfl, fun j hj => ?_⟩
    have hj' : (j : Int) < 2 := hj
    match j, hj' with
    | 0, _ => rfl
    | 1, _ => rfl
    | m + 2, h => omega
  · have e : layL first 1 4 2 (rd zs first 1 4 2).D (rd zs first 1 4 2).S (rd zs first 1 4 2).O (rd zs first 1 4 2).imm = [(first + (zs.getD 0 0 - first)) % 256, (16 * (zs.getD 1 0 / 16) + (zs.getD 1 0 % 16)) % 256, ((if 128 ≤ zs.getD 2 0 then zs.getD 2 0 + 4294967040 else zs.getD 2 0)) % 256] := rfl
    have a0 : (first + (zs.getD 0 0 - first)) % 256 = zs.getD 0 0 := by omega
    have a1 : (16 * (zs.getD 1 0 / 16) + (zs.getD 1 0 % 16)) % 256 = zs.getD 1 0 := by omega
    have a2 : ((if 128 ≤ zs.getD 2 0 then zs.getD 2 0 + 4294967040 else zs.getD 2 0)) % 256 = zs.getD 2 0 := by split <;> omega
    rw [e, a0, a1, a2]
    refine ⟨rfl, fun j hj => ?_⟩
    have hj' : (j : Int) < 3 := hj
    match j, hj' with
    | 0, _ => rfl
    | 1, _ => rfl
    | 2, _ => rfl
    | m + 3, h => omega
  · have e : layL first 2 0 0 (rd zs first 2 0 0).D (rd zs first 2 0 0).S (rd zs first 2 0 0).O (rd zs first 2 0 0).imm = [(first + (zs.getD 0 0 - first)) % 256] := rfl
    have a0 : (first + (zs.getD 0 0 - first)) % 256 = zs.getD 0 0 := by omega
    rw [e, a0]
    refine ⟨rfl, fun j hj => ?_⟩
    have hj' : (j : Int) < 1 := hj
    match j, hj' with
    | 0, _ => rfl
    | m + 1, h => omega
  · have e : layL first 3 0 0 (rd zs first 3 0 0).D (rd zs first 3 0 0).S (rd zs first 3 0 0).O (rd zs first 3 0 0).imm = [(first + (zs.getD 0 0 - first)) % 256] := rfl
    have a0 : (first + (zs.getD 0 0 - first)) % 256 = zs.getD 0 0 := by omega
    rw [e, a0]
    refine ⟨rfl, fun j hj => ?_⟩
    have hj' : (j : Int) < 1 := hj
    match j, hj' with
    | 0, _ => rfl
    | m + 1, h => omega
  · have e : layL first 3 0 3 (rd zs first 3 0 3).D (rd zs first 3 0 3).S (rd zs first 3 0 3).O (rd zs first 3 0 3).imm = [(first + (zs.getD 0 0 - first)) % 256, (zs.getD 1 0 + zs.getD 2 0 * 256 + zs.getD 3 0 * 65536 + zs.getD 4 0 * 16777216) % 256, (zs.getD 1 0 + zs.getD 2 0 * 256 + zs.getD 3 0 * 65536 + zs.getD 4 0 * 16777216) / 256 % 256, (zs.getD 1 0 + zs.getD 2 0 * 256 + zs.getD 3 0 * 65536 + zs.getD 4 0 * 16777216) / 65536 % 256, (zs.getD 1 0 + zs.getD 2 0 * 256 + zs.getD 3 0 * 65536 + zs.getD 4 0 * 16777216) / 16777216 % 256] := rfl
    have a0 : (first + (zs.getD 0 0 - first)) % 256 = zs.getD 0 0 := by omega
    have a1 : (zs.getD 1 0 + zs.getD 2 0 * 256 + zs.getD 3 0 * 65536 + zs.getD 4 0 * 16777216) % 256 = zs.getD 1 0 := by omega
    have a2 : (zs.getD 1 0 + zs.getD 2 0 * 256 + zs.getD 3 0 * 65536 + zs.getD 4 0 * 16777216) / 256 % 256 = zs.getD 2 0 := by omega
    have a3 : (zs.getD 1 0 + zs.getD 2 0 * 256 + zs.getD 3 0 * 65536 + zs.getD 4 0 * 16777216) / 65536 % 256 = zs.getD 3 0 := by omega
    have a4 : (zs.getD 1 0 + zs.getD 2 0 * 256 + zs.getD 3 0 * 65536 + zs.getD 4 0 * 16777216) / 16777216 % 256 = zs.getD 4 0 := by omega
    rw [e, a0, a1, a2, a3, a4]
    refine ⟨rfl, fun j hj => ?_⟩
    have hj' : (j : Int) < 5 := hj
    match j, hj' with
    | 0, _ => rfl
    | 1, _ => rfl
    | 2, _ => rfl
    | 3, _ => rfl
    | 4, _ => rfl
    | m + 5, h => omega

theorem rd_imm (zs : List Int) (first f r i : Int) (hc : (f, r, i) ∈ combos) (b0 : ∀ j, 0 ≤ zs.getD j 0 ∧ zs.getD j 0 ≤ 255) : 0 ≤ (rd zs first f r i).imm ∧ (rd zs first f r i).imm ≤ 4294967295 := by
  have c1 := b0 1
  have c2 := b0 2
  have c3 := b0 3
  have c4 := b0 4
  have c5 := b0 5
  simp only [combos, List.mem_cons, Prod.mk.injEq, List.not_mem_nil, or_false] at hc
  rcases hc with ⟨rfl, rfl, rfl⟩ | ⟨rfl, rfl, rfl⟩ | ⟨rfl, rfl, rfl⟩ | ⟨rfl, rfl, rfl⟩ | ⟨rfl, rfl, rfl⟩ | ⟨rfl, rfl, rfl⟩ | ⟨rfl, rfl, rfl⟩ | ⟨rfl, rfl, rfl⟩ | ⟨rfl, rfl, rfl⟩ | ⟨rfl, rfl, rfl⟩ | ⟨rfl, rfl, rfl⟩ | ⟨rfl, rfl, rfl⟩ | ⟨rfl, rfl, rfl⟩ | ⟨rfl, rfl, rfl⟩ | ⟨rfl, rfl, rfl⟩ | ⟨rfl, rfl, rfl⟩ | ⟨rfl, rfl, rfl⟩ | ⟨rfl, rfl, rfl⟩
  · have e : (rd zs first 0 0 0).imm = 0 := rfl
    rw [e]
    omega
  · have e : (rd zs first 0 0 1).imm = zs.getD 1 0 := rfl
    rw [e]
    omega
  · have e : (rd zs first 0 0 2).imm = (if 128 ≤ zs.getD 1 0 then zs.getD 1 0 + 4294967040 else zs.getD 1 0) := rfl
    rw [e]
    split <;> omega
  · have e : (rd zs first 0 0 3).imm = zs.getD 1 0 + zs.getD 2 0 * 256 + zs.getD 3 0 * 65536 + zs.getD 4 0 * 16777216 := rfl
    rw [e]
    omega
  · have e : (rd zs first 0 1 0).imm = 0 := rfl
    rw [e]
    omega
  · have e : (rd zs first 0 1 2).imm = (if 128 ≤ zs.getD 2 0 then zs.getD 2 0 + 4294967040 else zs.getD 2 0) := rfl
    rw [e]
    split <;> omega
  · have e : (rd zs first 0 3 0).imm = 0 := rfl
    rw [e]
    omega
  · have e : (rd zs first 0 4 0).imm = 0 := rfl
    rw [e]
    omega
  · have e : (rd zs first 0 4 2).imm = (if 128 ≤ zs.getD 2 0 then zs.getD 2 0 + 4294967040 else zs.getD 2 0) := rfl
    rw [e]
    split <;> omega
  · have e : (rd zs first 1 0 2).imm = (if 128 ≤ zs.getD 1 0 then zs.getD 1 0 + 4294967040 else zs.getD 1 0) := rfl
    rw [e]
    split <;> omega
  · have e : (rd zs first 1 0 3).imm = zs.getD 1 0 + zs.getD 2 0 * 256 + zs.getD 3 0 * 65536 + zs.getD 4 0 * 16777216 := rfl
    rw [e]
    omega
  · have e : (rd zs first 1 2 2).imm = (if 128 ≤ zs.getD 2 0 then zs.getD 2 0 + 4294967040 else zs.getD 2 0) := rfl
    rw [e]
    split <;> omega
  · have e : (rd zs first 1 2 3).imm = zs.getD 2 0 + zs.getD 3 0 * 256 + zs.getD 4 0 * 65536 + zs.getD 5 0 * 16777216 := rfl
    rw [e]
    omega
  · have e : (rd zs first 1 4 0).imm = 0 := rfl
    rw [e]
    omega
  · have e : (rd zs first 1 4 2).imm = (if 128 ≤ zs.getD 2 0 then zs.getD 2 0 + 4294967040 else zs.getD 2 0) := rfl
    rw [e]
    split <;> omega
  · have e : (rd zs first 2 0 0).imm = 0 := rfl
    rw [e]
    omega
  · have e : (rd zs first 3 0 0).imm = 0 := rfl
    rw [e]
    omega
  · have e : (rd zs first 3 0 3).imm = zs.getD 1 0 + zs.getD 2 0 * 256 + zs.getD 3 0 * 65536 + zs.getD 4 0 * 16777216 := rfl
    rw [e]
    omega

theorem row_one : ∀ k : Fin 32, tg k.val 3 = 0 → formI k.val 1 = 1 := by decide +kernel
theorem layL_len (first field regs imm D S O im : Int) (r0 : 0 ≤ regs) (r1 : regs ≤ 4) (i0 : 0 ≤ imm) (i1 : imm ≤ 3) : ((layL first field regs imm D S O im).length : Int) = sizeN regs imm := by
  rcases (by omega : regs = 0 ∨ regs = 1 ∨ regs = 2 ∨ regs = 3 ∨ regs = 4) with rfl | rfl | rfl | rfl | rfl <;> rcases (by omega : imm = 0 ∨ imm = 1 ∨ imm = 2 ∨ imm = 3) with rfl | rfl | rfl | rfl <;> rfl

/-- What an answer without an error says. -/
theorem dec_says {zs : List Int} {len : Nat} (h : (refDec zs len).e = 0) : ∃ k, hitF (zs.getD 0 0) = some k ∧ 1 + szL (formB k) ≤ len ∧ ¬ (7 < (stF zs k).D ∨ 7 < (stF zs k).S) ∧
    refDec zs len = ⟨k, (stF zs k).D, (stF zs k).S, (stF zs k).O, (stF zs k).imm, 1 + szL (formB k), 0⟩ := by
  unfold refDec at h ⊢
  by_cases hl : len = 0
  · rw [if_pos hl] at h; cases h
  rw [if_neg hl] at h ⊢
  cases hh : hitF (zs.getD 0 0) with
  | none => rw [hh] at h; cases h
  | some k =>
    rw [hh] at h
    simp only at h ⊢
    by_cases h1 : (len : Int) < 1 + szL (formB k)
    · rw [if_pos h1] at h; cases h
    rw [if_neg h1] at h ⊢
    by_cases h2 : 7 < (stF zs k).D ∨ 7 < (stF zs k).S
    · rw [if_pos h2] at h; cases h
    rw [if_neg h2]
    exact ⟨k, rfl, by omega, h2, rfl⟩
theorem dec_err {zs : List Int} {len : Nat} (h : (refDec zs len).e ≠ 0) : ∃ er, er ≠ 0 ∧ refDec zs len = decErr er := by
  unfold refDec at h ⊢
  by_cases hl : len = 0
  · rw [if_pos hl]; exact ⟨1, by decide, rfl⟩
  rw [if_neg hl] at h ⊢
  cases hh : hitF (zs.getD 0 0) with
  | none => exact ⟨2, by decide, rfl⟩
  | some k =>
    rw [hh] at h
    simp only at h ⊢
    by_cases h1 : (len : Int) < 1 + szL (formB k)
    · rw [if_pos h1]; exact ⟨1, by decide, rfl⟩
    rw [if_neg h1] at h ⊢
    by_cases h2 : 7 < (stF zs k).D ∨ 7 < (stF zs k).S
    · rw [if_pos h2]; exact ⟨3, by decide, rfl⟩
    rw [if_neg h2] at h
    exact absurd rfl h

theorem dec_ext {zs zt : List Int} {len len' : Nat} (h : (refDec zs len).e = 0) (hn : (refDec zs len).n ≤ len') (hag : ∀ j : Nat, (j : Int) < (refDec zs len).n → zt.getD j 0 = zs.getD j 0) : refDec zt len' = refDec zs len := by
  obtain ⟨k, hk, h1, h2, he⟩ := dec_says h
  rw [he] at hn hag ⊢
  simp only at hn hag
  have hlt := hitF_lt hk
  have hs0 := (szL_bd (formB k)).1
  obtain ⟨-, hsz, -, -, -⟩ := row_form ⟨k, hlt⟩
  simp only at hsz
  have hst : stF zt k = stF zs k := by
    rw [← st_eq zt k hlt, ← st_eq zs k hlt]
    exact rd_ext zs zt _ _ _ _ (row_combos ⟨k, hlt⟩) (fun j hj => hag j (by rw [← hsz]; exact hj))
  unfold refDec
  rw [if_neg (by omega), hag 0 (by omega), hk]
  simp only
  rw [if_neg (by omega), hst, if_neg h2]

/-- What was read is laid as it was. -/
theorem dec_back {zs : List Int} {len : Nat} (b0 : ∀ j, 0 ≤ zs.getD j 0 ∧ zs.getD j 0 ≤ 255) (h : (refDec zs len).e = 0) :
    ∃ k : Nat, k < 32 ∧ (refDec zs len).op = (k : Int) ∧ hitB (zs.getD 0 0) = some k ∧ (refDec zs len).n = sizeN (tg k 4) (tg k 5) ∧ (refDec zs len).n ≤ len ∧ 0 ≤ (refDec zs len).imm ∧ (refDec zs len).imm ≤ 4294967295 ∧
      ((layK k (refDec zs len).D (refDec zs len).S (refDec zs len).O (refDec zs len).imm).length : Int) = (refDec zs len).n ∧
      (∀ j : Nat, (j : Int) < (refDec zs len).n → (layK k (refDec zs len).D (refDec zs len).S (refDec zs len).O (refDec zs len).imm).getD j 0 = zs.getD j 0) ∧
      isB (guestDec (layK k (refDec zs len).D (refDec zs len).S (refDec zs len).O (refDec zs len).imm) (layK k (refDec zs len).D (refDec zs len).S (refDec zs len).O (refDec zs len).imm).length) k (refDec zs len).D (refDec zs len).S (refDec zs len).O (refDec zs len).imm = true := by
  obtain ⟨k, hk, h1, h2, he⟩ := dec_says h
  have hlt := hitF_lt hk
  obtain ⟨-, hsz, -, h4, -⟩ := row_form ⟨k, hlt⟩
  have hco := row_combos ⟨k, hlt⟩
  have hone := row_one ⟨k, hlt⟩
  simp only at hsz h4 hco hone
  have hfit : fitF (zs.getD 0 0) k = true := List.find?_some hk
  simp only [fitF, decide_eq_true_eq] at hfit
  have hst := st_eq zs k hlt
  have hR := rd_round zs (tg k 1) (tg k 3) (tg k 4) (tg k 5) hco b0 (fun hf => by have := hone hf; rw [h4]; omega)
  have hI := rd_imm zs (tg k 1) (tg k 3) (tg k 4) (tg k 5) hco b0
  unfold rdK at hst
  rw [hst] at hR hI
  have hlen : ((layK k (stF zs k).D (stF zs k).S (stF zs k).O (stF zs k).imm).length : Int) = 1 + szL (formB k) := by rw [← hsz]; exact hR.1
  have hbd := layL_bd (tg k 1) (tg k 3) (tg k 4) (tg k 5) (stF zs k).D (stF zs k).S (stF zs k).O (stF zs k).imm
  have hex : refDec (layK k (stF zs k).D (stF zs k).S (stF zs k).O (stF zs k).imm) (layK k (stF zs k).D (stF zs k).S (stF zs k).O (stF zs k).imm).length = refDec zs len :=
    dec_ext h (by rw [he]; simp only; omega) (fun j hj => hR.2 j (by rw [hsz]; rw [he] at hj; exact hj))
  have hdq := dec_eq (layK k (stF zs k).D (stF zs k).S (stF zs k).O (stF zs k).imm) (layK k (stF zs k).D (stF zs k).S (stF zs k).O (stF zs k).imm).length (hbd 0)
  rw [he] at hex ⊢
  refine ⟨k, hlt, rfl, (hit_eq _ (b0 0).1 (b0 0).2).trans hk, hsz.symm, by simp only; omega, hI.1, hI.2, hlen, fun j hj => hR.2 j (by rw [hsz]; exact hj), ?_⟩
  rw [hdq, hex]
  simp [isB]

theorem lay_says (k : Nat) (hk : k < 32) (D S O im : Int) (h : isB (refDec (layK k D S O im) (layK k D S O im).length) k D S O im = true) : refDec (layK k D S O im) (layK k D S O im).length = ⟨k, D, S, O, im, (layK k D S O im).length, 0⟩ := by
  simp only [isB, decide_eq_true_eq] at h
  obtain ⟨he, hop, hD, hS, hO, him⟩ := h
  obtain ⟨k', hk', h1, h2, hr⟩ := dec_says he
  rw [hr] at hop hD hS hO him
  simp only at hop hD hS hO him
  have hkk : k' = k := by omega
  subst hkk
  obtain ⟨-, hsz, -, -, -⟩ := row_form ⟨k', hk⟩
  obtain ⟨u0, u1, u2, u3⟩ := row_bd2 ⟨k', hk⟩
  obtain ⟨-, -, -, -, q4, q5, -, -⟩ := row_bd ⟨k', hk⟩
  simp only at hsz u0 u1 u2 u3 q4 q5
  have hlen := layL_len (tg k' 1) (tg k' 3) (tg k' 4) (tg k' 5) D S O im u2 u3 q4 q5
  rw [hr, hD, hS, hO, him, ← hsz, ← hlen]
  rfl

end Go.Proofs.Ytnnnmhpbdkalaaa
