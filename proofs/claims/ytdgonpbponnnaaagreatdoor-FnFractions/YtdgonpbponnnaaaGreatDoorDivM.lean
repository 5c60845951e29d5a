/- Plain mathematics of quotients of limbs: digits from the top on, guesses of a digit, shifts by fewer than 16 bits. No condition beyond those typed. -/
import Derived.Test.YtdgonpbponnnaaaGreatDoorMulSg
import Derived.Test.YtdgonpbponnnaaaGreatDoorDrop
namespace Go.Proofs.YtdgonpbponnnaaaGreatDoor
open Go.RowKit
set_option linter.unusedVariables false
set_option maxRecDepth 100000
set_option linter.unusedSimpArgs false

theorem wraps_i64 (n : Int) (h₀ : 0 ≤ n) (h₁ : n < 2 ^ 63) : IntKind.i64.wrap n = n := by rw [IntKind.wrap_i64]; omega
theorem or_commI (a b : Int) : bits .or .i64 a b = bits .or .i64 b a := by simp only [bits, BitVec.or_comm]
/-- A limb below others. -/
theorem or_hi (x y : Int) (hx : 0 ≤ x) (hx1 : x < 70368744177664) (hy : 0 ≤ y) (hy1 : y ≤ 65535) : bits .or .i64 (x * 65536) y = x * 65536 + y :=
  bits_join .i64 63 (by decide) wraps_i64 16 (x * 65536) y (by omega) (by omega) (by omega) hy (by omega) (by omega)

theorem pow2_le (s : Nat) (h : s ≤ 15) : (0 : Int) < 2 ^ s ∧ (2 : Int) ^ s ≤ 32768 := by
  rcases (show s = 0 ∨ s = 1 ∨ s = 2 ∨ s = 3 ∨ s = 4 ∨ s = 5 ∨ s = 6 ∨ s = 7 ∨ s = 8 ∨ s = 9 ∨ s = 10 ∨ s = 11 ∨ s = 12 ∨ s = 13 ∨ s = 14 ∨ s = 15 from by omega) with rfl | rfl | rfl | rfl | rfl | rfl | rfl | rfl | rfl | rfl | rfl | rfl | rfl | rfl | rfl | rfl <;> decide
/-- A carry below shifted bits. -/
theorem or_lo (s : Nat) (cy x : Int) (hs : s ≤ 15) (h0 : 0 ≤ cy) (h1 : cy < 2 ^ s) (hx : 0 ≤ x) (hx1 : x ≤ 65535) : bits .or .i64 cy (x * 2 ^ s) = cy + x * 2 ^ s := by
  obtain ⟨p0, p1⟩ := pow2_le s hs
  have hb : x * 2 ^ s ≤ 65535 * 32768 := Int.mul_le_mul hx1 p1 (by omega) (by omega)
  have hb0 : 0 ≤ x * 2 ^ s := Int.mul_nonneg hx (by omega)
  rw [or_commI, bits_join .i64 63 (by decide) wraps_i64 s (x * 2 ^ s) cy hb0 (Int.mul_emod_left _ _) (by omega) h0 h1 (by omega)]
  omega

/-- The row with k noughts and then zs. -/
def rowT (k : Nat) (zs : List Int) : List Int := List.replicate k 0 ++ zs
theorem rowT_set (j : Nat) (zs : List Int) (d : Int) : (rowT (j + 1) zs).set j d = rowT j (d :: zs) := by
  unfold rowT
  rw [show List.replicate (j + 1) (0 : Int) = List.replicate j 0 ++ [0] by rw [List.replicate_succ'], List.append_assoc, List.set_append_right _ _ (by simp)]
  simp
theorem rowT_len (k : Nat) (zs : List Int) : (rowT k zs).length = k + zs.length := by simp [rowT]
theorem rowT_owns {w : World} {base g L : Nat} {j : Nat} {zs : List Int} (h : w.ownsRow base 3 1 (.slice (some ⟨g, 0, none⟩) L L) L ((rowT (j + 1) zs).map (Value.int .i64))) (hl : (j + 1) + zs.length = L) (d : Int) :
    (∃ y, w.cell? ⟨g, j, none⟩ = some (.int .i64 y)) ∧ w.frozen? ⟨g, j, none⟩ = false ∧ (w.setCell ⟨g, j, none⟩ (.int .i64 d)).ownsRow base 3 1 (.slice (some ⟨g, 0, none⟩) L L) L ((rowT j (d :: zs)).map (Value.int .i64)) := by
  obtain ⟨h1, h2, h3⟩ := row_cell h (by rw [rowT_len]; exact hl) (show j < L by omega) d
  rw [rowT_set] at h3
  exact ⟨⟨_, h1⟩, h2, h3⟩
theorem drop_zero {xs : List Int} {n : Nat} (h : xs.length = n) : xs.drop n = [] := List.drop_of_length_le (by omega)

/-- Quotients by one number, digits from k on. -/
structure DivS (zs xs : List Int) (k n : Nat) (r B : Int) : Prop where
  len : k + zs.length = n
  ok : okL zs
  r0 : 0 ≤ r
  r1 : r < B
  v : val zs * B + r = val (xs.drop k)
theorem DivS.start {xs : List Int} {n : Nat} {B : Int} (h : xs.length = n) (hB : 0 < B) : DivS [] xs n n 0 B := ⟨by simp, okL_nil, by omega, hB, by rw [drop_zero h]; simp [val]⟩
theorem DivS.step {zs xs : List Int} {j n : Nat} {r B : Int} (h : DivS zs xs (j + 1) n r B) (hn : xs.length = n) (ox : okL xs) (hB : 0 < B) :
    DivS ((r * 65536 + xs.getD j 0) / B :: zs) xs j n ((r * 65536 + xs.getD j 0) % B) B := by
  have hl := h.len
  have hx := okL_get ox j
  have hd := drop_succ (xs := xs) (k := j) (by omega)
  have hr0 := h.r0
  have hr1 := h.r1
  have hv := h.v
  generalize xs.getD j 0 = x at *
  have e1 : (r * 65536 + x) % B + B * ((r * 65536 + x) / B) = r * 65536 + x := Int.emod_add_mul_ediv _ _
  have m0 : 0 ≤ (r * 65536 + x) % B := Int.emod_nonneg _ (by omega)
  have m1 : (r * 65536 + x) % B < B := Int.emod_lt_of_pos _ hB
  have q0 : 0 ≤ (r * 65536 + x) / B := Int.ediv_nonneg (by omega) (by omega)
  have q1 : (r * 65536 + x) / B < 65536 := Int.ediv_lt_of_lt_mul hB (by omega)
  refine ⟨by simp only [List.length_cons]; omega, okL_cons.2 ⟨⟨q0, by omega⟩, h.ok⟩, m0, m1, ?_⟩
  rw [hd, ← hv]
  simp only [val]
  rw [Int.add_mul, Int.mul_assoc, Int.mul_comm ((r * 65536 + x) / B) B]
  omega
theorem DivS.done {zs xs : List Int} {n : Nat} {r B : Int} (h : DivS zs xs 0 n r B) (hB : 0 < B) : val zs = val xs / B ∧ r = val xs % B := by
  have hv := h.v
  rw [List.drop_zero] at hv
  rw [← hv]
  have h0 := h.r0
  have h1 := h.r1
  constructor
  · rw [Int.add_comm, Int.add_mul_ediv_right _ _ (by omega), Int.ediv_eq_zero_of_lt h0 h1]; omega
  · rw [Int.add_comm, Int.add_mul_emod_self_right, Int.emod_eq_of_lt h0 h1]

/-- Shifted down by fewer than 16 bits. -/
def dn (s : Nat) : List Int → List Int
  | [] => []
  | x :: xs => (x + 65536 * xs.headD 0) / 2 ^ s % 65536 :: dn s xs
theorem dn_len (s : Nat) (xs : List Int) : (dn s xs).length = xs.length := by
  induction xs with
  | nil => rfl
  | cons x xs ih => simp [dn, ih]
theorem dn_ok (s : Nat) (xs : List Int) : okL (dn s xs) := by
  induction xs with
  | nil => exact okL_nil
  | cons x xs ih => exact okL_cons.2 ⟨⟨by omega, by omega⟩, ih⟩
theorem dn_arith (s : Nat) (x W W2 a : Int) (hs : s ≤ 15) (hx : 0 ≤ x) (hx1 : x ≤ 65535) (ha : 0 ≤ a) (ha1 : a ≤ 65535) (hW2 : 0 ≤ W2) (hW : W = a + 65536 * W2) :
    (x + 65536 * a) / 2 ^ s % 65536 + 65536 * (W / 2 ^ s) = (x + 65536 * W) / 2 ^ s := by
  rcases (show s = 0 ∨ s = 1 ∨ s = 2 ∨ s = 3 ∨ s = 4 ∨ s = 5 ∨ s = 6 ∨ s = 7 ∨ s = 8 ∨ s = 9 ∨ s = 10 ∨ s = 11 ∨ s = 12 ∨ s = 13 ∨ s = 14 ∨ s = 15 from by omega) with rfl | rfl | rfl | rfl | rfl | rfl | rfl | rfl | rfl | rfl | rfl | rfl | rfl | rfl | rfl | rfl <;> omega
theorem dn_val (s : Nat) (xs : List Int) (hs : s ≤ 15) (h : okL xs) : val (dn s xs) = val xs / 2 ^ s := by
  induction xs with
  | nil => simp [dn, val]
  | cons x xs ih =>
    rw [okL_cons] at h
    simp only [dn, val]
    rw [ih h.2]
    cases xs with
    | nil =>
      have := dn_arith s x 0 0 0 hs h.1.1 h.1.2 (by omega) (by omega) (by omega) (by omega)
      simpa [val] using this
    | cons y ys =>
      have h2 := okL_cons.1 h.2
      exact dn_arith s x _ (val ys) y hs h.1.1 h.1.2 h2.1.1 h2.1.2 (val_nonneg h2.2) rfl
theorem dn_drop (s : Nat) (xs : List Int) (k : Nat) : (dn s xs).drop k = dn s (xs.drop k) := by
  induction xs generalizing k with
  | nil => simp [dn]
  | cons x xs ih => cases k with
    | zero => rfl
    | succ k => simpa [dn] using ih k
theorem dn_get (s : Nat) (xs : List Int) (k : Nat) (h : k < xs.length) : (dn s xs).getD k 0 = (xs.getD k 0 + 65536 * xs.getD (k + 1) 0) / 2 ^ s % 65536 := by
  induction xs generalizing k with
  | nil => simp at h
  | cons x xs ih => cases k with
    | zero => cases xs <;> simp [dn]
    | succ k => simpa [dn] using ih k (by simpa using h)

/-- A digit that is guessed from three limbs and two. -/
structure Guess (d U V : Int) : Prop where
  d0 : 0 ≤ d
  d1 : d ≤ 65535
  le : d * V ≤ U
  gt : d = 65535 ∨ U < (d + 1) * V
/-- The three uppermost limbs of m + 1, the two uppermost ones of m. -/
theorem guess_near {P V U V2 C pl vl d : Int} (hg : Guess d U V2) (hC : 0 < C) (hP : P = pl + C * U) (hpl : 0 ≤ pl) (hpl1 : pl < C) (hV : V = vl + C * V2) (hvl : 0 ≤ vl) (hvl1 : vl < C) (hV2 : 65536 ≤ V2) (hlt : P < V * 65536) (hU : 0 ≤ U) :
    P / V ≤ d ∧ d ≤ P / V + 1 := by
  have hV0 : 0 < V := by
    have : C * 65536 ≤ C * V2 := Int.mul_le_mul_of_nonneg_left hV2 (by omega)
    omega
  have hP0 : 0 ≤ P := by
    have := Int.mul_nonneg (show 0 ≤ C by omega) hU
    omega
  obtain ⟨d0, d1, dle, dgt⟩ := hg
  have hq0 : 0 ≤ P / V := Int.ediv_nonneg hP0 (by omega)
  have hq1 : P / V < 65536 := Int.ediv_lt_of_lt_mul hV0 (by rw [Int.mul_comm]; exact hlt)
  have hqV : P / V * V ≤ P := Int.ediv_mul_le P (by omega)
  constructor
  · rcases dgt with h | h
    · omega
    · rcases Int.lt_or_le d (P / V) with hlt2 | hle
      · exfalso
        have h1 : (d + 1) * V ≤ P / V * V := Int.mul_le_mul_of_nonneg_right (by omega) (by omega)
        have h2 : (d + 1) * V = (d + 1) * vl + C * ((d + 1) * V2) := by rw [hV, Int.mul_add, ← Int.mul_assoc, Int.mul_comm (d + 1) C, Int.mul_assoc]
        have h3 : C * (U + 1) ≤ C * ((d + 1) * V2) := Int.mul_le_mul_of_nonneg_left (by omega) (by omega)
        have h4 : 0 ≤ (d + 1) * vl := Int.mul_nonneg (by omega) hvl
        have h5 : C * (U + 1) = C * U + C := by rw [Int.mul_add]; omega
        omega
      · exact hle
  · have hk : d - 1 ≤ P / V := by
      apply (Int.le_ediv_iff_mul_le hV0).2
      have h1 : (d - 1) * V = d * vl + C * (d * V2) - V := by
        rw [Int.sub_mul, Int.one_mul]
        have : d * V = d * vl + C * (d * V2) := by rw [hV, Int.mul_add, ← Int.mul_assoc, Int.mul_comm d C, Int.mul_assoc]
        omega
      have h2 : C * (d * V2) ≤ C * U := Int.mul_le_mul_of_nonneg_left dle (by omega)
      have h3 : d * vl ≤ 65535 * C := Int.mul_le_mul d1 (by omega) hvl (by omega)
      have h4 : C * 65536 ≤ C * V2 := Int.mul_le_mul_of_nonneg_left hV2 (by omega)
      omega
    omega
end Go.Proofs.YtdgonpbponnnaaaGreatDoor
