/- IntOf: the program's and the specification's answer the same pair at every number. No condition beyond those typed. -/
import Derived.Test.YtidhncaeknipoaaBigOfI
namespace Go.Proofs.Ytidhncaeknipoaa
open Go.RowKit
set_option linter.unusedVariables false
set_option linter.unusedSimpArgs false

def intOk (g : Bool) (xs : List Int) : Bool := goodB g xs && decide (val xs ≤ 4611686018427387904)
def intV (g : Bool) (xs : List Int) : Int := if intOk g xs then sv g xs else 0
theorem below_one' {w w1 : World} {o : Obj} (h : Below (w.alloc o).heap.size (w.alloc o) w1) : Below w.heap.size w w1 := ((Below.refl _ _).alloc (Nat.le_refl _) o).trans (h.mono (by simp))

theorem or_comm64 (a b : Int) : bits .or .u64 a b = bits .or .u64 b a := by simp only [bits, BitVec.or_comm]
theorem wraps64 (n : Int) (h₀ : 0 ≤ n) (h₁ : n < 2 ^ 64) : IntKind.u64.wrap n = n := by rw [IntKind.wrap_u64]; omega
theorem or_join (k : Nat) (F x : Int) (hk : k ≤ 3) (h0 : 0 ≤ F) (h1 : F < 65536 ^ k) (hx0 : 0 ≤ x) (hx1 : x ≤ 65535) :
    bits .or .u64 F (IntKind.u64.wrap (x * 2 ^ (k * 16))) = F + 65536 ^ k * x := by
  rcases (show k = 0 ∨ k = 1 ∨ k = 2 ∨ k = 3 from by omega) with rfl | rfl | rfl | rfl
  · have e : x * 2 ^ (0 * 16) = x := by simp
    rw [e, wraps64 x hx0 (by omega), or_comm64, bits_join .u64 64 (by decide) wraps64 0 x F hx0 (by simp) (by omega) h0 (by simpa using h1) (by simp at h1; omega)]
    simp; omega
  · have e : x * 2 ^ (1 * 16) = x * 65536 := by simp
    have h1' : F < 65536 := by simpa using h1
    rw [e, wraps64 (x * 65536) (by omega) (by omega), or_comm64, bits_join .u64 64 (by decide) wraps64 16 (x * 65536) F (by omega) (by omega) (by omega) h0 (by omega) (by omega)]
    simp; omega
  · have e : x * 2 ^ (2 * 16) = x * 4294967296 := by simp
    have h1' : F < 4294967296 := by simpa using h1
    rw [e, wraps64 (x * 4294967296) (by omega) (by omega), or_comm64, bits_join .u64 64 (by decide) wraps64 32 (x * 4294967296) F (by omega) (by omega) (by omega) h0 (by omega) (by omega)]
    simp; omega
  · have e : x * 2 ^ (3 * 16) = x * 281474976710656 := by simp
    have h1' : F < 281474976710656 := by simpa using h1
    rw [e, wraps64 (x * 281474976710656) (by omega) (by omega), or_comm64, bits_join .u64 64 (by decide) wraps64 48 (x * 281474976710656) F (by omega) (by omega) (by omega) h0 (by omega) (by omega)]
    simp; omega
theorem val_drop (xs : List Int) (k : Nat) : val xs = val (xs.take k) + 65536 ^ (xs.take k).length * val (xs.drop k) := by
  rw [← val_append, List.take_append_drop]
theorem val_drop_le {xs : List Int} (h : okL xs) (k : Nat) : val (xs.drop k) ≤ val xs := by
  rw [val_drop xs k]
  have h1 := val_nonneg (okL_take h k)
  have h2 := val_nonneg (okL_drop h k)
  have h3 : (1 : Int) ≤ 65536 ^ (xs.take k).length := Int.pow_pos (by omega)
  have h4 : 1 * val (xs.drop k) ≤ 65536 ^ (xs.take k).length * val (xs.drop k) := Int.mul_le_mul_of_nonneg_right h3 h2
  omega
theorem drop_succ {xs : List Int} {k : Nat} (h : k < xs.length) : val (xs.drop k) = xs.getD k 0 + 65536 * val (xs.drop (k + 1)) := by
  rw [List.drop_eq_getElem_cons h]
  simp [val, h]
theorem int_long {g : Bool} {xs : List Int} (hg : goodB g xs = true) (h : 4 < xs.length) : intOk g xs = false := by
  obtain ⟨h1, h2, _, _⟩ := good_parts hg
  have h3 := top_le h1 h2 (by omega)
  have h4 := pow_mono (show 4 ≤ xs.length - 1 by omega)
  have h5 : (65536 : Int) ^ 4 = 18446744073709551616 := by decide
  have h6 : ¬ val xs ≤ 4611686018427387904 := by omega
  simp [intOk, h6]
theorem int_bad {g : Bool} {xs : List Int} (hg : goodB g xs = false) : intOk g xs = false := by simp [intOk, hg]
theorem int_great {g : Bool} {xs : List Int} (h : 4611686018427387904 < val xs) : intOk g xs = false := by
  have h6 : ¬ val xs ≤ 4611686018427387904 := by omega
  simp [intOk, h6]
theorem int_fits {g : Bool} {xs : List Int} (hg : goodB g xs = true) (h : val xs ≤ 4611686018427387904) : intOk g xs = true := by simp [intOk, hg, h]
theorem ret_pair {v : Int} {b : Bool} {v' : Int} {b' : Bool} (h1 : v = v') (h2 : b = b') : Ending.returned (.tuple #[.int .i64 v, .bool b]) = .returned (.tuple #[.int .i64 v', .bool b']) := by rw [h1, h2]
theorem int_no {g : Bool} {xs : List Int} (h : intOk g xs = false) : intV g xs = 0 := by simp [intV, h]
theorem int_yes {g : Bool} {xs : List Int} (h : intOk g xs = true) : intV g xs = sv g xs := by simp [intV, h]

set_option maxHeartbeats 4000000 in
theorem intI_loop (g : Bool) (a : Option Addr) (n c : Nat) (xs : List Int) (w : World) (hx : Arg w a n c xs) (hg : goodB g xs = true) (hn4 : n ≤ 4) :
    Calls Try.prog 29 #[.agg #[.bool g, .slice a n c]] w fun e w' => e = .returned (.tuple #[.int .i64 (intV g xs), .bool (intOk g xs)]) ∧ Below w.heap.size w w' := by
  have HX := hide hx
  have HG := hide hg
  have ox := (good_parts hg).1
  clear hx
  have d1 : ¬ ((64 : Int) < (n : Int) * 16) := by omega
  go_enter Try.func29, Try.ntmps29
  go_wp2_with fail
  refine (goodI_any g a n c xs _ ((unhide HX).later ((Below.refl _ _).alloc (Nat.le_refl _) _)).sl (unhide HX).len (Nat.le_trans (unhide HX).cap (unhide HX).top)).mono ?_
  rintro e w1 ⟨rfl, hb1⟩
  have x0 : w1.cell? ⟨w.heap.size, 0, none⟩ = some (.bool g) := cell_later hb1 (by simp [go_sem])
  have x1 : w1.cell? ⟨w.heap.size, 1, none⟩ = some (.slice a n c) := cell_later hb1 (by simp [go_sem])
  have HB := hide (below_one' hb1)
  clear hb1
  rw [hg]
  clear hg
  go_wp2
  go_loop [4, 20] (fun fv iv => ∃ (k : Nat) (F : Int), k ≤ n ∧ iv = .int .i64 k ∧ fv = .int .u64 F ∧ Hid (F = val (xs.take k))) (fun _ iv => n - (intOf iv).toNat)
  case atStart => exact ⟨0, 0, Nat.zero_le _, rfl, rfl, hide (by simp [val])⟩
  case round =>
    obtain ⟨k, F, hk, rfl, rfl, HF⟩ := hrel
    by_cases hlt : k < n
    · obtain ⟨b, off, rfl, hcx⟩ := ((unhide HX).sl.later (Nat.le_refl _) (unhide HB)).at (k := k) (by rw [(unhide HX).len]; exact hlt)
      have hxb := okL_get ox k
      have HV := hide (val_take_succ xs k)
      generalize xs.getD k 0 = x at *
      obtain ⟨hx0, hx1⟩ := hxb
      have hlt' : (k : Int) < (n : Int) := by omega
      have HF0 := hide (show 0 ≤ F by rw [unhide HF]; exact val_nonneg (okL_take ox k))
      have HF1 := hide (show F < 65536 ^ k by
        rw [unhide HF]
        have h1 := val_lt (okL_take ox k)
        rw [List.length_take, Nat.min_eq_left (by rw [(unhide HX).len]; omega)] at h1
        exact h1)
      have HJ := hide (or_join k F x (by omega) (unhide HF0) (unhide HF1) hx0 hx1)
      go_wp2
      go_round
      case rel => exact ⟨k + 1, _, by omega, by go_num, rfl, hide (by rw [unhide HJ, unhide HV, unhide HF])⟩
      case measure => simp [intOf]; omega
    · obtain rfl : k = n := by omega
      have HT := hide (List.take_of_length_le (l := xs) (i := k) (by rw [(unhide HX).len]; exact Nat.le_refl _))
      have HFv : Hid (F = val xs) := hide (by rw [unhide HF, unhide HT])
      have F0 : 0 ≤ F := by rw [unhide HFv]; exact val_nonneg ox
      by_cases hbig : 4611686018427387904 < F
      · go_wp2
        go_ret2
        have h2 := int_great (g := g) (xs := xs) (by rw [← unhide HFv]; exact hbig)
        exact ⟨ret_pair (int_no h2).symm h2.symm, unhide HB⟩
      · have h2 := hide (int_fits (unhide HG) (by rw [← unhide HFv]; omega))
        cases g
        · go_wp2
          go_ret2
          exact ⟨ret_pair (by rw [int_yes (unhide h2), unhide HFv]; rfl) (unhide h2).symm, unhide HB⟩
        · go_wp2
          go_ret2
          exact ⟨ret_pair (by rw [int_yes (unhide h2), unhide HFv]; rfl) (unhide h2).symm, unhide HB⟩

set_option maxHeartbeats 4000000 in
theorem intI_any (g : Bool) (a : Option Addr) (n c : Nat) (xs : List Int) (w : World) (hx : Arg w a n c xs) (h1 : n ≤ 1048576) :
    Calls Try.prog 29 #[.agg #[.bool g, .slice a n c]] w fun e w' => e = .returned (.tuple #[.int .i64 (intV g xs), .bool (intOk g xs)]) ∧ Below w.heap.size w w' := by
  cases hg : goodB g xs
  · have h2 := int_bad hg
    rw [int_no h2, h2]
    have HX := hide hx
    clear hx h2
    go_enter Try.func29, Try.ntmps29
    go_wp2_with fail
    refine (goodI_any g a n c xs _ ((unhide HX).later ((Below.refl _ _).alloc (Nat.le_refl _) _)).sl (unhide HX).len (Nat.le_trans (unhide HX).cap (unhide HX).top)).mono ?_
    rintro e w1 ⟨rfl, hb1⟩
    rw [hg]
    have HB := hide (below_one' hb1)
    clear hb1 hg
    go_wp2
    go_ret2
    exact ⟨rfl, unhide HB⟩
  · by_cases h4 : n ≤ 4
    · exact intI_loop g a n c xs w hx hg h4
    · have h2 := int_long hg (by rw [hx.len]; omega)
      rw [int_no h2, h2]
      have HX := hide hx
      clear hx h2
      have d1 : (64 : Int) < (n : Int) * 16 := by omega
      go_enter Try.func29, Try.ntmps29
      go_wp2_with fail
      refine (goodI_any g a n c xs _ ((unhide HX).later ((Below.refl _ _).alloc (Nat.le_refl _) _)).sl (unhide HX).len (Nat.le_trans (unhide HX).cap (unhide HX).top)).mono ?_
      rintro e w1 ⟨rfl, hb1⟩
      rw [hg]
      have x1 : w1.cell? ⟨w.heap.size, 1, none⟩ = some (.slice a n c) := cell_later hb1 (by simp [go_sem])
      have HB := hide (below_one' hb1)
      clear hb1 hg
      go_wp2
      go_ret2
      exact ⟨rfl, unhide HB⟩
end Go.Proofs.Ytidhncaeknipoaa
