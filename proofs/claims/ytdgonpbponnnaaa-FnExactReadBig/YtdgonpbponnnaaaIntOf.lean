/- IntOf: the program's and the specification's answer the same pair at every number. No condition beyond those typed. -/
import Derived.Test.YtdgonpbponnnaaaBigOfI
import Derived.Test.YtdgonpbponnnaaaDrop
namespace Go.Proofs.Ytdgonpbponnnaaa
open Go.RowKit
set_option linter.unusedVariables false
set_option maxRecDepth 100000
set_option linter.unusedSimpArgs false

def intOk (g : Bool) (xs : List Int) : Bool := goodB g xs && decide (val xs ≤ 4611686018427387904)
def intV (g : Bool) (xs : List Int) : Int := if intOk g xs then sv g xs else 0
theorem below_one' {w w1 : World} {o : Obj} (h : Below (w.alloc o).heap.size (w.alloc o) w1) : Below w.heap.size w w1 := ((Below.refl _ _).alloc (Nat.le_refl _) o).trans (h.mono (by simp))

theorem or_comm64 (a b : Int) : bits .or .u64 a b = bits .or .u64 b a := by simp only [bits, BitVec.or_comm]
theorem wraps64 (n : Int) (h₀ : 0 ≤ n) (h₁ : n < 2 ^ 64) : IntKind.u64.wrap n = n := by rw [IntKind.wrap_u64]; omega
theorem or_join (k : Nat) (F x : Int) (hk : k ≤ 3) (h0 : 0 ≤ F) (h1 : F < 65536 ^ k) (hx0 : 0 ≤ x) (hx1 : x ≤ 65535) :
    bits .or .u64 F (IntKind.u64.wrap (x * 2 ^ (k * 16))) = F + 65536 ^ k * x := by
  rcases (show k = 0 ∨ k = 1 ∨ k = 2 ∨ k = 3 from by omega) with rfl | rfl | rfl | rfl
  · have e : x * 2 ^ (0 * 16) = x := by simp
    rw [e, wraps64 x hx0 (by omega), or_comm64, bits_join .u64 64 (by decide) wraps64 0 x F hx0 (by simp) (by omega) h0 (by simpa using h1) (by simp at h1; omega)]
    simp; omega
  · have e : x * 2 ^ (1 * 16) = x * 65536 := by simp
    have h1' : F < 65536 := by simpa using h1
    rw [e, wraps64 (x * 65536) (by omega) (by omega), or_comm64, bits_join .u64 64 (by decide) wraps64 16 (x * 65536) F (by omega) (by omega) (by omega) h0 (by omega) (by omega)]
    simp; omega
  · have e : x * 2 ^ (2 * 16) = x * 4294967296 := by simp
    have h1' : F < 4294967296 := by simpa using h1
    rw [e, wraps64 (x * 4294967296) (by omega) (by omega), or_comm64, bits_join .u64 64 (by decide) wraps64 32 (x * 4294967296) F (by omega) (by omega) (by omega) h0 (by omega) (by omega)]
    simp; omega
  · have e : x * 2 ^ (3 * 16) = x * 281474976710656 := by simp
    have h1' : F < 281474976710656 := by simpa using h1
    rw [e, wraps64 (x * 281474976710656) (by omega) (by omega), or_comm64, bits_join .u64 64 (by decide) wraps64 48 (x * 281474976710656) F (by omega) (by omega) (by omega) h0 (by omega) (by omega)]
    simp; omega
theorem int_long {g : Bool} {xs : List Int} (hg : goodB g xs = true) (h : 4 < xs.length) : intOk g xs = false := by
  obtain ⟨h1, h2, _, _⟩ := good_parts hg
  have h3 := top_le h1 h2 (by omega)
  have h4 := pow_mono (show 4 ≤ xs.length - 1 by omega)
  have h5 : (65536 : Int) ^ 4 = 18446744073709551616 := by decide
  have h6 : ¬ val xs ≤ 4611686018427387904 := by omega
  simp [intOk, h6]
theorem int_bad {g : Bool} {xs : List Int} (hg : goodB g xs = false) : intOk g xs = false := by simp [intOk, hg]
theorem int_great {g : Bool} {xs : List Int} (h : 4611686018427387904 < val xs) : intOk g xs = false := by
  have h6 : ¬ val xs ≤ 4611686018427387904 := by omega
  simp [intOk, h6]
theorem int_fits {g : Bool} {xs : List Int} (hg : goodB g xs = true) (h : val xs ≤ 4611686018427387904) : intOk g xs = true := by simp [intOk, hg, h]
theorem ret_pair {v : Int} {b : Bool} {v' : Int} {b' : Bool} (h1 : v = v') (h2 : b = b') : Ending.returned (.tuple #[.int .i64 v, .bool b]) = .returned (.tuple #[.int .i64 v', .bool b']) := by rw [h1, h2]
theorem int_no {g : Bool} {xs : List Int} (h : intOk g xs = false) : intV g xs = 0 := by simp [intV, h]
theorem int_yes {g : Bool} {xs : List Int} (h : intOk g xs = true) : intV g xs = sv g xs := by simp [intV, h]

end Go.Proofs.Ytdgonpbponnnaaa
