/- Products by halves: the program's mulByHalves answers the product. No condition beyond those typed. -/
import Derived.Test.YtdgonpbponnnaaaHalvI
import Derived.Test.YtdgonpbponnnaaaIntOf
namespace Go.Proofs.Ytdgonpbponnnaaa
open Go.RowKit
set_option linter.unusedVariables false
set_option maxRecDepth 100000
set_option linter.unusedSimpArgs false

theorem trim_drop {xs : List Int} (h : trim xs = xs) (k : Nat) : trim (xs.drop k) = xs.drop k := by
  induction xs generalizing k with
  | nil => simp [trim]
  | cons x xs ih =>
    cases k with
    | zero => simpa using h
    | succ k =>
      have h' : (if trim xs = [] ∧ x = 0 then [] else x :: trim xs) = x :: xs := h
      split at h'
      · cases h'
      · exact ih (by simpa using h') k
theorem part_val (xs : List Int) (k : Nat) : val xs = val (xs.take k) + 65536 ^ k * val (xs.drop k) := by
  by_cases h : k ≤ xs.length
  · have := val_drop xs k
    rwa [List.length_take, Nat.min_eq_left h] at this
  · rw [List.drop_of_length_le (by omega), List.take_of_length_le (by omega)]
    simp [val]
theorem kara (L H L' H' P : Int) : L * L' + (P * ((L + H) * (L' + H') - L * L' - H * H') + P * P * (H * H')) = (L + P * H) * (L' + P * H') := by
  simp only [Int.mul_add, Int.add_mul, Int.mul_sub, Int.mul_assoc, Int.mul_comm, Int.mul_left_comm]
  omega

/-- The slice reads the limbs of V. -/
structure At (w : World) (a : Option Addr) (n c : Nat) (zs : List Int) (V : Int) : Prop where
  arg : Arg w a n c zs
  nm : Nm zs V
theorem At.later {w w' : World} {a : Option Addr} {n c : Nat} {zs : List Int} {V : Int} (h : At w a n c zs V) (hb : Below w.heap.size w w') : At w' a n c zs V := ⟨h.arg.later hb, h.nm⟩
theorem At.le {w w' : World} {a a' : Option Addr} {n n' c c' : Nat} {zs zs' : List Int} {V V' : Int} (h : At w a n c zs V) (k : At w' a' n' c' zs' V') (hV : V ≤ V') : n ≤ n' := by
  rw [← h.arg.len, ← k.arg.len]
  exact len_of_val k.nm.ok h.nm.ok h.nm.tr (by rw [h.nm.v, k.nm.v]; exact hV)

theorem len_mul {w w' w'' : World} {a a' a'' : Option Addr} {n n' n'' c c' c'' : Nat} {zs zs' zs'' : List Int} {U V : Int} (h : At w a n c zs U) (k : At w' a' n' c' zs' V) (q : At w'' a'' n'' c'' zs'' (U * V)) : n'' ≤ n + n' := by
  have h1 := val_lt h.nm.ok
  have h2 := val_lt k.nm.ok
  rw [h.nm.v, h.arg.len] at h1
  rw [k.nm.v, k.arg.len] at h2
  by_cases h0 : n'' = 0
  · omega
  have h3 := top_le q.nm.ok q.nm.tr (by rw [q.arg.len]; omega)
  rw [q.nm.v, q.arg.len] at h3
  by_cases hl : n'' ≤ n + n'
  · exact hl
  · have p1 := h.nm.nonneg
    have p2 := k.nm.nonneg
    have pk : (0 : Int) < 65536 ^ n' := Int.pow_pos (by omega)
    have pn : (0 : Int) < 65536 ^ n := Int.pow_pos (by omega)
    have h4 : U * V ≤ U * 65536 ^ n' := Int.mul_le_mul_of_nonneg_left (by omega) p1
    have h5 : U * 65536 ^ n' < 65536 ^ n * 65536 ^ n' := Int.mul_lt_mul_of_pos_right h1 pk
    rw [← Int.pow_add] at h5
    have h6 := pow_mono (show n + n' ≤ n'' - 1 by omega)
    omega
theorem add_len2 {zs us vs : List Int} {N : Nat} (h : Nm zs (val us + val vs)) (ou : okL us) (ov : okL vs) (hu : us.length ≤ N) (hv : vs.length ≤ N) : zs.length ≤ N + 1 := by
  by_cases hl : zs.length ≤ N + 1
  · exact hl
  · have q1 := top_le h.ok h.tr (by omega)
    rw [h.v] at q1
    have q2 := val_lt ou
    have q3 := val_lt ov
    have q4 := pow_mono hu
    have q5 := pow_mono hv
    have q6 := pow_mono (show N + 1 ≤ zs.length - 1 by omega)
    rw [Int.pow_succ] at q6
    have q7 : (0 : Int) < 65536 ^ N := Int.pow_pos (by omega)
    omega

theorem mid_le {L H L' H' : Int} (l : 0 ≤ L) (h : 0 ≤ H) (l' : 0 ≤ L') (h' : 0 ≤ H') : L * L' ≤ (L + H) * (L' + H') ∧ H * H' ≤ (L + H) * (L' + H') - L * L' := by
  have e : (L + H) * (L' + H') = L * L' + H * L' + (L * H' + H * H') := by simp only [Int.mul_add, Int.add_mul]
  have p1 := Int.mul_nonneg l h'
  have p2 := Int.mul_nonneg h l'
  have p3 := Int.mul_nonneg h h'
  omega

end Go.Proofs.Ytdgonpbponnnaaa
