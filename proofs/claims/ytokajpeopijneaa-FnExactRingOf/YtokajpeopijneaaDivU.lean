/- Limbs shifted by fewer than 16 bits: the program's shiftUp and shiftDown, the specification's l1Up and l1Down. No condition beyond those typed. -/
import Derived.Test.YtokajpeopijneaaDivS
namespace Go.Proofs.Ytokajpeopijneaa
open Go.RowKit
set_option linter.unusedVariables false
set_option maxRecDepth 100000
set_option linter.unusedSimpArgs false

theorem Sl.at2 {w : World} {a : Option Addr} {xs : List Int} (h : Sl w a xs) {k : Nat} (hk : k < xs.length) : ∃ b off, a = some ⟨b, off, none⟩ ∧ b < w.heap.size ∧ w.cell? ⟨b, off + k, none⟩ = some (.int .i64 (xs.getD k 0)) := by
  rcases h with rfl | ⟨b, off, rfl, hb, hc⟩
  · simp at hk
  · exact ⟨b, off, rfl, hb, hc k hk⟩
/-- A call answers n + 1 limbs of V, a row of its own that may be written. -/
def OutR (w : World) (V : Int) (L : Nat) (e : Ending) (w' : World) : Prop :=
  ∃ g zs, e = .returned (.slice (some ⟨g, 0, none⟩) L L) ∧ w.heap.size ≤ g ∧ Below w.heap.size w w' ∧ w'.ownsRow w.heap.size 3 1 (.slice (some ⟨g, 0, none⟩) L L) L (zs.map (Value.int .i64)) ∧ zs.length = L ∧ okL zs ∧ val zs = V

theorem up_arith (s : Nat) (cy x : Int) (hs : s ≤ 15) (h0 : 0 ≤ cy) (h1 : cy < 2 ^ s) (hx : 0 ≤ x) (hx1 : x ≤ 65535) :
    (cy + x * 2 ^ s) % 65536 = cy + x * 2 ^ s % 65536 ∧ (cy + x * 2 ^ s) / 65536 = x * 2 ^ s / 65536 ∧ x * 2 ^ s % 65536 % 2 ^ s = 0 := by
  rcases (show s = 0 ∨ s = 1 ∨ s = 2 ∨ s = 3 ∨ s = 4 ∨ s = 5 ∨ s = 6 ∨ s = 7 ∨ s = 8 ∨ s = 9 ∨ s = 10 ∨ s = 11 ∨ s = 12 ∨ s = 13 ∨ s = 14 ∨ s = 15 from by omega) with rfl | rfl | rfl | rfl | rfl | rfl | rfl | rfl | rfl | rfl | rfl | rfl | rfl | rfl | rfl | rfl <;> (simp only [Int.reducePow] at *; omega)
theorem or_up (s : Nat) (cy x : Int) (hs : s ≤ 15) (h0 : 0 ≤ cy) (h1 : cy < 2 ^ s) (hx : 0 ≤ x) (hx1 : x ≤ 65535) : bits .or .i64 cy (x * 2 ^ s % 65536) = (cy + x * 2 ^ s) % 65536 := by
  obtain ⟨e1, e2, e3⟩ := up_arith s cy x hs h0 h1 hx hx1
  obtain ⟨p0, p1⟩ := pow2_le s hs
  rw [or_commI, bits_join .i64 63 (by decide) wraps_i64 s (x * 2 ^ s % 65536) cy (by omega) e3 (by omega) h0 h1 (by omega), e1]
  omega
theorem rowL_more (zs : List Int) (n : Nat) (h : zs.length < n) : rowL (zs ++ [0]) n = rowL zs n := by
  rw [← rowL_set zs n 0 h]
  apply List.ext_getElem?
  intro i
  rw [List.getElem?_set]
  split
  · rename_i e
    subst e
    rw [rowL_len _ _ (by omega), if_pos h]
    unfold rowL
    rw [List.getElem?_append_right (Nat.le_refl _), Nat.sub_self, show n - zs.length = (n - zs.length - 1) + 1 by omega, List.replicate_succ]
    rfl
  · rfl
theorem rowL_snoc2 (zs : List Int) (c d : Int) (n : Nat) (h : zs.length + 1 < n) : ((rowL (zs ++ [c]) n).set zs.length d) = rowL (zs ++ [d]) n := by
  rw [← rowL_set zs n c (by omega), ← rowL_set zs n d (by omega), List.set_set]

theorem dn_step (s : Nat) (xs : List Int) (j : Nat) (h : j < xs.length) : dn s (xs.drop j) = (xs.getD j 0 + 65536 * xs.getD (j + 1) 0) / 2 ^ s % 65536 :: dn s (xs.drop (j + 1)) := by
  rw [List.drop_eq_getElem_cons h]
  simp only [dn]
  congr 1
  · congr 2
    rw [show xs[j] = xs.getD j 0 by simp [h]]
    congr 2
    cases hd : xs.drop (j + 1) with
    | nil =>
      have : xs.length ≤ j + 1 := List.drop_eq_nil_iff.1 hd
      simp [show ¬ j + 1 < xs.length by omega]
    | cons y ys =>
      have : j + 1 < xs.length := by
        rcases Nat.lt_or_ge (j + 1) xs.length with h' | h'
        · exact h'
        · rw [List.drop_of_length_le h'] at hd; cases hd
      rw [List.drop_eq_getElem_cons this] at hd
      simp only [List.cons.injEq] at hd
      simp [this, hd.1]

theorem dn_take (s : Nat) (xs : List Int) (k : Nat) (h : k < xs.length) : (dn s xs).take (k + 1) = (dn s xs).take k ++ [(xs.getD k 0 + 65536 * xs.getD (k + 1) 0) / 2 ^ s % 65536] := by
  rw [take_succ' (by rw [dn_len]; exact h), dn_get s xs k h]

end Go.Proofs.Ytokajpeopijneaa
