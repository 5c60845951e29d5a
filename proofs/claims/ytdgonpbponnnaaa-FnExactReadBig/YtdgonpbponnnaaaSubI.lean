/- Differences of limbs: the program's subLimbs (over slices.Clone). No condition beyond those typed. -/
import Derived.Test.YtdgonpbponnnaaaAddI
namespace Go.Proofs.Ytdgonpbponnnaaa
open Go.RowKit
set_option linter.unusedVariables false
set_option maxRecDepth 100000
set_option linter.unusedSimpArgs false

theorem mix_owns {w : World} {base g n cap k : Nat} {zs xs : List Int} (h : w.ownsRow base 3 1 (.slice (some ⟨g, 0, none⟩) n cap) n ((zs ++ xs.drop k).map (Value.int .i64))) (hk : zs.length = k) (hkn : k < n) (hn : xs.length = n) (d : Int) :
    w.cell? ⟨g, k, none⟩ = some (.int .i64 (xs.getD k 0)) ∧ w.frozen? ⟨g, k, none⟩ = false ∧
    (w.setCell ⟨g, k, none⟩ (.int .i64 d)).ownsRow base 3 1 (.slice (some ⟨g, 0, none⟩) n cap) n (((zs ++ [d]) ++ xs.drop (k + 1)).map (Value.int .i64)) := by
  refine ⟨?_, h.frozenAt k, ?_⟩
  · rw [h.cellAt k (by omega)]
    simp only [List.getElem?_map, List.getElem?_append, hk, Nat.lt_irrefl, if_false, Nat.sub_self, List.getElem?_drop, Nat.add_zero]
    rw [List.getElem?_eq_getElem (by omega)]
    simp [show k < xs.length by omega]
  · have e : (zs ++ xs.drop k).set k d = (zs ++ [d]) ++ xs.drop (k + 1) := by
      rw [List.set_append_right _ _ (by omega), hk, Nat.sub_self, List.drop_eq_getElem_cons (show k < xs.length by omega), List.set_cons_zero]
      simp
    rw [← e, List.map_set]
    exact (h.stored k (.int .i64 d)).1

/-- Behind a difference that is not below 0 nothing is left to be taken. -/
theorem Acc.full {zs : List Int} {n : Nat} {cy V : Int} (h : Acc zs n cy V) (hV : 0 ≤ V) (h1 : V < 65536 ^ n) : cy = 0 ∧ val zs = V := by
  have e := h.v
  have l1 := val_nonneg h.ok
  have l2 := val_lt h.ok
  rw [h.len] at l2
  have hp : (0 : Int) < 65536 ^ n := Int.pow_pos (by omega)
  have hc : cy = 0 := by
    rcases Int.lt_trichotomy cy 0 with hc | hc | hc
    · have : 65536 ^ n * cy ≤ 65536 ^ n * (-1) := Int.mul_le_mul_of_nonneg_left (by omega) (by omega)
      omega
    · exact hc
    · have : 65536 ^ n * 1 ≤ 65536 ^ n * cy := Int.mul_le_mul_of_nonneg_left (by omega) (by omega)
      omega
  subst hc
  simp at e
  exact ⟨rfl, e⟩

end Go.Proofs.Ytdgonpbponnnaaa
