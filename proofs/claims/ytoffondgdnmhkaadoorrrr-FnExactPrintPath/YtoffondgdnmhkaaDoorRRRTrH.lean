/- Triangles (three numbers) and slices of them: what the laws' functions on them answer. No condition beyond those typed. Written by mktr11.py. -/
import Derived.Test.YtoffondgdnmhkaaDoorRRRPtM
namespace Go.Proofs.YtoffondgdnmhkaaDoorRRR
open Go.RowKit
set_option linter.unusedVariables false
set_option maxRecDepth 100000
set_option linter.unusedSimpArgs false

/-- A slice that reads as these points. -/
def SlT (w : World) (a : Option Addr) (l : List (Int × Int × Int)) : Prop := l = [] ∨ ∃ b off, a = some ⟨b, off, none⟩ ∧ b < w.heap.size ∧ ∀ i (h : i < l.length), w.cell? ⟨b, off + i * 3, none⟩ = some (.int .i64 l[i].1) ∧ w.cell? ⟨b, off + i * 3 + 1, none⟩ = some (.int .i64 l[i].2.1) ∧ w.cell? ⟨b, off + i * 3 + 2, none⟩ = some (.int .i64 l[i].2.2)
theorem SlT.later {w w' : World} {a : Option Addr} {l : List (Int × Int × Int)} (h : SlT w a l) (hb : Below w.heap.size w w') : SlT w' a l := by
  rcases h with h | ⟨b, off, rfl, h1, h2⟩
  · exact .inl h
  · exact .inr ⟨b, off, rfl, Nat.lt_of_lt_of_le h1 hb.size, fun i hi => ⟨cell_later hb ((h2 i hi).1), cell_later hb ((h2 i hi).2.1), cell_later hb ((h2 i hi).2.2)⟩⟩
/-- .. as an argument. -/
structure ArT (w : World) (a : Option Addr) (n c : Nat) (l : List (Int × Int × Int)) : Prop where
  sl : SlT w a l
  len : l.length = n
  cap : n ≤ c
  top : c ≤ maxLen
theorem ArT.later {w w' : World} {a : Option Addr} {n c : Nat} {l : List (Int × Int × Int)} (h : ArT w a n c l) (hb : Below w.heap.size w w') : ArT w' a n c l := ⟨h.sl.later hb, h.len, h.cap, h.top⟩
theorem take_succT {l : List (Int × Int × Int)} {i : Nat} (h : i < l.length) : l.take (i + 1) = l.take i ++ [l[i]] := (List.take_append_getElem h).symm
theorem but_rowT {w : World} {G k : Nat} {x y z : Value} : But G (G + 1) w (((w.setCell ⟨G, k * 3, none⟩ x).setCell ⟨G, k * 3 + 1, none⟩ y).setCell ⟨G, k * 3 + 2, none⟩ z) := ((((But.refl _ _ _).set (p := ⟨G, k * 3, none⟩) (Nat.le_refl G) (Nat.lt_succ_self G) x).set (p := ⟨G, k * 3 + 1, none⟩) (Nat.le_refl G) (Nat.lt_succ_self G) y).set (p := ⟨G, k * 3 + 2, none⟩) (Nat.le_refl G) (Nat.lt_succ_self G) z)
theorem set_rowT {M : List Value} {us : List (Int × Int × Int)} {n k : Nat} {x y z : Int} (hM : M.length = n * 3) (hk : k < n) (hu : us.length = k) (h : ∀ i (h : i < us.length), M[i * 3]? = some (.int .i64 us[i].1) ∧ M[i * 3 + 1]? = some (.int .i64 us[i].2.1) ∧ M[i * 3 + 2]? = some (.int .i64 us[i].2.2)) :
    ∀ i (h : i < (us ++ [(x, y, z)]).length), (((M.set (k * 3) (.int .i64 x)).set (k * 3 + 1) (.int .i64 y)).set (k * 3 + 2) (.int .i64 z))[i * 3]? = some (.int .i64 (us ++ [(x, y, z)])[i].1) ∧ (((M.set (k * 3) (.int .i64 x)).set (k * 3 + 1) (.int .i64 y)).set (k * 3 + 2) (.int .i64 z))[i * 3 + 1]? = some (.int .i64 (us ++ [(x, y, z)])[i].2.1) ∧ (((M.set (k * 3) (.int .i64 x)).set (k * 3 + 1) (.int .i64 y)).set (k * 3 + 2) (.int .i64 z))[i * 3 + 2]? = some (.int .i64 (us ++ [(x, y, z)])[i].2.2) := by
  intro i hi
  by_cases e : i < k
  · have hi' : i < us.length := by omega
    have h1 := h i hi'
    rw [List.getElem_append_left hi']
    simp only [List.getElem?_set]
    refine ⟨?_, ?_, ?_⟩
    · rw [if_neg (by omega), if_neg (by omega), if_neg (by omega)]; exact h1.1
    · rw [if_neg (by omega), if_neg (by omega), if_neg (by omega)]; exact h1.2.1
    · rw [if_neg (by omega), if_neg (by omega), if_neg (by omega)]; exact h1.2.2
  · obtain rfl : i = k := by simp at hi; omega
    subst hu
    rw [List.getElem_append_right (Nat.le_refl _)]
    simp only [Nat.sub_self, List.getElem_cons_zero]
    refine ⟨?_, ?_, ?_⟩
    · simp only [List.getElem?_set, List.length_set]; rw [if_neg (by omega), if_neg (by omega)]; rw [if_pos trivial, if_pos (by omega)]
    · simp only [List.getElem?_set, List.length_set]; rw [if_neg (by omega)]; rw [if_pos trivial, if_pos (by omega)]
    · simp only [List.getElem?_set, List.length_set]; rw [if_pos trivial, if_pos (by omega)]
/-- n triangles that bear the numbers from k on. -/
def mk3 (k : Int) (n : Nat) : List (Int × Int × Int) := (List.range n).map (fun i : Nat => (k + 3 * (i : Int), k + 3 * (i : Int) + 1, k + 3 * (i : Int) + 2))
theorem mk3_len (k : Int) (n : Nat) : (mk3 k n).length = n := by simp [mk3]
theorem mk3_at {k : Int} {n i : Nat} (h : i < (mk3 k n).length) : (mk3 k n)[i] = (k + 3 * (i : Int), k + 3 * (i : Int) + 1, k + 3 * (i : Int) + 2) := by simp [mk3]
end Go.Proofs.YtoffondgdnmhkaaDoorRRR
