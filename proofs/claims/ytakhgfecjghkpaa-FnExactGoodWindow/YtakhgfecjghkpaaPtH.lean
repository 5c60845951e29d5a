/- Points and slices of points: what the laws' functions on them answer. No condition beyond those typed. -/
import Derived.Test.YtakhgfecjghkpaaTo
import Derived.Test.YtakhgfecjghkpaaMark
import Derived.Deep.RegionHeld3
namespace Go.Proofs.Ytakhgfecjghkpaa
open Go.RowKit
set_option linter.unusedVariables false
set_option maxRecDepth 100000
set_option linter.unusedSimpArgs false

/-- A slice that reads as these points. -/
def SlP (w : World) (a : Option Addr) (l : List (Int × Int)) : Prop := l = [] ∨ ∃ b off, a = some ⟨b, off, none⟩ ∧ b < w.heap.size ∧ ∀ i (h : i < l.length), w.cell? ⟨b, off + i * 2, none⟩ = some (.int .i64 l[i].1) ∧ w.cell? ⟨b, off + i * 2 + 1, none⟩ = some (.int .i64 l[i].2)
theorem SlP.later {w w' : World} {a : Option Addr} {l : List (Int × Int)} (h : SlP w a l) (hb : Below w.heap.size w w') : SlP w' a l := by
  rcases h with h | ⟨b, off, rfl, h1, h2⟩
  · exact .inl h
  · exact .inr ⟨b, off, rfl, Nat.lt_of_lt_of_le h1 hb.size, fun i hi => ⟨cell_later hb ((h2 i hi).1), cell_later hb ((h2 i hi).2)⟩⟩
/-- .. as an argument. -/
structure ArP (w : World) (a : Option Addr) (n c : Nat) (l : List (Int × Int)) : Prop where
  sl : SlP w a l
  len : l.length = n
  cap : n ≤ c
  top : c ≤ maxLen
theorem ArP.later {w w' : World} {a : Option Addr} {n c : Nat} {l : List (Int × Int)} (h : ArP w a n c l) (hb : Below w.heap.size w w') : ArP w' a n c l := ⟨h.sl.later hb, h.len, h.cap, h.top⟩
theorem cdP {w : World} {b o : Nat} {v : Value} (h : w.cell? ⟨b, o, none⟩ = some v) : w.drew.cell? ⟨b, o, none⟩ = some v := h
theorem take_succP {l : List (Int × Int)} {i : Nat} (h : i < l.length) : l.take (i + 1) = l.take i ++ [l[i]] := (List.take_append_getElem h).symm
theorem ownsRow_laterP {w w' : World} {G g n c size : Nat} {e : TypeId} {M : List Value} (h : w.ownsRow G e size (.slice (some ⟨g, 0, none⟩) n c) n M) (hb : Below w.heap.size w w') : w'.ownsRow G e size (.slice (some ⟨g, 0, none⟩) n c) n M := by
  refine ⟨h.1, ?_⟩
  rcases h.2 with ⟨h', _⟩ | ⟨g', cap, cur, hv, h1, hg, r⟩
  · simp at h'
  · refine .inr ⟨g', cap, cur, hv, h1, ?_, r⟩
    rw [hb.block g' (Array.getElem?_eq_some_iff.1 hg).1]
    exact hg
theorem but_rowP {w : World} {G k : Nat} {x y : Value} : But G (G + 1) w ((w.setCell ⟨G, k * 2, none⟩ x).setCell ⟨G, k * 2 + 1, none⟩ y) := (((But.refl _ _ _).set (p := ⟨G, k * 2, none⟩) (Nat.le_refl G) (Nat.lt_succ_self G) x).set (p := ⟨G, k * 2 + 1, none⟩) (Nat.le_refl G) (Nat.lt_succ_self G) y)
theorem set_rowP {M : List Value} {us : List (Int × Int)} {n k : Nat} {x y : Int} (hM : M.length = n * 2) (hk : k < n) (hu : us.length = k) (h : ∀ i (h : i < us.length), M[i * 2]? = some (.int .i64 us[i].1) ∧ M[i * 2 + 1]? = some (.int .i64 us[i].2)) :
    ∀ i (h : i < (us ++ [(x, y)]).length), ((M.set (k * 2) (.int .i64 x)).set (k * 2 + 1) (.int .i64 y))[i * 2]? = some (.int .i64 (us ++ [(x, y)])[i].1) ∧ ((M.set (k * 2) (.int .i64 x)).set (k * 2 + 1) (.int .i64 y))[i * 2 + 1]? = some (.int .i64 (us ++ [(x, y)])[i].2) := by
  intro i hi
  by_cases e : i < k
  · have hi' : i < us.length := by omega
    have h1 := h i hi'
    rw [List.getElem_append_left hi']
    simp only [List.getElem?_set]
    refine ⟨?_, ?_⟩
    · rw [if_neg (by omega), if_neg (by omega)]; exact h1.1
    · rw [if_neg (by omega), if_neg (by omega)]; exact h1.2
  · obtain rfl : i = k := by simp at hi; omega
    subst hu
    rw [List.getElem_append_right (Nat.le_refl _)]
    simp only [Nat.sub_self, List.getElem_cons_zero]
    refine ⟨?_, ?_⟩
    · simp only [List.getElem?_set, List.length_set]; rw [if_neg (by omega)]; rw [if_pos trivial, if_pos (by omega)]
    · simp only [List.getElem?_set, List.length_set]; rw [if_pos trivial, if_pos (by omega)]
end Go.Proofs.Ytakhgfecjghkpaa
