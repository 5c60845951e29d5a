/- An argument of type []Rat, as it came in: fractions in a row, each two signs and two slices of integers that lie in memory. No condition. -/
import Derived.Test.YtikllcoekcglcaaGreatPkR4
import Derived.Deep.AppendLies
import Derived.Test.YtikllcoekcglcaaGreatFlatQ
import Derived.Deep.Slices
namespace Go.Proofs.YtikllcoekcglcaaGreat
open Go.RowKit
set_option linter.unusedVariables false
set_option maxRecDepth 100000
set_option linter.unusedSimpArgs false

def RowZ (w : World) (G : Nat) (l : List (SV × SD)) : Prop := ∃ cur, w.heap[G]? = some (.cells cur 34 (0, 0)) ∧ ∀ j p, l[j]? = some p → cur[j * 8]? = some (.bool p.1.lo.num.g) ∧ cur[j * 8 + 1]? = some (.slice p.1.lo.num.a p.1.lo.num.n p.1.lo.num.c) ∧ cur[j * 8 + 2]? = some (.bool p.1.lo.den.g) ∧ cur[j * 8 + 3]? = some (.slice p.1.lo.den.a p.1.lo.den.n p.1.lo.den.c) ∧ cur[j * 8 + 4]? = some (.bool p.1.hi.num.g) ∧ cur[j * 8 + 5]? = some (.slice p.1.hi.num.a p.1.hi.num.n p.1.hi.num.c) ∧ cur[j * 8 + 6]? = some (.bool p.1.hi.den.g) ∧ cur[j * 8 + 7]? = some (.slice p.1.hi.den.a p.1.hi.den.n p.1.hi.den.c)
theorem RowZ.lt {w : World} {G : Nat} {l : List (SV × SD)} (h : RowZ w G l) : G < w.heap.size := by
  obtain ⟨cur, hg, _⟩ := h
  exact (Array.getElem?_eq_some_iff.1 hg).1
theorem RowZ.cellsAt {w : World} {G : Nat} {l : List (SV × SD)} (h : RowZ w G l) {i : Nat} {y : SV × SD} (hy : l[i]? = some y) : w.cell? ⟨G, i * 8, none⟩ = some (.bool y.1.lo.num.g) ∧ w.cell? ⟨G, i * 8 + 1, none⟩ = some (.slice y.1.lo.num.a y.1.lo.num.n y.1.lo.num.c) ∧ w.cell? ⟨G, i * 8 + 2, none⟩ = some (.bool y.1.lo.den.g) ∧ w.cell? ⟨G, i * 8 + 3, none⟩ = some (.slice y.1.lo.den.a y.1.lo.den.n y.1.lo.den.c) ∧ w.cell? ⟨G, i * 8 + 4, none⟩ = some (.bool y.1.hi.num.g) ∧ w.cell? ⟨G, i * 8 + 5, none⟩ = some (.slice y.1.hi.num.a y.1.hi.num.n y.1.hi.num.c) ∧ w.cell? ⟨G, i * 8 + 6, none⟩ = some (.bool y.1.hi.den.g) ∧ w.cell? ⟨G, i * 8 + 7, none⟩ = some (.slice y.1.hi.den.a y.1.hi.den.n y.1.hi.den.c) := by
  obtain ⟨cur, hg, hc⟩ := h
  have h1 := hc i y hy
  refine ⟨?_, ?_, ?_, ?_, ?_, ?_, ?_, ?_⟩ <;> rw [cell_of_row w G _ cur 34 (0, 0) hg]
  · exact h1.1
  · exact h1.2.1
  · exact h1.2.2.1
  · exact h1.2.2.2.1
  · exact h1.2.2.2.2.1
  · exact h1.2.2.2.2.2.1
  · exact h1.2.2.2.2.2.2.1
  · exact h1.2.2.2.2.2.2.2
theorem RowZ.frozen {w : World} {G : Nat} {l : List (SV × SD)} (h : RowZ w G l) (o : Nat) : w.frozen? ⟨G, o, none⟩ = false := by
  obtain ⟨cur, hg, hc⟩ := h
  exact frozen_of_row w G o cur 34 hg
theorem RowZ.but {w w' : World} {G lo hi : Nat} {l : List (SV × SD)} (h : RowZ w G l) (hb : But lo hi w w') (hG : G < lo ∨ hi ≤ G) : RowZ w' G l := by
  obtain ⟨cur, hg, hc⟩ := h
  exact ⟨cur, by rw [hb.block G (Array.getElem?_eq_some_iff.1 hg).1 hG]; exact hg, hc⟩
theorem RowZ.later {w w' : World} {G : Nat} {l : List (SV × SD)} (h : RowZ w G l) (hb : Below w.heap.size w w') : RowZ w' G l := by
  obtain ⟨cur, hg, hc⟩ := h
  exact ⟨cur, by rw [hb.block G (Array.getElem?_eq_some_iff.1 hg).1]; exact hg, hc⟩
theorem RowZ.g0 {w : World} {G i : Nat} {pre post : List (SV × SD)} {y : SV × SD} (g : Bool) (h : RowZ w G (pre ++ y :: post)) (hi : pre.length = i) : RowZ (w.setCell ⟨G, i * 8, none⟩ (.bool g)) G (pre ++ ((⟨⟨⟨g, y.1.lo.num.a, y.1.lo.num.n, y.1.lo.num.c⟩, y.1.lo.den⟩, ⟨y.1.hi.num, y.1.hi.den⟩⟩ : SV), (⟨⟨⟨g, y.2.lo.num.xs⟩, y.2.lo.den⟩, ⟨y.2.hi.num, y.2.hi.den⟩⟩ : SD)) :: post) := by
  obtain ⟨cur, hg, hc⟩ := h
  subst hi
  refine ⟨cur.setIfInBounds (pre.length * 8) (.bool g), heap_setCell_same w G (pre.length * 8) cur 34 (.bool g) hg, fun j p hp => ?_⟩
  by_cases e : j = pre.length
  · subst e
    rw [mid_eq] at hp
    obtain rfl := Option.some.inj hp
    have h1 := hc pre.length y mid_eq
    have hs : pre.length * 8 < cur.size := (Array.getElem?_eq_some_iff.1 (h1.1)).1
    refine ⟨?_, ?_, ?_, ?_, ?_, ?_, ?_, ?_⟩
    · simp [hs]
    · rw [Array.getElem?_setIfInBounds_ne (by omega)]; exact h1.2.1
    · rw [Array.getElem?_setIfInBounds_ne (by omega)]; exact h1.2.2.1
    · rw [Array.getElem?_setIfInBounds_ne (by omega)]; exact h1.2.2.2.1
    · rw [Array.getElem?_setIfInBounds_ne (by omega)]; exact h1.2.2.2.2.1
    · rw [Array.getElem?_setIfInBounds_ne (by omega)]; exact h1.2.2.2.2.2.1
    · rw [Array.getElem?_setIfInBounds_ne (by omega)]; exact h1.2.2.2.2.2.2.1
    · rw [Array.getElem?_setIfInBounds_ne (by omega)]; exact h1.2.2.2.2.2.2.2
  · rw [mid_ne e (y' := y)] at hp
    have h1 := hc j p hp
    refine ⟨?_, ?_, ?_, ?_, ?_, ?_, ?_, ?_⟩
    · rw [Array.getElem?_setIfInBounds_ne (by omega)]; exact h1.1
    · rw [Array.getElem?_setIfInBounds_ne (by omega)]; exact h1.2.1
    · rw [Array.getElem?_setIfInBounds_ne (by omega)]; exact h1.2.2.1
    · rw [Array.getElem?_setIfInBounds_ne (by omega)]; exact h1.2.2.2.1
    · rw [Array.getElem?_setIfInBounds_ne (by omega)]; exact h1.2.2.2.2.1
    · rw [Array.getElem?_setIfInBounds_ne (by omega)]; exact h1.2.2.2.2.2.1
    · rw [Array.getElem?_setIfInBounds_ne (by omega)]; exact h1.2.2.2.2.2.2.1
    · rw [Array.getElem?_setIfInBounds_ne (by omega)]; exact h1.2.2.2.2.2.2.2
theorem RowZ.g1 {w : World} {G i : Nat} {pre post : List (SV × SD)} {y : SV × SD} (g : Bool) (h : RowZ w G (pre ++ y :: post)) (hi : pre.length = i) : RowZ (w.setCell ⟨G, i * 8 + 2, none⟩ (.bool g)) G (pre ++ ((⟨⟨y.1.lo.num, ⟨g, y.1.lo.den.a, y.1.lo.den.n, y.1.lo.den.c⟩⟩, ⟨y.1.hi.num, y.1.hi.den⟩⟩ : SV), (⟨⟨y.2.lo.num, ⟨g, y.2.lo.den.xs⟩⟩, ⟨y.2.hi.num, y.2.hi.den⟩⟩ : SD)) :: post) := by
  obtain ⟨cur, hg, hc⟩ := h
  subst hi
  refine ⟨cur.setIfInBounds (pre.length * 8 + 2) (.bool g), heap_setCell_same w G (pre.length * 8 + 2) cur 34 (.bool g) hg, fun j p hp => ?_⟩
  by_cases e : j = pre.length
  · subst e
    rw [mid_eq] at hp
    obtain rfl := Option.some.inj hp
    have h1 := hc pre.length y mid_eq
    have hs : pre.length * 8 + 2 < cur.size := (Array.getElem?_eq_some_iff.1 (h1.2.2.1)).1
    refine ⟨?_, ?_, ?_, ?_, ?_, ?_, ?_, ?_⟩
    · rw [Array.getElem?_setIfInBounds_ne (by omega)]; exact h1.1
    · rw [Array.getElem?_setIfInBounds_ne (by omega)]; exact h1.2.1
    · simp [hs]
    · rw [Array.getElem?_setIfInBounds_ne (by omega)]; exact h1.2.2.2.1
    · rw [Array.getElem?_setIfInBounds_ne (by omega)]; exact h1.2.2.2.2.1
    · rw [Array.getElem?_setIfInBounds_ne (by omega)]; exact h1.2.2.2.2.2.1
    · rw [Array.getElem?_setIfInBounds_ne (by omega)]; exact h1.2.2.2.2.2.2.1
    · rw [Array.getElem?_setIfInBounds_ne (by omega)]; exact h1.2.2.2.2.2.2.2
  · rw [mid_ne e (y' := y)] at hp
    have h1 := hc j p hp
    refine ⟨?_, ?_, ?_, ?_, ?_, ?_, ?_, ?_⟩
    · rw [Array.getElem?_setIfInBounds_ne (by omega)]; exact h1.1
    · rw [Array.getElem?_setIfInBounds_ne (by omega)]; exact h1.2.1
    · rw [Array.getElem?_setIfInBounds_ne (by omega)]; exact h1.2.2.1
    · rw [Array.getElem?_setIfInBounds_ne (by omega)]; exact h1.2.2.2.1
    · rw [Array.getElem?_setIfInBounds_ne (by omega)]; exact h1.2.2.2.2.1
    · rw [Array.getElem?_setIfInBounds_ne (by omega)]; exact h1.2.2.2.2.2.1
    · rw [Array.getElem?_setIfInBounds_ne (by omega)]; exact h1.2.2.2.2.2.2.1
    · rw [Array.getElem?_setIfInBounds_ne (by omega)]; exact h1.2.2.2.2.2.2.2
theorem RowZ.g2 {w : World} {G i : Nat} {pre post : List (SV × SD)} {y : SV × SD} (g : Bool) (h : RowZ w G (pre ++ y :: post)) (hi : pre.length = i) : RowZ (w.setCell ⟨G, i * 8 + 4, none⟩ (.bool g)) G (pre ++ ((⟨⟨y.1.lo.num, y.1.lo.den⟩, ⟨⟨g, y.1.hi.num.a, y.1.hi.num.n, y.1.hi.num.c⟩, y.1.hi.den⟩⟩ : SV), (⟨⟨y.2.lo.num, y.2.lo.den⟩, ⟨⟨g, y.2.hi.num.xs⟩, y.2.hi.den⟩⟩ : SD)) :: post) := by
  obtain ⟨cur, hg, hc⟩ := h
  subst hi
  refine ⟨cur.setIfInBounds (pre.length * 8 + 4) (.bool g), heap_setCell_same w G (pre.length * 8 + 4) cur 34 (.bool g) hg, fun j p hp => ?_⟩
  by_cases e : j = pre.length
  · subst e
    rw [mid_eq] at hp
    obtain rfl := Option.some.inj hp
    have h1 := hc pre.length y mid_eq
    have hs : pre.length * 8 + 4 < cur.size := (Array.getElem?_eq_some_iff.1 (h1.2.2.2.2.1)).1
    refine ⟨?_, ?_, ?_, ?_, ?_, ?_, ?_, ?_⟩
    · rw [Array.getElem?_setIfInBounds_ne (by omega)]; exact h1.1
    · rw [Array.getElem?_setIfInBounds_ne (by omega)]; exact h1.2.1
    · rw [Array.getElem?_setIfInBounds_ne (by omega)]; exact h1.2.2.1
    · rw [Array.getElem?_setIfInBounds_ne (by omega)]; exact h1.2.2.2.1
    · simp [hs]
    · rw [Array.getElem?_setIfInBounds_ne (by omega)]; exact h1.2.2.2.2.2.1
    · rw [Array.getElem?_setIfInBounds_ne (by omega)]; exact h1.2.2.2.2.2.2.1
    · rw [Array.getElem?_setIfInBounds_ne (by omega)]; exact h1.2.2.2.2.2.2.2
  · rw [mid_ne e (y' := y)] at hp
    have h1 := hc j p hp
    refine ⟨?_, ?_, ?_, ?_, ?_, ?_, ?_, ?_⟩
    · rw [Array.getElem?_setIfInBounds_ne (by omega)]; exact h1.1
    · rw [Array.getElem?_setIfInBounds_ne (by omega)]; exact h1.2.1
    · rw [Array.getElem?_setIfInBounds_ne (by omega)]; exact h1.2.2.1
    · rw [Array.getElem?_setIfInBounds_ne (by omega)]; exact h1.2.2.2.1
    · rw [Array.getElem?_setIfInBounds_ne (by omega)]; exact h1.2.2.2.2.1
    · rw [Array.getElem?_setIfInBounds_ne (by omega)]; exact h1.2.2.2.2.2.1
    · rw [Array.getElem?_setIfInBounds_ne (by omega)]; exact h1.2.2.2.2.2.2.1
    · rw [Array.getElem?_setIfInBounds_ne (by omega)]; exact h1.2.2.2.2.2.2.2
theorem RowZ.g3 {w : World} {G i : Nat} {pre post : List (SV × SD)} {y : SV × SD} (g : Bool) (h : RowZ w G (pre ++ y :: post)) (hi : pre.length = i) : RowZ (w.setCell ⟨G, i * 8 + 6, none⟩ (.bool g)) G (pre ++ ((⟨⟨y.1.lo.num, y.1.lo.den⟩, ⟨y.1.hi.num, ⟨g, y.1.hi.den.a, y.1.hi.den.n, y.1.hi.den.c⟩⟩⟩ : SV), (⟨⟨y.2.lo.num, y.2.lo.den⟩, ⟨y.2.hi.num, ⟨g, y.2.hi.den.xs⟩⟩⟩ : SD)) :: post) := by
  obtain ⟨cur, hg, hc⟩ := h
  subst hi
  refine ⟨cur.setIfInBounds (pre.length * 8 + 6) (.bool g), heap_setCell_same w G (pre.length * 8 + 6) cur 34 (.bool g) hg, fun j p hp => ?_⟩
  by_cases e : j = pre.length
  · subst e
    rw [mid_eq] at hp
    obtain rfl := Option.some.inj hp
    have h1 := hc pre.length y mid_eq
    have hs : pre.length * 8 + 6 < cur.size := (Array.getElem?_eq_some_iff.1 (h1.2.2.2.2.2.2.1)).1
    refine ⟨?_, ?_, ?_, ?_, ?_, ?_, ?_, ?_⟩
    · rw [Array.getElem?_setIfInBounds_ne (by omega)]; exact h1.1
    · rw [Array.getElem?_setIfInBounds_ne (by omega)]; exact h1.2.1
    · rw [Array.getElem?_setIfInBounds_ne (by omega)]; exact h1.2.2.1
    · rw [Array.getElem?_setIfInBounds_ne (by omega)]; exact h1.2.2.2.1
    · rw [Array.getElem?_setIfInBounds_ne (by omega)]; exact h1.2.2.2.2.1
    · rw [Array.getElem?_setIfInBounds_ne (by omega)]; exact h1.2.2.2.2.2.1
    · simp [hs]
    · rw [Array.getElem?_setIfInBounds_ne (by omega)]; exact h1.2.2.2.2.2.2.2
  · rw [mid_ne e (y' := y)] at hp
    have h1 := hc j p hp
    refine ⟨?_, ?_, ?_, ?_, ?_, ?_, ?_, ?_⟩
    · rw [Array.getElem?_setIfInBounds_ne (by omega)]; exact h1.1
    · rw [Array.getElem?_setIfInBounds_ne (by omega)]; exact h1.2.1
    · rw [Array.getElem?_setIfInBounds_ne (by omega)]; exact h1.2.2.1
    · rw [Array.getElem?_setIfInBounds_ne (by omega)]; exact h1.2.2.2.1
    · rw [Array.getElem?_setIfInBounds_ne (by omega)]; exact h1.2.2.2.2.1
    · rw [Array.getElem?_setIfInBounds_ne (by omega)]; exact h1.2.2.2.2.2.1
    · rw [Array.getElem?_setIfInBounds_ne (by omega)]; exact h1.2.2.2.2.2.2.1
    · rw [Array.getElem?_setIfInBounds_ne (by omega)]; exact h1.2.2.2.2.2.2.2
theorem RowZ.data {w : World} {G : Nat} {pre post : List (SV × SD)} {v : SV} {d d' : SD} (h : RowZ w G (pre ++ (v, d) :: post)) : RowZ w G (pre ++ (v, d') :: post) := by
  obtain ⟨cur, hg, hc⟩ := h
  refine ⟨cur, hg, fun j p hp => ?_⟩
  by_cases e : j = pre.length
  · subst e
    rw [mid_eq] at hp
    obtain rfl := Option.some.inj hp
    exact hc pre.length (v, d) mid_eq
  · rw [mid_ne e (y' := (v, d))] at hp
    exact hc j p hp
theorem zipZ_mid0 (pre post : List (SV × SD)) (y : SV × SD) : zipPS (pre ++ y :: post) = zipPS pre ++ (y.1.lo.num, y.2.lo.num) :: (y.1.lo.den, y.2.lo.den) :: (y.1.hi.num, y.2.hi.num) :: (y.1.hi.den, y.2.hi.den) :: zipPS post := by simp [zipPS]
theorem zipZ_mid1 (pre post : List (SV × SD)) (y : SV × SD) : zipPS (pre ++ y :: post) = (zipPS pre ++ [(y.1.lo.num, y.2.lo.num)]) ++ (y.1.lo.den, y.2.lo.den) :: (y.1.hi.num, y.2.hi.num) :: (y.1.hi.den, y.2.hi.den) :: zipPS post := by simp [zipPS]
theorem zipZ_mid2 (pre post : List (SV × SD)) (y : SV × SD) : zipPS (pre ++ y :: post) = (zipPS pre ++ [(y.1.lo.num, y.2.lo.num), (y.1.lo.den, y.2.lo.den)]) ++ (y.1.hi.num, y.2.hi.num) :: (y.1.hi.den, y.2.hi.den) :: zipPS post := by simp [zipPS]
theorem zipZ_mid3 (pre post : List (SV × SD)) (y : SV × SD) : zipPS (pre ++ y :: post) = (zipPS pre ++ [(y.1.lo.num, y.2.lo.num), (y.1.lo.den, y.2.lo.den), (y.1.hi.num, y.2.hi.num)]) ++ (y.1.hi.den, y.2.hi.den) :: zipPS post := by simp [zipPS]
/-- A marked value, from k on. -/
def mkZ (k : Int) (y : SV × SD) : SV × SD := ((⟨⟨⟨sg (k), y.1.lo.num.a, y.1.lo.num.n, y.1.lo.num.c⟩, ⟨sg (k + 1 + (y.1.lo.num.n : Int)), y.1.lo.den.a, y.1.lo.den.n, y.1.lo.den.c⟩⟩, ⟨⟨sg (k + 1 + (y.1.lo.num.n : Int) + 1 + (y.1.lo.den.n : Int)), y.1.hi.num.a, y.1.hi.num.n, y.1.hi.num.c⟩, ⟨sg (k + 1 + (y.1.lo.num.n : Int) + 1 + (y.1.lo.den.n : Int) + 1 + (y.1.hi.num.n : Int)), y.1.hi.den.a, y.1.hi.den.n, y.1.hi.den.c⟩⟩⟩ : SV), (⟨⟨⟨sg (k), marks (k + 1) y.1.lo.num.n⟩, ⟨sg (k + 1 + (y.1.lo.num.n : Int)), marks (k + 1 + (y.1.lo.num.n : Int) + 1) y.1.lo.den.n⟩⟩, ⟨⟨sg (k + 1 + (y.1.lo.num.n : Int) + 1 + (y.1.lo.den.n : Int)), marks (k + 1 + (y.1.lo.num.n : Int) + 1 + (y.1.lo.den.n : Int) + 1) y.1.hi.num.n⟩, ⟨sg (k + 1 + (y.1.lo.num.n : Int) + 1 + (y.1.lo.den.n : Int) + 1 + (y.1.hi.num.n : Int)), marks (k + 1 + (y.1.lo.num.n : Int) + 1 + (y.1.lo.den.n : Int) + 1 + (y.1.hi.num.n : Int) + 1) y.1.hi.den.n⟩⟩⟩ : SD))
def nxZ (k : Int) (y : SV × SD) : Int := k + 1 + (y.1.lo.num.n : Int) + 1 + (y.1.lo.den.n : Int) + 1 + (y.1.hi.num.n : Int) + 1 + (y.1.hi.den.n : Int)
def mkPZ : Int → List (SV × SD) → List (SV × SD)
  | _, [] => []
  | k, y :: l => mkZ k y :: mkPZ (nxZ k y) l
def enZ : Int → List (SV × SD) → Int
  | k, [] => k
  | k, y :: l => enZ (nxZ k y) l
theorem mkPZ_snoc (l : List (SV × SD)) (y : SV × SD) : ∀ k, mkPZ k (l ++ [y]) = mkPZ k l ++ [mkZ (enZ k l) y] := by
  induction l with
  | nil => intro k; rfl
  | cons z l ih => intro k; show mkZ k z :: mkPZ (nxZ k z) (l ++ [y]) = _; rw [ih]; rfl
theorem enZ_snoc (l : List (SV × SD)) (y : SV × SD) : ∀ k, enZ k (l ++ [y]) = nxZ (enZ k l) y := by
  induction l with
  | nil => intro k; rfl
  | cons z l ih => intro k; show enZ (nxZ k z) (l ++ [y]) = _; rw [ih]; rfl
theorem mkPZ_len (l : List (SV × SD)) : ∀ k, (mkPZ k l).length = l.length := by
  induction l with
  | nil => intro k; rfl
  | cons z l ih => intro k; show (mkPZ (nxZ k z) l).length + 1 = _; rw [ih]; rfl
theorem enZ_eq (l : List (SV × SD)) : ∀ k, enZ k l = k + 4 * (l.length : Int) + (lenPS l : Int) := by
  induction l with
  | nil => intro k; simp [enZ, lenPS]
  | cons z l ih =>
    intro k
    show enZ (nxZ k z) l = _
    rw [ih]
    have h2 : lenPS (z :: l) = lenS z + lenPS l := rfl
    have h3 : lenS z = z.1.lo.num.n + z.1.lo.den.n + z.1.hi.num.n + z.1.hi.den.n := rfl
    rw [h2, h3]
    unfold nxZ
    simp only [List.length_cons]
    omega
theorem mkPZ_get (l : List (SV × SD)) : ∀ (k : Int) (i : Nat) (h : i < l.length), (mkPZ k l)[i]? = some (mkZ (enZ k (l.take i)) l[i]) := by
  induction l with
  | nil => intro k i h; simp at h
  | cons z l ih =>
    intro k i h
    match i with
    | 0 => rfl
    | i + 1 => exact ih (nxZ k z) i (by simpa using h)

set_option maxHeartbeats 8000000 in
theorem markPZ (G n c : Nat) (l : List (SV × SD)) (k : Int) (lo hi : Nat) (w : World) (hr : RowZ w G l) (ho : AllOwn lo hi w (zipPS l)) (hn : l.length = n) (ml : ∀ p ∈ l, p.1.lo.num.n ≤ 1048576 ∧ p.1.lo.den.n ≤ 1048576 ∧ p.1.hi.num.n ≤ 1048576 ∧ p.1.hi.den.n ≤ 1048576) (hG : G < lo) (hH : lo ≤ hi) (k0 : 0 ≤ k) (k1 : k + 4 * (n : Int) + (lenPS l : Int) ≤ 4900000) :
    Calls Tryz.prog 75 #[.slice (some ⟨G, 0, none⟩) n c, .int .i64 k] w fun e w' => e = .returned (.int .i64 (enZ k l)) ∧ But G hi w w' ∧ RowZ w' G (mkPZ k l) ∧ AllOwn lo hi w' (zipPS (mkPZ k l)) := by
  have HR := hide hr
  have HO := hide ho
  have HN := hide hn
  have ML := hide ml
  clear hr ho hn ml
  have hn1 : n ≤ 4900000 := by omega
  go_enter Tryz.func75, Tryz.ntmps75
  go_wp2
  go_loopw [1, 5] (fun kv iv wr => ∃ (i : Nat) (a b : List (SV × SD)) (q : Int), i ≤ n ∧ iv = .int .i64 i ∧ kv = .int .i64 q ∧ 0 ≤ q ∧ a.length = i ∧ Hid (l = a ++ b) ∧ Hid (q = enZ k a) ∧ Hid (RowZ wr G (mkPZ k a ++ b)) ∧ Hid (AllOwn lo hi wr (zipPS (mkPZ k a ++ b))) ∧ Hid (But G hi w wr)) (fun _ iv _ => n - (intOf iv).toNat)
  case atStart => exact ⟨0, [], l, k, Nat.zero_le _, rfl, rfl, k0, rfl, hide rfl, hide rfl, HR, HO, hide (But.refl _ _ _)⟩
  case round =>
    clear HR HO
    obtain ⟨i, a, b, q, hi', rfl, rfl, q0, ha, EL, EQ, HR, HO, HB⟩ := hrel
    by_cases hlt : i < n
    · have hlt' : (i : Int) < (n : Int) := by omega
      obtain ⟨y, b', rfl⟩ : ∃ y b', b = y :: b' := by
        cases b with
        | nil => have h1 := unhide HN; rw [unhide EL, List.append_nil] at h1; omega
        | cons y b' => exact ⟨y, b', rfl⟩
      have LB : Hid ((y.1.lo.num.n : Int) + (y.1.lo.den.n : Int) + (y.1.hi.num.n : Int) + (y.1.hi.den.n : Int) + (q + 4) ≤ 4900000) := hide (by
        have h1 := unhide EQ
        rw [enZ_eq, ha] at h1
        have h2 : lenPS l = lenPS a + (lenS y + lenPS b') := by rw [unhide EL, lenPS_append]; rfl
        have h3 : lenS y = y.1.lo.num.n + y.1.lo.den.n + y.1.hi.num.n + y.1.hi.den.n := rfl
        have h4 := unhide HN
        rw [unhide EL] at h4
        simp at h4
        omega)
      have l1 : (y.1.lo.num.n : Int) + (y.1.lo.den.n : Int) + (y.1.hi.num.n : Int) + (y.1.hi.den.n : Int) + (q + 4) ≤ 4900000 := unhide LB
      have m0 : y.1.lo.num.n ≤ 1048576 := ((unhide ML) y (by rw [unhide EL]; simp)).1
      have m1 : y.1.lo.den.n ≤ 1048576 := ((unhide ML) y (by rw [unhide EL]; simp)).2.1
      have m2 : y.1.hi.num.n ≤ 1048576 := ((unhide ML) y (by rw [unhide EL]; simp)).2.2.1
      have m3 : y.1.hi.den.n ≤ 1048576 := ((unhide ML) y (by rw [unhide EL]; simp)).2.2.2
      have pl : (mkPZ k a).length = i := by rw [mkPZ_len]; exact ha
      obtain ⟨c0, c1, c2, c3, c4, c5, c6, c7⟩ := (unhide HR).cellsAt (i := i) (y := y) (by rw [← pl]; exact mid_eq)
      have fz := (unhide HR).frozen
      have gG : G < wr.heap.size := (unhide HR).lt
      have HR1 := hide ((unhide HR).g0 (sg (q)) pl)
      have HO1 := hide (AllOwn.resign (sg (q)) (by have h := unhide HO; rw [zipZ_mid0] at h; exact h) (w' := wr.setCell ⟨G, i * 8, none⟩ (.bool (sg (q)))) (fun k h1 _ => setCell_other (by omega)))
      have HB1 := hide ((unhide HB).set (p := ⟨G, i * 8, none⟩) (Nat.le_refl _) (by show G < hi; omega) (.bool (sg (q))))
      go_wp2_with fail
      refine (mark_atL ⟨sg (q), y.1.lo.num.a, y.1.lo.num.n, y.1.lo.num.c⟩ ⟨sg (q), y.2.lo.num.xs⟩ _ _ (q + 1) lo hi _ (unhide HO1) m0 (by omega) (by omega)).mono ?_
      rintro e w2 ⟨rfl, hbt, ho2⟩
      have HR2 : Hid (RowZ w2 G (mkPZ k a ++ ((⟨⟨⟨sg (q), y.1.lo.num.a, y.1.lo.num.n, y.1.lo.num.c⟩, y.1.lo.den⟩, ⟨y.1.hi.num, y.1.hi.den⟩⟩ : SV), (⟨⟨⟨sg (q), marks (q + 1) y.1.lo.num.n⟩, y.2.lo.den⟩, ⟨y.2.hi.num, y.2.hi.den⟩⟩ : SD)) :: b')) := hide ((unhide HR1).but hbt (.inl hG)).data
      have HO2 : Hid (AllOwn lo hi w2 (zipPS (mkPZ k a ++ ((⟨⟨⟨sg (q), y.1.lo.num.a, y.1.lo.num.n, y.1.lo.num.c⟩, y.1.lo.den⟩, ⟨y.1.hi.num, y.1.hi.den⟩⟩ : SV), (⟨⟨⟨sg (q), marks (q + 1) y.1.lo.num.n⟩, y.2.lo.den⟩, ⟨y.2.hi.num, y.2.hi.den⟩⟩ : SD)) :: b'))) := hide (by rw [zipZ_mid0]; exact ho2)
      have HB2 := hide ((unhide HB1).trans (hbt.wide (by omega) (Nat.le_refl _)))
      clear hbt ho2 c0 c1 c2 c3 c4 c5 c6 c7 fz HR HO HB HR1 HO1 HB1
      obtain ⟨c0, c1, c2, c3, c4, c5, c6, c7⟩ := (unhide HR2).cellsAt (i := i) (by rw [← pl]; exact mid_eq)
      simp only at c0 c1 c2 c3 c4 c5 c6 c7
      have fz := (unhide HR2).frozen
      have HR3 := hide ((unhide HR2).g1 (sg (q + 1 + (y.1.lo.num.n : Int))) pl)
      have HO3 := hide (AllOwn.resign (sg (q + 1 + (y.1.lo.num.n : Int))) (by have h := unhide HO2; rw [zipZ_mid1] at h; exact h) (w' := w2.setCell ⟨G, i * 8 + 2, none⟩ (.bool (sg (q + 1 + (y.1.lo.num.n : Int))))) (fun k h1 _ => setCell_other (by omega)))
      have HB3 := hide ((unhide HB2).set (p := ⟨G, i * 8 + 2, none⟩) (Nat.le_refl _) (by show G < hi; omega) (.bool (sg (q + 1 + (y.1.lo.num.n : Int)))))
      go_wp2_with fail
      refine (mark_atL ⟨sg (q + 1 + (y.1.lo.num.n : Int)), y.1.lo.den.a, y.1.lo.den.n, y.1.lo.den.c⟩ ⟨sg (q + 1 + (y.1.lo.num.n : Int)), y.2.lo.den.xs⟩ _ _ (q + 1 + (y.1.lo.num.n : Int) + 1) lo hi _ (unhide HO3) m1 (by omega) (by omega)).mono ?_
      rintro e w4 ⟨rfl, hbt, ho2⟩
      have HR4 : Hid (RowZ w4 G (mkPZ k a ++ ((⟨⟨⟨sg (q), y.1.lo.num.a, y.1.lo.num.n, y.1.lo.num.c⟩, ⟨sg (q + 1 + (y.1.lo.num.n : Int)), y.1.lo.den.a, y.1.lo.den.n, y.1.lo.den.c⟩⟩, ⟨y.1.hi.num, y.1.hi.den⟩⟩ : SV), (⟨⟨⟨sg (q), marks (q + 1) y.1.lo.num.n⟩, ⟨sg (q + 1 + (y.1.lo.num.n : Int)), marks (q + 1 + (y.1.lo.num.n : Int) + 1) y.1.lo.den.n⟩⟩, ⟨y.2.hi.num, y.2.hi.den⟩⟩ : SD)) :: b')) := hide ((unhide HR3).but hbt (.inl hG)).data
      have HO4 : Hid (AllOwn lo hi w4 (zipPS (mkPZ k a ++ ((⟨⟨⟨sg (q), y.1.lo.num.a, y.1.lo.num.n, y.1.lo.num.c⟩, ⟨sg (q + 1 + (y.1.lo.num.n : Int)), y.1.lo.den.a, y.1.lo.den.n, y.1.lo.den.c⟩⟩, ⟨y.1.hi.num, y.1.hi.den⟩⟩ : SV), (⟨⟨⟨sg (q), marks (q + 1) y.1.lo.num.n⟩, ⟨sg (q + 1 + (y.1.lo.num.n : Int)), marks (q + 1 + (y.1.lo.num.n : Int) + 1) y.1.lo.den.n⟩⟩, ⟨y.2.hi.num, y.2.hi.den⟩⟩ : SD)) :: b'))) := hide (by rw [zipZ_mid1]; exact ho2)
      have HB4 := hide ((unhide HB3).trans (hbt.wide (by omega) (Nat.le_refl _)))
      clear hbt ho2 c0 c1 c2 c3 c4 c5 c6 c7 fz HR2 HO2 HB2 HR3 HO3 HB3
      obtain ⟨c0, c1, c2, c3, c4, c5, c6, c7⟩ := (unhide HR4).cellsAt (i := i) (by rw [← pl]; exact mid_eq)
      simp only at c0 c1 c2 c3 c4 c5 c6 c7
      have fz := (unhide HR4).frozen
      have HR5 := hide ((unhide HR4).g2 (sg (q + 1 + (y.1.lo.num.n : Int) + 1 + (y.1.lo.den.n : Int))) pl)
      have HO5 := hide (AllOwn.resign (sg (q + 1 + (y.1.lo.num.n : Int) + 1 + (y.1.lo.den.n : Int))) (by have h := unhide HO4; rw [zipZ_mid2] at h; exact h) (w' := w4.setCell ⟨G, i * 8 + 4, none⟩ (.bool (sg (q + 1 + (y.1.lo.num.n : Int) + 1 + (y.1.lo.den.n : Int))))) (fun k h1 _ => setCell_other (by omega)))
      have HB5 := hide ((unhide HB4).set (p := ⟨G, i * 8 + 4, none⟩) (Nat.le_refl _) (by show G < hi; omega) (.bool (sg (q + 1 + (y.1.lo.num.n : Int) + 1 + (y.1.lo.den.n : Int)))))
      go_wp2_with fail
      refine (mark_atL ⟨sg (q + 1 + (y.1.lo.num.n : Int) + 1 + (y.1.lo.den.n : Int)), y.1.hi.num.a, y.1.hi.num.n, y.1.hi.num.c⟩ ⟨sg (q + 1 + (y.1.lo.num.n : Int) + 1 + (y.1.lo.den.n : Int)), y.2.hi.num.xs⟩ _ _ (q + 1 + (y.1.lo.num.n : Int) + 1 + (y.1.lo.den.n : Int) + 1) lo hi _ (unhide HO5) m2 (by omega) (by omega)).mono ?_
      rintro e w6 ⟨rfl, hbt, ho2⟩
      have HR6 : Hid (RowZ w6 G (mkPZ k a ++ ((⟨⟨⟨sg (q), y.1.lo.num.a, y.1.lo.num.n, y.1.lo.num.c⟩, ⟨sg (q + 1 + (y.1.lo.num.n : Int)), y.1.lo.den.a, y.1.lo.den.n, y.1.lo.den.c⟩⟩, ⟨⟨sg (q + 1 + (y.1.lo.num.n : Int) + 1 + (y.1.lo.den.n : Int)), y.1.hi.num.a, y.1.hi.num.n, y.1.hi.num.c⟩, y.1.hi.den⟩⟩ : SV), (⟨⟨⟨sg (q), marks (q + 1) y.1.lo.num.n⟩, ⟨sg (q + 1 + (y.1.lo.num.n : Int)), marks (q + 1 + (y.1.lo.num.n : Int) + 1) y.1.lo.den.n⟩⟩, ⟨⟨sg (q + 1 + (y.1.lo.num.n : Int) + 1 + (y.1.lo.den.n : Int)), marks (q + 1 + (y.1.lo.num.n : Int) + 1 + (y.1.lo.den.n : Int) + 1) y.1.hi.num.n⟩, y.2.hi.den⟩⟩ : SD)) :: b')) := hide ((unhide HR5).but hbt (.inl hG)).data
      have HO6 : Hid (AllOwn lo hi w6 (zipPS (mkPZ k a ++ ((⟨⟨⟨sg (q), y.1.lo.num.a, y.1.lo.num.n, y.1.lo.num.c⟩, ⟨sg (q + 1 + (y.1.lo.num.n : Int)), y.1.lo.den.a, y.1.lo.den.n, y.1.lo.den.c⟩⟩, ⟨⟨sg (q + 1 + (y.1.lo.num.n : Int) + 1 + (y.1.lo.den.n : Int)), y.1.hi.num.a, y.1.hi.num.n, y.1.hi.num.c⟩, y.1.hi.den⟩⟩ : SV), (⟨⟨⟨sg (q), marks (q + 1) y.1.lo.num.n⟩, ⟨sg (q + 1 + (y.1.lo.num.n : Int)), marks (q + 1 + (y.1.lo.num.n : Int) + 1) y.1.lo.den.n⟩⟩, ⟨⟨sg (q + 1 + (y.1.lo.num.n : Int) + 1 + (y.1.lo.den.n : Int)), marks (q + 1 + (y.1.lo.num.n : Int) + 1 + (y.1.lo.den.n : Int) + 1) y.1.hi.num.n⟩, y.2.hi.den⟩⟩ : SD)) :: b'))) := hide (by rw [zipZ_mid2]; exact ho2)
      have HB6 := hide ((unhide HB5).trans (hbt.wide (by omega) (Nat.le_refl _)))
      clear hbt ho2 c0 c1 c2 c3 c4 c5 c6 c7 fz HR4 HO4 HB4 HR5 HO5 HB5
      obtain ⟨c0, c1, c2, c3, c4, c5, c6, c7⟩ := (unhide HR6).cellsAt (i := i) (by rw [← pl]; exact mid_eq)
      simp only at c0 c1 c2 c3 c4 c5 c6 c7
      have fz := (unhide HR6).frozen
      have HR7 := hide ((unhide HR6).g3 (sg (q + 1 + (y.1.lo.num.n : Int) + 1 + (y.1.lo.den.n : Int) + 1 + (y.1.hi.num.n : Int))) pl)
      have HO7 := hide (AllOwn.resign (sg (q + 1 + (y.1.lo.num.n : Int) + 1 + (y.1.lo.den.n : Int) + 1 + (y.1.hi.num.n : Int))) (by have h := unhide HO6; rw [zipZ_mid3] at h; exact h) (w' := w6.setCell ⟨G, i * 8 + 6, none⟩ (.bool (sg (q + 1 + (y.1.lo.num.n : Int) + 1 + (y.1.lo.den.n : Int) + 1 + (y.1.hi.num.n : Int))))) (fun k h1 _ => setCell_other (by omega)))
      have HB7 := hide ((unhide HB6).set (p := ⟨G, i * 8 + 6, none⟩) (Nat.le_refl _) (by show G < hi; omega) (.bool (sg (q + 1 + (y.1.lo.num.n : Int) + 1 + (y.1.lo.den.n : Int) + 1 + (y.1.hi.num.n : Int)))))
      go_wp2_with fail
      refine (mark_atL ⟨sg (q + 1 + (y.1.lo.num.n : Int) + 1 + (y.1.lo.den.n : Int) + 1 + (y.1.hi.num.n : Int)), y.1.hi.den.a, y.1.hi.den.n, y.1.hi.den.c⟩ ⟨sg (q + 1 + (y.1.lo.num.n : Int) + 1 + (y.1.lo.den.n : Int) + 1 + (y.1.hi.num.n : Int)), y.2.hi.den.xs⟩ _ _ (q + 1 + (y.1.lo.num.n : Int) + 1 + (y.1.lo.den.n : Int) + 1 + (y.1.hi.num.n : Int) + 1) lo hi _ (unhide HO7) m3 (by omega) (by omega)).mono ?_
      rintro e w8 ⟨rfl, hbt, ho2⟩
      have EK : Hid (mkPZ k (a ++ [y]) ++ b' = mkPZ k a ++ mkZ q y :: b') := hide (by rw [mkPZ_snoc, ← unhide EQ, List.append_assoc]; rfl)
      have HR8 : Hid (RowZ w8 G (mkPZ k (a ++ [y]) ++ b')) := hide (by rw [unhide EK]; exact ((unhide HR7).but hbt (.inl hG)).data)
      have HO8 : Hid (AllOwn lo hi w8 (zipPS (mkPZ k (a ++ [y]) ++ b'))) := hide (by rw [unhide EK, zipZ_mid3]; exact ho2)
      have EQ4 : Hid (nxZ q y = enZ k (a ++ [y])) := hide (by rw [enZ_snoc, ← unhide EQ])
      have HB8 := hide ((unhide HB7).trans (hbt.wide (by omega) (Nat.le_refl _)))
      clear hbt ho2 c0 c1 c2 c3 c4 c5 c6 c7 fz HR6 HO6 HB6 HR7 HO7 HB7
      go_wp2
      go_roundw
      case rel => exact ⟨i + 1, a ++ [y], b', nxZ q y, by omega, by go_num, rfl, by unfold nxZ; omega, by simp [ha], hide (by rw [unhide EL, List.append_assoc]; rfl), EQ4, HR8, HO8, HB8⟩
      case measure => simp [intOf]; omega
    · obtain rfl : i = n := by omega
      have hb0 : b = [] := by
        have h1 := unhide HN
        rw [unhide EL, List.length_append] at h1
        exact List.length_eq_zero_iff.1 (by omega)
      subst hb0
      have EA : Hid (l = a) := hide (by rw [unhide EL, List.append_nil])
      go_wp2
      go_ret
      refine ⟨by rw [unhide EA, ← unhide EQ]; rfl, unhide HB, ?_, ?_⟩
      · have h := unhide HR
        rw [List.append_nil, ← unhide EA] at h
        exact h
      · have h := unhide HO
        rw [List.append_nil, ← unhide EA] at h
        exact h
theorem mkPZ_mem {l : List (SV × SD)} {k : Int} {P : SV × SD → Prop} (h : ∀ q y, y ∈ l → P (mkZ q y)) : ∀ p ∈ mkPZ k l, P p := by
  induction l generalizing k with
  | nil => intro p hp; cases hp
  | cons z l ih =>
    intro p hp
    rcases List.mem_cons.1 hp with rfl | hp
    · exact h k z List.mem_cons_self
    · exact ih (fun q y hy => h q y (List.mem_cons_of_mem _ hy)) p hp
theorem mkPZ_lenP (l : List (SV × SD)) : ∀ k, lenPS (mkPZ k l) = lenPS l := by
  induction l with
  | nil => intro k; rfl
  | cons z l ih => intro k; show lenS (mkZ k z) + lenPS (mkPZ (nxZ k z) l) = lenS z + lenPS l; rw [ih]; rfl
set_option maxHeartbeats 8000000 in
theorem heldPZ (G n c : Nat) (l : List (SV × SD)) (k : Int) (w : World) (hr : RowZ w G (mkPZ k l)) (hs : AllSl w (zipPS (mkPZ k l))) (hn : l.length = n) (ml : ∀ p ∈ l, p.1.lo.num.n ≤ 1048576 ∧ p.1.lo.den.n ≤ 1048576 ∧ p.1.hi.num.n ≤ 1048576 ∧ p.1.hi.den.n ≤ 1048576) (k0 : 0 ≤ k) (k1 : k + 4 * (n : Int) + (lenPS l : Int) ≤ 4900000) :
    Calls Tryz.prog 79 #[.slice (some ⟨G, 0, none⟩) n c, .int .i64 k] w fun e w' => e = .returned (.int .i64 (enZ k l)) ∧ w' = w := by
  have HR := hide hr
  have HS := hide hs
  have HN := hide hn
  have ML := hide ml
  clear hr hs hn ml
  have hn1 : n ≤ 4900000 := by omega
  go_enter Tryz.func79, Tryz.ntmps79
  go_wp2
  go_loopw [1, 5] (fun kv iv wr => ∃ (i : Nat) (q : Int), i ≤ n ∧ iv = .int .i64 i ∧ kv = .int .i64 q ∧ 0 ≤ q ∧ Hid (q = enZ k (l.take i)) ∧ wr = w) (fun _ iv _ => n - (intOf iv).toNat)
  case atStart => exact ⟨0, k, Nat.zero_le _, rfl, rfl, k0, hide (by simp [enZ]), rfl⟩
  case round =>
    obtain ⟨i, q, hi', rfl, rfl, q0, EQ, rfl⟩ := hrel
    by_cases hlt : i < n
    · have hlt' : (i : Int) < (n : Int) := by omega
      have hil : i < l.length := by rw [unhide HN]; exact hlt
      have hget := mkPZ_get l k i hil
      rw [← unhide EQ] at hget
      have TK : Hid (l.take (i + 1) = l.take i ++ [l[i]]) := hide (take_succS hil)
      have MY : Hid (l[i] ∈ l) := hide (List.getElem_mem _)
      have EQ2 : Hid (nxZ q l[i] = enZ k (l.take (i + 1))) := hide (by rw [unhide TK, enZ_snoc, ← unhide EQ])
      have LE : Hid (nxZ q l[i] ≤ 4900000) := hide (by
        rw [unhide EQ2, enZ_eq]
        have h1 : (l.take (i + 1)).length = i + 1 := by rw [List.length_take]; omega
        have h2 : lenPS l = lenPS (l.take (i + 1)) + lenPS (l.drop (i + 1)) := by rw [← lenPS_append, List.take_append_drop]
        rw [h1]
        omega)
      have hm := List.mem_of_getElem? hget
      have S0 := (unhide HS) ((mkZ q l[i]).1.lo.num, (mkZ q l[i]).2.lo.num) (zipPS_mem hm (by simp))
      have S1 := (unhide HS) ((mkZ q l[i]).1.lo.den, (mkZ q l[i]).2.lo.den) (zipPS_mem hm (by simp))
      have S2 := (unhide HS) ((mkZ q l[i]).1.hi.num, (mkZ q l[i]).2.hi.num) (zipPS_mem hm (by simp))
      have S3 := (unhide HS) ((mkZ q l[i]).1.hi.den, (mkZ q l[i]).2.hi.den) (zipPS_mem hm (by simp))
      have m0 := (unhide ML) l[i] (unhide MY)
      obtain ⟨b0, b1, b2, b3, b4, b5, b6, b7⟩ := (unhide HR).cellsAt hget
      obtain ⟨y, hy⟩ : ∃ y, y = l[i] := ⟨_, rfl⟩
      rw [← hy] at b0 b1 b2 b3 b4 b5 b6 b7 S0 S1 S2 S3 m0 EQ2 LE
      clear hy hget hm TK MY hil
      have c0 : wr.cell? ⟨G, i * 8, none⟩ = some (.bool ((q) % 3 == 0)) := b0
      have c1 : wr.cell? ⟨G, i * 8 + 1, none⟩ = some (.slice y.1.lo.num.a y.1.lo.num.n y.1.lo.num.c) := b1
      have X0 := hide (show Sl wr y.1.lo.num.a (marks (q + 1) y.1.lo.num.n) from S0.sl)
      have c2 : wr.cell? ⟨G, i * 8 + 2, none⟩ = some (.bool ((q + 1 + (y.1.lo.num.n : Int)) % 3 == 0)) := b2
      have c3 : wr.cell? ⟨G, i * 8 + 3, none⟩ = some (.slice y.1.lo.den.a y.1.lo.den.n y.1.lo.den.c) := b3
      have X1 := hide (show Sl wr y.1.lo.den.a (marks (q + 1 + (y.1.lo.num.n : Int) + 1) y.1.lo.den.n) from S1.sl)
      have c4 : wr.cell? ⟨G, i * 8 + 4, none⟩ = some (.bool ((q + 1 + (y.1.lo.num.n : Int) + 1 + (y.1.lo.den.n : Int)) % 3 == 0)) := b4
      have c5 : wr.cell? ⟨G, i * 8 + 5, none⟩ = some (.slice y.1.hi.num.a y.1.hi.num.n y.1.hi.num.c) := b5
      have X2 := hide (show Sl wr y.1.hi.num.a (marks (q + 1 + (y.1.lo.num.n : Int) + 1 + (y.1.lo.den.n : Int) + 1) y.1.hi.num.n) from S2.sl)
      have c6 : wr.cell? ⟨G, i * 8 + 6, none⟩ = some (.bool ((q + 1 + (y.1.lo.num.n : Int) + 1 + (y.1.lo.den.n : Int) + 1 + (y.1.hi.num.n : Int)) % 3 == 0)) := b6
      have c7 : wr.cell? ⟨G, i * 8 + 7, none⟩ = some (.slice y.1.hi.den.a y.1.hi.den.n y.1.hi.den.c) := b7
      have X3 := hide (show Sl wr y.1.hi.den.a (marks (q + 1 + (y.1.lo.num.n : Int) + 1 + (y.1.lo.den.n : Int) + 1 + (y.1.hi.num.n : Int) + 1) y.1.hi.den.n) from S3.sl)
      have le : q + 1 + (y.1.lo.num.n : Int) + 1 + (y.1.lo.den.n : Int) + 1 + (y.1.hi.num.n : Int) + 1 + (y.1.hi.den.n : Int) ≤ 4900000 := unhide LE
      clear b0 b1 b2 b3 b4 b5 b6 b7 S0 S1 S2 S3 LE
      go_wp2_with fail
      refine (heldI_anyL _ _ _ (q + 1) _ (unhide X0) m0.1 (by omega) (by omega)).mono ?_
      rintro e w0 ⟨rfl, rfl⟩
      have d0 : ¬ (q + 1 + (y.1.lo.num.n : Int) < 0) := by omega
      go_wp2_with fail
      refine (heldI_anyL _ _ _ (q + 1 + (y.1.lo.num.n : Int) + 1) _ (unhide X1) m0.2.1 (by omega) (by omega)).mono ?_
      rintro e w1 ⟨rfl, rfl⟩
      have d1 : ¬ (q + 1 + (y.1.lo.num.n : Int) + 1 + (y.1.lo.den.n : Int) < 0) := by omega
      go_wp2_with fail
      refine (heldI_anyL _ _ _ (q + 1 + (y.1.lo.num.n : Int) + 1 + (y.1.lo.den.n : Int) + 1) _ (unhide X2) m0.2.2.1 (by omega) (by omega)).mono ?_
      rintro e w2 ⟨rfl, rfl⟩
      have d2 : ¬ (q + 1 + (y.1.lo.num.n : Int) + 1 + (y.1.lo.den.n : Int) + 1 + (y.1.hi.num.n : Int) < 0) := by omega
      go_wp2_with fail
      refine (heldI_anyL _ _ _ (q + 1 + (y.1.lo.num.n : Int) + 1 + (y.1.lo.den.n : Int) + 1 + (y.1.hi.num.n : Int) + 1) _ (unhide X3) m0.2.2.2 (by omega) (by omega)).mono ?_
      rintro e w3 ⟨rfl, rfl⟩
      have d3 : ¬ (q + 1 + (y.1.lo.num.n : Int) + 1 + (y.1.lo.den.n : Int) + 1 + (y.1.hi.num.n : Int) + 1 + (y.1.hi.den.n : Int) < 0) := by omega
      go_wp2
      go_roundw
      case rel => exact ⟨i + 1, nxZ q y, by omega, by go_num, rfl, by unfold nxZ; omega, EQ2, trivial⟩
      case measure => simp [intOf]; omega
    · obtain rfl : i = n := by omega
      have EL : Hid (q = enZ k l) := hide (by have h := unhide EQ; rw [← unhide HN, List.take_length] at h; exact h)
      go_wp2
      go_ret
      exact ⟨by rw [← unhide EL]; rfl, rfl⟩
theorem markPZ0 (a : Option Addr) (c : Nat) (k : Int) (w : World) : Calls Tryz.prog 75 #[.slice a 0 c, .int .i64 k] w fun e w' => e = .returned (.int .i64 k) ∧ w' = w := by
  go_enter Tryz.func75, Tryz.ntmps75
  go_wp2
  refine wp_loop_rounds 1 ?_
  rw [rounds_succ]
  go_wp2
  go_ret
  exact ⟨rfl, rfl⟩
theorem heldPZ0 (a : Option Addr) (c : Nat) (k : Int) (w : World) : Calls Tryz.prog 79 #[.slice a 0 c, .int .i64 k] w fun e w' => e = .returned (.int .i64 k) ∧ w' = w := by
  go_enter Tryz.func79, Tryz.ntmps79
  go_wp2
  refine wp_loop_rounds 1 ?_
  rw [rounds_succ]
  go_wp2
  go_ret
  exact ⟨rfl, rfl⟩

/-- A slice of fractions that is the call's own: its row and its numbers in blocks from B to below E. -/
structure PRoZ (B E : Nat) (w : World) (a : Option Addr) (n c : Nat) (l : List (SV × SD)) : Prop where
  len : l.length = n
  sz : 4 * n + lenPS l ≤ 4200000
  ml : ∀ p ∈ l, p.1.lo.num.n ≤ 1048576 ∧ p.1.lo.den.n ≤ 1048576 ∧ p.1.hi.num.n ≤ 1048576 ∧ p.1.hi.den.n ≤ 1048576
  row : n = 0 ∨ ∃ G lo hi, a = some ⟨G, 0, none⟩ ∧ B ≤ G ∧ G < lo ∧ lo ≤ hi ∧ hi ≤ E ∧ RowZ w G l ∧ AllOwn lo hi w (zipPS l)
theorem PRoZ.later {B E : Nat} {w w' : World} {a : Option Addr} {n c : Nat} {l : List (SV × SD)} (h : PRoZ B E w a n c l) (hb : Below w.heap.size w w') : PRoZ B E w' a n c l := by
  refine ⟨h.len, h.sz, h.ml, ?_⟩
  rcases h.row with e | ⟨G, lo, hi, e, h1, h2, h3, h4, h5, h6⟩
  · exact .inl e
  · exact .inr ⟨G, lo, hi, e, h1, h2, h3, h4, h5.later hb, h6.later hb⟩
theorem PRoZ.but {B E lo' hi' : Nat} {w w' : World} {a : Option Addr} {n c : Nat} {l : List (SV × SD)} (h : PRoZ B E w a n c l) (hb : But lo' hi' w w') (hd : E ≤ lo' ∨ hi' ≤ B) : PRoZ B E w' a n c l := by
  refine ⟨h.len, h.sz, h.ml, ?_⟩
  rcases h.row with e | ⟨G, lo, hi, e, h1, h2, h3, h4, h5, h6⟩
  · exact .inl e
  · exact .inr ⟨G, lo, hi, e, h1, h2, h3, h4, h5.but hb (by omega), h6.but hb (by omega)⟩
theorem PRoZ.wide {B E B' E' : Nat} {w : World} {a : Option Addr} {n c : Nat} {l : List (SV × SD)} (h : PRoZ B E w a n c l) (h1 : B' ≤ B) (h2 : E ≤ E') : PRoZ B' E' w a n c l := by
  refine ⟨h.len, h.sz, h.ml, ?_⟩
  rcases h.row with e | ⟨G, lo, hi, e, k1, k2, k3, k4, k5, k6⟩
  · exact .inl e
  · exact .inr ⟨G, lo, hi, e, by omega, k2, k3, by omega, k5, k6⟩
theorem PRoZ.sl {B E : Nat} {w : World} {a : Option Addr} {n c : Nat} {l : List (SV × SD)} (h : PRoZ B E w a n c l) : PSlS w a l := by
  rcases h.row with e | ⟨G, lo, hi, e, h1, h2, h3, h4, h5, h6⟩
  · have hl : l = [] := List.length_eq_zero_iff.1 (by rw [h.len]; exact e)
    subst hl
    exact ⟨.inl rfl, fun p hp => by cases hp⟩
  · subst e
    refine ⟨.inr ⟨G, 0, rfl, h5.lt, fun i hi => ?_⟩, fun p hp x hx => h6.sl x (zipPS_mem hp hx)⟩
    have hc := h5.cellsAt (List.getElem?_eq_getElem hi)
    simpa using hc
theorem PRoZ.lens {B E : Nat} {w : World} {a : Option Addr} {n c : Nat} {l : List (SV × SD)} (h : PRoZ B E w a n c l) : ∀ p ∈ l, p.1.lo.num.n ≤ maxLen ∧ p.1.lo.den.n ≤ maxLen ∧ p.1.hi.num.n ≤ maxLen ∧ p.1.hi.den.n ≤ maxLen := fun p hp => by
  have := h.ml p hp
  unfold maxLen
  omega
theorem PRoZ.max {B E : Nat} {w : World} {a : Option Addr} {n c : Nat} {l : List (SV × SD)} (h : PRoZ B E w a n c l) : n ≤ maxLen := by
  have := h.sz
  unfold maxLen
  omega
theorem mkPZ_ml {l : List (SV × SD)} (k : Int) (h : ∀ p ∈ l, p.1.lo.num.n ≤ 1048576 ∧ p.1.lo.den.n ≤ 1048576 ∧ p.1.hi.num.n ≤ 1048576 ∧ p.1.hi.den.n ≤ 1048576) : ∀ p ∈ mkPZ k l, p.1.lo.num.n ≤ 1048576 ∧ p.1.lo.den.n ≤ 1048576 ∧ p.1.hi.num.n ≤ 1048576 ∧ p.1.hi.den.n ≤ 1048576 := mkPZ_mem (fun q y hy => h y hy)
theorem markRZ (B E : Nat) (a : Option Addr) (n c : Nat) (l : List (SV × SD)) (w : World) (h : PRoZ B E w a n c l) (hE : E ≤ w.heap.size) :
    Calls Tryz.prog 75 #[.slice a n c, .int .i64 1] w fun e w' => e = .returned (.int .i64 (enZ 1 l)) ∧ But B E w w' ∧ PRoZ B E w' a n c (mkPZ 1 l) := by
  have hs := h.sz
  rcases h.row with e | ⟨G, lo, hi, e, h1, h2, h3, h4, h5, h6⟩
  · have hl : l = [] := List.length_eq_zero_iff.1 (by rw [h.len]; exact e)
    subst hl e
    refine (markPZ0 a c 1 w).mono ?_
    rintro e w' ⟨rfl, rfl⟩
    exact ⟨rfl, But.refl _ _ _, ⟨rfl, by simp [mkPZ, lenPS], fun p hp => (by cases hp), .inl rfl⟩⟩
  · subst e
    refine (markPZ G n c l 1 lo hi w h5 h6 h.len h.ml h2 h3 (by omega) (by omega)).mono ?_
    rintro e w' ⟨rfl, hb, hr, ho⟩
    exact ⟨rfl, hb.wide h1 h4, ⟨by rw [mkPZ_len]; exact h.len, by rw [mkPZ_lenP]; exact h.sz, mkPZ_ml 1 h.ml, .inr ⟨G, lo, hi, rfl, h1, h2, h3, h4, hr, ho⟩⟩⟩
theorem heldRZ (B E : Nat) (a : Option Addr) (n c : Nat) (l : List (SV × SD)) (w : World) (h : PRoZ B E w a n c (mkPZ 1 l)) (h0 : 4 * n + lenPS l ≤ 4200000) (ml : ∀ p ∈ l, p.1.lo.num.n ≤ 1048576 ∧ p.1.lo.den.n ≤ 1048576 ∧ p.1.hi.num.n ≤ 1048576 ∧ p.1.hi.den.n ≤ 1048576) :
    Calls Tryz.prog 79 #[.slice a n c, .int .i64 1] w fun e w' => e = .returned (.int .i64 (enZ 1 l)) ∧ w' = w := by
  have hl' : l.length = n := by have := h.len; rw [mkPZ_len] at this; exact this
  rcases h.row with e | ⟨G, lo, hi, e, h1, h2, h3, h4, h5, h6⟩
  · have hl : l = [] := List.length_eq_zero_iff.1 (by omega)
    subst hl e
    exact heldPZ0 a c 1 w
  · subst e
    exact heldPZ G n c l 1 w h5 h6.sl hl' ml (by omega) (by omega)
theorem POwS.ro {lo hi : Nat} {w : World} {G n c : Nat} {l : List (SV × SD)} (h : POwS lo hi w G n c l) (hG : G < lo) (hl : lo ≤ hi) (sz : 4 * n + lenPS l ≤ 4200000) (ml : ∀ p ∈ l, p.1.lo.num.n ≤ 1048576 ∧ p.1.lo.den.n ≤ 1048576 ∧ p.1.hi.num.n ≤ 1048576 ∧ p.1.hi.den.n ≤ 1048576) : PRoZ G hi w (some ⟨G, 0, none⟩) n c l := by
  refine ⟨h.len, sz, ml, .inr ⟨G, lo, hi, rfl, Nat.le_refl _, hG, hl, Nat.le_refl _, ?_, h.own⟩⟩
  obtain ⟨M, hr, hM⟩ := h.row
  rcases hr.2 with ⟨h', _⟩ | ⟨g', cap, cur, hv, _, hg, _, _, _, htake⟩
  · simp at h'
  simp only [Value.slice.injEq, Option.some.injEq, Addr.mk.injEq, and_true, true_and] at hv
  obtain ⟨rfl, rfl⟩ := hv
  refine ⟨cur, hg, fun j p hp => ?_⟩
  have hj : j < l.length := (List.getElem?_eq_some_iff.1 hp).1
  have hc := hM j hj
  have e : l[j] = p := by rw [List.getElem?_eq_getElem hj] at hp; exact Option.some.inj hp
  rw [e] at hc
  have hlen := h.len
  have up : ∀ t v, t < n * 8 → M[t]? = some v → cur[t]? = some v := fun t v ht hv => by
    rw [← htake, List.getElem?_take, if_pos ht] at hv
    simpa using hv
  exact ⟨up _ _ (by omega) hc.1, up _ _ (by omega) hc.2.1, up _ _ (by omega) hc.2.2.1, up _ _ (by omega) hc.2.2.2.1, up _ _ (by omega) hc.2.2.2.2.1, up _ _ (by omega) hc.2.2.2.2.2.1, up _ _ (by omega) hc.2.2.2.2.2.2.1, up _ _ (by omega) hc.2.2.2.2.2.2.2⟩
/-- The lengths of what is read. -/
def lenDZ : List SD → Nat
  | [] => 0
  | d :: l => d.lo.num.xs.length + d.lo.den.xs.length + d.hi.num.xs.length + d.hi.den.xs.length + lenDZ l
theorem lenPS_dataZ {l : List (SV × SD)} (h : ∀ p ∈ l, p.2.lo.num.xs.length = p.1.lo.num.n ∧ p.2.lo.den.xs.length = p.1.lo.den.n ∧ p.2.hi.num.xs.length = p.1.hi.num.n ∧ p.2.hi.den.xs.length = p.1.hi.den.n) : lenPS l = lenDZ (l.map Prod.snd) := by
  induction l with
  | nil => rfl
  | cons p l ih =>
    have h1 := h p List.mem_cons_self
    have h2 := ih (fun q hq => h q (List.mem_cons_of_mem _ hq))
    show p.1.lo.num.n + p.1.lo.den.n + p.1.hi.num.n + p.1.hi.den.n + lenPS l = p.2.lo.num.xs.length + p.2.lo.den.xs.length + p.2.hi.num.xs.length + p.2.hi.den.xs.length + lenDZ (l.map Prod.snd)
    omega
theorem PSlS.data {w : World} {a : Option Addr} {l : List (SV × SD)} (h : PSlS w a l) : ∀ p ∈ l, p.2.lo.num.xs.length = p.1.lo.num.n ∧ p.2.lo.den.xs.length = p.1.lo.den.n ∧ p.2.hi.num.xs.length = p.1.hi.num.n ∧ p.2.hi.den.xs.length = p.1.hi.den.n := fun p hp => ⟨(h.rd p hp).head.len, (h.rd p hp).tail.head.len, (h.rd p hp).tail.tail.head.len, (h.rd p hp).tail.tail.tail.head.len⟩
theorem lenPS_sndZ {w w' : World} {a a' : Option Addr} {l l' : List (SV × SD)} (h : PSlS w a l) (h' : PSlS w' a' l') (e : l.map Prod.snd = l'.map Prod.snd) : lenPS l = lenPS l' := by
  rw [lenPS_dataZ h.data, lenPS_dataZ h'.data, e]
theorem ml_sndZ {w w' : World} {a a' : Option Addr} {l l' : List (SV × SD)} (h : PSlS w a l) (h' : PSlS w' a' l') (e : l.map Prod.snd = l'.map Prod.snd) (ml : ∀ p ∈ l', p.1.lo.num.n ≤ 1048576 ∧ p.1.lo.den.n ≤ 1048576 ∧ p.1.hi.num.n ≤ 1048576 ∧ p.1.hi.den.n ≤ 1048576) : ∀ p ∈ l, p.1.lo.num.n ≤ 1048576 ∧ p.1.lo.den.n ≤ 1048576 ∧ p.1.hi.num.n ≤ 1048576 ∧ p.1.hi.den.n ≤ 1048576 := fun p hp => by
  have h1 : p.2 ∈ l'.map Prod.snd := by rw [← e]; exact List.mem_map.2 ⟨p, hp, rfl⟩
  obtain ⟨q, hq, e2⟩ := List.mem_map.1 h1
  have h2 := h.data p hp
  have h3 := h'.data q hq
  have h4 := ml q hq
  rw [e2] at h3
  omega
def RetPrZ (w : World) (U : List SD → Bool → Prop) (e : Ending) (w' : World) : Prop := ∃ (a : Option Addr) (n c : Nat) (l : List (SV × SD)) (ok : Bool), e = .returned (.tuple #[.slice a n c, .bool ok]) ∧ Below w.heap.size w w' ∧ PSlS w' a l ∧ l.length = n ∧ U (l.map Prod.snd) ok
def RetPoZ (w : World) (U : List SD → Bool → Prop) (e : Ending) (w' : World) : Prop := ∃ (a : Option Addr) (n c : Nat) (l : List (SV × SD)) (ok : Bool), e = .returned (.tuple #[.slice a n c, .bool ok]) ∧ Below w.heap.size w w' ∧ PRoZ w.heap.size w'.heap.size w' a n c l ∧ U (l.map Prod.snd) ok
end Go.Proofs.YtikllcoekcglcaaGreat
namespace Go.Proofs.YtikllcoekcglcaaGreat
open Go.RowKit
set_option linter.unusedVariables false
set_option maxRecDepth 100000
set_option linter.unusedSimpArgs false

/-- What is read is this point. -/
structure IsDP (p : Rat × Rat) (d : SD) : Prop where
  g1 : d.lo.num.g = decide (nR p.1 < 0)
  n1 : Nm d.lo.num.xs (nR p.1).natAbs
  g2 : d.lo.den.g = decide (dR p.1 < 0)
  n2 : Nm d.lo.den.xs (dR p.1).natAbs
  g3 : d.hi.num.g = decide (nR p.2 < 0)
  n3 : Nm d.hi.num.xs (nR p.2).natAbs
  g4 : d.hi.den.g = decide (dR p.2 < 0)
  n4 : Nm d.hi.den.xs (dR p.2).natAbs
theorem IsDP.same {p : Rat × Rat} {d e : SD} (h : IsDP p d) (k : IsDP p e) : d = e := by
  obtain ⟨⟨⟨a1, b1⟩, ⟨a2, b2⟩⟩, ⟨⟨a3, b3⟩, ⟨a4, b4⟩⟩⟩ := d
  obtain ⟨⟨⟨c1, d1⟩, ⟨c2, d2⟩⟩, ⟨⟨c3, d3⟩, ⟨c4, d4⟩⟩⟩ := e
  have e1 : a1 = c1 := h.g1.trans k.g1.symm
  have e2 : a2 = c2 := h.g2.trans k.g2.symm
  have e3 : a3 = c3 := h.g3.trans k.g3.symm
  have e4 : a4 = c4 := h.g4.trans k.g4.symm
  have f1 : b1 = d1 := h.n1.same k.n1
  have f2 : b2 = d2 := h.n2.same k.n2
  have f3 : b3 = d3 := h.n3.same k.n3
  have f4 : b4 = d4 := h.n4.same k.n4
  rw [e1, e2, e3, e4, f1, f2, f3, f4]
theorem IsDP.is {w : World} {v : SV} {p : Rat × Rat} {d : SD} (h : IsDP p d) (ha : AllAr w [(v.lo.num, d.lo.num), (v.lo.den, d.lo.den), (v.hi.num, d.hi.num), (v.hi.den, d.hi.den)]) : IsPt w v p := by
  have e1 : d.lo.num = ⟨decide (nR p.1 < 0), d.lo.num.xs⟩ := by rw [← h.g1]
  have e2 : d.lo.den = ⟨decide (dR p.1 < 0), d.lo.den.xs⟩ := by rw [← h.g2]
  have e3 : d.hi.num = ⟨decide (nR p.2 < 0), d.hi.num.xs⟩ := by rw [← h.g3]
  have e4 : d.hi.den = ⟨decide (dR p.2 < 0), d.hi.den.xs⟩ := by rw [← h.g4]
  have a1 := ha.head
  have a2 := ha.tail.head
  have a3 := ha.tail.tail.head
  have a4 := ha.tail.tail.tail.head
  rw [e1] at a1
  rw [e2] at a2
  rw [e3] at a3
  rw [e4] at a4
  exact ⟨⟨⟨_, a1, h.n1⟩, ⟨_, a2, h.n2⟩⟩, ⟨⟨_, a3, h.n3⟩, ⟨_, a4, h.n4⟩⟩⟩
theorem IsDP.lens {p : Rat × Rat} {d : SD} {L : Nat} (h : IsDP p d) (k : BdP p L) : d.lo.num.xs.length ≤ L ∧ d.lo.den.xs.length ≤ L ∧ d.hi.num.xs.length ≤ L ∧ d.hi.den.xs.length ≤ L := ⟨h.n1.len_le k.x.n, h.n2.len_le k.x.d, h.n3.len_le k.y.n, h.n4.len_le k.y.d⟩
/-- .. these points. -/
structure IsC (ps : List (Rat × Rat)) (ds : List SD) : Prop where
  len : ds.length = ps.length
  at_ : ∀ (i : Nat) (p : Rat × Rat) (d : SD), ps[i]? = some p → ds[i]? = some d → IsDP p d
theorem IsC.same {ps : List (Rat × Rat)} {ds es : List SD} (h : IsC ps ds) (k : IsC ps es) : ds = es := by
  apply List.ext_getElem?
  intro i
  by_cases hi : i < ps.length
  · have h1 : i < ds.length := by rw [h.len]; exact hi
    have h2 : i < es.length := by rw [k.len]; exact hi
    rw [List.getElem?_eq_getElem h1, List.getElem?_eq_getElem h2]
    congr 1
    exact (h.at_ i ps[i] ds[i] (List.getElem?_eq_getElem hi) (List.getElem?_eq_getElem h1)).same (k.at_ i ps[i] es[i] (List.getElem?_eq_getElem hi) (List.getElem?_eq_getElem h2))
  · rw [List.getElem?_eq_none (by rw [h.len]; omega), List.getElem?_eq_none (by rw [k.len]; omega)]
/-- What a call answers: these points where they fit, or nothing. -/
def AnsC (P : Bool) (F : List SD → Bool) (ps : List (Rat × Rat)) (ds : List SD) (ok : Bool) : Prop := (P = true ∧ ∃ es, IsC ps es ∧ ((F es = true ∧ ok = true ∧ ds = es) ∨ (F es = false ∧ ok = false ∧ ds = []))) ∨ (P = false ∧ ok = false ∧ ds = [])
theorem AnsC.same {P : Bool} {F : List SD → Bool} {ps : List (Rat × Rat)} {d d' : List SD} {ok ok' : Bool} (h : AnsC P F ps d ok) (k : AnsC P F ps d' ok') : d = d' ∧ ok = ok' := by
  rcases h with ⟨p, es, h1, h2⟩ | ⟨p, h1, h2⟩ <;> rcases k with ⟨p', es', k1, k2⟩ | ⟨p', k1, k2⟩
  · obtain rfl := h1.same k1
    rcases h2 with ⟨a, b, c⟩ | ⟨a, b, c⟩ <;> rcases k2 with ⟨a', b', c'⟩ | ⟨a', b', c'⟩
    · exact ⟨c.trans c'.symm, b.trans b'.symm⟩
    · rw [a] at a'; cases a'
    · rw [a] at a'; cases a'
    · exact ⟨c.trans c'.symm, b.trans b'.symm⟩
  · rw [p] at p'; cases p'
  · rw [p] at p'; cases p'
  · exact ⟨h2.trans k2.symm, h1.trans k1.symm⟩
theorem owS_dp {w w' : World} {p : Rat × Rat} {e : Ending} (h : OutPt w p e w') : ∃ (v : SV) (d : SD), e = .returned (.agg #[.bool v.lo.num.g, .slice v.lo.num.a v.lo.num.n v.lo.num.c, .bool v.lo.den.g, .slice v.lo.den.a v.lo.den.n v.lo.den.c, .bool v.hi.num.g, .slice v.hi.num.a v.hi.num.n v.hi.num.c, .bool v.hi.den.g, .slice v.hi.den.a v.hi.den.n v.hi.den.c]) ∧ Below w.heap.size w w' ∧ AllOwn w.heap.size w'.heap.size w' [(v.lo.num, d.lo.num), (v.lo.den, d.lo.den), (v.hi.num, d.hi.num), (v.hi.den, d.hi.den)] ∧ AllAr w' [(v.lo.num, d.lo.num), (v.lo.den, d.lo.den), (v.hi.num, d.hi.num), (v.hi.den, d.hi.den)] ∧ IsDP p d := by
  obtain ⟨v, xs, us, ys, vs, rfl, hb, ho, ha, n1, n2, n3, n4⟩ := h
  exact ⟨v, ⟨⟨⟨_, xs⟩, ⟨_, us⟩⟩, ⟨⟨_, ys⟩, ⟨_, vs⟩⟩⟩, rfl, hb, ho, ha, ⟨rfl, n1, rfl, n2, rfl, n3, rfl, n4⟩⟩
/-- An answer of a call of the program's, with its data. -/
def OutD (w : World) (p : Rat × Rat) (e : Ending) (w' : World) : Prop := ∃ (v : SV) (d : SD), e = .returned (.agg #[.bool v.lo.num.g, .slice v.lo.num.a v.lo.num.n v.lo.num.c, .bool v.lo.den.g, .slice v.lo.den.a v.lo.den.n v.lo.den.c, .bool v.hi.num.g, .slice v.hi.num.a v.hi.num.n v.hi.num.c, .bool v.hi.den.g, .slice v.hi.den.a v.hi.den.n v.hi.den.c]) ∧ Below w.heap.size w w' ∧ AllOwn w.heap.size w'.heap.size w' [(v.lo.num, d.lo.num), (v.lo.den, d.lo.den), (v.hi.num, d.hi.num), (v.hi.den, d.hi.den)] ∧ AllAr w' [(v.lo.num, d.lo.num), (v.lo.den, d.lo.den), (v.hi.num, d.hi.num), (v.hi.den, d.hi.den)] ∧ IsDP p d
theorem calls_dp {f : Nat} {vs : Array Value} {w : World} {p : Rat × Rat} (h : Calls Tryz.prog f vs w (OutPt w p)) : Calls Tryz.prog f vs w (OutD w p) := h.mono fun e w' k => owS_dp k
theorem allSl_ar_mem {w : World} {l : List (SV × SD)} (h : ∀ p ∈ l, AllAr w [(p.1.lo.num, p.2.lo.num), (p.1.lo.den, p.2.lo.den), (p.1.hi.num, p.2.hi.num), (p.1.hi.den, p.2.hi.den)]) : AllAr w (zipPS l) := fun x hx => by
  obtain ⟨p, hp, hx⟩ := List.mem_flatMap.1 hx
  exact h p hp x hx
theorem rep_rowS {M : List Value} {us : List (SV × SD)} {n k : Nat} {u : SV} {d : SD} (hM : M.length = n * 8) (hn : us.length = n) (hk : k < n) (h : ∀ i (h : i < us.length), M[i * 8]? = some (.bool us[i].1.lo.num.g) ∧ M[i * 8 + 1]? = some (.slice us[i].1.lo.num.a us[i].1.lo.num.n us[i].1.lo.num.c) ∧ M[i * 8 + 2]? = some (.bool us[i].1.lo.den.g) ∧ M[i * 8 + 3]? = some (.slice us[i].1.lo.den.a us[i].1.lo.den.n us[i].1.lo.den.c) ∧ M[i * 8 + 4]? = some (.bool us[i].1.hi.num.g) ∧ M[i * 8 + 5]? = some (.slice us[i].1.hi.num.a us[i].1.hi.num.n us[i].1.hi.num.c) ∧ M[i * 8 + 6]? = some (.bool us[i].1.hi.den.g) ∧ M[i * 8 + 7]? = some (.slice us[i].1.hi.den.a us[i].1.hi.den.n us[i].1.hi.den.c)) :
    ∀ i (h : i < (us.set k (u, d)).length), ((((((((M.set (k * 8) (.bool u.lo.num.g)).set (k * 8 + 1) (.slice u.lo.num.a u.lo.num.n u.lo.num.c)).set (k * 8 + 2) (.bool u.lo.den.g)).set (k * 8 + 3) (.slice u.lo.den.a u.lo.den.n u.lo.den.c)).set (k * 8 + 4) (.bool u.hi.num.g)).set (k * 8 + 5) (.slice u.hi.num.a u.hi.num.n u.hi.num.c)).set (k * 8 + 6) (.bool u.hi.den.g)).set (k * 8 + 7) (.slice u.hi.den.a u.hi.den.n u.hi.den.c))[i * 8]? = some (.bool (us.set k (u, d))[i].1.lo.num.g) ∧ ((((((((M.set (k * 8) (.bool u.lo.num.g)).set (k * 8 + 1) (.slice u.lo.num.a u.lo.num.n u.lo.num.c)).set (k * 8 + 2) (.bool u.lo.den.g)).set (k * 8 + 3) (.slice u.lo.den.a u.lo.den.n u.lo.den.c)).set (k * 8 + 4) (.bool u.hi.num.g)).set (k * 8 + 5) (.slice u.hi.num.a u.hi.num.n u.hi.num.c)).set (k * 8 + 6) (.bool u.hi.den.g)).set (k * 8 + 7) (.slice u.hi.den.a u.hi.den.n u.hi.den.c))[i * 8 + 1]? = some (.slice (us.set k (u, d))[i].1.lo.num.a (us.set k (u, d))[i].1.lo.num.n (us.set k (u, d))[i].1.lo.num.c) ∧ ((((((((M.set (k * 8) (.bool u.lo.num.g)).set (k * 8 + 1) (.slice u.lo.num.a u.lo.num.n u.lo.num.c)).set (k * 8 + 2) (.bool u.lo.den.g)).set (k * 8 + 3) (.slice u.lo.den.a u.lo.den.n u.lo.den.c)).set (k * 8 + 4) (.bool u.hi.num.g)).set (k * 8 + 5) (.slice u.hi.num.a u.hi.num.n u.hi.num.c)).set (k * 8 + 6) (.bool u.hi.den.g)).set (k * 8 + 7) (.slice u.hi.den.a u.hi.den.n u.hi.den.c))[i * 8 + 2]? = some (.bool (us.set k (u, d))[i].1.lo.den.g) ∧ ((((((((M.set (k * 8) (.bool u.lo.num.g)).set (k * 8 + 1) (.slice u.lo.num.a u.lo.num.n u.lo.num.c)).set (k * 8 + 2) (.bool u.lo.den.g)).set (k * 8 + 3) (.slice u.lo.den.a u.lo.den.n u.lo.den.c)).set (k * 8 + 4) (.bool u.hi.num.g)).set (k * 8 + 5) (.slice u.hi.num.a u.hi.num.n u.hi.num.c)).set (k * 8 + 6) (.bool u.hi.den.g)).set (k * 8 + 7) (.slice u.hi.den.a u.hi.den.n u.hi.den.c))[i * 8 + 3]? = some (.slice (us.set k (u, d))[i].1.lo.den.a (us.set k (u, d))[i].1.lo.den.n (us.set k (u, d))[i].1.lo.den.c) ∧ ((((((((M.set (k * 8) (.bool u.lo.num.g)).set (k * 8 + 1) (.slice u.lo.num.a u.lo.num.n u.lo.num.c)).set (k * 8 + 2) (.bool u.lo.den.g)).set (k * 8 + 3) (.slice u.lo.den.a u.lo.den.n u.lo.den.c)).set (k * 8 + 4) (.bool u.hi.num.g)).set (k * 8 + 5) (.slice u.hi.num.a u.hi.num.n u.hi.num.c)).set (k * 8 + 6) (.bool u.hi.den.g)).set (k * 8 + 7) (.slice u.hi.den.a u.hi.den.n u.hi.den.c))[i * 8 + 4]? = some (.bool (us.set k (u, d))[i].1.hi.num.g) ∧ ((((((((M.set (k * 8) (.bool u.lo.num.g)).set (k * 8 + 1) (.slice u.lo.num.a u.lo.num.n u.lo.num.c)).set (k * 8 + 2) (.bool u.lo.den.g)).set (k * 8 + 3) (.slice u.lo.den.a u.lo.den.n u.lo.den.c)).set (k * 8 + 4) (.bool u.hi.num.g)).set (k * 8 + 5) (.slice u.hi.num.a u.hi.num.n u.hi.num.c)).set (k * 8 + 6) (.bool u.hi.den.g)).set (k * 8 + 7) (.slice u.hi.den.a u.hi.den.n u.hi.den.c))[i * 8 + 5]? = some (.slice (us.set k (u, d))[i].1.hi.num.a (us.set k (u, d))[i].1.hi.num.n (us.set k (u, d))[i].1.hi.num.c) ∧ ((((((((M.set (k * 8) (.bool u.lo.num.g)).set (k * 8 + 1) (.slice u.lo.num.a u.lo.num.n u.lo.num.c)).set (k * 8 + 2) (.bool u.lo.den.g)).set (k * 8 + 3) (.slice u.lo.den.a u.lo.den.n u.lo.den.c)).set (k * 8 + 4) (.bool u.hi.num.g)).set (k * 8 + 5) (.slice u.hi.num.a u.hi.num.n u.hi.num.c)).set (k * 8 + 6) (.bool u.hi.den.g)).set (k * 8 + 7) (.slice u.hi.den.a u.hi.den.n u.hi.den.c))[i * 8 + 6]? = some (.bool (us.set k (u, d))[i].1.hi.den.g) ∧ ((((((((M.set (k * 8) (.bool u.lo.num.g)).set (k * 8 + 1) (.slice u.lo.num.a u.lo.num.n u.lo.num.c)).set (k * 8 + 2) (.bool u.lo.den.g)).set (k * 8 + 3) (.slice u.lo.den.a u.lo.den.n u.lo.den.c)).set (k * 8 + 4) (.bool u.hi.num.g)).set (k * 8 + 5) (.slice u.hi.num.a u.hi.num.n u.hi.num.c)).set (k * 8 + 6) (.bool u.hi.den.g)).set (k * 8 + 7) (.slice u.hi.den.a u.hi.den.n u.hi.den.c))[i * 8 + 7]? = some (.slice (us.set k (u, d))[i].1.hi.den.a (us.set k (u, d))[i].1.hi.den.n (us.set k (u, d))[i].1.hi.den.c) := by
  intro i hi
  have hi' : i < us.length := by simpa using hi
  by_cases e : i = k
  · subst e
    rw [List.getElem_set_self]
    refine ⟨?_, ?_, ?_, ?_, ?_, ?_, ?_, ?_⟩
    · simp only [List.getElem?_set, List.length_set]; rw [if_neg (by omega), if_neg (by omega), if_neg (by omega), if_neg (by omega), if_neg (by omega), if_neg (by omega), if_neg (by omega)]; rw [if_pos trivial, if_pos (by omega)]
    · simp only [List.getElem?_set, List.length_set]; rw [if_neg (by omega), if_neg (by omega), if_neg (by omega), if_neg (by omega), if_neg (by omega), if_neg (by omega)]; rw [if_pos trivial, if_pos (by omega)]
    · simp only [List.getElem?_set, List.length_set]; rw [if_neg (by omega), if_neg (by omega), if_neg (by omega), if_neg (by omega), if_neg (by omega)]; rw [if_pos trivial, if_pos (by omega)]
    · simp only [List.getElem?_set, List.length_set]; rw [if_neg (by omega), if_neg (by omega), if_neg (by omega), if_neg (by omega)]; rw [if_pos trivial, if_pos (by omega)]
    · simp only [List.getElem?_set, List.length_set]; rw [if_neg (by omega), if_neg (by omega), if_neg (by omega)]; rw [if_pos trivial, if_pos (by omega)]
    · simp only [List.getElem?_set, List.length_set]; rw [if_neg (by omega), if_neg (by omega)]; rw [if_pos trivial, if_pos (by omega)]
    · simp only [List.getElem?_set, List.length_set]; rw [if_neg (by omega)]; rw [if_pos trivial, if_pos (by omega)]
    · simp only [List.getElem?_set, List.length_set]; rw [if_pos trivial, if_pos (by omega)]
  · have h1 := h i hi'
    rw [List.getElem_set_ne (Ne.symm e)]
    simp only [List.getElem?_set]
    refine ⟨?_, ?_, ?_, ?_, ?_, ?_, ?_, ?_⟩
    · rw [if_neg (by omega), if_neg (by omega), if_neg (by omega), if_neg (by omega), if_neg (by omega), if_neg (by omega), if_neg (by omega), if_neg (by omega)]; exact h1.1
    · rw [if_neg (by omega), if_neg (by omega), if_neg (by omega), if_neg (by omega), if_neg (by omega), if_neg (by omega), if_neg (by omega), if_neg (by omega)]; exact h1.2.1
    · rw [if_neg (by omega), if_neg (by omega), if_neg (by omega), if_neg (by omega), if_neg (by omega), if_neg (by omega), if_neg (by omega), if_neg (by omega)]; exact h1.2.2.1
    · rw [if_neg (by omega), if_neg (by omega), if_neg (by omega), if_neg (by omega), if_neg (by omega), if_neg (by omega), if_neg (by omega), if_neg (by omega)]; exact h1.2.2.2.1
    · rw [if_neg (by omega), if_neg (by omega), if_neg (by omega), if_neg (by omega), if_neg (by omega), if_neg (by omega), if_neg (by omega), if_neg (by omega)]; exact h1.2.2.2.2.1
    · rw [if_neg (by omega), if_neg (by omega), if_neg (by omega), if_neg (by omega), if_neg (by omega), if_neg (by omega), if_neg (by omega), if_neg (by omega)]; exact h1.2.2.2.2.2.1
    · rw [if_neg (by omega), if_neg (by omega), if_neg (by omega), if_neg (by omega), if_neg (by omega), if_neg (by omega), if_neg (by omega), if_neg (by omega)]; exact h1.2.2.2.2.2.2.1
    · rw [if_neg (by omega), if_neg (by omega), if_neg (by omega), if_neg (by omega), if_neg (by omega), if_neg (by omega), if_neg (by omega), if_neg (by omega)]; exact h1.2.2.2.2.2.2.2
theorem AllOwn.replZ {lo hi hi' : Nat} {w : World} {A R B U : List (BV × BD)} (h : AllOwn lo hi w (A ++ R ++ B)) (k : AllOwn hi hi' w U) (h1 : lo ≤ hi) (h2 : hi ≤ hi') : AllOwn lo hi' w (A ++ U ++ B) := by
  have hAp : (A ++ R).Pairwise Ap ∧ B.Pairwise Ap ∧ ∀ p ∈ A ++ R, ∀ q ∈ B, Ap p q := List.pairwise_append.1 h.ap
  have hA := (List.pairwise_append.1 hAp.1).1
  have oA : ∀ p ∈ A, OwB2 lo hi w p.1 p.2 := fun p hp => h.own p (List.mem_append_left _ (List.mem_append_left _ hp))
  have oB : ∀ p ∈ B, OwB2 lo hi w p.1 p.2 := fun p hp => h.own p (List.mem_append_right _ hp)
  refine ⟨fun p hp => ?_, List.pairwise_append.2 ⟨List.pairwise_append.2 ⟨hA, k.ap, fun p hp q hq => dis_parts (oA p hp).own (k.own q hq).own (.inl (Nat.le_refl _))⟩, hAp.2.1, fun p hp q hq => ?_⟩⟩
  · rcases List.mem_append.1 hp with hp | hp
    · rcases List.mem_append.1 hp with hp | hp
      · exact ⟨(oA p hp).sg, (oA p hp).own.wide (Nat.le_refl _) h2, (oA p hp).len⟩
      · exact ⟨(k.own p hp).sg, (k.own p hp).own.wide h1 (Nat.le_refl _), (k.own p hp).len⟩
    · exact ⟨(oB p hp).sg, (oB p hp).own.wide (Nat.le_refl _) h2, (oB p hp).len⟩
  · rcases List.mem_append.1 hp with hp | hp
    · exact hAp.2.2 p (List.mem_append_left _ hp) q hq
    · exact dis_parts (k.own p hp).own (oB q hq).own (.inr (Nat.le_refl _))
theorem zipS_set {us : List (SV × SD)} {k : Nat} {u : SV × SD} (h : k < us.length) : zipPS us = zipPS (us.take k) ++ zipPS [us[k]] ++ zipPS (us.drop (k + 1)) ∧ zipPS (us.set k u) = zipPS (us.take k) ++ zipPS [u] ++ zipPS (us.drop (k + 1)) := by
  constructor
  · rw [← zipPS_append, ← zipPS_append]
    congr 1
    rw [List.append_assoc]
    show us = us.take k ++ (us[k] :: us.drop (k + 1))
    rw [← List.drop_eq_getElem_cons h, List.take_append_drop]
  · rw [← zipPS_append, ← zipPS_append]
    congr 1
    rw [List.set_eq_take_append_cons_drop, if_pos h, List.append_assoc]
    rfl
/-- A row of n points that the call makes at block B, and fills: us are in it. -/
structure GrZ (B n : Nat) (w : World) (us : List (SV × SD)) : Prop where
  row : ∃ M, w.ownsRow B 34 8 (.slice (some ⟨B, 0, none⟩) n n) n M ∧ ∀ i (h : i < us.length), M[i * 8]? = some (.bool us[i].1.lo.num.g) ∧ M[i * 8 + 1]? = some (.slice us[i].1.lo.num.a us[i].1.lo.num.n us[i].1.lo.num.c) ∧ M[i * 8 + 2]? = some (.bool us[i].1.lo.den.g) ∧ M[i * 8 + 3]? = some (.slice us[i].1.lo.den.a us[i].1.lo.den.n us[i].1.lo.den.c) ∧ M[i * 8 + 4]? = some (.bool us[i].1.hi.num.g) ∧ M[i * 8 + 5]? = some (.slice us[i].1.hi.num.a us[i].1.hi.num.n us[i].1.hi.num.c) ∧ M[i * 8 + 6]? = some (.bool us[i].1.hi.den.g) ∧ M[i * 8 + 7]? = some (.slice us[i].1.hi.den.a us[i].1.hi.den.n us[i].1.hi.den.c)
  own : AllOwn (B + 1) w.heap.size w (zipPS us)
  ar : ∀ p ∈ us, AllAr w [(p.1.lo.num, p.2.lo.num), (p.1.lo.den, p.2.lo.den), (p.1.hi.num, p.2.hi.num), (p.1.hi.den, p.2.hi.den)]
  lt : B < w.heap.size
  len : us.length = n
theorem GrZ.later {B n : Nat} {w w' : World} {us : List (SV × SD)} (h : GrZ B n w us) (hb : Below w.heap.size w w') : GrZ B n w' us := by
  obtain ⟨M, hr, hM⟩ := h.row
  exact ⟨⟨M, ownsRow_laterS hr hb, hM⟩, (h.own.later hb).wide (Nat.le_refl _) hb.size, fun p hp => (h.ar p hp).later hb, Nat.lt_of_lt_of_le h.lt hb.size, h.len⟩
theorem GrZ.old {B n : Nat} {w : World} {us : List (SV × SD)} (h : GrZ B n w us) {o : Nat} (ho : o < n * 8) : ∃ x, w.cell? ⟨B, o, none⟩ = some x := by
  obtain ⟨M, hr, hM⟩ := h.row
  have hl := hr.1
  rw [hr.cellAt _ (by omega)]
  exact ⟨_, List.getElem?_eq_getElem (by omega)⟩
theorem GrZ.fz {B n : Nat} {w : World} {us : List (SV × SD)} (h : GrZ B n w us) (o : Nat) : w.frozen? ⟨B, o, none⟩ = false := by
  obtain ⟨M, hr, hM⟩ := h.row
  exact hr.frozenAt o
theorem GrZ.put {B n k : Nat} {wr w : World} {us : List (SV × SD)} {u : SV} {d : SD} (h : GrZ B n wr us) (hb : Below wr.heap.size wr w) (hk : k < n) (ho : AllOwn wr.heap.size w.heap.size w [(u.lo.num, d.lo.num), (u.lo.den, d.lo.den), (u.hi.num, d.hi.num), (u.hi.den, d.hi.den)]) (ha : AllAr w [(u.lo.num, d.lo.num), (u.lo.den, d.lo.den), (u.hi.num, d.hi.num), (u.hi.den, d.hi.den)]) :
    GrZ B n ((((((((w.setCell ⟨B, k * 8, none⟩ (.bool u.lo.num.g)).setCell ⟨B, k * 8 + 1, none⟩ (.slice u.lo.num.a u.lo.num.n u.lo.num.c)).setCell ⟨B, k * 8 + 2, none⟩ (.bool u.lo.den.g)).setCell ⟨B, k * 8 + 3, none⟩ (.slice u.lo.den.a u.lo.den.n u.lo.den.c)).setCell ⟨B, k * 8 + 4, none⟩ (.bool u.hi.num.g)).setCell ⟨B, k * 8 + 5, none⟩ (.slice u.hi.num.a u.hi.num.n u.hi.num.c)).setCell ⟨B, k * 8 + 6, none⟩ (.bool u.hi.den.g)).setCell ⟨B, k * 8 + 7, none⟩ (.slice u.hi.den.a u.hi.den.n u.hi.den.c)) (us.set k (u, d)) := by
  have h2 := h.later hb
  obtain ⟨M, hM, hL⟩ := h2.row
  have bt : But B (B + 1) w ((((((((w.setCell ⟨B, k * 8, none⟩ (.bool u.lo.num.g)).setCell ⟨B, k * 8 + 1, none⟩ (.slice u.lo.num.a u.lo.num.n u.lo.num.c)).setCell ⟨B, k * 8 + 2, none⟩ (.bool u.lo.den.g)).setCell ⟨B, k * 8 + 3, none⟩ (.slice u.lo.den.a u.lo.den.n u.lo.den.c)).setCell ⟨B, k * 8 + 4, none⟩ (.bool u.hi.num.g)).setCell ⟨B, k * 8 + 5, none⟩ (.slice u.hi.num.a u.hi.num.n u.hi.num.c)).setCell ⟨B, k * 8 + 6, none⟩ (.bool u.hi.den.g)).setCell ⟨B, k * 8 + 7, none⟩ (.slice u.hi.den.a u.hi.den.n u.hi.den.c)) := but_rowS
  have hkl : k < us.length := by rw [h.len]; exact hk
  have own := AllOwn.replZ (U := zipPS [(u, d)]) (by have := h.own.later hb; rw [(zipS_set (u := (u, d)) hkl).1] at this; exact this) (by rw [zipPS_one]; exact ho) (Nat.succ_le_of_lt h.lt) hb.size
  rw [← (zipS_set (u := (u, d)) hkl).2] at own
  have ar : AllAr w (zipPS (us.set k (u, d))) := allSl_ar_mem (fun p hp => by
    rcases List.mem_or_eq_of_mem_set hp with hp | rfl
    · exact h2.ar p hp
    · exact ha)
  refine ⟨⟨_, (World.ownsRow.stored (World.ownsRow.stored (World.ownsRow.stored (World.ownsRow.stored (World.ownsRow.stored (World.ownsRow.stored (World.ownsRow.stored (World.ownsRow.stored hM (k * 8) (.bool u.lo.num.g)).1 (k * 8 + 1) (.slice u.lo.num.a u.lo.num.n u.lo.num.c)).1 (k * 8 + 2) (.bool u.lo.den.g)).1 (k * 8 + 3) (.slice u.lo.den.a u.lo.den.n u.lo.den.c)).1 (k * 8 + 4) (.bool u.hi.num.g)).1 (k * 8 + 5) (.slice u.hi.num.a u.hi.num.n u.hi.num.c)).1 (k * 8 + 6) (.bool u.hi.den.g)).1 (k * 8 + 7) (.slice u.hi.den.a u.hi.den.n u.hi.den.c)).1, rep_rowS hM.1 h.len hk hL⟩, (own.but bt (.inr (Nat.le_refl _))).wide (Nat.le_refl _) bt.size, fun p hp x hx => ar_fin bt own ar (Nat.le_refl _) x (zipPS_mem hp hx), Nat.lt_of_lt_of_le h2.lt bt.size, by rw [List.length_set]; exact h.len⟩
theorem GrZ.bel {B n k : Nat} {w0 w : World} {u : SV} (hb : Below w0.heap.size w0 w) (hB : w0.heap.size ≤ B) : Below w0.heap.size w0 ((((((((w.setCell ⟨B, k * 8, none⟩ (.bool u.lo.num.g)).setCell ⟨B, k * 8 + 1, none⟩ (.slice u.lo.num.a u.lo.num.n u.lo.num.c)).setCell ⟨B, k * 8 + 2, none⟩ (.bool u.lo.den.g)).setCell ⟨B, k * 8 + 3, none⟩ (.slice u.lo.den.a u.lo.den.n u.lo.den.c)).setCell ⟨B, k * 8 + 4, none⟩ (.bool u.hi.num.g)).setCell ⟨B, k * 8 + 5, none⟩ (.slice u.hi.num.a u.hi.num.n u.hi.num.c)).setCell ⟨B, k * 8 + 6, none⟩ (.bool u.hi.den.g)).setCell ⟨B, k * 8 + 7, none⟩ (.slice u.hi.den.a u.hi.den.n u.hi.den.c)) := (but_rowS (w := w) (G := B) (k := k) (u := u)).below hb hB hb.size
def zSV : SV := ⟨⟨⟨false, none, 0, 0⟩, ⟨false, none, 0, 0⟩⟩, ⟨⟨false, none, 0, 0⟩, ⟨false, none, 0, 0⟩⟩⟩
def zSD : SD := ⟨⟨⟨false, []⟩, ⟨false, []⟩⟩, ⟨⟨false, []⟩, ⟨false, []⟩⟩⟩
theorem zips_zero (lo hi : Nat) (w : World) (n : Nat) : AllOwn lo hi w (zipPS (List.replicate n (zSV, zSD))) := by
  have mem : ∀ p ∈ zipPS (List.replicate n (zSV, zSD)), p = ((⟨false, none, 0, 0⟩ : BV), (⟨false, []⟩ : BD)) := fun p hp => by
    obtain ⟨q, hq, hp⟩ := List.mem_flatMap.1 hp
    obtain rfl := (List.mem_replicate.1 hq).2
    simpa [zSV, zSD] using hp
  refine ⟨fun p hp => ?_, List.pairwise_of_forall_mem_list (fun p hp q hq => ?_)⟩
  · rw [mem p hp]
    exact ⟨rfl, .inl rfl, rfl⟩
  · rw [mem p hp]
    exact .inl rfl
theorem zero_ar (w : World) : AllAr w [(zSV.lo.num, zSD.lo.num), (zSV.lo.den, zSD.lo.den), (zSV.hi.num, zSD.hi.num), (zSV.hi.den, zSD.hi.den)] := fun p hp => by
  have hp : p = ((⟨false, none, 0, 0⟩ : BV), (⟨false, []⟩ : BD)) := by simpa [zSV, zSD] using hp
  subst hp
  exact ⟨rfl, Arg.none w⟩
theorem GrZ.start {n : Nat} {w w1 : World} (hr : w1.ownsRow w.heap.size 34 8 (.slice (some ⟨w.heap.size, 0, none⟩) n n) n (madeCells #[.bool false, .slice none 0 0, .bool false, .slice none 0 0, .bool false, .slice none 0 0, .bool false, .slice none 0 0] (n * 8)).toList) (hb : Below w.heap.size w w1) : GrZ w.heap.size n w1 (List.replicate n (zSV, zSD)) := by
  have lt : w.heap.size < w1.heap.size := by
    rcases hr.2 with ⟨h', _⟩ | ⟨g', cap, cur, hv, _, hg, _⟩
    · simp at h'
    · simp only [Value.slice.injEq, Option.some.injEq, Addr.mk.injEq, and_true, true_and] at hv
      have := (Array.getElem?_eq_some_iff.1 hg).1
      omega
  refine ⟨⟨_, hr, fun i hi => ?_⟩, zips_zero _ _ _ _, fun p hp => ?_, lt, List.length_replicate⟩
  · have hi' : i < n := by simpa using hi
    have e : (List.replicate n (zSV, zSD))[i].1 = zSV := by rw [List.getElem_replicate]
    rw [e]
    refine ⟨?_, ?_, ?_, ?_, ?_, ?_, ?_, ?_⟩ <;> (unfold madeCells; simp only [Array.toList_map, Array.toList_range, List.getElem?_map]; rw [List.getElem?_range (by omega)]; simp [zSV, Nat.mul_add_mod, Nat.mul_mod_left]; try rfl)
  · obtain rfl := (List.mem_replicate.1 hp).2
    exact zero_ar w1
end Go.Proofs.YtikllcoekcglcaaGreat
namespace Go.Proofs.YtikllcoekcglcaaGreat
open Go.RowKit
set_option linter.unusedVariables false
set_option maxRecDepth 100000
set_option linter.unusedSimpArgs false

/-- The cells of some points, one after another. -/
def flatZ : List (SV × SD) → List Value
  | [] => []
  | p :: l => (Value.bool p.1.lo.num.g : Value) :: (Value.slice p.1.lo.num.a p.1.lo.num.n p.1.lo.num.c : Value) :: (Value.bool p.1.lo.den.g : Value) :: (Value.slice p.1.lo.den.a p.1.lo.den.n p.1.lo.den.c : Value) :: (Value.bool p.1.hi.num.g : Value) :: (Value.slice p.1.hi.num.a p.1.hi.num.n p.1.hi.num.c : Value) :: (Value.bool p.1.hi.den.g : Value) :: (Value.slice p.1.hi.den.a p.1.hi.den.n p.1.hi.den.c : Value) :: flatZ l
theorem flatZ_append (l l' : List (SV × SD)) : flatZ (l ++ l') = flatZ l ++ flatZ l' := by
  induction l with
  | nil => rfl
  | cons p l ih => simp only [List.cons_append, flatZ, ih]
theorem flatZ_get (l : List (SV × SD)) : ∀ i (h : i < l.length), (flatZ l)[i * 8]? = some (.bool l[i].1.lo.num.g) ∧ (flatZ l)[i * 8 + 1]? = some (.slice l[i].1.lo.num.a l[i].1.lo.num.n l[i].1.lo.num.c) ∧ (flatZ l)[i * 8 + 2]? = some (.bool l[i].1.lo.den.g) ∧ (flatZ l)[i * 8 + 3]? = some (.slice l[i].1.lo.den.a l[i].1.lo.den.n l[i].1.lo.den.c) ∧ (flatZ l)[i * 8 + 4]? = some (.bool l[i].1.hi.num.g) ∧ (flatZ l)[i * 8 + 5]? = some (.slice l[i].1.hi.num.a l[i].1.hi.num.n l[i].1.hi.num.c) ∧ (flatZ l)[i * 8 + 6]? = some (.bool l[i].1.hi.den.g) ∧ (flatZ l)[i * 8 + 7]? = some (.slice l[i].1.hi.den.a l[i].1.hi.den.n l[i].1.hi.den.c) := by
  induction l with
  | nil => intro i h; simp at h
  | cons p l ih =>
    intro i h
    match i with
    | 0 => exact ⟨rfl, rfl, rfl, rfl, rfl, rfl, rfl, rfl⟩
    | i + 1 =>
      have h1 := ih i (by simpa using h)
      have e : ∀ c, (i + 1) * 8 + c = (i * 8 + c) + 1 + 1 + 1 + 1 + 1 + 1 + 1 + 1 := fun c => by omega
      have e0 : (i + 1) * 8 = (i * 8) + 1 + 1 + 1 + 1 + 1 + 1 + 1 + 1 := by omega
      refine ⟨?_, ?_, ?_, ?_, ?_, ?_, ?_, ?_⟩
      · rw [e0]; exact h1.1
      · rw [e]; exact h1.2.1
      · rw [e]; exact h1.2.2.1
      · rw [e]; exact h1.2.2.2.1
      · rw [e]; exact h1.2.2.2.2.1
      · rw [e]; exact h1.2.2.2.2.2.1
      · rw [e]; exact h1.2.2.2.2.2.2.1
      · rw [e]; exact h1.2.2.2.2.2.2.2
/-- Limbs in blocks of integers. -/
def TypZ (w : World) (l : List (BV × BD)) : Prop := ∀ p ∈ l, ∃ lo hi, Own2 lo hi w p.1.a p.2.xs
theorem TypZ.later {w w' : World} {l : List (BV × BD)} (h : TypZ w l) (hb : Below w.heap.size w w') : TypZ w' l := fun p hp => by
  obtain ⟨lo, hi, ho⟩ := h p hp
  exact ⟨lo, hi, ho.later hb⟩
theorem TypZ.append {w : World} {l m : List (BV × BD)} (h : TypZ w l) (k : TypZ w m) : TypZ w (l ++ m) := fun p hp => by
  rcases List.mem_append.1 hp with hp | hp
  · exact h p hp
  · exact k p hp
theorem AllOwn.typZ {lo hi : Nat} {w : World} {l : List (BV × BD)} (h : AllOwn lo hi w l) : TypZ w l := fun p hp => ⟨lo, hi, (h.own p hp).own⟩
theorem TypZ.grown {w w' : World} {l : List (BV × BD)} {v : Value} {n B : Nat} {M : List Value} (h : TypZ w l) (hg : w.grownBy w' v.ownBlock) (hr : w.ownsRow B 34 8 v n M) : TypZ w' l := fun p hp => by
  obtain ⟨lo, hi, ho⟩ := h p hp
  refine ⟨lo, hi, ?_⟩
  rcases ho with e | ⟨b, cur, e, h1, h2, hb, hc⟩
  · exact .inl e
  · refine .inr ⟨b, cur, e, h1, h2, ?_, hc⟩
    rw [hg.block b (Array.getElem?_eq_some_iff.1 hb).1 (fun eb => ?_)]
    · exact hb
    · rcases hr.2 with ⟨h', _⟩ | ⟨g', cap, cur', hv, _, hgt, _⟩
      · rw [h'] at eb; simp [Value.ownBlock] at eb
      · rw [hv] at eb
        simp only [Value.ownBlock, Option.some.injEq] at eb
        subst eb
        rw [hb] at hgt
        simp only [Option.some.injEq, Obj.cells.injEq] at hgt
        exact absurd hgt.2.1 (by decide)
theorem TypZ.ar {w w' : World} {l : List (BV × BD)} (ho : TypZ w' l) (ha : AllAr w l) : AllAr w' l := fun p hp => by
  obtain ⟨lo, hi, h⟩ := ho p hp
  exact ⟨(ha p hp).sg, ⟨h.sl, (ha p hp).ar.len, (ha p hp).ar.cap, (ha p hp).ar.top, (ha p hp).ar.addr⟩⟩
/-- A row of points that grows by append, from block B on (or nil). -/
structure GwZ (B : Nat) (w : World) (v : Value) (us : List (SV × SD)) : Prop where
  row : w.ownsRow B 34 8 v us.length (flatZ us)
  typ : TypZ w (zipPS us)
  ar : AllAr w (zipPS us)
theorem GwZ.nil (B : Nat) (w : World) : GwZ B w (.slice none 0 0) [] := ⟨⟨rfl, .inl ⟨rfl, rfl⟩⟩, fun p hp => (by cases hp), fun p hp => (by cases hp)⟩
theorem GwZ.later {B : Nat} {w w' : World} {v : Value} {us : List (SV × SD)} (h : GwZ B w v us) (hb : Below w.heap.size w w') : GwZ B w' v us := by
  refine ⟨⟨h.row.1, ?_⟩, h.typ.later hb, h.ar.later hb⟩
  rcases h.row.2 with h' | ⟨g', cap, cur, hv, h1, hg, r⟩
  · exact .inl h'
  · refine .inr ⟨g', cap, cur, hv, h1, ?_, r⟩
    rw [hb.block g' (Array.getElem?_eq_some_iff.1 hg).1]
    exact hg
theorem GwZ.base {B : Nat} {w : World} {v : Value} {us : List (SV × SD)} (h : GwZ B w v us) : ∀ k, v.ownBlock = some k → B ≤ k := fun k e => by
  rcases h.row.2 with ⟨h', _⟩ | ⟨g', cap, cur, hv, h1, _⟩
  · rw [h'] at e; simp [Value.ownBlock] at e
  · rw [hv] at e
    simp only [Value.ownBlock, Option.some.injEq] at e
    omega
theorem GwZ.arg {B : Nat} {w : World} {v : Value} {us : List (SV × SD)} (h : GwZ B w v us) : ∃ a c, v = .slice a us.length c ∧ (a = none → c = 0) ∧ PArS w a us.length c us := by
  have rd : ∀ p ∈ us, AllAr w [(p.1.lo.num, p.2.lo.num), (p.1.lo.den, p.2.lo.den), (p.1.hi.num, p.2.hi.num), (p.1.hi.den, p.2.hi.den)] := fun p hp x hx => h.ar x (zipPS_mem hp hx)
  rcases h.row.2 with ⟨h', h0⟩ | ⟨g, cap, cur, hv, h1, hg, r1, r2, r3⟩
  · exact ⟨none, 0, by rw [h', h0], fun _ => rfl, ⟨.inl (List.length_eq_zero_iff.1 h0), rd, rfl, by omega, Nat.zero_le _⟩⟩
  · have hr := h.row
    rw [hv] at hr
    refine ⟨_, cap, hv, fun e => (by cases e), ⟨.inr ⟨g, 0, rfl, (Array.getElem?_eq_some_iff.1 hg).1, fun i hi => ?_⟩, rd, rfl, r1, r2⟩⟩
    have hc := flatZ_get us i hi
    refine ⟨?_, ?_, ?_, ?_, ?_, ?_, ?_, ?_⟩ <;> rw [Nat.zero_add, hr.cellAt _ (by omega)]
    · exact hc.1
    · exact hc.2.1
    · exact hc.2.2.1
    · exact hc.2.2.2.1
    · exact hc.2.2.2.2.1
    · exact hc.2.2.2.2.2.1
    · exact hc.2.2.2.2.2.2.1
    · exact hc.2.2.2.2.2.2.2
theorem GwZ.grow {B g cap : Nat} {w w' : World} {v : Value} {us : List (SV × SD)} {u : SV} {d : SD} (h : GwZ B w v us) (ht : TypZ w [(u.lo.num, d.lo.num), (u.lo.den, d.lo.den), (u.hi.num, d.hi.num), (u.hi.den, d.hi.den)]) (ha : AllAr w [(u.lo.num, d.lo.num), (u.lo.den, d.lo.den), (u.hi.num, d.hi.num), (u.hi.den, d.hi.den)])
    (hr : w'.ownsRow B 34 8 (.slice (some ⟨g, 0, none⟩) (us.length + 1) cap) (us.length + 1) (flatZ us ++ [.bool u.lo.num.g, .slice u.lo.num.a u.lo.num.n u.lo.num.c, .bool u.lo.den.g, .slice u.lo.den.a u.lo.den.n u.lo.den.c, .bool u.hi.num.g, .slice u.hi.num.a u.hi.num.n u.hi.num.c, .bool u.hi.den.g, .slice u.hi.den.a u.hi.den.n u.hi.den.c])) (hg : w.grownBy w' v.ownBlock) : GwZ B w' (.slice (some ⟨g, 0, none⟩) (us.length + 1) cap) (us ++ [(u, d)]) := by
  have t1 := (h.typ.append ht).grown hg h.row
  have t2 := t1.ar (h.ar.append ha)
  rw [← zipPS_one (u, d), ← zipPS_append] at t1 t2
  refine ⟨?_, t1, t2⟩
  rw [flatZ_append, List.length_append]
  exact hr
theorem GwZ.bel {B : Nat} {w0 w w' : World} {v : Value} {us : List (SV × SD)} (h : GwZ B w v us) (hb : Below w0.heap.size w0 w) (hB : w0.heap.size ≤ B) (hg : w.grownBy w' v.ownBlock) : Below w0.heap.size w0 w' := hb.grown hg hb.size (fun k e => Nat.le_trans hB (h.base k e))
theorem oneZ {u : SV} : ∀ u' ∈ [Value.bool u.lo.num.g, Value.slice u.lo.num.a u.lo.num.n u.lo.num.c, Value.bool u.lo.den.g, Value.slice u.lo.den.a u.lo.den.n u.lo.den.c, Value.bool u.hi.num.g, Value.slice u.hi.num.a u.hi.num.n u.hi.num.c, Value.bool u.hi.den.g, Value.slice u.hi.den.a u.hi.den.n u.hi.den.c], u'.oneCell' = true := fun u' hu' => by
  simp only [List.mem_cons, List.not_mem_nil, or_false] at hu'
  rcases hu' with rfl | rfl | rfl | rfl | rfl | rfl | rfl | rfl <;> rfl
theorem stepZ {ops : Array Oper} {o : Oper} {a : Act} {K : Act → World → Prop} {Q : Exit → Act → World → Prop} {E : Prop} {w : World} (hgd : o.guard = none) (s x : Operand)
    (ho : o.op = .call { callee := .builtin .append, args := #[s, x], argTypes := #[23, 23] }) (B : Nat) (v : Value) (us : List (SV × SD)) (hs : a.eval s = v) (hG : GwZ B w v us) (G : Nat) (u : SV) (d : SD) (hx : a.eval x = .slice (some ⟨G, 0, none⟩) 1 1)
    (hblk : w.heap[G]? = some (.cells #[.bool u.lo.num.g, .slice u.lo.num.a u.lo.num.n u.lo.num.c, .bool u.lo.den.g, .slice u.lo.den.a u.lo.den.n u.lo.den.c, .bool u.hi.num.g, .slice u.hi.num.a u.hi.num.n u.hi.num.c, .bool u.hi.den.g, .slice u.hi.den.a u.hi.den.n u.hi.den.c] 34 (0, 0))) (ht : TypZ w [(u.lo.num, d.lo.num), (u.lo.den, d.lo.den), (u.hi.num, d.hi.num), (u.hi.den, d.hi.den)]) (ha : AllAr w [(u.lo.num, d.lo.num), (u.lo.den, d.lo.den), (u.hi.num, d.hi.num), (u.hi.den, d.hi.den)]) (hlen : us.length ≤ 100000) (hB : B ≤ w.heap.size)
    (h : ∀ g cap w', GwZ B w' (.slice (some ⟨g, 0, none⟩) (us.length + 1) cap) (us ++ [(u, d)]) → w.grownBy w' v.ownBlock → K (a.put o.dst (.slice (some ⟨g, 0, none⟩) (us.length + 1) cap)) w') : if Region.wanted o (yielded ops a.tmps) = true then Oper.wp Tryz.prog o a w K Q else E := by
  obtain ⟨i0, hi, hz0, hz1, hz2⟩ := info_parts Tryz.info34
  refine step_append_lies w hgd s x 23 ho B 34 i0 (.agg #[.bool false, .slice none 0 0, .bool false, .slice none 0 0, .bool false, .slice none 0 0, .bool false, .slice none 0 0]) 8 128 Tryz.underlying23 hi hz0 hz1 hz2 rfl (by decide) v us.length (flatZ us) hs hG.row ⟨G, 0, none⟩ 1 1 [.bool u.lo.num.g, .slice u.lo.num.a u.lo.num.n u.lo.num.c, .bool u.lo.den.g, .slice u.lo.den.a u.lo.den.n u.lo.den.c, .bool u.hi.num.g, .slice u.hi.num.a u.hi.num.n u.hi.num.c, .bool u.hi.den.g, .slice u.hi.den.a u.hi.den.n u.hi.den.c] hx rfl (World.news_of_block hblk) oneZ (by omega) (by unfold maxLen; omega) (by omega) hB _ rfl ?_
  intro g cap w' hown hgrow _ _
  exact h g cap w' (hG.grow ht ha hown hgrow) hgrow
/-- What a specification's function answers, with its data. -/
theorem owV_data {lo hi lo' hi' : Nat} {w : World} {v : SV} {p : Rat × Rat} (h : OwV lo hi w v.lo p.1) (k : OwV lo' hi' w v.hi p.2) : ∃ d : SD, TypZ w [(v.lo.num, d.lo.num), (v.lo.den, d.lo.den), (v.hi.num, d.hi.num), (v.hi.den, d.hi.den)] ∧ AllAr w [(v.lo.num, d.lo.num), (v.lo.den, d.lo.den), (v.hi.num, d.hi.num), (v.hi.den, d.hi.den)] ∧ IsDP p d := by
  obtain ⟨⟨x1, a1, b1, c1⟩, ⟨x2, a2, b2, c2⟩⟩ := h
  obtain ⟨⟨x3, a3, b3, c3⟩, ⟨x4, a4, b4, c4⟩⟩ := k
  refine ⟨⟨⟨⟨_, x1⟩, ⟨_, x2⟩⟩, ⟨⟨_, x3⟩, ⟨_, x4⟩⟩⟩, ?_, AllAr.cons b1.head (AllAr.cons b2.head (AllAr.cons b3.head (AllAr.cons b4.head (AllAr.nil _)))), ⟨rfl, c1, rfl, c2, rfl, c3, rfl, c4⟩⟩
  exact ((a1.typZ.append a2.typZ).append a3.typZ).append a4.typZ
theorem TypZ.slc {w w' : World} {l : List (BV × BD)} (ho : TypZ w' l) (ha : AllSl w l) : AllSl w' l := fun p hp => by
  obtain ⟨lo, hi, h⟩ := ho p hp
  exact ⟨(ha p hp).sg, h.sl, (ha p hp).len⟩
theorem AllSl.appendZ {w : World} {l m : List (BV × BD)} (h : AllSl w l) (k : AllSl w m) : AllSl w (l ++ m) := fun p hp => by
  rcases List.mem_append.1 hp with hp | hp
  · exact h p hp
  · exact k p hp
/-- A row of points, to be read, that grows by append, from block B on (or nil). -/
structure GwY (B : Nat) (w : World) (v : Value) (us : List (SV × SD)) : Prop where
  row : w.ownsRow B 34 8 v us.length (flatZ us)
  typ : TypZ w (zipPS us)
  ar : AllSl w (zipPS us)
theorem GwY.nil (B : Nat) (w : World) : GwY B w (.slice none 0 0) [] := ⟨⟨rfl, .inl ⟨rfl, rfl⟩⟩, fun p hp => (by cases hp), fun p hp => (by cases hp)⟩
theorem GwY.later {B : Nat} {w w' : World} {v : Value} {us : List (SV × SD)} (h : GwY B w v us) (hb : Below w.heap.size w w') : GwY B w' v us := by
  refine ⟨⟨h.row.1, ?_⟩, h.typ.later hb, h.ar.later hb⟩
  rcases h.row.2 with h' | ⟨g', cap, cur, hv, h1, hg, r⟩
  · exact .inl h'
  · refine .inr ⟨g', cap, cur, hv, h1, ?_, r⟩
    rw [hb.block g' (Array.getElem?_eq_some_iff.1 hg).1]
    exact hg
theorem GwY.base {B : Nat} {w : World} {v : Value} {us : List (SV × SD)} (h : GwY B w v us) : ∀ k, v.ownBlock = some k → B ≤ k := fun k e => by
  rcases h.row.2 with ⟨h', _⟩ | ⟨g', cap, cur, hv, h1, _⟩
  · rw [h'] at e; simp [Value.ownBlock] at e
  · rw [hv] at e
    simp only [Value.ownBlock, Option.some.injEq] at e
    omega
theorem GwY.sl {B : Nat} {w : World} {v : Value} {us : List (SV × SD)} (h : GwY B w v us) : ∃ a c, v = .slice a us.length c ∧ PSlS w a us := by
  have rd : ∀ p ∈ us, AllSl w [(p.1.lo.num, p.2.lo.num), (p.1.lo.den, p.2.lo.den), (p.1.hi.num, p.2.hi.num), (p.1.hi.den, p.2.hi.den)] := fun p hp x hx => h.ar x (zipPS_mem hp hx)
  rcases h.row.2 with ⟨h', h0⟩ | ⟨g, cap, cur, hv, h1, hg, r1, r2, r3⟩
  · exact ⟨none, 0, by rw [h', h0], ⟨.inl (List.length_eq_zero_iff.1 h0), rd⟩⟩
  · have hr := h.row
    rw [hv] at hr
    refine ⟨_, cap, hv, ⟨.inr ⟨g, 0, rfl, (Array.getElem?_eq_some_iff.1 hg).1, fun i hi => ?_⟩, rd⟩⟩
    have hc := flatZ_get us i hi
    refine ⟨?_, ?_, ?_, ?_, ?_, ?_, ?_, ?_⟩ <;> rw [Nat.zero_add, hr.cellAt _ (by omega)]
    · exact hc.1
    · exact hc.2.1
    · exact hc.2.2.1
    · exact hc.2.2.2.1
    · exact hc.2.2.2.2.1
    · exact hc.2.2.2.2.2.1
    · exact hc.2.2.2.2.2.2.1
    · exact hc.2.2.2.2.2.2.2
theorem GwY.grow {B g cap : Nat} {w w' : World} {v : Value} {us : List (SV × SD)} {u : SV} {d : SD} (h : GwY B w v us) (ht : TypZ w [(u.lo.num, d.lo.num), (u.lo.den, d.lo.den), (u.hi.num, d.hi.num), (u.hi.den, d.hi.den)]) (ha : AllSl w [(u.lo.num, d.lo.num), (u.lo.den, d.lo.den), (u.hi.num, d.hi.num), (u.hi.den, d.hi.den)])
    (hr : w'.ownsRow B 34 8 (.slice (some ⟨g, 0, none⟩) (us.length + 1) cap) (us.length + 1) (flatZ us ++ [.bool u.lo.num.g, .slice u.lo.num.a u.lo.num.n u.lo.num.c, .bool u.lo.den.g, .slice u.lo.den.a u.lo.den.n u.lo.den.c, .bool u.hi.num.g, .slice u.hi.num.a u.hi.num.n u.hi.num.c, .bool u.hi.den.g, .slice u.hi.den.a u.hi.den.n u.hi.den.c])) (hg : w.grownBy w' v.ownBlock) : GwY B w' (.slice (some ⟨g, 0, none⟩) (us.length + 1) cap) (us ++ [(u, d)]) := by
  have t1 := (h.typ.append ht).grown hg h.row
  have t2 := t1.slc (h.ar.appendZ ha)
  rw [← zipPS_one (u, d), ← zipPS_append] at t1 t2
  refine ⟨?_, t1, t2⟩
  rw [flatZ_append, List.length_append]
  exact hr
theorem GwY.bel {B : Nat} {w0 w w' : World} {v : Value} {us : List (SV × SD)} (h : GwY B w v us) (hb : Below w0.heap.size w0 w) (hB : w0.heap.size ≤ B) (hg : w.grownBy w' v.ownBlock) : Below w0.heap.size w0 w' := hb.grown hg hb.size (fun k e => Nat.le_trans hB (h.base k e))
/-- One point is appended. -/
theorem appY {ops : Array Oper} {rest : List Oper} {o : Oper} {a : Act} {Q : Exit → Act → World → Prop} {w : World} (hgd : o.guard = none) (s x : Operand)
    (ho : o.op = .call { callee := .builtin .append, args := #[s, x], argTypes := #[23, 23] }) (B : Nat) (v : Value) (us : List (SV × SD)) (hs : a.eval s = v) (hG : GwY B w v us) (G : Nat) (u : SV) (d : SD) (hx : a.eval x = .slice (some ⟨G, 0, none⟩) 1 1)
    (hblk : w.heap[G]? = some (.cells #[.bool u.lo.num.g, .slice u.lo.num.a u.lo.num.n u.lo.num.c, .bool u.lo.den.g, .slice u.lo.den.a u.lo.den.n u.lo.den.c, .bool u.hi.num.g, .slice u.hi.num.a u.hi.num.n u.hi.num.c, .bool u.hi.den.g, .slice u.hi.den.a u.hi.den.n u.hi.den.c] 34 (0, 0))) (ht : TypZ w [(u.lo.num, d.lo.num), (u.lo.den, d.lo.den), (u.hi.num, d.hi.num), (u.hi.den, d.hi.den)]) (ha : AllSl w [(u.lo.num, d.lo.num), (u.lo.den, d.lo.den), (u.hi.num, d.hi.num), (u.hi.den, d.hi.den)]) (hlen : us.length ≤ 100000) (hB : B ≤ w.heap.size)
    (h : ∀ g cap w', GwY B w' (.slice (some ⟨g, 0, none⟩) (us.length + 1) cap) (us ++ [(u, d)]) → w.grownBy w' v.ownBlock → wpList Tryz.prog ops Q rest (a.put o.dst (.slice (some ⟨g, 0, none⟩) (us.length + 1) cap)) w') : wpList Tryz.prog ops Q (o :: rest) a w := by
  obtain ⟨i0, hi, hz0, hz1, hz2⟩ := info_parts Tryz.info34
  refine wpList_append_lies w hgd s x 23 ho B 34 i0 (.agg #[.bool false, .slice none 0 0, .bool false, .slice none 0 0, .bool false, .slice none 0 0, .bool false, .slice none 0 0]) 8 128 Tryz.underlying23 hi hz0 hz1 hz2 rfl (by decide) v us.length (flatZ us) hs hG.row ⟨G, 0, none⟩ 1 1 [.bool u.lo.num.g, .slice u.lo.num.a u.lo.num.n u.lo.num.c, .bool u.lo.den.g, .slice u.lo.den.a u.lo.den.n u.lo.den.c, .bool u.hi.num.g, .slice u.hi.num.a u.hi.num.n u.hi.num.c, .bool u.hi.den.g, .slice u.hi.den.a u.hi.den.n u.hi.den.c] hx rfl (World.news_of_block hblk) oneZ (by omega) (by unfold maxLen; omega) (by omega) hB _ rfl ?_
  intro g cap w' hown hgrow _ _
  exact h g cap w' (hG.grow ht ha hown hgrow) hgrow
end Go.Proofs.YtikllcoekcglcaaGreat
namespace Go.Proofs.YtikllcoekcglcaaGreat
open Go.RowKit
set_option linter.unusedVariables false
set_option maxRecDepth 100000
set_option linter.unusedSimpArgs false

theorem svZ {g : Bool} {xs : List Int} (h : goodB g xs = true) : g = decide (sv g xs < 0) ∧ Nm xs (sv g xs).natAbs := by
  have hn := goodB_neg h
  obtain ⟨h1, h2, h3, h4⟩ := good_parts h
  have hv := val_nonneg h1
  refine ⟨?_, ⟨h1, h2, ?_⟩⟩
  · cases g
    · exact (decide_eq_false (fun e => by cases hn.1.1 e)).symm
    · exact (decide_eq_true (hn.1.2 rfl)).symm
  · unfold sv
    split <;> omega
theorem low_gQ {d : QD} (hg : gQ d = true) : Low (nQ d) (dQ d) := by
  unfold gQ at hg
  obtain ⟨g1, g2⟩ := goodR_parts hg
  unfold goodR at hg
  simp only [Bool.and_eq_true, Bool.not_eq_true', decide_eq_true_eq] at hg
  obtain ⟨_, h1, h2, h3⟩ := hg
  obtain ⟨o1, t1, _, _⟩ := good_parts g1
  obtain ⟨o2, t2, _, _⟩ := good_parts g2
  have v1 := val_nonneg o1
  have v2 := val_nonneg o2
  have hz : val d.den.xs ≠ 0 := fun e => h2 (by rw [(val_zero_iff o2 t2).1 e]; rfl)
  have hd : dQ d = val d.den.xs := by unfold dQ sv; rw [h1]; simp
  have hn : (nQ d).natAbs = (val d.num.xs).toNat := by unfold nQ sv; split <;> omega
  exact ⟨by omega, by rw [hn, hd, show (val d.den.xs).natAbs = (val d.den.xs).toNat by omega]; exact h3⟩
theorem vQ_gQ {d : QD} (hg : gQ d = true) : nQ d = nR (vQ d) ∧ dQ d = dR (vQ d) := lowR_is (low_gQ hg)
theorem dp_good {d : SD} (h : gPt2 d = true) : IsDP (vP d) d := by
  unfold gPt2 gF at h
  simp only [Bool.and_eq_true] at h
  have e1 := vQ_gQ h.1.2
  have e2 := vQ_gQ h.2.2
  have p1 := goodR_parts (by have := h.1.2; unfold gQ at this; exact this)
  have p2 := goodR_parts (by have := h.2.2; unfold gQ at this; exact this)
  have a := svZ p1.1
  have b := svZ p1.2
  have c := svZ p2.1
  have e := svZ p2.2
  have f1 : nR (vP d).1 = sv d.lo.num.g d.lo.num.xs := e1.1.symm
  have f2 : dR (vP d).1 = sv d.lo.den.g d.lo.den.xs := e1.2.symm
  have f3 : nR (vP d).2 = sv d.hi.num.g d.hi.num.xs := e2.1.symm
  have f4 : dR (vP d).2 = sv d.hi.den.g d.hi.den.xs := e2.2.symm
  exact ⟨by rw [f1]; exact a.1, by rw [f1]; exact a.2, by rw [f2]; exact b.1, by rw [f2]; exact b.2, by rw [f3]; exact c.1, by rw [f3]; exact c.2, by rw [f4]; exact e.1, by rw [f4]; exact e.2⟩
theorem gCv_mem {ds : List SD} (h : gCv ds = true) : (1 ≤ ds.length ∧ ds.length ≤ 5) ∧ ∀ d ∈ ds, gPt2 d = true := by
  unfold gCv many at h
  simp only [Bool.and_eq_true, decide_eq_true_eq] at h
  exact ⟨h.1, fun d hd => List.all_eq_true.1 h.2 d hd⟩
/-- The points that a list of data tells. -/
def vC (l : List (SV × SD)) : List (Rat × Rat) := l.map fun y => vP y.2
theorem vC_len (l : List (SV × SD)) : (vC l).length = l.length := by unfold vC; simp
theorem isC_good {l : List (SV × SD)} (h : gCv (l.map Prod.snd) = true) : IsC (vC l) (l.map Prod.snd) := by
  refine ⟨by rw [vC_len]; simp, fun i p d hp hd => ?_⟩
  rw [List.getElem?_map] at hd
  unfold vC at hp
  rw [List.getElem?_map] at hp
  cases hy : l[i]? with
  | none => rw [hy] at hp; cases hp
  | some y =>
    rw [hy] at hp hd
    obtain rfl := Option.some.inj hp
    obtain rfl := Option.some.inj hd
    exact dp_good ((gCv_mem h).2 _ (List.mem_map.2 ⟨y, List.mem_of_getElem? hy, rfl⟩))
/-- Points of few limbs. -/
def BdC (ps : List (Rat × Rat)) (L : Nat) : Prop := ∀ p ∈ ps, BdP p L
theorem bdQ_good {d : QD} (hg : gQ d = true) : BdR (vQ d) 40 := by
  have e := vQ_gQ hg
  have p := goodR_parts (by unfold gQ at hg; exact hg)
  refine ⟨?_, ?_⟩
  · rw [← e.1]; exact (svZ p.1).2.bd (good_parts p.1).2.2.1
  · rw [← e.2]; exact (svZ p.2).2.bd (good_parts p.2).2.2.1
theorem bdC_good {l : List (SV × SD)} (h : gCv (l.map Prod.snd) = true) : BdC (vC l) 40 := fun p hp => by
  obtain ⟨y, hy, rfl⟩ := List.mem_map.1 hp
  have h1 := (gCv_mem h).2 y.2 (List.mem_map.2 ⟨y, hy, rfl⟩)
  unfold gPt2 gF at h1
  simp only [Bool.and_eq_true] at h1
  exact ⟨bdQ_good h1.1.2, bdQ_good h1.2.2⟩
/-- A slice that reads as these points. -/
structure RdC (w : World) (a : Option Addr) (n c : Nat) (l : List (SV × SD)) (ps : List (Rat × Rat)) : Prop where
  ar : PArS w a n c l
  is : IsC ps (l.map Prod.snd)
theorem RdC.later {w w' : World} {a : Option Addr} {n c : Nat} {l : List (SV × SD)} {ps : List (Rat × Rat)} (h : RdC w a n c l ps) (hb : Below w.heap.size w w') : RdC w' a n c l ps := ⟨h.ar.later hb, h.is⟩
theorem RdC.len {w : World} {a : Option Addr} {n c : Nat} {l : List (SV × SD)} {ps : List (Rat × Rat)} (h : RdC w a n c l ps) : ps.length = n := by rw [← h.is.len, List.length_map]; exact h.ar.len
theorem RdC.pt {w : World} {a : Option Addr} {n c : Nat} {l : List (SV × SD)} {ps : List (Rat × Rat)} (h : RdC w a n c l ps) {i : Nat} {y : SV × SD} (hy : l[i]? = some y) : ∃ p, ps[i]? = some p ∧ p ∈ ps ∧ IsDP p y.2 ∧ IsPt w y.1 p := by
  have hi : i < l.length := (List.getElem?_eq_some_iff.1 hy).1
  have hp : i < ps.length := by rw [← h.is.len, List.length_map]; exact hi
  have hd : (l.map Prod.snd)[i]? = some y.2 := by rw [List.getElem?_map, hy]; rfl
  have h1 := h.is.at_ i ps[i] y.2 (List.getElem?_eq_getElem hp) hd
  exact ⟨ps[i], List.getElem?_eq_getElem hp, List.getElem_mem _, h1, h1.is (h.ar.rd y (List.mem_of_getElem? hy))⟩
theorem rdC_good {w : World} {a : Option Addr} {n c : Nat} {l : List (SV × SD)} (h : PArS w a n c l) (hg : gCv (l.map Prod.snd) = true) : RdC w a n c l (vC l) := ⟨h, isC_good hg⟩
/-- A call tells these points in memory of its own. -/
def OutCz (w : World) (ps : List (Rat × Rat)) (e : Ending) (w' : World) : Prop := ∃ (a : Option Addr) (n c : Nat) (l : List (SV × SD)), e = .returned (.slice a n c) ∧ Below w.heap.size w w' ∧ PRoZ w.heap.size w'.heap.size w' a n c l ∧ RdC w' a n c l ps
theorem lenPS_le {l : List (SV × SD)} {B : Nat} (h : ∀ p ∈ l, p.1.lo.num.n ≤ B ∧ p.1.lo.den.n ≤ B ∧ p.1.hi.num.n ≤ B ∧ p.1.hi.den.n ≤ B) : lenPS l ≤ 4 * B * l.length := by
  induction l with
  | nil => simp [lenPS]
  | cons p l ih =>
    have h1 := h p List.mem_cons_self
    have h2 := ih (fun q hq => h q (List.mem_cons_of_mem _ hq))
    show p.1.lo.num.n + p.1.lo.den.n + p.1.hi.num.n + p.1.hi.den.n + lenPS l ≤ 4 * B * (l.length + 1)
    rw [Nat.mul_add, Nat.mul_one]
    omega
theorem RdC.lens {w : World} {a : Option Addr} {n c : Nat} {l : List (SV × SD)} {ps : List (Rat × Rat)} {L : Nat} (h : RdC w a n c l ps) (hb : BdC ps L) : ∀ p ∈ l, p.1.lo.num.n ≤ L ∧ p.1.lo.den.n ≤ L ∧ p.1.hi.num.n ≤ L ∧ p.1.hi.den.n ≤ L := fun y hy => by
  obtain ⟨i, hi, rfl⟩ := List.mem_iff_getElem.1 hy
  obtain ⟨p, h1, h2, h3, h4⟩ := h.pt (List.getElem?_eq_getElem hi)
  have k := h3.lens (hb p h2)
  have a1 := h.ar.rd _ hy
  have e1 := a1.head.ar.len
  have e2 := a1.tail.head.ar.len
  have e3 := a1.tail.tail.head.ar.len
  have e4 := a1.tail.tail.tail.head.ar.len
  omega
theorem PRoZ.none (B E : Nat) (w : World) : PRoZ B E w none 0 0 [] := ⟨rfl, by simp [lenPS], fun p hp => (by cases hp), .inl rfl⟩
theorem GrZ.finL {B n L : Nat} {w0 w : World} {us : List (SV × SD)} {ps : List (Rat × Rat)} (h : GrZ B n w us) (hc : IsC ps (us.map Prod.snd)) (hb : BdC ps L) (hL : L ≤ 20000) (hn : n ≤ 2000) (hm : 4 * L * n ≤ 4000000) (hB : w0.heap.size ≤ B) : PRoZ w0.heap.size w.heap.size w (some ⟨B, 0, none⟩) n n us ∧ RdC w (some ⟨B, 0, none⟩) n n us ps := by
  have ow : POwS (B + 1) w.heap.size w B n n us := ⟨h.row, h.own, h.ar, h.len⟩
  have rd : RdC w (some ⟨B, 0, none⟩) n n us ps := ⟨ow.arg, hc⟩
  have ls := rd.lens hb
  have sz := lenPS_le ls
  rw [h.len] at sz
  exact ⟨(ow.ro (Nat.lt_succ_self _) (Nat.succ_le_of_lt h.lt) (by omega) (fun p hp => by have := ls p hp; omega)).wide hB (Nat.le_refl _), rd⟩
theorem GrZ.fin {B n L : Nat} {w0 w : World} {us : List (SV × SD)} {ps : List (Rat × Rat)} (h : GrZ B n w us) (hc : IsC ps (us.map Prod.snd)) (hb : BdC ps L) (hL : L ≤ 20000) (hn : n ≤ 10) (hB : w0.heap.size ≤ B) : PRoZ w0.heap.size w.heap.size w (some ⟨B, 0, none⟩) n n us ∧ RdC w (some ⟨B, 0, none⟩) n n us ps := by
  have h2 : 4 * L * n ≤ 4 * 20000 * 10 := Nat.mul_le_mul (by omega) hn
  exact h.finL hc hb hL (by omega) (by omega) hB
/-- At its places a row has these points. -/
def AtZ (us : List (SV × SD)) (k : Nat) (p : Rat × Rat) : Prop := ∃ y, us[k]? = some y ∧ IsDP p y.2
theorem AtZ.keep {us : List (SV × SD)} {k j : Nat} {p : Rat × Rat} {y : SV × SD} (h : AtZ us k p) (hj : j ≠ k) : AtZ (us.set j y) k p := by
  obtain ⟨z, h1, h2⟩ := h
  exact ⟨z, by rw [List.getElem?_set_ne hj]; exact h1, h2⟩
theorem AtZ.here {us : List (SV × SD)} {k : Nat} {p : Rat × Rat} {u : SV} {d : SD} (hk : k < us.length) (h : IsDP p d) : AtZ (us.set k (u, d)) k p := ⟨(u, d), by rw [List.getElem?_set_self hk], h⟩
theorem atZ_isC {us : List (SV × SD)} {ps : List (Rat × Rat)} (hl : us.length = ps.length) (h : ∀ k p, ps[k]? = some p → AtZ us k p) : IsC ps (us.map Prod.snd) := by
  refine ⟨by rw [List.length_map]; exact hl, fun i p d hp hd => ?_⟩
  obtain ⟨y, h1, h2⟩ := h i p hp
  rw [List.getElem?_map, h1] at hd
  obtain rfl := Option.some.inj hd
  exact h2
end Go.Proofs.YtikllcoekcglcaaGreat
namespace Go.Proofs.YtikllcoekcglcaaGreat
open Go.RowKit
set_option linter.unusedVariables false
set_option maxRecDepth 100000
set_option linter.unusedSimpArgs false


/-- All of at most 40 limbs. -/
def f40 (d : SD) : Bool := (decide (d.lo.num.xs.length ≤ 40) && decide (d.lo.den.xs.length ≤ 40)) && (decide (d.hi.num.xs.length ≤ 40) && decide (d.hi.den.xs.length ≤ 40))
theorem ans_f40 {p : Rat × Rat} {d e : SD} {ok : Bool} (h : AnsS true (nR p.1) (dR p.1) (nR p.2) (dR p.2) e ok) (k : IsDP p d) : ok = f40 d ∧ (ok = true → e = d) := by
  rcases h with ⟨_, xs, us, ys, vs, h1, h2, h3, h4, h5⟩ | ⟨p, _⟩
  · obtain rfl := h1.same k.n1
    obtain rfl := h2.same k.n2
    obtain rfl := h3.same k.n3
    obtain rfl := h4.same k.n4
    unfold f40
    rcases h5 with ⟨a, b, rfl, rfl⟩ | ⟨a, rfl, rfl⟩
    · refine ⟨by rw [decide_eq_true a.1, decide_eq_true a.2, decide_eq_true b.1, decide_eq_true b.2]; rfl, fun _ => ?_⟩
      exact (IsDP.same (p := p) ⟨rfl, h1, rfl, h2, rfl, h3, rfl, h4⟩ k)
    · refine ⟨?_, fun e => by cases e⟩
      cases hf : ((decide (d.lo.num.xs.length ≤ 40) && decide (d.lo.den.xs.length ≤ 40)) && (decide (d.hi.num.xs.length ≤ 40) && decide (d.hi.den.xs.length ≤ 40)))
      · rfl
      · simp only [Bool.and_eq_true, decide_eq_true_eq] at hf
        exact absurd hf a
  · cases p

set_option maxHeartbeats 8000000 in
theorem allZ (a : Option Addr) (n c : Nat) (l : List (SV × SD)) (ps : List (Rat × Rat)) (w : World) (h : PArS w a n c l) (hc : IsC ps (l.map Prod.snd)) (hn : n ≤ 1000) :
    Calls Tryz.prog 89 #[.slice a n c] w (RetPrZ w (AnsC true (fun es => es.all f40) ps)) := by
  have HS := hide h
  have HN := hide h.len
  have IC := hide hc
  have n9 : n ≤ 1000 := hn
  clear h hc
  go_enter Tryz.func89, Tryz.ntmps89
  go_wp2
  go_loopw [4, 11] (fun v iv wr => ∃ (i : Nat) (us : List (SV × SD)), i ≤ n ∧ iv = .int .i64 i ∧ us.length = i ∧ Hid (us.map Prod.snd = (l.map Prod.snd).take i) ∧ Hid (((l.map Prod.snd).take i).all f40 = true) ∧ Hid (GwY w.heap.size wr v us) ∧ Hid (Below w.heap.size w wr)) (fun _ iv _ => n - (intOf iv).toNat)
  case atStart => exact ⟨0, [], Nat.zero_le _, rfl, rfl, hide (by simp), hide (by simp), hide (GwY.nil _ _), hide (Below.refl _ _)⟩
  case round =>
    obtain ⟨i, us, hi', rfl, hu, ED, EA, GW, HB⟩ := hrel
    by_cases hlt : i < n
    · have hlt' : (i : Int) < (n : Int) := by omega
      have hlx : i < n := hlt
      rcases (unhide HS).at_ with e | ⟨b, off, rfl, hb, hcb⟩
      · exact absurd (unhide HN) (by rw [e]; simp <;> omega)
      have e0 := hcb i (by rw [unhide HN]; exact hlx)
      obtain ⟨y, hy⟩ : ∃ y, y = l[i]'(by rw [unhide HN]; exact hlx) := ⟨_, rfl⟩
      rw [← hy] at e0
      have My : Hid (l[i]? = some y) := hide (by rw [hy]; exact List.getElem?_eq_getElem _)
      clear hy
      have E0 : wr.cell? ⟨b, off + i * 8, none⟩ = some (.bool y.1.lo.num.g) := ((unhide HB).cell (p := ⟨b, off + i * 8, none⟩) hb).trans (e0.1)
      have E1 : wr.cell? ⟨b, off + i * 8 + 1, none⟩ = some (.slice y.1.lo.num.a y.1.lo.num.n y.1.lo.num.c) := ((unhide HB).cell (p := ⟨b, off + i * 8 + 1, none⟩) hb).trans (e0.2.1)
      have E2 : wr.cell? ⟨b, off + i * 8 + 2, none⟩ = some (.bool y.1.lo.den.g) := ((unhide HB).cell (p := ⟨b, off + i * 8 + 2, none⟩) hb).trans (e0.2.2.1)
      have E3 : wr.cell? ⟨b, off + i * 8 + 3, none⟩ = some (.slice y.1.lo.den.a y.1.lo.den.n y.1.lo.den.c) := ((unhide HB).cell (p := ⟨b, off + i * 8 + 3, none⟩) hb).trans (e0.2.2.2.1)
      have E4 : wr.cell? ⟨b, off + i * 8 + 4, none⟩ = some (.bool y.1.hi.num.g) := ((unhide HB).cell (p := ⟨b, off + i * 8 + 4, none⟩) hb).trans (e0.2.2.2.2.1)
      have E5 : wr.cell? ⟨b, off + i * 8 + 5, none⟩ = some (.slice y.1.hi.num.a y.1.hi.num.n y.1.hi.num.c) := ((unhide HB).cell (p := ⟨b, off + i * 8 + 5, none⟩) hb).trans (e0.2.2.2.2.2.1)
      have E6 : wr.cell? ⟨b, off + i * 8 + 6, none⟩ = some (.bool y.1.hi.den.g) := ((unhide HB).cell (p := ⟨b, off + i * 8 + 6, none⟩) hb).trans (e0.2.2.2.2.2.2.1)
      have E7 : wr.cell? ⟨b, off + i * 8 + 7, none⟩ = some (.slice y.1.hi.den.a y.1.hi.den.n y.1.hi.den.c) := ((unhide HB).cell (p := ⟨b, off + i * 8 + 7, none⟩) hb).trans (e0.2.2.2.2.2.2.2)
      clear e0
      clear hcb
      obtain ⟨p, hp1, hp2, hp3, hp4⟩ := RdC.pt ⟨unhide HS, unhide IC⟩ (unhide My)
      have al : Below wr.heap.size wr (wr.alloc (.cells #[.bool y.1.lo.num.g, .slice y.1.lo.num.a y.1.lo.num.n y.1.lo.num.c, .bool y.1.lo.den.g, .slice y.1.lo.den.a y.1.lo.den.n y.1.lo.den.c, .bool y.1.hi.num.g, .slice y.1.hi.num.a y.1.hi.num.n y.1.hi.num.c, .bool y.1.hi.den.g, .slice y.1.hi.den.a y.1.hi.den.n y.1.hi.den.c] 34)) := (Below.refl _ _).alloc (Nat.le_refl _) _
      have IP := hide ((hp4.later (unhide HB)).later al)
      have PD := hide hp3
      have TK : Hid ((l.map Prod.snd).take (i + 1) = (l.map Prod.snd).take i ++ [y.2]) := hide (by
        rw [List.take_add_one, List.getElem?_map, unhide My]
        rfl)
      have MD : Hid (y.2 ∈ l.map Prod.snd) := hide (List.mem_map.2 ⟨y, List.mem_of_getElem? (unhide My), rfl⟩)
      clear hp1 hp2 hp3 hp4 al
      go_wp2_with fail
      refine (fitsSS y.1 _ _ _ _ _ (unhide IP).x (unhide IP).y (dR_pos _) (dR_pos _)).mono ?_
      rintro e w2 ⟨u, d, ok, rfl, hb2, ho, hu2⟩
      obtain ⟨k1, k2⟩ := ans_f40 hu2 (unhide PD)
      have hbx := ba hb2
      have s2 := hbx.size
      have HB2 := hide (below_on (unhide HB) hbx)
      have zv : w.heap.size ≤ w2.heap.size := (unhide HB2).size
      have GW2 := hide ((unhide GW).later hbx)
      have TY := hide ho.typZ
      have AA := hide ho.sl
      clear hu2 hb2 ho hbx E0 E1 E2 E3 E4 E5 E6 E7 IP GW HB PD
      cases ok
      · have AN : Hid ((l.map Prod.snd).all f40 = false) := hide (List.all_eq_false.2 ⟨y.2, unhide MD, by rw [← k1]; simp⟩)
        clear k1 k2
        have a2 : Below w2.heap.size w2 (w2.alloc (.cells #[.bool u.lo.num.g, .slice u.lo.num.a u.lo.num.n u.lo.num.c, .bool u.lo.den.g, .slice u.lo.den.a u.lo.den.n u.lo.den.c, .bool u.hi.num.g, .slice u.hi.num.a u.hi.num.n u.hi.num.c, .bool u.hi.den.g, .slice u.hi.den.a u.hi.den.n u.hi.den.c] 34)) := (Below.refl _ _).alloc (Nat.le_refl _) _
        have HB3 := hide (below_on (unhide HB2) a2)
        clear a2
        go_wp2
        go_ret2
        exact ⟨none, 0, 0, [], false, rfl, unhide HB3, ⟨.inl rfl, fun p hp => (by cases hp)⟩, rfl, .inl ⟨rfl, _, unhide IC, .inr ⟨unhide AN, rfl, rfl⟩⟩⟩
      · obtain rfl := k2 rfl
        have FY : Hid (f40 y.2 = true) := hide k1.symm
        clear k1 k2
        have b2 : Below w2.heap.size w2 ((w2.alloc (.cells #[.bool u.lo.num.g, .slice u.lo.num.a u.lo.num.n u.lo.num.c, .bool u.lo.den.g, .slice u.lo.den.a u.lo.den.n u.lo.den.c, .bool u.hi.num.g, .slice u.hi.num.a u.hi.num.n u.hi.num.c, .bool u.hi.den.g, .slice u.hi.den.a u.hi.den.n u.hi.den.c] 34)).alloc (.cells #[.bool u.lo.num.g, .slice u.lo.num.a u.lo.num.n u.lo.num.c, .bool u.lo.den.g, .slice u.lo.den.a u.lo.den.n u.lo.den.c, .bool u.hi.num.g, .slice u.hi.num.a u.hi.num.n u.hi.num.c, .bool u.hi.den.g, .slice u.hi.den.a u.hi.den.n u.hi.den.c] 34)) := ((Below.refl _ _).alloc (Nat.le_refl _) _).alloc (by simp) _
        have HB3 := hide (below_on (unhide HB2) b2)
        have GW3 := hide ((unhide GW2).later b2)
        have TY3 := hide ((unhide TY).later b2)
        have AR3 := hide ((unhide AA).later b2)
        clear b2
        go_wp2_with (at_builtin; refine appY rfl (.tmp 22) (.tmp 24) rfl w.heap.size _ us rfl (unhide GW3) (w2.heap.size + 1) u y.2 rfl (by rw [show w2.heap.size + 1 = (w2.alloc (.cells #[.bool u.lo.num.g, .slice u.lo.num.a u.lo.num.n u.lo.num.c, .bool u.lo.den.g, .slice u.lo.den.a u.lo.den.n u.lo.den.c, .bool u.hi.num.g, .slice u.hi.num.a u.hi.num.n u.hi.num.c, .bool u.hi.den.g, .slice u.hi.den.a u.hi.den.n u.hi.den.c] 34)).heap.size from by simp]; exact heap_alloc_new _ _) (unhide TY3) (unhide AR3) (by omega) (by simp; omega) ?_)
        intro g cap w3 hG hgrow
        have HB4 := hide (GwY.bel (unhide GW3) (unhide HB3) (Nat.le_refl _) hgrow)
        have GW4 := hide hG
        have ED4 : Hid ((us ++ [(u, y.2)]).map Prod.snd = (l.map Prod.snd).take (i + 1)) := hide (by rw [unhide TK, List.map_append, unhide ED]; rfl)
        have EA4 : Hid (((l.map Prod.snd).take (i + 1)).all f40 = true) := hide (by rw [unhide TK, List.all_append, unhide EA]; simp [unhide FY])
        clear hG hgrow GW3 HB3 GW2 HB2
        go_wp2
        go_roundw
        case rel => exact ⟨i + 1, us ++ [(u, y.2)], by omega, by go_num, by simp [hu], ED4, EA4, GW4, HB4⟩
        case measure => simp [intOf]; omega
    · obtain rfl : i = n := by omega
      have EL : Hid (us.map Prod.snd = l.map Prod.snd) := hide (by have h := unhide ED; rw [List.take_of_length_le (by simp; rw [unhide HN]; exact Nat.le_refl _)] at h; exact h)
      have AN : Hid ((l.map Prod.snd).all f40 = true) := hide (by have h := unhide EA; rw [List.take_of_length_le (by simp; rw [unhide HN]; exact Nat.le_refl _)] at h; exact h)
      obtain ⟨a3, c3, e3, p3⟩ := (unhide GW).sl
      rw [hu] at e3
      subst e3
      have P3 := hide p3
      clear p3 GW ED
      go_wp2
      go_ret2
      refine ⟨_, _, _, us, true, rfl, unhide HB, unhide P3, hu, ?_⟩
      rw [unhide EL]
      exact .inl ⟨rfl, _, unhide IC, .inl ⟨unhide AN, rfl, rfl⟩⟩
/-- A slice as an argument, its limbs in blocks of integers. -/
structure PArT (w : World) (a : Option Addr) (n c : Nat) (l : List (SV × SD)) : Prop where
  ar : PArS w a n c l
  typ : TypZ w (zipPS l)
theorem POwS.argT {lo hi : Nat} {w : World} {G n c : Nat} {l : List (SV × SD)} (h : POwS lo hi w G n c l) : PArT w (some ⟨G, 0, none⟩) n c l := ⟨h.arg, h.own.typZ⟩
theorem vC_eq {k l : List (SV × SD)} (e : k.map Prod.snd = l.map Prod.snd) : vC k = vC l := by
  have := congrArg (List.map vP) e
  simp only [List.map_map] at this
  exact this

end Go.Proofs.YtikllcoekcglcaaGreat
namespace Go.Proofs.YtikllcoekcglcaaGreat
open Go.RowKit
set_option linter.unusedVariables false
set_option maxRecDepth 100000
set_option linter.unusedSimpArgs false

def dfP (p q : Rat × Rat) : Rat × Rat := (q.1 - p.1, q.2 - p.2)
def dfR (ps : List (Rat × Rat)) : List (Rat × Rat) := List.zipWith dfP ps ps.tail
theorem zw_get (f : Rat × Rat → Rat × Rat → Rat × Rat) (ps : List (Rat × Rat)) {i : Nat} {p q : Rat × Rat} (h : ps[i]? = some p) (k : ps[i + 1]? = some q) : (List.zipWith f ps ps.tail)[i]? = some (f p q) := by
  rw [List.getElem?_zipWith, h, List.getElem?_tail, k]
theorem zw_len (f : Rat × Rat → Rat × Rat → Rat × Rat) (ps : List (Rat × Rat)) : (List.zipWith f ps ps.tail).length = ps.length - 1 := by simp
theorem zw_mem {f : Rat × Rat → Rat × Rat → Rat × Rat} {ps : List (Rat × Rat)} {x : Rat × Rat} (h : x ∈ List.zipWith f ps ps.tail) : ∃ p ∈ ps, ∃ q ∈ ps, x = f p q := by
  obtain ⟨i, hi, rfl⟩ := List.mem_iff_getElem.1 h
  rw [zw_len] at hi
  rw [List.getElem_zipWith]
  exact ⟨_, List.getElem_mem _, _, List.mem_of_mem_tail (List.getElem_mem _), rfl⟩
theorem BdC.dfR {ps : List (Rat × Rat)} {L : Nat} (h : BdC ps L) : BdC (dfR ps) (2 * L + 1) := fun x hx => by
  obtain ⟨p, hp, q, hq, rfl⟩ := zw_mem hx
  have k1 := h p hp
  have k2 := h q hq
  exact ⟨(k2.x.sub k1.x).mono (by omega), (k2.y.sub k1.y).mono (by omega)⟩

set_option maxHeartbeats 8000000 in
theorem difRI (a : Option Addr) (n c : Nat) (l : List (SV × SD)) (ps : List (Rat × Rat)) (M : Nat) (w : World) (h : RdC w a n c l ps) (hb : BdC ps M) (hM : M ≤ 4000) (h1 : 1 ≤ n) (h5 : n ≤ 6) :
    Calls Tryz.prog 187 #[.slice a n c] w (OutCz w (dfR ps)) := by
  obtain ⟨m, rfl⟩ : ∃ m, n = m + 1 := ⟨n - 1, by omega⟩
  have RD := hide h
  have BD := hide hb
  have HS := hide h.ar
  have HN := hide h.ar.len
  have LP : Hid (ps.length = m + 1) := hide h.len
  clear h hb 
  have b1 : ((m + 1 : Nat) : Int) - 1 = (m : Int) := by omega
  obtain ⟨i0, hi, hz0, hz1, hz2⟩ := info_parts Tryz.info34
  go_enter Tryz.func187, Tryz.ntmps187
  go_wp2_with (at_make; refine wpList_make_full _ rfl _ _ 23 rfl w.heap.size 34 i0 (.agg #[.bool false, .slice none 0 0, .bool false, .slice none 0 0, .bool false, .slice none 0 0, .bool false, .slice none 0 0]) 8 Tryz.underlying23 hi hz0 hz1 .i64 .i64 _ _ m rfl rfl (by omega) (by omega) ?c1 ?c2 ?c3 ?_)
  case c1 => rw [hz2]; omega
  case c2 => unfold maxLen; omega
  case c3 => exact Nat.le_refl _
  intro wm hown hgrow
  have hbm : Below w.heap.size w wm := (Below.refl _ _).grown hgrow (Nat.le_refl _) (fun k e => by cases e)
  have G0 := hide (GrZ.start hown hbm)
  have HBm := hide hbm
  clear hown hgrow hi hz0 hz1 hz2 hbm
  have HBm0 := HBm
  have zm := (unhide HBm0).size
  go_wp2
  go_loopw [11] (fun iv wr => ∃ (i : Nat) (us : List (SV × SD)), i ≤ m ∧ iv = .int .i64 i ∧ Hid (GrZ w.heap.size m wr us) ∧ Hid (∀ j p q, j < i → ps[j]? = some p → ps[j + 1]? = some q → AtZ us j (dfP p q)) ∧ Hid (Below w.heap.size w wr)) (fun iv _ => m - (intOf iv).toNat)
  case atStart => exact ⟨0, _, Nat.zero_le _, rfl, G0, hide (fun j p q hj => absurd hj (Nat.not_lt_zero _)), HBm0⟩
  case round =>
    clear G0 HBm0
    obtain ⟨i, us, hi', rfl, GR, AT, HB⟩ := hrel
    by_cases hlt : i < m
    · have hlt' : (i : Int) < (m : Int) := by omega
      have hlx : i < m + 1 := by omega
      have hly : i + 1 < m + 1 := by omega
      rcases (unhide HS).at_ with e | ⟨b, off, rfl, hb, hcb⟩
      · exact absurd (unhide HN) (by rw [e]; simp <;> omega)
      have e0 := hcb i (by rw [unhide HN]; exact hlx)
      obtain ⟨y, hy⟩ : ∃ y, y = l[i]'(by rw [unhide HN]; exact hlx) := ⟨_, rfl⟩
      rw [← hy] at e0
      have My : Hid (l[i]? = some y) := hide (by rw [hy]; exact List.getElem?_eq_getElem _)
      clear hy
      have k0_0 : wr.cell? ⟨b, off + i * 8, none⟩ = some (.bool y.1.lo.num.g) := ((unhide HB).cell (p := ⟨b, off + i * 8, none⟩) hb).trans (e0.1)
      have k0_1 : wr.cell? ⟨b, off + i * 8 + 1, none⟩ = some (.slice y.1.lo.num.a y.1.lo.num.n y.1.lo.num.c) := ((unhide HB).cell (p := ⟨b, off + i * 8 + 1, none⟩) hb).trans (e0.2.1)
      have k0_2 : wr.cell? ⟨b, off + i * 8 + 2, none⟩ = some (.bool y.1.lo.den.g) := ((unhide HB).cell (p := ⟨b, off + i * 8 + 2, none⟩) hb).trans (e0.2.2.1)
      have k0_3 : wr.cell? ⟨b, off + i * 8 + 3, none⟩ = some (.slice y.1.lo.den.a y.1.lo.den.n y.1.lo.den.c) := ((unhide HB).cell (p := ⟨b, off + i * 8 + 3, none⟩) hb).trans (e0.2.2.2.1)
      have k0_4 : wr.cell? ⟨b, off + i * 8 + 4, none⟩ = some (.bool y.1.hi.num.g) := ((unhide HB).cell (p := ⟨b, off + i * 8 + 4, none⟩) hb).trans (e0.2.2.2.2.1)
      have k0_5 : wr.cell? ⟨b, off + i * 8 + 5, none⟩ = some (.slice y.1.hi.num.a y.1.hi.num.n y.1.hi.num.c) := ((unhide HB).cell (p := ⟨b, off + i * 8 + 5, none⟩) hb).trans (e0.2.2.2.2.2.1)
      have k0_6 : wr.cell? ⟨b, off + i * 8 + 6, none⟩ = some (.bool y.1.hi.den.g) := ((unhide HB).cell (p := ⟨b, off + i * 8 + 6, none⟩) hb).trans (e0.2.2.2.2.2.2.1)
      have k0_7 : wr.cell? ⟨b, off + i * 8 + 7, none⟩ = some (.slice y.1.hi.den.a y.1.hi.den.n y.1.hi.den.c) := ((unhide HB).cell (p := ⟨b, off + i * 8 + 7, none⟩) hb).trans (e0.2.2.2.2.2.2.2)
      clear e0
      have e0 := hcb (i + 1) (by rw [unhide HN]; exact hly)
      obtain ⟨v, hv⟩ : ∃ y, y = l[(i + 1)]'(by rw [unhide HN]; exact hly) := ⟨_, rfl⟩
      rw [← hv] at e0
      have Mv : Hid (l[(i + 1)]? = some v) := hide (by rw [hv]; exact List.getElem?_eq_getElem _)
      clear hv
      have k1_0 : wr.cell? ⟨b, off + (i + 1) * 8, none⟩ = some (.bool v.1.lo.num.g) := ((unhide HB).cell (p := ⟨b, off + (i + 1) * 8, none⟩) hb).trans (e0.1)
      have k1_1 : wr.cell? ⟨b, off + (i + 1) * 8 + 1, none⟩ = some (.slice v.1.lo.num.a v.1.lo.num.n v.1.lo.num.c) := ((unhide HB).cell (p := ⟨b, off + (i + 1) * 8 + 1, none⟩) hb).trans (e0.2.1)
      have k1_2 : wr.cell? ⟨b, off + (i + 1) * 8 + 2, none⟩ = some (.bool v.1.lo.den.g) := ((unhide HB).cell (p := ⟨b, off + (i + 1) * 8 + 2, none⟩) hb).trans (e0.2.2.1)
      have k1_3 : wr.cell? ⟨b, off + (i + 1) * 8 + 3, none⟩ = some (.slice v.1.lo.den.a v.1.lo.den.n v.1.lo.den.c) := ((unhide HB).cell (p := ⟨b, off + (i + 1) * 8 + 3, none⟩) hb).trans (e0.2.2.2.1)
      have k1_4 : wr.cell? ⟨b, off + (i + 1) * 8 + 4, none⟩ = some (.bool v.1.hi.num.g) := ((unhide HB).cell (p := ⟨b, off + (i + 1) * 8 + 4, none⟩) hb).trans (e0.2.2.2.2.1)
      have k1_5 : wr.cell? ⟨b, off + (i + 1) * 8 + 5, none⟩ = some (.slice v.1.hi.num.a v.1.hi.num.n v.1.hi.num.c) := ((unhide HB).cell (p := ⟨b, off + (i + 1) * 8 + 5, none⟩) hb).trans (e0.2.2.2.2.2.1)
      have k1_6 : wr.cell? ⟨b, off + (i + 1) * 8 + 6, none⟩ = some (.bool v.1.hi.den.g) := ((unhide HB).cell (p := ⟨b, off + (i + 1) * 8 + 6, none⟩) hb).trans (e0.2.2.2.2.2.2.1)
      have k1_7 : wr.cell? ⟨b, off + (i + 1) * 8 + 7, none⟩ = some (.slice v.1.hi.den.a v.1.hi.den.n v.1.hi.den.c) := ((unhide HB).cell (p := ⟨b, off + (i + 1) * 8 + 7, none⟩) hb).trans (e0.2.2.2.2.2.2.2)
      clear e0
      clear hcb
      obtain ⟨p, hp1, hp2, hp3, hp4⟩ := (unhide RD).pt (unhide My)
      obtain ⟨q, hq1, hq2, hq3, hq4⟩ := (unhide RD).pt (unhide Mv)
      have IP := hide (hp4.later (unhide HB))
      have IQ := hide (hq4.later (unhide HB))
      have BP := hide ((unhide BD) p hp2)
      have BQ := hide ((unhide BD) q hq2)
      have PV := hide (And.intro hp1 hq1)
      clear hp1 hp2 hp3 hp4 hq1 hq2 hq3 hq4
      have zb := (unhide GR).lt
      have neb : b ≠ w.heap.size := by omega
      have GR0 := GR
      have HBq := HB
      have iw : IntKind.i64.wrap ((i : Int) + 1) = (i : Int) + 1 := by rw [IntKind.wrap_i64]; omega
      have j1 : (0 : Int) ≤ (i : Int) + 1 := by omega
      have j2 : (i : Int) + 1 < ((m + 1 : Nat) : Int) := by omega
      have j2' : (i : Int) < ((m + 1 : Nat) : Int) := by omega
      have j3 : ((i : Int) + 1).toNat = i + 1 := by omega
      have j4 : (0 : Int) ≤ (i : Int) := by omega
      have j5 : (i : Int) < (m : Int) + 1 := by omega
      go_upto_region 5 with fail
      have ne0_2 : b ≠ w.heap.size := by omega
      have ne1_2 : b ≠ w.heap.size := by omega
      go_region_held3 (fun w' => w'.cell? ⟨b, off + i * 8, none⟩ = some (.bool y.1.lo.num.g) ∧ w'.cell? ⟨b, off + i * 8 + 1, none⟩ = some (.slice y.1.lo.num.a y.1.lo.num.n y.1.lo.num.c) ∧ w'.cell? ⟨b, off + i * 8 + 2, none⟩ = some (.bool y.1.lo.den.g) ∧ w'.cell? ⟨b, off + i * 8 + 3, none⟩ = some (.slice y.1.lo.den.a y.1.lo.den.n y.1.lo.den.c) ∧ w'.cell? ⟨b, off + i * 8 + 4, none⟩ = some (.bool y.1.hi.num.g) ∧ w'.cell? ⟨b, off + i * 8 + 5, none⟩ = some (.slice y.1.hi.num.a y.1.hi.num.n y.1.hi.num.c) ∧ w'.cell? ⟨b, off + i * 8 + 6, none⟩ = some (.bool y.1.hi.den.g) ∧ w'.cell? ⟨b, off + i * 8 + 7, none⟩ = some (.slice y.1.hi.den.a y.1.hi.den.n y.1.hi.den.c) ∧ w'.cell? ⟨b, off + (i + 1) * 8, none⟩ = some (.bool v.1.lo.num.g) ∧ w'.cell? ⟨b, off + (i + 1) * 8 + 1, none⟩ = some (.slice v.1.lo.num.a v.1.lo.num.n v.1.lo.num.c) ∧ w'.cell? ⟨b, off + (i + 1) * 8 + 2, none⟩ = some (.bool v.1.lo.den.g) ∧ w'.cell? ⟨b, off + (i + 1) * 8 + 3, none⟩ = some (.slice v.1.lo.den.a v.1.lo.den.n v.1.lo.den.c) ∧ w'.cell? ⟨b, off + (i + 1) * 8 + 4, none⟩ = some (.bool v.1.hi.num.g) ∧ w'.cell? ⟨b, off + (i + 1) * 8 + 5, none⟩ = some (.slice v.1.hi.num.a v.1.hi.num.n v.1.hi.num.c) ∧ w'.cell? ⟨b, off + (i + 1) * 8 + 6, none⟩ = some (.bool v.1.hi.den.g) ∧ w'.cell? ⟨b, off + (i + 1) * 8 + 7, none⟩ = some (.slice v.1.hi.den.a v.1.hi.den.n v.1.hi.den.c)) (with_reducible (first | exact ⟨k0_0, k0_1, k0_2, k0_3, k0_4, k0_5, k0_6, k0_7, k1_0, k1_1, k1_2, k1_3, k1_4, k1_5, k1_6, k1_7⟩ | exact ⟨cd_other k0_0, cd_other k0_1, cd_other k0_2, cd_other k0_3, cd_other k0_4, cd_other k0_5, cd_other k0_6, cd_other k0_7, cd_other k1_0, cd_other k1_1, cd_other k1_2, cd_other k1_3, cd_other k1_4, cd_other k1_5, cd_other k1_6, cd_other k1_7⟩ | exact ⟨cs_other (cs_other (cs_other (cs_other (cs_other (cs_other (cs_other (cs_other (k0_0) ne0_2) ne0_2) ne0_2) ne0_2) ne0_2) ne0_2) ne0_2) ne0_2, cs_other (cs_other (cs_other (cs_other (cs_other (cs_other (cs_other (cs_other (k0_1) ne0_2) ne0_2) ne0_2) ne0_2) ne0_2) ne0_2) ne0_2) ne0_2, cs_other (cs_other (cs_other (cs_other (cs_other (cs_other (cs_other (cs_other (k0_2) ne0_2) ne0_2) ne0_2) ne0_2) ne0_2) ne0_2) ne0_2) ne0_2, cs_other (cs_other (cs_other (cs_other (cs_other (cs_other (cs_other (cs_other (k0_3) ne0_2) ne0_2) ne0_2) ne0_2) ne0_2) ne0_2) ne0_2) ne0_2, cs_other (cs_other (cs_other (cs_other (cs_other (cs_other (cs_other (cs_other (k0_4) ne0_2) ne0_2) ne0_2) ne0_2) ne0_2) ne0_2) ne0_2) ne0_2, cs_other (cs_other (cs_other (cs_other (cs_other (cs_other (cs_other (cs_other (k0_5) ne0_2) ne0_2) ne0_2) ne0_2) ne0_2) ne0_2) ne0_2) ne0_2, cs_other (cs_other (cs_other (cs_other (cs_other (cs_other (cs_other (cs_other (k0_6) ne0_2) ne0_2) ne0_2) ne0_2) ne0_2) ne0_2) ne0_2) ne0_2, cs_other (cs_other (cs_other (cs_other (cs_other (cs_other (cs_other (cs_other (k0_7) ne0_2) ne0_2) ne0_2) ne0_2) ne0_2) ne0_2) ne0_2) ne0_2, cs_other (cs_other (cs_other (cs_other (cs_other (cs_other (cs_other (cs_other (k1_0) ne1_2) ne1_2) ne1_2) ne1_2) ne1_2) ne1_2) ne1_2) ne1_2, cs_other (cs_other (cs_other (cs_other (cs_other (cs_other (cs_other (cs_other (k1_1) ne1_2) ne1_2) ne1_2) ne1_2) ne1_2) ne1_2) ne1_2) ne1_2, cs_other (cs_other (cs_other (cs_other (cs_other (cs_other (cs_other (cs_other (k1_2) ne1_2) ne1_2) ne1_2) ne1_2) ne1_2) ne1_2) ne1_2) ne1_2, cs_other (cs_other (cs_other (cs_other (cs_other (cs_other (cs_other (cs_other (k1_3) ne1_2) ne1_2) ne1_2) ne1_2) ne1_2) ne1_2) ne1_2) ne1_2, cs_other (cs_other (cs_other (cs_other (cs_other (cs_other (cs_other (cs_other (k1_4) ne1_2) ne1_2) ne1_2) ne1_2) ne1_2) ne1_2) ne1_2) ne1_2, cs_other (cs_other (cs_other (cs_other (cs_other (cs_other (cs_other (cs_other (k1_5) ne1_2) ne1_2) ne1_2) ne1_2) ne1_2) ne1_2) ne1_2) ne1_2, cs_other (cs_other (cs_other (cs_other (cs_other (cs_other (cs_other (cs_other (k1_6) ne1_2) ne1_2) ne1_2) ne1_2) ne1_2) ne1_2) ne1_2) ne1_2, cs_other (cs_other (cs_other (cs_other (cs_other (cs_other (cs_other (cs_other (k1_7) ne1_2) ne1_2) ne1_2) ne1_2) ne1_2) ne1_2) ne1_2) ne1_2⟩ | fail))
        (first
        | (go_at_call 246; refine (calls_dp (subP v.1 y.1 q p _ ?_ ((unhide BQ).mono (by omega)) ?_ ((unhide BP).mono (by omega)))).mono ?_; exact (unhide IQ).later (Below.refl _ _).drew; exact (unhide IP).later (Below.refl _ _).drew; rintro e w2 ⟨u, d, rfl, hb, ho, ha, hd⟩; have hbx : Below wr.heap.size wr w2 := below_of_drew hb; have szw2 := hbx.size; replace k0_0 := cell_later hbx k0_0; replace k0_1 := cell_later hbx k0_1; replace k0_2 := cell_later hbx k0_2; replace k0_3 := cell_later hbx k0_3; replace k0_4 := cell_later hbx k0_4; replace k0_5 := cell_later hbx k0_5; replace k0_6 := cell_later hbx k0_6; replace k0_7 := cell_later hbx k0_7; replace k1_0 := cell_later hbx k1_0; replace k1_1 := cell_later hbx k1_1; replace k1_2 := cell_later hbx k1_2; replace k1_3 := cell_later hbx k1_3; replace k1_4 := cell_later hbx k1_4; replace k1_5 := cell_later hbx k1_5; replace k1_6 := cell_later hbx k1_6; replace k1_7 := cell_later hbx k1_7; replace IP := hide ((unhide IP).later hbx); replace IQ := hide ((unhide IQ).later hbx); have G2 := hide ((unhide GR0).later hbx); have GP := hide ((unhide GR0).put (k := i) hbx hlt ho ha); have HBx := hide (below_on (unhide HBq) hbx); have HD := hide hd; obtain ⟨x0, o0⟩ := (unhide G2).old (o := i * 8) (by omega); obtain ⟨x1, o1⟩ := (unhide G2).old (o := i * 8 + 1) (by omega); obtain ⟨x2, o2⟩ := (unhide G2).old (o := i * 8 + 2) (by omega); obtain ⟨x3, o3⟩ := (unhide G2).old (o := i * 8 + 3) (by omega); obtain ⟨x4, o4⟩ := (unhide G2).old (o := i * 8 + 4) (by omega); obtain ⟨x5, o5⟩ := (unhide G2).old (o := i * 8 + 5) (by omega); obtain ⟨x6, o6⟩ := (unhide G2).old (o := i * 8 + 6) (by omega); obtain ⟨x7, o7⟩ := (unhide G2).old (o := i * 8 + 7) (by omega); have fr := (unhide G2).fz; have HBr := hide hbx; clear hbx hb ho ha hd))
      have AT2 : Hid (∀ j p q, j < i + 1 → ps[j]? = some p → ps[j + 1]? = some q → AtZ (us.set i (u, d)) j (dfP p q)) := hide (fun j p' q' hj hp hq => by
        by_cases e : j = i
        · subst e
          rw [(unhide PV).1] at hp
          rw [(unhide PV).2] at hq
          obtain rfl := Option.some.inj hp
          obtain rfl := Option.some.inj hq
          exact AtZ.here (by rw [(unhide GR0).len]; exact hlt) (unhide HD)
        · exact ((unhide AT) j p' q' (by omega) hp hq).keep (by omega))
      have HB3 := hide (GrZ.bel (n := 0) (B := w.heap.size) (k := i) (u := u) (unhide HBx) (by omega))
      clear k0_0 k0_1 k0_2 k0_3 k0_4 k0_5 k0_6 k0_7 k1_0 k1_1 k1_2 k1_3 k1_4 k1_5 k1_6 k1_7 HBr IP IQ
      go_wp2
      go_roundw
      case rel => exact ⟨i + 1, _, by omega, by go_num, GP, AT2, HB3⟩
      case measure => simp [intOf]; omega
    · obtain rfl : i = m := by omega
      have IC : Hid (IsC (dfR ps) (us.map Prod.snd)) := hide (atZ_isC (by unfold dfR; rw [(unhide GR).len, zw_len, unhide LP]; omega) (fun k x hx => by
        have hk : k < i := by have := (List.getElem?_eq_some_iff.1 hx).1; unfold dfR at this; rw [zw_len, unhide LP] at this; omega
        obtain ⟨p, hp⟩ : ∃ p, ps[k]? = some p := ⟨_, List.getElem?_eq_getElem (by rw [unhide LP]; omega)⟩
        obtain ⟨q, hq⟩ : ∃ q, ps[k + 1]? = some q := ⟨_, List.getElem?_eq_getElem (by rw [unhide LP]; omega)⟩
        unfold dfR at hx
        rw [zw_get _ ps hp hq] at hx
        obtain rfl := Option.some.inj hx
        exact (unhide AT) k p q hk hp hq))
      obtain ⟨r1, r2⟩ := GrZ.fin (w0 := w) (unhide GR) (unhide IC) ((unhide BD).dfR) (by omega) (by omega) (by omega)
      have R1 := hide r1
      have R2 := hide r2
      clear r1 r2
      go_wp2
      go_ret
      exact ⟨_, _, _, us, rfl, unhide HB, unhide R1, unhide R2⟩
theorem AtZ.left {us vs : List (SV × SD)} {k : Nat} {p : Rat × Rat} (h : AtZ us k p) : AtZ (us ++ vs) k p := by
  obtain ⟨y, h1, h2⟩ := h
  exact ⟨y, by rw [List.getElem?_append_left (List.getElem?_eq_some_iff.1 h1).1]; exact h1, h2⟩
theorem atZ_new {us : List (SV × SD)} {p : Rat × Rat} {u : SV} {d : SD} {k : Nat} (hk : us.length = k) (h : IsDP p d) : AtZ (us ++ [(u, d)]) k p := ⟨(u, d), by rw [List.getElem?_append_right (by omega), hk, Nat.sub_self]; rfl, h⟩
/-- A specification's function tells these points; their limbs lie in blocks of integers. -/
def OutGz (w : World) (ps : List (Rat × Rat)) (e : Ending) (w' : World) : Prop := ∃ (a : Option Addr) (n c : Nat) (l : List (SV × SD)), e = .returned (.slice a n c) ∧ Below w.heap.size w w' ∧ RdC w' a n c l ps ∧ TypZ w' (zipPS l)

end Go.Proofs.YtikllcoekcglcaaGreat
namespace Go.Proofs.YtikllcoekcglcaaGreat
open Go.RowKit
set_option linter.unusedVariables false
set_option maxRecDepth 100000
set_option linter.unusedSimpArgs false

end Go.Proofs.YtikllcoekcglcaaGreat
namespace Go.Proofs.YtikllcoekcglcaaGreat
open Go.RowKit
set_option linter.unusedVariables false
set_option maxRecDepth 100000
set_option linter.unusedSimpArgs false

end Go.Proofs.YtikllcoekcglcaaGreat
namespace Go.Proofs.YtikllcoekcglcaaGreat
open Go.ChangeShapes Go.WideShapes Go.ChangeAt Go.RowKit Go.Joins
set_option linter.unusedVariables false
set_option maxRecDepth 100000
set_option linter.unusedSimpArgs false

theorem open_ratc {H : Type} {enc : TypeId × Value → H} {W : World} {m : Nat} {c0 c1 c2 c3 : Value} {x : DataW H × List MemPlace}
    (hf : DataW.trod enc Tryz.prog W 0 (fun _ => true) true m 69 [c0, c1, c2, c3] = some x) :
    ∃ p : QV × QD, (c0 = .bool p.1.num.g ∧ c1 = .slice p.1.num.a p.1.num.n p.1.num.c ∧ c2 = .bool p.1.den.g ∧ c3 = .slice p.1.den.a p.1.den.n p.1.den.c) ∧ AllSl W [(p.1.num, p.2.num), (p.1.den, p.2.den)] ∧ p.1.num.n ≤ maxLen ∧ p.1.den.n ≤ maxLen := by
  obtain ⟨y0, y1, n, hx, _, h0, h1⟩ := trod_struct2 Tryz.underlying69 hf
  have k0 : DataW.trod enc Tryz.prog W 0 (fun _ => true) true n 67 [c0, c1] = some y0 := by simpa [Value.cells, Tryz.cells67] using h0
  have k1 : DataW.trod enc Tryz.prog W 0 (fun _ => true) true n 67 [c2, c3] = some y1 := by simpa [Value.cells, Tryz.cells67] using h1
  obtain ⟨z0, z1, n1, _, _, p0, p1⟩ := trod_struct2 Tryz.underlying67 k0
  obtain ⟨z2, z3, n2, _, _, p2, p3⟩ := trod_struct2 Tryz.underlying67 k1
  have c_b : Tryz.prog.cellsOf 4 = 1 := by kernel_rfl
  have c_s : Tryz.prog.cellsOf 24 = 1 := by kernel_rfl
  obtain ⟨g, a, n', c, xs, rfl, rfl, s1, s2, s3, _⟩ := open_two (c0 := c0) (c1 := c1) (by simpa [c_b] using p0) (by simpa [c_s] using p1)
  obtain ⟨h, b, q, e, us, rfl, rfl, t1, t2, t3, _⟩ := open_two (c0 := c2) (c1 := c3) (by simpa [c_b] using p2) (by simpa [c_s] using p3)
  exact ⟨(⟨⟨g, a, n', c⟩, ⟨h, b, q, e⟩⟩, ⟨⟨g, xs⟩, ⟨h, us⟩⟩), ⟨rfl, rfl, rfl, rfl⟩, AllSl.cons ⟨rfl, s1, s2⟩ (AllSl.cons ⟨rfl, t1, t2⟩ (AllSl.nil _)), s3, t3⟩
theorem addr_add (b off k : Nat) : (⟨b, off, none⟩ : Addr).add k = ⟨b, off + k, none⟩ := by
  unfold Addr.add
  split
  · rename_i h; subst h; rfl
  · rfl
end Go.Proofs.YtikllcoekcglcaaGreat
