/- Chapter 9 of the specification: points on ways, how often one goes round, crossings. No condition beyond those typed. Written by mksp9.py. -/
import Derived.Test.YtblhjeepelgdaaaSp8X
import Derived.Test.YtblhjeepelgdaaaSp8T
import Derived.Test.YtblhjeepelgdaaaLaw2
namespace Go.Proofs.Ytblhjeepelgdaaa
open Go.RowKit
set_option linter.unusedVariables false
set_option maxRecDepth 100000
set_option linter.unusedSimpArgs false

def onK (l : List (Int × Int)) (p : Int × Int) : Nat → Bool
  | 0 => false
  | k + 1 => onK l p k || onV (l.getD k (0, 0)) (nxt l k) p
theorem onK_le {l : List (Int × Int)} {p : Int × Int} {k : Nat} : ∀ {m : Nat}, k ≤ m → onK l p k = true → onK l p m = true
  | 0, h, e => by have : k = 0 := by omega
                  subst this; exact e
  | m + 1, h, e => by
    by_cases hk : k = m + 1
    · subst hk; exact e
    · have := onK_le (m := m) (by omega) e
      unfold onK; rw [this]; rfl
def upB (a b p : Int × Int) : Bool := decide (a.2 ≤ p.2) && decide (p.2 < b.2)
def dnB (a b p : Int × Int) : Bool := decide (p.2 < a.2) && decide (b.2 ≤ p.2)
/-- How a segment counts: 1 up, -1 down, 0 else. -/
def wiT (a b p : Int × Int) : Int := if upB a b p && (sgZ (crs a b p) == 1) then 1 else if dnB a b p && (sgZ (crs a b p) == -1) then -1 else 0
def crT (a b p : Int × Int) : Int := if (upB a b p && (sgZ (crs a b p) == 1)) || (dnB a b p && (sgZ (crs a b p) == -1)) then 1 else 0
def wiS (l : List (Int × Int)) (p : Int × Int) : Nat → Int
  | 0 => 0
  | k + 1 => wiS l p k + wiT (l.getD k (0, 0)) (nxt l k) p
def crS (l : List (Int × Int)) (p : Int × Int) : Nat → Int
  | 0 => 0
  | k + 1 => crS l p k + crT (l.getD k (0, 0)) (nxt l k) p
theorem wiT_bd (a b p : Int × Int) : -1 ≤ wiT a b p ∧ wiT a b p ≤ 1 := by
  unfold wiT
  split
  · omega
  · split <;> omega
theorem crT_bd (a b p : Int × Int) : 0 ≤ crT a b p ∧ crT a b p ≤ 1 := by unfold crT; split <;> omega
theorem wiS_bd (l : List (Int × Int)) (p : Int × Int) : ∀ k : Nat, -(k : Int) ≤ wiS l p k ∧ wiS l p k ≤ k
  | 0 => by simp [wiS]
  | k + 1 => by have := wiS_bd l p k; have := wiT_bd (l.getD k (0, 0)) (nxt l k) p; unfold wiS; omega
theorem crS_bd (l : List (Int × Int)) (p : Int × Int) : ∀ k : Nat, 0 ≤ crS l p k ∧ crS l p k ≤ k
  | 0 => by simp [crS]
  | k + 1 => by have := crS_bd l p k; have := crT_bd (l.getD k (0, 0)) (nxt l k) p; unfold crS; omega
theorem getD_near9 {l : List (Int × Int)} (h : ∀ p ∈ l, Near p) (i : Nat) : Near (l.getD i (0, 0)) := by
  by_cases hi : i < l.length
  · rw [getD_gt hi]; exact h _ (List.getElem_mem _)
  · rw [List.getD_eq_getElem?_getD, List.getElem?_eq_none (by omega)]
    exact ⟨by simp, by simp, by simp, by simp⟩
def gWP (l : List (Int × Int)) (p : Int × Int) : Bool := wayB l && gPt p
def ooV (l : List (Int × Int)) (p : Int × Int) : Bool := if gWP l p then onK l p l.length else false
/-- Where a winding is told. -/
def offB (l : List (Int × Int)) (p : Int × Int) : Bool := gWP l p && !(onK l p l.length)
def wnV (l : List (Int × Int)) (p : Int × Int) : Int := if offB l p then wiS l p l.length else 0
def crV (l : List (Int × Int)) (p : Int × Int) : Int := if offB l p then crS l p l.length else 0
def inV (l : List (Int × Int)) (p : Int × Int) (ev : Bool) : Bool := if offB l p then (if ev then (crS l p l.length).tmod 2 == 1 else wiS l p l.length != 0) else false
theorem gWP_parts {l : List (Int × Int)} {p : Int × Int} (h : gWP l p = true) : (3 ≤ l.length ∧ l.length ≤ 12) ∧ (∀ q ∈ l, Near q) ∧ Near p := by
  unfold gWP at h
  have h2 := (Bool.and_eq_true _ _).mp h
  exact ⟨(way_parts h2.1).1, (way_parts h2.1).2, near_of h2.2⟩
end Go.Proofs.Ytblhjeepelgdaaa
